import PyProof.Rows.All
import Wide.All
import OpenK.AllK
import Wide.FinOn
import Lean
import PyProof.EqAt
import PyProof.EqKinds
import PyProof.TupleCall
import PyProof.StrOps
import PyProof.MeetsStr
import PyProof.StrLawsJoin
import PySem.Challenge.RW_leastdeeds_k22_which_floors_show
set_option Elab.async false
set_option linter.all false
set_option maxRecDepth 100000
set_option tactic.hygienic false
set_option autoImplicit true
set_option relaxedAutoImplicit true
set_option genSizeOfSpec false
set_option genSizeOf false
set_option maxHeartbeats 0
set_option bootstrap.genMatcherCode false
set_option genSizeOf false
noncomputable section
local macro_rules(kind:=«term{_}»)|`({$a:term,*})=>`(⟨$a,*⟩)
local macro_rules(kind:=Lean.Parser.Term.quotedName)|x=>match x[0].isNameLit?.getD .anonymous|>.toString with|"a"=>`(by omega)|"d"=>`(by decide)|"s"=>`(by simp)|"o"=>`(by simp;omega)|"k"=>`(by decide +kernel)|"r"=>`(by rfl)|_=>Lean.Macro.throwUnsupported
local macro_rules|`(tactic|omega)=>`(tactic|first|(simp +arith;done)|lia|omega(config:={}))
abbrev tqa:=@PySem.wpAny_bind
abbrev tqb:=@PySem.wpAny_pure
abbrev tqf:=@PySem.wpAny_field
abbrev tqo:=@PySem.wpAny_holding
abbrev tqp:=@PySem.wpAny_truthy_bool
abbrev P8:=@List.length_map
abbrev P9:=@List.getElem?_eq_some_iff
abbrev Qa:=@PySem.W.Frag
abbrev Qb:=@PySem.Value
abbrev Qd:=@PySem.Heap.get?_push_of_some
abbrev Qe:=@Nat.le_refl
abbrev Qf:=@PySem.Shared
abbrev Qg:=@Bool.and_eq_true
abbrev Qh:=@List.mem_map
abbrev Qi:=@List.getElem?_append_left
abbrev Qj:=@List.getElem?_set_ne
abbrev Qk:=@Option.map_eq_some_iff
abbrev Qo:=@Nat.le_trans
abbrev Qp:=@Nat.le_of_ble_eq_true
abbrev Qq:=@List.getElem?_eq_getElem
abbrev Qr:=@Option.some.inj
abbrev Qs:=@List.mem_singleton
abbrev Qt:=@List.all_eq_true
abbrev Qu:=@List.mem_cons_of_mem
abbrev Qv:=@List.getElem?_map
abbrev Qy:=@List.size_toArray
abbrev Qz:=@PySem.Heap.lt_size
abbrev QA:=@PySem.Heap.get?_push_size
abbrev QB:=@List.mem_cons_self
abbrev QC:=@List.mem_of_getElem?
abbrev QD:=@List.length_append
abbrev QE:=@Nat.lt_of_lt_of_le
abbrev QF:=@Bool.false_ne_true
abbrev QG:=@List.map_append
abbrev QH:=@List.mem_append
abbrev QI:=@List.getElem?_set_self
abbrev QN:=@Nat.ne_of_lt
abbrev QO:=@List.getElem?_append_right
abbrev QP:=@PySem.AutoSeq1.wpAny_loadPart'
abbrev QY:=@List.mem_append_right
abbrev QZ:=@List.mem_cons
abbrev Q0:=@PySem.Heap.get?_update_other
abbrev Q1:=@List.map_map
abbrev Q4:=@PySem.World
abbrev Q5:=@PySem.Program
abbrev Q6:=@List.mem_map_of_mem
abbrev Q7:=@List.append_nil
abbrev Q8:=@Option.bind_eq_some_iff
abbrev Q9:=@List.map_cons
abbrev Ra:=@PySem.Heap.get?_update_self
abbrev Rb:=@Bool.eq_iff_iff
abbrev Rf:=@Ne.symm
abbrev Rg:=@List.take_of_length_le
abbrev Rh:=@List.mem_append_left
abbrev Ri:=@List.getD_eq_getElem?_getD
abbrev Rj:=@Nat.ne_of_gt
abbrev Rk:=@Nat.add_sub_cancel_left
abbrev Rl:=@List.append_assoc
abbrev Rn:=@List.nodup_cons
abbrev Ro:=@List.take_succ
abbrev Rp:=@List.lookup_cons
abbrev Rq:=@PySem.OsState
abbrev Rr:=@PySem.W.kia_one
abbrev Rt:=@PySem.W.SharedT
abbrev Ru:=@List.length_range
abbrev Rv:=@Nat.zero_le
abbrev Rw:=@List.all_cons
abbrev Rx:=@PySem.DictEntry
abbrev Ry:=@Nat.not_lt_zero
abbrev Rz:=@Nat.lt_irrefl
abbrev RA:=@List.length_take
abbrev RB:=@List.length_cons
abbrev RC:=@List.map_congr_left
abbrev RD:=@PySem.Heap.SameBut.update
abbrev RE:=@PyProof.Rows.slot_tuple_getitem
abbrev RF:=@Iff.rfl
abbrev RG:=@Nat.lt_of_le_of_lt
abbrev RH:=@List.mem_range
abbrev RI:=@List.mem_filter
abbrev RJ:=@Bool.or_eq_true
abbrev RK:=@List.any_eq_true
abbrev RL:=@PySem.Around
abbrev RM:=@Option.isSome_map
abbrev RN:=@Nat.lt_succ_of_lt
abbrev RO:=@Int.toNat_natCast
abbrev RP:=@Nat.lt_or_ge
abbrev RQ:=@List.mem_of_mem_take
abbrev RR:=@PyProof.Rows.callWith_type1
abbrev RS:=@PySem.Obj.data_mapFields
abbrev RT:=@List.exists_of_findSome?_eq_some
abbrev RU:=@beq_eq_false_iff_ne
abbrev RV:=@PySem.Env
abbrev RW:=@Array.getElem?_eq_getElem
abbrev RX:=@PySem.Paired
abbrev RY:=@PySem.Heap.SameBut
abbrev RZ:=@List.length_filter_le
abbrev R0:=@PySem.W.mg_of
abbrev R1:=@Bool.and_eq_true_iff
abbrev R3:=@PySem.Params
abbrev R4:=@List.nodup_append
abbrev R5:=@List.length_eq_zero_iff
abbrev R6:=@PySem.Heap.size_push
abbrev R7:=@PySem.Around.under_plainId
abbrev R8:=@List.replicate_succ
abbrev R9:=@Nat.le_add_right
abbrev Sa:=@List.getElem_mem
abbrev Sb:=@Int.emod_lt_of_pos
abbrev Sd:=@Array.getElem?_eq_some_iff
abbrev Se:=@Int.emod_nonneg
abbrev Sf:=@Nat.le_of_lt
abbrev Sg:=@Bool.not_eq_true'
abbrev Sh:=@Option.isSome_iff_exists
abbrev Si:=@Array.length_toList
abbrev Sj:=@List.getElem?_replicate
abbrev Sk:=@PySem.Comprehension
abbrev Sl:=@List.find?_eq_none
abbrev Sm:=@PySem.F.plain_min_loop
abbrev Sn:=@List.nil_append
abbrev So:=@PyProof.Rows.IntsAre
abbrev Sq:=@Nat.add_assoc
abbrev Sr:=@List.flatten_cons
abbrev Ss:=@PySem.F.slot_dict_keyiterator_next
abbrev Su:=@PySem.Obj.isFreed_of_fields
abbrev Sv:=@PySem.mem_of_lookup
namespace HD
open PySem PySem.W
noncomputable def hV (tb:String->Option Builtin)(p:Q5)(w:Q4)(n0:Nat)(ann:Option Qb):Nat->Rt->Thread->Option Rt
 |0,_,_=>none
 | n + 1, s, t => match through t with
   |true=>some s
   | false => match stepOk n0 ann t with
     |false=>none
     | true => match stepT (denote tb) p w s t with
       |some (s',t')=>hV tb p w n0 ann n s' t'
       |none=>none
def rq {tb:String->Option Builtin}{p:Q5}{w:Q4}{n0:Nat}{ann:Option Qb}:∀{n:Nat}{s s':Rt}{t:Thread},hV tb p w n0 ann n s t=some s'->topRun tb p w n0 ann n s.abs t=some s'.abs
 |0,_,_,_,h=>by cases h
 | n + 1, s, s', t, h => by
   unfold hV at h;unfold topRun;cases he:through t with
   |true=>rw[he] at h;cases h;rfl
   | false =>
     rw[he] at h;cases hk:stepOk n0 ann t with
     |false=>rw[hk] at h;cases h
     | true =>
       rw[hk] at h;cases hs:stepT (denote tb) p w s t with
       |none=>rw[hs] at h;cases h
       |some r=>obtain⟨s2,t2⟩:=r;rw[hs] at h;rw[stepT_spec hs];exact rq h
noncomputable def treeOf:List Obj->Nat->BT->BT
 |[],_,t=>t
 |o::r,n,t=>treeOf r (n+1) (t.ins n o)
def yj (P:R3)(os:Rq):Rt:={treeOf (boot_heap P).objs.toList 0 .nil,(boot_heap P).objs.toList.length,(boot_heap P).life,#[],boot_drawn,boot_toks,os}
def boot_abs (P:R3)(os:Rq):(yj P os).abs={boot_heap P,#[],boot_drawn,boot_toks,os}:=by kernel_rfl
noncomputable def lH (p q:Q5)(loose:List Str)(Xt:Qf->Bool)(g0:Bool)(h0:Heap){α:Type}(Yf:Qf->α)(s:Qf):=
 ((staticsOk (importedModules p.main.body) h0 s.heap&&namesBound p s.heap&&gensDone s&&laidKept h0 s.heap),openSeen q loose (importedModules p.main.body) Xt g0 s,Yf s)
noncomputable def wt (tb:String->Option Builtin)(p:Q5)(w:Q4)(n0:Nat)(ann:Option Qb):Nat->Rt->Thread->Option (Rt×Thread)
 |0,s,t=>some (s,t)
 | n + 1, s, t => match through t with
   |true=>none
   | false => match stepOk n0 ann t with
     |false=>none
     | true => match stepT (denote tb) p w s t with
       |some (s',t')=>wt tb p w n0 ann n s' t'
       |none=>none
noncomputable def lj (tb:String->Option Builtin)(p:Q5)(w:Q4)(n0:Nat)(ann:Option Qb):Nat->Rt->Thread->Option (Flow×Rt×Code×Pos)
 |0,_,_=>none
 | n + 1, s, t => match endAt 1 t with
   |some f=>some (f,s,t.code,t.pos)
   | none => match stepOk n0 ann t with
     |false=>none
     | true => match stepT (denote tb) p w s t with
       |some (s',t')=>lj tb p w n0 ann n s' t'
       |none=>none
section
variable{tb:String->Option Builtin}{p:Q5}{w:Q4}{n0:Nat}{ann:Option Qb}
def A0:∀{n:Nat}{s s':Rt}{t t':Thread},wt tb p w n0 ann n s t=some (s',t')->topGo tb p w n0 ann n s.abs t=some (s'.abs,t')
 |0,s,s',t,t',h=>by cases h;rfl
 | n + 1, s, s', t, t', h => by
   unfold wt at h;unfold topGo;cases he:through t with
   |true=>rw[he] at h;cases h
   | false =>
     rw[he] at h;cases hk:stepOk n0 ann t with
     |false=>rw[hk] at h;cases h
     | true =>
       rw[hk] at h;cases hs:stepT (denote tb) p w s t with
       |none=>rw[hs] at h;cases h
       |some q=>obtain⟨s2,t2⟩:=q;rw[hs] at h;rw[stepT_spec hs];exact A0 h
def qs:∀{n:Nat}{s s':Rt}{t:Thread}{f:Flow}{c:Code}{q:Pos},lj tb p w n0 ann n s t=some (f,s',c,q)->segRun tb p w n0 ann 1 n s.abs t=some (f,s'.abs,c,q)
 |0,_,_,_,_,_,_,h=>by cases h
 | n + 1, s, s', t, f, c, q, h => by
   unfold lj at h;unfold segRun;cases he:endAt 1 t with
   |some g=>rw[he] at h;cases h;rfl
   | none =>
     rw[he] at h;cases hk:stepOk n0 ann t with
     |false=>rw[hk] at h;cases h
     | true =>
       rw[hk] at h;cases hs:stepT (denote tb) p w s t with
       |none=>rw[hs] at h;cases h
       |some x=>obtain⟨s2,t2⟩:=x;rw[hs] at h;rw[stepT_spec hs];exact qs h
def uL {n3 N:Nat}{s s2:Rt}{env:Env}{c:Code}{p' p2 q:Pos}{b:List Stmt}{J:Nat}{α:Type}{f:Qf->α}{a:α}
 (h3:lj tb p w n0 ann n3 s (piecesOf (b.take J) env c p' [topFrame q])=some (.next,s2,c,p2))
 (h4:(topRun tb p w n0 ann N s2.abs (restOf (b.drop J) env c p2 [topFrame q])).map f=some a):(topRun tb p w n0 ann (n3+N) s.abs (restOf b env c p' [topFrame q])).map f=some a:=by
 obtain⟨r,e3,e4⟩:=Qk.mp h4;have k4:=piece_app (qs h3) e3;rw[List.take_append_drop] at k4;rw[k4];exact congrArg some e4
def A7 {N:Nat}{s2:Rt}{t:Thread}{p' q:Q5}{loose:List Str}{Xt:Qf->Bool}{g0:Bool}{h0:Heap}{α:Type}{Yf:Qf->α}{a b c}
 (h1:(hV tb p w n0 ann N s2 t).map (λs=>(lH p' q loose Xt g0 h0 Yf s.abs).1)=some a) (h2:(hV tb p w n0 ann N s2 t).map (λs=>(lH p' q loose Xt g0 h0 Yf s.abs).2.1)=some b)
 (h3:(hV tb p w n0 ann N s2 t).map (λs=>(lH p' q loose Xt g0 h0 Yf s.abs).2.2)=some c):(topRun tb p w n0 ann N s2.abs t).map (lH p' q loose Xt g0 h0 Yf)=some (a,b,c):=by
 obtain⟨r,e3,rfl⟩:=Qk.mp h1;rw[e3] at h2 h3;cases h2;cases h3;rw[rq e3];rfl
def A8 {n1 n2 N:Nat}{s s':Rt}{env:Env}{c:Code}{pos p' q:Pos}{t:Thread}{b:List Stmt}{J:Nat}{α:Type}{f:Qf->α}{a:α}
 (h1:(wt tb p w n0 ann n1 s t).map (·.2)=some {denote tb (.body b env),c,pos,[topFrame q]}) (h0:endAt 1 (blockOf b env c pos [topFrame q])=some .next)
 (h2:((wt tb p w n0 ann n1 s t).bind λx=>lj tb p w n0 ann n2 x.1 (piecesOf (b.take J) env c pos [topFrame q]))=some (.next,s',c,p'))
 (h3:(topRun tb p w n0 ann N s'.abs (restOf (b.drop J) env c p' [topFrame q])).map f=some a):(topRun tb p w n0 ann (n1+(1+(n2+N))) s.abs t).map f=some a:=by
 obtain⟨⟨s1,t1⟩,e1,e2⟩:=Qk.mp h1;have e2:t1={denote tb (.body b env),c,pos,[topFrame q]}:=e2;subst e2;rw[e1] at h2;have h2:lj tb p w n0 ann n2 s1 (piecesOf (b.take J) env c pos [topFrame q])=some (.next,s',c,p'):=h2
 obtain⟨r,e3,e4⟩:=Qk.mp h3;have k3:=piece_app (qs h2) e3;rw[List.take_append_drop] at k3;have hb:segRun tb p w n0 ann 1 1 s1.abs (blockOf b env c pos [topFrame q])=some (.next,s1.abs,c,pos):=by
  show(match endAt 1 (blockOf b env c pos [topFrame q]) with|some f=>some (f,s1.abs,c,pos)|none=>_)=_
  rw[h0]
 have k2:=piece_block hb k3;rw[go_top (A0 e1) k2];exact congrArg some e4
end
def vn {p q:Q5}{loose:List Str}{Xt:Qf->Bool}{α:Type}{Yf:Qf->α}{Ya:Q4->α}{N:Nat}{g0:Bool}{m0:Nat}{ann:Option Qb}
 (open_:∀w:Q4,(fencedOpening treeTable p w N).map (λs=>(s.heap,s.gens,s.drawn,s.toks))=some (boot_heap w.params,Array.mk [],boot_drawn,boot_toks))
 (size:∀w:Q4,((boot_heap w.params).isNs mainGlobals&&(Array.mk ([]:List GenState)).size==0,(boot_heap w.params).objs.size,(boot_heap w.params).nsMap mainGlobals "__annotations__")=(true,m0,ann))
 (run:∀(w:Q4) (os:Rq),(topRun treeTable p w m0 ann N (yj w.params os).abs (topStub p)).map (lH p q loose Xt g0 (boot_heap w.params) Yf)=some (true,openGood q loose,Ya w)):LeftO p q loose Xt Yf Ya N g0:=λw=>by
 obtain⟨⟨h,gs,d,k,os⟩,e,e'⟩:=Qk.mp (open_ w);obtain⟨rfl,rfl,rfl,rfl⟩:h=boot_heap w.params/\gs=Array.mk []/\d=boot_drawn/\k=boot_toks:=by simpa using e'
 obtain⟨z1,z2,z3⟩:_/\_/\_:=by simpa only[Prod.mk.injEq] using size w
 obtain⟨s1,r,l⟩:=Qk.mp (run w os);obtain⟨l1,l2,l3⟩:_/\_/\_:=by simpa only[lH,Prod.mk.injEq] using l
 rw[boot_abs] at r;have t:topFrom treeTable p w N {boot_heap w.params,Array.mk [],boot_drawn,boot_toks,os}=some s1:=by
  unfold topFrom;dsimp only;rw[z1,z2,z3,r];show(match staticsOk (importedModules p.main.body) (boot_heap w.params) s1.heap&&namesBound p s1.heap&&gensDone s1&&laidKept (boot_heap w.params) s1.heap with|true=>_|false=>_)=_
  rw[l1]
 unfold openEnds;rw[e];show(topFrom treeTable p w N _).map _=_;rw[t];exact congrArg some (Prod.ext l2 l3)
end HD
namespace K22
open PySem
abbrev eN (P:R3)(x:Str)(n:Nat)(v:Qb):Rx:={PyData.keyHash P x,.str x n,v}
def kInC (j:Nat)(s:Stmt):Stmt:=match s with
 |.ClassDef _ _ _ b _ _ _ _ _ _ _=>b.getD j s
 |_=>s
noncomputable def ia (i:Nat):Stmt:=PySem.Challenge.pw_leastdeeds_k22_which_floors_show.main.body.getD i (.Pass {0,0,0,0})
noncomputable def sH (s:Stmt):Arguments:=match s with
 |.FunctionDef _ a _ _ _ _ _ _ _ _=>a
 |_=>{[],[],none,[],[],none,[]}
noncomputable def sG (s:Stmt):List Stmt:=match s with
 |.FunctionDef _ _ b _ _ _ _ _ _ _=>b
 |_=>[]
noncomputable def pQ (s:Stmt):Scope:=match s with
 |.FunctionDef _ _ _ _ _ _ sc _ _ _=>sc
 |_=>{kind:=.function,names:=[],isGenerator:=false,isCoroutine:=false}
noncomputable def o1:Obj:={cls:=.type "tuple" ,data:=.seq #[]}
noncomputable def o2 (a:String)(b:Nat)(c:Int)(d:Nat)(e:Int):Obj:={cls:=.type "code" ,data:=.fields #[.str (Str.ofString a) b ,.str (Str.ofString a) (b+1) ,.str ("/claim/cut.py") (b+2) ,.int c 0 ,.int 0 0 ,.int 0 0 ,.int 0 0 ,.int 0 0 ,.ref d ,.bool false ,.int 181 0 ,.ref (d+1) ,.none ,.none ,.none ,.none ,.int e 0 ,.int c 0 ,.str ("/claim/cut.py") (b+4)]}
noncomputable def o3 (a:Nat)(b:Nat)(c:String)(d:Nat):Obj:={cls:=.type "frame" ,slots:=#[some (.ref a) ,some (.ref 3) ,some (.ref b) ,none ,some (.str (Str.ofString c) d) ,none ,some (.ref 0)]}
def o4:Obj:={cls:=.type "builtin_function_or_method" ,data:=.fields #[.builtin "type.__prepare__" ,.type "type"]}
def o5 (P:R3)(a:Nat)(b:String)(c:Int)(d:Nat):Obj:={cls:=.type "dict" ,data:=.dict #[{hash:=PyData.keyHash P ("__module__") ,key:=.str ("__module__") a ,val:=.str ("leastdeeds.errors") 187} ,{hash:=PyData.keyHash P ("__qualname__") ,key:=.str ("__qualname__") (a+2) ,val:=.str (Str.ofString b) (a+1)} ,{hash:=PyData.keyHash P ("__firstlineno__") ,key:=.str ("__firstlineno__") (a+4) ,val:=.int c (a+3)} ,{hash:=PyData.keyHash P ("__static_attributes__") ,key:=.str ("__static_attributes__") (a+5) ,val:=.ref d}] 4}
def o6:Obj:={cls:=.none ,data:=.fields #[]}
def o7 (P:R3):Obj:={cls:=.type "dict" ,data:=.dict #[{hash:=PyData.keyHash P ("__module__") ,key:=.str ("__module__") 196 ,val:=.str ("leastdeeds.errors") 187} ,{hash:=PyData.keyHash P ("__firstlineno__") ,key:=.str ("__firstlineno__") 200 ,val:=.int 2 199} ,{hash:=PyData.keyHash P ("__static_attributes__") ,key:=.str ("__static_attributes__") 201 ,val:=.ref 22} ,{hash:=PyData.keyHash P ("__weakref__") ,key:=.str ("__weakref__") 203 ,val:=.ref 25} ,{hash:=PyData.keyHash P ("__doc__") ,key:=.str ("__doc__") 204 ,val:=.none}] 3}
def o8:Obj:={cls:=.type "type" ,data:=.cls {name:="DeedError" ,bases:=[.type "ValueError"] ,mro:=[.ref 24 ,.type "ValueError" ,.type "Exception" ,.type "BaseException" ,.type "object"] ,ns:=23 ,qualname:="DeedError" ,subclasses:=[.ref 37 ,.ref 49 ,.ref 61]} ,slots:=#[some (.ref 15) ,none ,some (.str ("DeedError") 189) ,some (.str ("DeedError") 197) ,some (.builtin "ValueError.__new__") ,some (.bool true)]}
def o9 (a:Nat):Obj:={cls:=.type "super" ,data:=.fields #[.ref a ,.ref a ,.ref a]}
def Er (a:Nat):Obj:={cls:=.type "builtin_function_or_method" ,data:=.fields #[.builtin "object.__init_subclass__" ,.ref a]}
def J7:Obj:={cls:=.type "tuple" ,data:=.seq #[.ref 24]}
def J6 (P:R3)(a:Nat)(b:Int)(c:Nat):Obj:={cls:=.type "dict" ,data:=.dict #[{hash:=PyData.keyHash P ("__module__") ,key:=.str ("__module__") a ,val:=.str ("leastdeeds.errors") 187} ,{hash:=PyData.keyHash P ("__firstlineno__") ,key:=.str ("__firstlineno__") (a+4) ,val:=.int b (a+3)} ,{hash:=PyData.keyHash P ("__static_attributes__") ,key:=.str ("__static_attributes__") (a+5) ,val:=.ref c} ,{hash:=PyData.keyHash P ("__doc__") ,key:=.str ("__doc__") (a+6) ,val:=.none}] 2}
def J5 (a:String)(b:Nat)(c:Nat)(d:Nat)(e:Nat):Obj:={cls:=.type "type" ,data:=.cls {name:=Str.ofString a ,bases:=[.ref 24] ,mro:=[.ref b ,.ref 24 ,.type "ValueError" ,.type "Exception" ,.type "BaseException" ,.type "object"] ,ns:=c ,qualname:=Str.ofString a} ,slots:=#[some (.ref d) ,none ,some (.str (Str.ofString a) e) ,some (.str (Str.ofString a) (e+8)) ,some (.builtin "ValueError.__new__") ,some (.bool true)]}
def N2 (P:R3)(a:Nat)(b:Nat):Obj:={cls:=.type "dict" ,data:=.dict #[{hash:=PyData.keyHash P ("turn") ,key:=.str ("turn") a ,val:=.ref b} ,{hash:=PyData.keyHash P ("join") ,key:=.str ("join") (a+1) ,val:=.ref (b+7)} ,{hash:=PyData.keyHash P ("move") ,key:=.str ("move") (a+2) ,val:=.ref (b+14)} ,{hash:=PyData.keyHash P ("put") ,key:=.str ("put") (a+3) ,val:=.ref (b+21)}] 4}
def o15:Obj:={cls:=.type "tuple" ,data:=.seq #[.none]}
def o16:Obj:={cls:=.type "code" ,data:=.fields #[.str ("reached") 546 ,.str ("reached") 547 ,.str ("/claim/cut.py") 548 ,.int 138 0 ,.int 2 0 ,.int 0 0 ,.int 0 0 ,.int 3 0 ,.ref 243 ,.bool true ,.int 181 0 ,.ref 244 ,.none ,.ref 245 ,.ref 246 ,.ref 247 ,.int 555 0 ,.int 138 0 ,.str ("/claim/cut.py") 556]}
def o17:Obj:={cls:=.type "function" ,data:=.func {name:="reached" ,qualname:="reached" ,params:=sH (ia 46) ,body:=PySem.FuncBody.stmts (sG (ia 46)) ,scope:=pQ (ia 46) ,globals:=3 ,closure:=[] ,defaults:=.ref 242 ,kwdefaults:=.none ,pyModule:=.str ("leastdeeds.least") 513 ,code:=.ref 248}}
def kC (i:Nat):Str×Nat×Nat×List Str×Bool:=match ia i with
 |.FunctionDef x a _ _ _ _ sc _ _ p=>(x,p.line,a.args.length,sc.names.filterMap (λq=>match q.2 with|.local=>some q.1|_=>none),sc.names.any (λq=>match q.2 with|.cell=>true|_=>false)||i==40||i==70||i==74)
 |_=>("",0,0,[],false)
def kN (i:Nat):Nat:=bif (kC i).2.2.2.2 then 0 else(kC i).2.2.2.1.length
def AN (i:Nat):Nat:=bif (kC i).2.2.2.2 then 5 else 7
def ot:Nat->Nat->Nat->Nat->List (Nat×Nat×Nat)
 |0,_,_,_=>[]
 |n+1,i,e,t=>(i,e,t)::ot n (i+1) (e+AN i) (t+kN i+6)
def pR:Nat×Nat×Nat->List Qb:=λ(i,e,_)=>[.int (kC i).2.1 0,.int 0 0,.ref (e+AN i-2)]
def pS (P:R3):Nat×Nat×Nat->Rx:=λ(i,e,t)=>{PyData.keyHash P (kC i).1,.str (kC i).1 (t+kN i+5),.ref (e+AN i-1)}
def E4 (c:Qb)(i g:Nat)(m d:Qb):Obj:={cls:=c,data:=.func {name:=(kC i).1,qualname:=(kC i).1,params:=sH (ia i),body:=.stmts (sG (ia i)),scope:=pQ (ia i),globals:=g,closure:=[],defaults:=.none,kwdefaults:=.none,pyModule:=m,code:=d}}
def kO (m:Str)(k:Nat):Nat×Nat×Nat->List Obj:=λ(i,e,t)=>
 let x:=(kC i).1
 let l:Qb:=.int (kC i).2.1 0
 let q:=t+kN i
 let c:=λ(a:Qb) (b:Qb) (d:Nat)=>({cls:=.type "code",data:=.fields #[.str x t,.str x (t+1),.str "/claim/cut.py" (t+2),l,.int (kC i).2.2.1 0,.int 0 0,.int 0 0,.int 3 0,.ref e,.bool true,.int 181 0,.ref (e+1),.none,a,b,.ref (e+d),.int (q+3:Nat) 0,l,.str "/claim/cut.py" (q+4)]}:Obj)
 [o1,{cls:=.none,data:=.fields #[]}]++bif (kC i).2.2.2.2 then [E4 .none i 0 .none .none,c .none .none 2,E4 (.type "function") i 3 (.str m k) (.ref (e+3))] else [{cls:=.type "tuple",data:=.seq (((kC i).2.2.2.1.zipIdx (t+3)).map λp=>.str p.1 p.2).toArray},o1,E4 .none i 0 .none .none,c (.ref (e+2)) (.ref (e+3)) 4,E4 (.type "function") i 3 (.str m k) (.ref (e+5))]
def pT:Nat×Nat×Nat->List Addr:=λ(i,e,_)=>[e+AN i-2,e+AN i-1]
def EL:=ot 1 6 64 257
def EK:=ot 10 13 71 278
def EJ:=ot 5 24 138 379
def EI:=ot 4 30 167 417
def EH:=ot 2 35 196 475
def EG:=ot 3 38 208 493
def EF:=ot 3 43 225 517
def EE:=ot 4 47 250 558
def ED:=ot 23 52 274 596
def N9:List Qb:=[.int 2 0,.int 0 0,.ref 20,.int 4 0,.int 0 0,.ref 33,.int 6 0,.int 0 0,.ref 45,.int 8 0,.int 0 0,.ref 57]++EL.flatMap pR
def N8:List Qb:=N9++EK.flatMap pR++EJ.flatMap pR++EI.flatMap pR++EH.flatMap pR++EG.flatMap pR
def kt2:List Qb:=N8++EF.flatMap pR++[.int 138 0,.int 0 0,.ref 248]++EE.flatMap pR++ED.flatMap pR
def Oc (P:R3):List Rx:=[eN P "__doc__" 166 (.none),eN P "__package__" 167 (.none),eN P "__loader__" 168 (.builtin "__main__.__loader__#opaque"),eN P "__spec__" 169 (.none),eN P "__annotations__" 170 (.ref 6),eN P "__builtins__" 171 (.ref 4),eN P "__file__" 173 (.str "/claim/cut.py" 172),eN P "__cached__" 174 (.none),eN P "DeedError" 206 (.ref 24),eN P "NoMachine" 222 (.ref 37),eN P "NoWork" 238 (.ref 49),eN P "TooMany" 254 (.ref 61)]++EL.map (pS P)++[eN P "LEAST_WORDS" 269 (.int 2 268)]
def Ob (P:R3):List Rx:=Oc P++[eN P "MOST_WORDS" 271 (.int 4 270),eN P "MOST_PLACES" 273 (.int 2 272),eN P "MOST_DEEDS" 275 (.int 6 274),eN P "MOST_COST" 277 (.int 3 276)]++EK.map (pS P)++[eN P "SORTS" 378 (.ref 137)]++EJ.map (pS P)++EI.map (pS P)++[eN P "NEW_WORDS" 474 (.ref 195)]++EH.map (pS P)++EG.map (pS P)++[eN P "MOST_BEHAVIOURS" 516 (.int 255 515)]
def Oa (P:R3):List Rx:=Ob P++EF.map (pS P)++[eN P "reached" 557 (.ref 249)]++EE.map (pS P)++ED.map (pS P)
def kg3 (P:R3):List Rx:=Oa P++[eN P "law" 804 (.ref 419)]
def Og (P:R3):List Obj:=[o1,{cls:=.none,data:=.fields N9.toArray},o2 "<module>" 182 1 11 185,o3 13 3 "__main__" 164,{cls:=.type "tuple",data:=.seq #[.type "ValueError"]},o4,o5 P 196 "DeedError" 2 22,o1,o6,o2 "DeedError" 191 2 18 194,o3 20 17 "leastdeeds.errors" 187,o1,o7 P,o8,{cls:=.type "getset_descriptor",data:=.fields #[.str "__weakref__" 202,.ref 24,.builtin "ExceptionGroup.__weakref__",.none]},o9 24,Er 24,J7,o4,o5 P 214 "NoMachine" 4 35,o1,o6,o2 "NoMachine" 209 4 31 212,o3 33 30 "leastdeeds.errors" 187,o1,J6 P 214 4 35,J5 "NoMachine" 37 36 28 207,o9 37,Er 37,J7,o4,o5 P 230 "NoWork" 6 47,o1,o6,o2 "NoWork" 225 6 43 228,o3 45 42 "leastdeeds.errors" 187,o1,J6 P 230 6 47,J5 "NoWork" 49 48 40 223,o9 49,Er 49,J7,o4,o5 P 246 "TooMany" 8 59,o1,o6,o2 "TooMany" 241 8 55 244,o3 57 54 "leastdeeds.errors" 187,o1,J6 P 246 8 59,J5 "TooMany" 61 60 52 239,o9 61,Er 61]++EL.flatMap (kO "leastdeeds.wholes" 255)
def Of (P:R3):List Obj:=((Og P).set 1 ({cls:=.none,data:=.fields N8.toArray}))++EK.flatMap (kO "leastdeeds.machines" 266)++[N2 P 370 115]++EJ.flatMap (kO "leastdeeds.machines" 266)++EI.flatMap (kO "leastdeeds.runs" 415)++[N2 P 466 173]++EH.flatMap (kO "leastdeeds.runs" 415)++EG.flatMap (kO "leastdeeds.works" 491)
def Oe (P:R3):List Obj:=((Of P).set 1 ({cls:=.none,data:=.fields kt2.toArray}))++EF.flatMap (kO "leastdeeds.least" 513)++[o15,o1,o6,{cls:=.type "tuple",data:=.seq #[.str "machine" 549,.str "bound" 550,.str "leads" 551,.str "empty_ends" 552,.str "found" 553,.str "levels" 554]},o1,{cls:=.none,data:=.func {name:="reached",qualname:="reached",params:=sH (ia 46),body:=PySem.FuncBody.stmts (sG (ia 46)),scope:=pQ (ia 46),globals:=0,closure:=[],defaults:=.none,kwdefaults:=.none,pyModule:=.none,code:=.none}},o16,o17]++EE.flatMap (kO "leastdeeds.least" 513)++ED.flatMap (kO "law_leastdeeds_k22_which_floors_show" 594)
def Od:List Addr:=[23,24,36,37,48,49,60,61,137,195,242,248,249]++EL.flatMap pT++EK.flatMap pT++EJ.flatMap pT++EI.flatMap pT++EH.flatMap pT++EG.flatMap pT++EF.flatMap pT++EE.flatMap pT++ED.flatMap pT
def kh:R3->Qa:=λP=>[(3,{cls:=.type "dict",data:=.dict (eN P "__name__" 165 (.str "law_leastdeeds_k22_which_floors_show" 594)::kg3 P).toArray 78}),
 (418,{cls:=.type "code",data:=.fields #[.str "law" 799,.str "law" 800,.str "/claim/cut.py" 801,.int 377 0,.int 1 0,.int 0 0,.int 0 0,.int 3 0,.ref 415,.bool true,.int 181 0,.ref 416,.none,.none,.none,.ref 417,.int 802 0,.int 377 0,.str "/claim/cut.py" 803]}),
 (419,{cls:=.type "function",data:=.func {name:="law",qualname:="law",params:=sH (ia 75),body:=PySem.FuncBody.stmts (sG (ia 75)),scope:=pQ (ia 75),globals:=3,closure:=[],defaults:=.none,kwdefaults:=.none,pyModule:=.str "law_leastdeeds_k22_which_floors_show" 594,code:=.ref 418}})]++List.map (λa=>(a,(Oe P).getD (a-11) o1)) Od
def Ky:List Addr:=[3,418,419]++Od
def O1:∀P,Ky=(kh P).map (·.1):=λ_=>by kernel_rfl
noncomputable def kq:Q5:=PySem.W.view PySem.Challenge.pw_leastdeeds_k22_which_floors_show [1,2,3,4,6,8,9,10,11,12,13,14,15,16,17,18,19,20,21,22,23,24,25,26,27,28,30,31,32,33,34,35,36,38,39,40,42,43,44,45,47,48,49,50,52,53,54,55,56,57,58,59,60,61,62,63,64,65,66,67,68,69,70,71,72,73,74,75]
abbrev kH:PySem.W.Hook:=PySem.W.kHook kh Ky O1
def pO:List Str:=["SORTS","NEW_WORDS","reached"]
abbrev xQ:=PySem.Challenge.rw_leastdeeds_k22_which_floors_show.row
abbrev kX:Qf->Bool:=λs=>PySem.W.xlAt kq [] s&&PySem.W.recOk (PySem.W.RowW.records xQ.toRowW) s
def EZ (P:R3)(os:Rq):Rt:={HD.treeOf ((((PySem.W.boot_heap P).objs.toList.set 3 ({cls:=.type "dict",data:=.dict (eN P "__name__" 165 (.str "leastdeeds.machines" 266)::Oc P).toArray 15})))++Og P) 0 .nil,71,{},#[],{},270,os}
def EY (P:R3)(os:Rq):Rt:={HD.treeOf ((((PySem.W.boot_heap P).objs.toList.set 3 ({cls:=.type "dict",data:=.dict (eN P "__name__" 165 (.str "leastdeeds.least" 513)::Ob P).toArray 46})))++Of P) 0 .nil,225,{},#[],{},517,os}
def EX (P:R3)(os:Rq):Rt:={HD.treeOf ((((PySem.W.boot_heap P).objs.toList.set 3 ({cls:=.type "dict",data:=.dict (eN P "__name__" 165 (.str "law_leastdeeds_k22_which_floors_show" 594)::Oa P).toArray 77})))++Oe P) 0 .nil,415,{},#[],{},799,os}
def kE:Env:={scope:=PySem.Challenge.pw_leastdeeds_k22_which_floors_show.main.scope,locals:=mainNs,globals:=mainNs,cells:=[],code:=.ref 13,frame:=some 14}
def kP (w:Q4)(os:Rq):=HD.wt treeTable PySem.Challenge.pw_leastdeeds_k22_which_floors_show w 11 (some (.ref 6)) 12 (HD.yj w.params os) (PySem.W.topStub PySem.Challenge.pw_leastdeeds_k22_which_floors_show)
def ET (w:Q4)(os:Rq):=(kP w os).bind λx=>HD.lj treeTable PySem.Challenge.pw_leastdeeds_k22_which_floors_show w 11 (some (.ref 6)) 893 x.1 (PySem.W.piecesOf ((PySem.W.behindTheImports PySem.Challenge.pw_leastdeeds_k22_which_floors_show).take 9) kE (.body (PySem.W.behindTheImports PySem.Challenge.pw_leastdeeds_k22_which_floors_show) kE) {0,0,0,0} [PySem.W.topFrame {0,0,0,0}])
def EO (w:Q4)(os:Rq):Option (Flow×Rt×Code×Pos):=some (.next,EZ w.params os,(.body (PySem.W.behindTheImports PySem.Challenge.pw_leastdeeds_k22_which_floors_show) kE),{16,0,16,11})
def ES (w:Q4)(os:Rq):=HD.lj treeTable PySem.Challenge.pw_leastdeeds_k22_which_floors_show w 11 (some (.ref 6)) 946 (EZ w.params os) (PySem.W.piecesOf (((PySem.W.behindTheImports PySem.Challenge.pw_leastdeeds_k22_which_floors_show).drop 9).take 34) kE (.body (PySem.W.behindTheImports PySem.Challenge.pw_leastdeeds_k22_which_floors_show) kE) {16,0,16,11} [PySem.W.topFrame {0,0,0,0}])
def EN (w:Q4)(os:Rq):Option (Flow×Rt×Code×Pos):=some (.next,EY w.params os,(.body (PySem.W.behindTheImports PySem.Challenge.pw_leastdeeds_k22_which_floors_show) kE),{119,0,119,15})
def ER (w:Q4)(os:Rq):=HD.lj treeTable PySem.Challenge.pw_leastdeeds_k22_which_floors_show w 11 (some (.ref 6)) 945 (EY w.params os) (PySem.W.piecesOf ((((PySem.W.behindTheImports PySem.Challenge.pw_leastdeeds_k22_which_floors_show).drop 9).drop 34).take 32) kE (.body (PySem.W.behindTheImports PySem.Challenge.pw_leastdeeds_k22_which_floors_show) kE) {119,0,119,15} [PySem.W.topFrame {0,0,0,0}])
def EM (w:Q4)(os:Rq):Option (Flow×Rt×Code×Pos):=some (.next,EX w.params os,(.body (PySem.W.behindTheImports PySem.Challenge.pw_leastdeeds_k22_which_floors_show) kE),{360,0,376,92})
def kR (w:Q4)(os:Rq):=HD.hV treeTable PySem.Challenge.pw_leastdeeds_k22_which_floors_show w 11 (some (.ref 6)) 2943 (EX w.params os) (PySem.W.restOf ((((PySem.W.behindTheImports PySem.Challenge.pw_leastdeeds_k22_which_floors_show).drop 9).drop 34).drop 32) kE (.body (PySem.W.behindTheImports PySem.Challenge.pw_leastdeeds_k22_which_floors_show) kE) {360,0,376,92} [PySem.W.topFrame {0,0,0,0}])
abbrev Kt (P:R3)(s:Rt):=HD.lH PySem.Challenge.pw_leastdeeds_k22_which_floors_show kq pO kX true (PySem.W.boot_heap P) (λs=>Ky.map s.heap.get?) s.abs
def EW (w:Q4)(os:Rq):=(kR w os).map λs=>(Kt w.params s).1
def EV (w:Q4)(os:Rq):=(kR w os).map λs=>(Kt w.params s).2.1
def EU (w:Q4)(os:Rq):=(kR w os).map λs=>(Kt w.params s).2.2
def E3 (w:Q4):=some true
def E2 (w:Q4):=some (PySem.W.openGood kq pO)
def E1 (w:Q4):=some ((kh w.params).map λp=>some p.2)
def _root_.PySem.W.Fast.tw4316758761258381035:Q5:=PySem.Challenge.pw_leastdeeds_k22_which_floors_show
def _root_.PySem.W.Fast.te4316758761258381035:PySem.Challenge.pw_leastdeeds_k22_which_floors_show=PySem.W.Fast.tw4316758761258381035:=rfl
def _root_.PySem.W.Fast.tw15034388579016713278:R3->Qa:=K22.kh
def _root_.PySem.W.Fast.te15034388579016713278:K22.kh=PySem.W.Fast.tw15034388579016713278:=rfl
def _root_.PySem.W.Fast.tw14652641266390286489:R3->Rq->Rt:=K22.EZ
def _root_.PySem.W.Fast.te14652641266390286489:K22.EZ=PySem.W.Fast.tw14652641266390286489:=rfl
def _root_.PySem.W.Fast.tw5993470702759089069:R3->Rq->Rt:=K22.EY
def _root_.PySem.W.Fast.te5993470702759089069:K22.EY=PySem.W.Fast.tw5993470702759089069:=rfl
def _root_.PySem.W.Fast.tw17624056580935067702:R3->Rq->Rt:=K22.EX
def _root_.PySem.W.Fast.te17624056580935067702:K22.EX=PySem.W.Fast.tw17624056580935067702:=rfl
def Pa:EW=EW:=rfl
name_quick kq1_22 for EW by Pa
def O9:EV=EV:=rfl
name_quick kq2_22 for EV by O9
def Pc:E2=E2:=rfl
name_quick kg2_22 for E2 by Pc
def O8:EU=EU:=rfl
name_quick kq3_22 for EU by O8
def Pb:E1=E1:=rfl
name_quick kg3_22 for E1 by Pb
def O7:ET=ET:=rfl
name_quick kua22 for ET by O7
def O4:EO=EO:=rfl
name_quick kva22 for EO by O4
def O6:ES=ES:=rfl
name_quick kub22 for ES by O6
def O3:EN=EN:=rfl
name_quick kvb22 for EN by O3
def O5:ER=ER:=rfl
name_quick kuc22 for ER by O5
def O2:EM=EM:=rfl
name_quick kvc22 for EM by O2
def AM:∀(w:Q4) (os:Rq),PySem.W.Fast.kua22 (w.withFollow "special-get-raises" false) os=PySem.W.Fast.kva22 (w.withFollow "special-get-raises" false) os:=λw os=>by kernel_rfl
def C4:∀(w:Q4) (os:Rq),PySem.W.Fast.kua22 (w.withFollow "special-get-raises" true) os=PySem.W.Fast.kva22 (w.withFollow "special-get-raises" true) os:=λw os=>by kernel_rfl
def ka0:∀(w:Q4) (os:Rq),ET w os=EO w os:=λw os=>by
 rw[PySem.W.Fast.kua22_eq,PySem.W.Fast.kva22_eq];exact PySem.W.byRow2 "special-get-raises" (P:=λw=>PySem.W.Fast.kua22 w os=PySem.W.Fast.kva22 w os) (λw=>AM w os) (λw=>C4 w os) w
def AL:∀(w:Q4) (os:Rq),PySem.W.Fast.kub22 (w.withFollow "special-get-raises" false) os=PySem.W.Fast.kvb22 (w.withFollow "special-get-raises" false) os:=λw os=>by kernel_rfl
def C3:∀(w:Q4) (os:Rq),PySem.W.Fast.kub22 (w.withFollow "special-get-raises" true) os=PySem.W.Fast.kvb22 (w.withFollow "special-get-raises" true) os:=λw os=>by kernel_rfl
def ka1:∀(w:Q4) (os:Rq),ES w os=EN w os:=λw os=>by
 rw[PySem.W.Fast.kub22_eq,PySem.W.Fast.kvb22_eq];exact PySem.W.byRow2 "special-get-raises" (P:=λw=>PySem.W.Fast.kub22 w os=PySem.W.Fast.kvb22 w os) (λw=>AL w os) (λw=>C3 w os) w
def AK:∀(w:Q4) (os:Rq),PySem.W.Fast.kuc22 (w.withFollow "special-get-raises" false) os=PySem.W.Fast.kvc22 (w.withFollow "special-get-raises" false) os:=λw os=>by kernel_rfl
def C1:∀(w:Q4) (os:Rq),PySem.W.Fast.kuc22 (w.withFollow "special-get-raises" true) os=PySem.W.Fast.kvc22 (w.withFollow "special-get-raises" true) os:=λw os=>by kernel_rfl
def ka2:∀(w:Q4) (os:Rq),ER w os=EM w os:=λw os=>by
 rw[PySem.W.Fast.kuc22_eq,PySem.W.Fast.kvc22_eq];exact PySem.W.byRow2 "special-get-raises" (P:=λw=>PySem.W.Fast.kuc22 w os=PySem.W.Fast.kvc22 w os) (λw=>AK w os) (λw=>C1 w os) w
def AG:∀(w:Q4) (os:Rq),PySem.W.Fast.kq1_22 (w.withFollow "special-get-raises" false) os=E3 (w.withFollow "special-get-raises" false):=λw os=>by kernel_rfl
def CY:∀(w:Q4) (os:Rq),PySem.W.Fast.kq1_22 (w.withFollow "special-get-raises" true) os=E3 (w.withFollow "special-get-raises" true):=λw os=>by kernel_rfl
def kl1:∀(w:Q4) (os:Rq),EW w os=E3 w:=λw os=>by
 rw[PySem.W.Fast.kq1_22_eq];exact PySem.W.byRow2 "special-get-raises" (P:=λw=>PySem.W.Fast.kq1_22 w os=E3 w) (λw=>AG w os) (λw=>CY w os) w
def AF:∀(w:Q4) (os:Rq),PySem.W.Fast.kq2_22 (w.withFollow "special-get-raises" false) os=PySem.W.Fast.kg2_22 (w.withFollow "special-get-raises" false):=λw os=>by kernel_rfl
def CW:∀(w:Q4) (os:Rq),PySem.W.Fast.kq2_22 (w.withFollow "special-get-raises" true) os=PySem.W.Fast.kg2_22 (w.withFollow "special-get-raises" true):=λw os=>by kernel_rfl
def kl2:∀(w:Q4) (os:Rq),EV w os=E2 w:=λw os=>by
 rw[PySem.W.Fast.kq2_22_eq,PySem.W.Fast.kg2_22_eq];exact PySem.W.byRow2 "special-get-raises" (P:=λw=>PySem.W.Fast.kq2_22 w os=PySem.W.Fast.kg2_22 w) (λw=>AF w os) (λw=>CW w os) w
def AE:∀(w:Q4) (os:Rq),PySem.W.Fast.kq3_22 (w.withFollow "special-get-raises" false) os=PySem.W.Fast.kg3_22 (w.withFollow "special-get-raises" false):=λw os=>by kernel_rfl
def CV:∀(w:Q4) (os:Rq),PySem.W.Fast.kq3_22 (w.withFollow "special-get-raises" true) os=PySem.W.Fast.kg3_22 (w.withFollow "special-get-raises" true):=λw os=>by kernel_rfl
def kl3:∀(w:Q4) (os:Rq),EU w os=E1 w:=λw os=>by
 rw[PySem.W.Fast.kq3_22_eq,PySem.W.Fast.kg3_22_eq];exact PySem.W.byRow2 "special-get-raises" (P:=λw=>PySem.W.Fast.kq3_22 w os=PySem.W.Fast.kg3_22 w) (λw=>AE w os) (λw=>CV w os) w
def kp:∀(w:Q4) (os:Rq),(kP w os).map (·.2)=some {denote treeTable (.body (PySem.W.behindTheImports PySem.Challenge.pw_leastdeeds_k22_which_floors_show) kE),(.body (PySem.W.behindTheImports PySem.Challenge.pw_leastdeeds_k22_which_floors_show) kE),{0,0,0,0},[PySem.W.topFrame {0,0,0,0}]}:=λw os=>by kernel_rfl
def MN:PySem.W.LeftO xQ.prog kq pO kX kH.obs kH.val 5740:=HD.vn (m0:=11) (ann:=some (.ref 6)) (PySem.W.boot_open `r `d (λ_=>rfl)) (λw=>by kernel_rfl) λw os=>HD.A8 (J:=9) (kp w os) (by kernel_rfl) (ka0 w os) (HD.uL (J:=34) (ka1 w os) (HD.uL (J:=32) (ka2 w os) (HD.A7 (kl1 w os) (kl2 w os) (kl3 w os))))
end K22
namespace L2
open PySem PySem.Spec PyProof.Rows
abbrev Key:=Sum Int Str
noncomputable def sF:Key->Qb->Bool
 |.inl k,v=>Value.isInt k v
 |.inr x,v=>Value.isStrOf x v
noncomputable def O0 (w:Q4):Key->Int
 |.inl k=>hashInt k
 |.inr x=>hashStr w x
def da:∀{k:Key}{v:Qb},sF k v=true->(∃i t,k=Sum.inl i/\v=Value.int i t)\/(∃x t,k=Sum.inr x/\v=Value.str x t)
 | .inl i, v, h => by
   obtain⟨t,e⟩:=Value.isInt_shape (k:=i) (v:=v) h;exact .inl ⟨i,t,rfl,e⟩
 | .inr x, v, h => by
   obtain⟨t,e⟩:=Value.isStrOf_shape (x:=x) (v:=v) h;exact .inr ⟨x,t,rfl,e⟩
def jQ (x:Str)(t:Tok):sF (.inr x) (.str x t)=true:=by simp[sF,Value.isStrOf]
def Kx (a b:Int):decide ((Sum.inl a:Key)=Sum.inl b)=(a==b):=by
 by_cases e:a=b
 ·subst e;simp
 ·have h:¬ (Sum.inl a:Key)=Sum.inl b:=λq=>e (Sum.inl.inj q);rw[decide_eq_false h];exact(RU.mpr e).symm
def Ku (a b:Str):decide ((Sum.inr a:Key)=Sum.inr b)=decide (a=b):=by
 by_cases e:a=b
 ·subst e;simp
 ·have h:¬ (Sum.inr a:Key)=Sum.inr b:=λq=>e (Sum.inr.inj q);rw[decide_eq_false h,decide_eq_false e]
def Kw (a:Int)(b:Str):decide ((Sum.inl a:Key)=Sum.inr b)=false:=decide_eq_false (λq=>nomatch q)
def Kv (a:Str)(b:Int):decide ((Sum.inr a:Key)=Sum.inl b)=false:=decide_eq_false (λq=>nomatch q)
def kA (prog:Q5)(w:Q4):PySem.KeyKind prog w Key where
 is:=sF
 hash:=O0 w
 inj:=λv a b F B=>by
  rcases da F with⟨i,t,rfl,rfl⟩|⟨x,t,rfl,rfl⟩
  ·rcases da B with⟨j,u,rfl,e⟩|⟨y,u,rfl,e⟩
   ·injection e with e1 _;rw[e1]
   ·exact nomatch e
  ·rcases da B with⟨j,u,rfl,e⟩|⟨y,u,rfl,e⟩
   ·exact nomatch e
   ·injection e with e1 _;rw[e1]
 byValue:=λk v h=>by
  rcases da h with⟨i,t,rfl,rfl⟩|⟨x,t,rfl,rfl⟩<;>rfl
 pyHash:=λz h=>by
  rcases da z with⟨i,t,rfl,rfl⟩|⟨x,t,rfl,rfl⟩
  ·exact wpAny_pyHash_int h
  ·exact wpAny_pyHash_str h
 eqBool:=λI z h=>by
  rcases da I with⟨i,t,rfl,rfl⟩|⟨x,t,rfl,rfl⟩
  ·rcases da z with⟨j,u,rfl,rfl⟩|⟨y,u,rfl,rfl⟩
   ·rw[Kx] at h;exact wpAny_eqBool_int h
   ·rw[Kw] at h;exact SeqAt.EqAt.int_str i t y u _ _ _ _ h
  ·rcases da z with⟨j,u,rfl,rfl⟩|⟨y,u,rfl,rfl⟩
   ·rw[Kv] at h;exact SeqAt.EqAt.str_int x t j u _ _ _ _ h
   ·rw[Ku] at h;exact wpAny_eqBool_str h
 «strs»:=λk x t v h=>by
  rcases da h with⟨i,u,rfl,e⟩|⟨y,u,rfl,e⟩
  ·exact nomatch e
  ·injection e with e1 _
   subst e1;cases v<;>rfl
inductive V where
 |non|bl (b:Bool)|int (i:Int)|str (x:Str)|byt (b:Array UInt8)|flt (b:UInt64)|ref (a:Addr)|ty (n:String)
 deriving DecidableEq
def RelV:V->Qb->Prop
 |.non,u=>u=Value.none
 |.bl b,u=>u=Value.bool b
 |.int i,u=>∃t,u=Value.int i t
 |.str x,u=>∃t,u=Value.str x t
 |.byt b,u=>∃t,u=Value.bytes b t
 |.flt b,u=>∃t,u=Value.float b t
 |.ref a,u=>u=Value.ref a
 |.ty n,u=>u=Value.type n
abbrev Vals:List V->List Qb->Prop:=RX RelV
def Vals.length {xs:List V}{us:List Qb}(r:Vals xs us):xs.length=us.length:=Paired.length r
def Vals.get:∀{xs:List V}{us:List Qb}{i:Nat}{x:V},Vals xs us->xs[i]?=some x->∃u,us[i]?=some u/\RelV x u
 |_,_,_,_,.nil,e=>by simp at e
 |_,_,0,_,.cons r _,e=>by simp at e;subst e;exact{_,rfl,r}
 | _, _, i + 1, x, .cons _ t, e => by
   obtain⟨u,h1,h2⟩:=Vals.get (i:=i) (x:=x) t (by simpa using e)
   exact{u,by simpa using h1,h2}
def Vals.set {x:V}{u:Qb}(r:RelV x u):∀{xs:List V}{us:List Qb} (i:Nat),Vals xs us->Vals (xs.set i x) (us.set i u)
 |_,_,_,.nil=>.nil
 |_,_,0,.cons _ t=>.cons r t
 |_,_,i+1,.cons q t=>.cons q (Vals.set r i t)
def Vals.append:∀{xs ys:List V}{us ws:List Qb},Vals xs us->Vals ys ws->Vals (xs++ys) (us++ws)
 |_,_,_,_,.nil,s=>s
 |_,_,_,_,.cons r t,s=>.cons r (Vals.append t s)
def Vals.take:∀{xs:List V}{us:List Qb} (n:Nat),Vals xs us->Vals (xs.take n) (us.take n)
 |_,_,0,_=>.nil
 |_,_,_+1,.nil=>.nil
 |_,_,n+1,.cons r t=>.cons r (Vals.take n t)
def Vals.drop:∀{xs:List V}{us:List Qb} (n:Nat),Vals xs us->Vals (xs.drop n) (us.drop n)
 |_,_,0,r=>r
 |_,_,_+1,.nil=>.nil
 |_,_,n+1,.cons _ t=>Vals.drop n t
def Dy:Option V->Option Qb->Prop
 |some v,some u=>RelV v u
 |none,none=>True
 |_,_=>False
def KV {j:Type}:List (j×V)->List (j×Qb)->Prop:=RX λ(p:j×V) (q:j×Qb)=>p.1=q.1/\RelV p.2 q.2
noncomputable def kV:Key->V
 |.inl i=>.int i
 |.inr x=>.str x
inductive HO where
 |lst (xs:List V)
 |tup (xs:List V)
 |dK (kvs:List (Key×V))|dT (kvs:List (List Key×V))
 |set (S:Int->Bool) (n:Nat)
 |ins (C dx:Addr) (fs:List (Str×V))
 |own (x:Addr)
 |xd (fs:List (Str×V))
 |met (f x:Addr)
 |rng (lo hi:Int)
 |frz (o:Obj) (u:HO)
 |tbl (ps:Array Qb)
 |ext (φ:Heap->Prop)
 |dn (es:List Rx)
abbrev Hp:=Addr->Option HO
noncomputable def upd (H:Hp)(a:Addr)(o:HO):Hp:=λb=>if b=a then some o else H b
def cD {H:Hp}{a:Addr}{o:HO}:upd H a o a=some o:=by unfold upd;rw[if_pos rfl]
def aE {H:Hp}{a b:Addr}{o:HO}(h:b≠a):upd H a o b=H b:=by unfold upd;rw[if_neg h]
def a5 {H:Hp}{a b:Addr}{o:HO}(h:H a=some o)(h':H b=none):a≠b:=by
 intro e;subst e;rw[h] at h';cases h'
section
variable(P:Q5)(w:Q4)
def cV (H:Hp)(h:Heap)(a:Addr):HO->Prop
 |.lst xs=>xs.length<=sizeLine/\∃(j:List Qb) (n:Nat),Vals xs j/\h.get? a=some {cls:=.type "list",data:=.seq j.toArray n}
 |.tup xs=>xs.length<=sizeLine/\∃j:List Qb,Vals xs j/\IsTup h a j.toArray
 |.dK y=>y.length<=sizeLine/\(a==sysModules)=false/\∃B,KV y B/\h.DictOf (kA P w) a B
 |.dT y=>y.length<=sizeLine/\(a==sysModules)=false/\∃xs:List (List Key×Addr×Qb),
  RX (λ(p:List Key×V) (q:List Key×Addr×Qb)=>p.1=q.1/\H q.2.1=some (.tup (p.1.map kV))/\RelV p.2 q.2.2) y xs/\
  ∃o es F,h.get? a=some o/\o.ExactDict/\o.data=.dict es F/\es.toList=xs.map (entryOfKey (tupleKind (kA P w)))/\(xs.map (·.1)).Nodup
 |.set S n=>h.SetOf (intKind P w) a S n
 |.ins C dx fs=>H dx=some (.own a)/\fs.length<=1000/\dx≠a/\h.get? a=some (PySem.W.instObj C dx)/\
  ∃mA,h.Ns1 dx mA/\(∀f,Dy (fs.lookup f) (mA f))/\PySem.Within mA (fs.map (·.1))
 |.own _=>∃o,h.get? a=some o
 |.xd fs=>∃mA,h.Ns1 a mA/\∀f,Dy (fs.lookup f) (mA f)
 |.rng lo hi=>∃t u v,h.get? a=some {cls:=.type "range",data:=.fields #[.int lo t,.int hi u,.int 1 v]}
 |.frz o u=>h.get? a=some o/\cV H h a u
 |.tbl ps=>h.get? a=some {cls:=.none,data:=.fields ps}
 |.met f x=>h.get? a=some (PySem.W.methodObj (.ref f) (.ref x))
 |.ext z=>z h/\(∃o,h.get? a=some o)/\∀h1 h2:Heap,z h1->(∀o,h1.get? a=some o->h2.get? a=some o)->z h2
 |.dn es=>es.length<=sizeLine/\(a==sysModules)=false/\∃o,h.get? a=some o/\o.ExactDict/\o.data=.dict es.toArray es.length
def eX (H:Hp)(h:Heap):Prop:=∀a o,H a=some o->cV P w H h a o
end
section
variable{P:Q5}{w:Q4}{H H':Hp}{h h':Heap}{a:Addr}{o:HO}
def cV.lt (x:cV P w H h a o):a<h.objs.size:=by
 cases o with
 |lst xs=>obtain⟨_,_,_,_,e⟩:=x;exact Qz e
 |tup xs=>obtain⟨_,_,_,p⟩:=x;exact p.lt
 |dK j=>obtain⟨_,_,_,_,o,_,_,e,_⟩:=x;exact Qz e
 |dT j=>obtain⟨_,_,_,_,o,_,_,e,_⟩:=x;exact Qz e
 |set S n=>obtain⟨o,_,_,_,e,_⟩:=x;exact Qz e
 |ins C dx fs=>obtain⟨_,_,_,e,_⟩:=x;exact Qz e
 |own y=>obtain⟨_,e⟩:=x;exact Qz e
 |xd fs=>obtain⟨_,⟨_,_,_,e,_⟩,_⟩:=x;exact Qz e
 |rng lo hi=>obtain⟨_,_,_,e⟩:=x;exact Qz e
 |frz ob u=>obtain⟨e,_⟩:=x;exact Qz e
 |tbl ps=>exact Qz (show h.get? a=some _ from x)
 |met f y=>exact Qz (show h.get? a=some _ from x)
 |ext z=>obtain⟨_,⟨_,e⟩,_⟩:=x;exact Qz e
 |dn es=>obtain⟨_,_,_,e,_⟩:=x;exact Qz e
def RX.mapP {j y:Type}{F G:j->y->Prop}:∀{l₁:List j}{l₂:List y},RX F l₁ l₂->(∀a b,F a b->G a b)->RX G l₁ l₂
 |_,_,.nil,_=>.nil
 |_,_,.cons r t,f=>.cons (f _ _ r) (RX.mapP t f)
def cV.stay (x:cV P w H h a o)(k:∀b u,(b=a\/H b=some (.own a))->h.get? b=some u->h'.get? b=some u)
 (ho:∀b,H b=some (.own a)->H' b=some (.own a)) (I:∀b xs,H b=some (.tup xs)->H' b=some (.tup xs)):cV P w H' h' a o:=by
 induction o with
 |lst xs=>obtain⟨z,B,n,r,e⟩:=x;exact{z,B,n,r,k _ _ (.inl rfl) e}
 |tup xs=>obtain⟨z,B,r,ob,e,c⟩:=x;exact{z,B,r,ob,k _ _ (.inl rfl) e,c}
 |dK F=>obtain⟨z,y,L,r,ob,es,j,e,c⟩:=x;exact{z,y,L,r,ob,es,j,k _ _ (.inl rfl) e,c}
 | dT F =>
   obtain⟨z,y,xs,r,ob,es,j,e,c⟩:=x;exact{z,y,xs,RX.mapP r λp q z=>{z.1,I _ _ z.2.1,z.2.2},ob,es,j,k _ _ (.inl rfl) e,c}
 |set S n=>obtain⟨ob,es,j,t,e,c⟩:=x;exact{ob,es,j,t,k _ _ (.inl rfl) e,c}
 | ins C dx fs =>
   obtain⟨d,z,ne,e,mA,⟨od,es,j,e2,c⟩,r⟩:=x;exact{ho _ d,z,ne,k _ _ (.inl rfl) e,mA,{od,es,j,k _ _ (.inr d) e2,c},r}
 |own y=>obtain⟨ob,e⟩:=x;exact{ob,k _ _ (.inl rfl) e}
 |xd fs=>obtain⟨mA,⟨od,es,j,e,c⟩,r⟩:=x;exact{mA,{od,es,j,k _ _ (.inl rfl) e,c},r}
 |rng lo hi=>obtain⟨t,u,v,e⟩:=x;exact{t,u,v,k _ _ (.inl rfl) e}
 |frz ob u J=>obtain⟨e,q⟩:=x;exact{k _ _ (.inl rfl) e,J q}
 | tbl ps =>
   have e:h.get? a=some {cls:=.none,data:=.fields ps}:=x;show h'.get? a=some {cls:=.none,data:=.fields ps};exact k a _ (.inl rfl) e
 | met f y =>
   have e:h.get? a=some (PySem.W.methodObj (.ref f) (.ref y)):=x;show h'.get? a=some (PySem.W.methodObj (.ref f) (.ref y));exact k a _ (.inl rfl) e
 |ext M=>obtain⟨p,⟨o,e⟩,st⟩:=x;exact{st _ _ p λo q=>k _ _ (.inl rfl) q,{o,k _ _ (.inl rfl) e},st}
 |dn es=>obtain⟨z,y,o,e,c⟩:=x;exact{z,y,o,k _ _ (.inl rfl) e,c}
def eX.lt (x:eX P w H h)(e:H a=some o):a<h.objs.size:=(x a o e).lt
def eX.fresh (x:eX P w H h)(e:h.objs.size<=a):H a=none:=by
 cases q:H a with
 |none=>rfl
 |some u=>exact absurd (QE (x.lt q) e) (Rz _)
def eX.kept (x:eX P w H h)(k:∀b u,h.get? b=some u->h'.get? b=some u):eX P w H h':=λa o e=>
 (x a o e).stay (λb u _ q=>k b u q) (λ_ q=>q) λ_ _ q=>q
def eX.laid (x:eX P w H h)(k:∀b u,h.get? b=some u->h'.get? b=some u)(y:h.objs.size<=a)(new:cV P w (upd H a o) h' a o):eX P w (upd H a o) h':=λb u e=>by
 have hn:=x.fresh y;by_cases j:b=a
 ·subst j;rw[cD] at e;cases e;exact new
 ·rw[aE j] at e;exact(x b u e).stay (λc v _ q=>k c v q) (λc q=>by rw[aE (a5 q hn)];exact q) λc xs q=>by rw[aE (a5 q hn)];exact q
end
def Rd (H:Hp)(a:Addr)(u:HO):Prop:=H a=some u\/∃o,H a=some (.frz o u)
def Rd.ok {P:Q5}{w:Q4}{H:Hp}{h:Heap}{a:Addr}{u:HO}(r:Rd H a u)(x:eX P w H h):cV P w H h a u:=by
 rcases r with r|⟨o,r⟩
 ·exact x a u r
 ·obtain⟨_,q⟩:=x a _ r;exact q
def Ft:Option HO->Prop
 |some (.lst _)=>True
 |some (.dK _)=>True
 |some (.dT _)=>True
 |some (.set _ _)=>True
 |some (.ins _ _ _)=>True
 |some (.ext _)=>True
 |some (.dn _)=>True
 |_=>False
section
variable{P:Q5}{w:Q4}{H:Hp}{h h':Heap}{x e:Addr}{o':HO}
def eX.write (ok:eX P w H h)(mu:Ft (H x))(he:e=x\/H e=some (.own x))(k:∀b u,b≠e->h.get? b=some u->h'.get? b=some u)(L:∃u,h'.get? e=some u)
 (new:cV P w (upd H x o') h' x o'):eX P w (upd H x o') h':=λb u q=>by
 have B:∀c y,H c=some (.own y)->c≠x:=λc y r z=>by subst z;rw[r] at mu;exact mu
 have F:∀c xs,H c=some (.tup xs)->c≠x:=λc xs r z=>by subst z;rw[r] at mu;exact mu
 by_cases I:b=x
 ·subst I;rw[cD] at q;cases q;exact new
 ·rw[aE I] at q;by_cases j:b=e
  ·have M:H b=some (.own x):=by
    rcases he with z|z
    ·exact absurd (j.trans z) I
    ·rw[j];exact z
   rw[q] at M;cases M;obtain⟨v,O⟩:=L;exact{v,by rw[j];exact O}
  ·refine(ok b u q).stay (λc v J r=>k c v ?_ r) (λc r=>by rw[aE (B c b r)];exact r) λc xs r=>by rw[aE (F c xs r)];exact r
   rcases J with rfl|J
   ·exact j
   ·rintro rfl;rcases he with z|z
    ·exact B c b J z
    ·rw[J] at z;cases z;exact I rfl
end
structure Un (fs ex:List Addr) (H H':Hp) (h h':Heap):Prop where
 keep:∀b o,h.get? b=some o->H b=none->b∉fs->b∉ex->h'.get? b=some o
 slot:∀b o,h.get? b=some o->H b=none->b∈fs->b∉ex->∃sl,h'.get? b=some {o with slots:=sl}
 free:∀b o,h.get? b=some o->H b=none->b∉ex->H' b=none
 there:∀b o,h.get? b=some o->b∉ex->∃o',h'.get? b=some o'
 tups:∀b xs,H b=some (.tup xs)->H' b=some (.tup xs)
 frzs:∀b o u,H b=some (.frz o u)->H' b=some (.frz o u)
 tbls:∀b ps,H b=some (.tbl ps)->∃more,H' b=some (.tbl (ps++more))
section
variable{fs fs' ex ex':List Addr}{H H1 H2:Hp}{h h1 h2 h':Heap}{a x e:Addr}{o:HO}
def Un.any (u:Un fs ex H H1 h h1){b:Addr}{ob:Obj}(q:h.get? b=some ob)(n:H b=none)(y:b∉ex):∃sl,h1.get? b=some {ob with slots:=sl}:=by
 by_cases j:b∈fs
 ·exact u.slot b ob q n j y
 ·exact{ob.slots,u.keep b ob q n j y}
def Un.kept (k:∀b u,h.get? b=some u->h'.get? b=some u):Un fs ex H H h h':=
 {λb ob q _ _ _=>k b ob q,λb ob q _ _ _=>{ob.slots,k b ob q},λ_ _ _ n _=>n,λb ob q _=>{ob,k b ob q},λ_ _ q=>q,λ_ _ _ q=>q,λ_ ps q=>{#[],by rw[q];simp}}
def Un.refl:Un fs ex H H h h:=Un.kept λ_ _ q=>q
def Un.laid (k:∀b u,h.get? b=some u->h'.get? b=some u)(j:h.objs.size<=a)(hn:H a=none):Un fs ex H (upd H a o) h h' where
 keep:=λb u q _ _ _=>k b u q
 slot:=λb u q _ _ _=>{u.slots,k b u q}
 free:=λb u q n _=>by rw[aE (QN (QE (Qz q) j))];exact n
 there:=λb u q _=>{u,k b u q}
 tups:=λb xs q=>by rw[aE (a5 q hn)];exact q
 frzs:=λb u xs q=>by rw[aE (a5 q hn)];exact q
 tbls:=λb ps q=>{#[],by rw[aE (a5 q hn),q];simp}
def Un.write (mu:Ft (H x))(he:e=x\/H e=some (.own x))(k:∀b u,b≠e->h.get? b=some u->h'.get? b=some u)(y:∃u,h'.get? e=some u):Un fs ex H (upd H x o) h h':=by
 have F:∀b,H b=none->b≠x:=λb n z=>by subst z;rw[n] at mu;exact mu
 have B:∀b,H b=none->b≠e:=λb n z=>by
  subst z;rcases he with r|r
  ·exact F b n r
  ·rw[n] at r;cases r
 have hm:∀b u,H b=some u->¬ Ft (some u)->b≠x:=λb u q nm z=>by subst z;rw[q] at mu;exact nm mu
 refine{λb u q n _ _=>k b u (B b n) q,λb u q n _ _=>{u.slots,k b u (B b n) q},λb u q n _=>by rw[aE (F b n)];exact n,λb u q _=>?_,
  λb xs q=>by rw[aE (hm b _ q λz=>z)];exact q,λb u xs q=>by rw[aE (hm b _ q λz=>z)];exact q,λb ps q=>{#[],by rw[aE (hm b _ q λz=>z),q];simp}}
 by_cases j:b=e
 ·subst j;exact y
 ·exact{u,k b u j q}
end
noncomputable def Ea (h:Heap)(H:Hp):List Addr:=(List.range h.objs.size).filter λa=>(H a).isSome
def lM (h:Heap)(H:Hp):Heap:=PySem.W.hideAll h (Ea h H)
def AX (h:Heap)(H:Hp):(lM h H).objs.size=h.objs.size:=PySem.W.hideAll_size _ _
def Dc {h:Heap}{H:Hp}{b:Addr}{o:Obj}(e:h.get? b=some o)(n:H b=none):(lM h H).get? b=some o:=
 PySem.W.hideAll_get _ e λhm=>by
  have q:(H b).isSome=true:=(RI.mp hm).2;rw[n] at q;simp at q
def G0 {h:Heap}{H:Hp}{b:Addr}{o:Obj}(e:(lM h H).get? b=some o):h.get? b=some o/\H b=none:=by
 have j:h.get? b=some o:=PySem.W.of_hideAll (Ea h H) e;refine{j,?_};cases q:H b with
 |none=>rfl
 | some x =>
   have hm:b∈Ea h H:=RI.mpr {RH.mpr (Qz j),by simp[q]}
   have z:(lM h H).get? b=none:=PySem.W.hideAll_none (Ea h H) hm;rw[z] at e;cases e
structure Mod (K:Qa) (mg:Str->Option Qb) (base:Heap):Prop where
 kin:K.In base
 glob:base.Ns mainGlobals mg
 blt:∃mb,base.Ns builtinsNs mb/\∀x:Str,x≠"__name__"->mb x=bootBuiltins x
 nolimit:base.NoLimit
structure Cx where
 prog:Q5
 w:Q4
 K:Qa
 mg:Str->Option Qb
 base:Heap
 A:RL
 N:List Str
 s₀:Qf
 H₀:Hp
 env:Env
 outer:List Env
 stack:List Env
 ex:List Addr
 fn:Str->Bool
 calm:Bool
 pn:List (Addr×Obj)
 xe:Qb->Qf->Prop
noncomputable def g4 (l:List Env):List Addr:=l.filterMap (·.frame)
abbrev Cx.fs (X:Cx):List Addr:=g4 X.outer
def Bs (sc:Scope)(x:Str):Prop:=sc.names.lookup x=some .local\/sc.names.lookup x=some .cell\/sc.names.lookup x=some .free
def Loc (sc:Scope)(x:Str):Prop:=sc.names.lookup x=some .local\/sc.names.lookup x=some .cell
def Look (env:Env)(h:Heap)(m:Str->Option Qb)(x:Str)(u:Qb):Prop:=
 (env.kindOf x=some .local/\m x=some u)\/((env.kindOf x=some .cell\/env.kindOf x=some .free)/\∃c,env.cells.lookup x=some c/\h.IsCell c (some u))
structure Cx.Ok (X:Cx):Prop where
 mod:Mod X.K X.mg X.base
 kind:X.env.scope.kind=.function
 glob:X.env.globals=mainGlobals
 blt:X.env.builtins=builtinsNs
 above:X.s₀.heap.objs.size<=X.env.locals
 inj:∀x y c,X.env.cells.lookup x=some c->X.env.cells.lookup y=some c->x=y
 has:∀x,(X.env.kindOf x=some .cell\/X.env.kindOf x=some .free)->∃c,X.env.cells.lookup x=some c
 cab:∀x c,X.fn x=true->X.env.cells.lookup x=some c->X.s₀.heap.objs.size<=c
 hd:X.calm=true->X.A.handled=none
 frames:X.A.frames=some X.stack
 stk:X.stack=X.outer\/(X.stack=X.env::X.outer/\X.env.frame=some X.env.locals)
 exf:∀b∈X.ex,b≠X.env.locals/\∀x c,X.env.cells.lookup x=some c->c≠b
 bs:∀b o,X.base.get? b=some o->X.s₀.heap.get? b=some o/\X.H₀ b=none
 bsz:X.base.objs.size<=X.s₀.heap.objs.size
 noex:∀b o,X.base.get? b=some o->b∉X.ex
 exfs:∀b∈X.ex,b∉X.fs
 funs:X.s₀.heap.FunFrames X.base X.outer
 frf:∀b∈X.fs,X.H₀ b=none
structure Inv (X:Cx) (pins:List (Addr×Obj)) (σ:List (Option V)) (H:Hp) (s:Qf):Prop where
 ok:X.Ok
 os:s.os=X.s₀.os
 bare:AllBare s.gens
 base:Un X.fs X.ex X.H₀ H X.s₀.heap s.heap
 loc:∃m,s.heap.Ns X.env.locals m/\∀(i:Nat) (x:Str) (v:V),X.N[i]?=some x->σ[i]?=some (some v)->Bs X.env.scope x->∃u,RelV v u/\Look X.env s.heap m x u
 cell:∀x c,X.env.cells.lookup x=some c->∃v,s.heap.IsCell c v
 free:H X.env.locals=none
 freeC:∀x c,X.env.cells.lookup x=some c->H c=none
 pin:∀p∈X.pn++pins,s.heap.get? p.1=some p.2/\H p.1=none/\p.1≠X.env.locals/\p.1∉X.fs/\∀v,p.2.data≠.cell v
 hok:eX X.prog X.w H s.heap
 len:σ.length=X.N.length
section
variable{X:Cx}{pins:List (Addr×Obj)}{σ:List (Option V)}{H H':Hp}{s:Qf}{h':Heap}
def Cx.Ok.nofr (ok:X.Ok){b:Addr}{o:Obj}(e:X.base.get? b=some o):b∉X.fs:=λj=>by
 have:=(ok.funs.mem j).1;rw[e] at this;cases this
def Inv.bs (I:Inv X pins σ H s):∀b o,X.base.get? b=some o->s.heap.get? b=some o/\H b=none:=λb o e=>
 {I.base.keep b o (I.ok.bs b o e).1 (I.ok.bs b o e).2 (I.ok.nofr e) (I.ok.noex b o e),I.base.free b o (I.ok.bs b o e).1 (I.ok.bs b o e).2 (I.ok.noex b o e)}
def Inv.bk (I:Inv X pins σ H s):∀b o,X.base.get? b=some o->s.heap.get? b=some o:=λb o e=>(I.bs b o e).1
def Inv.mod (I:Inv X pins σ H s):Mod X.K X.mg X.base:=I.ok.mod
def Inv.kIn (I:Inv X pins σ H s):X.K.In s.heap:=I.ok.mod.kin.keeps I.bk
def Inv.lt (I:Inv X pins σ H s):X.env.locals<s.heap.objs.size:=let{_,hn,_}:=I.loc;hn.lt
def Inv.sz (I:Inv X pins σ H s):X.s₀.heap.objs.size<=s.heap.objs.size:=Qo I.ok.above (Sf I.lt)
def Inv.nofs (I:Inv X pins σ H s){a:Addr}(h:s.heap.objs.size<=a):a∉X.fs:=λj=>by
 obtain⟨_,o,ho,_⟩:=I.ok.funs.mem j;exact absurd (QE (Qz ho) (Qo I.sz h)) (Rz _)
def Inv.cne (I:Inv X pins σ H s):∀x c,X.env.cells.lookup x=some c->c≠X.env.locals:=λx c e z=>by
 obtain⟨v,o,ho,hd⟩:=I.cell x c e;obtain⟨m,⟨o',es,B,y,j,_⟩,_⟩:=I.loc;rw[z,y] at ho;cases ho;rw[j] at hd;cases hd
def Inv.funs (I:Inv X pins σ H s):s.heap.FunFrames X.base X.outer:=by
 have all:∀(l:List Env),(∀b∈g4 l,b∈X.fs)->X.s₀.heap.FunFrames X.base l->s.heap.FunFrames X.base l:=by
  intro l;induction l with
  |nil=>intro _ _;trivial
  | cons env r J =>
    intro hs hl;obtain⟨F,⟨L,o,B,hn,ho,hd⟩,hr⟩:=hl;have j:L∈X.fs:=hs L (by unfold g4;rw[List.filterMap_cons,B];exact QB)
    obtain⟨sl,e⟩:=I.base.slot L o ho (I.ok.frf L j) j λz=>I.ok.exfs L z j;exact{F,{L,_,B,hn,e,hd},J (λb y=>hs b (by unfold g4;rw[List.filterMap_cons,B];exact Qu _ y)) hr}
 exact all X.outer (λ_ y=>y) I.ok.funs
def Inv.stack (I:Inv X pins σ H s):s.heap.FunFrames X.base X.stack:=by
 rcases I.ok.stk with e|⟨e,j⟩
 ·rw[e];exact I.funs
 ·rw[e];obtain⟨m,hn,_⟩:=I.loc;refine .cons (by rw[I.ok.kind];decide) j hn ?_ I.funs
  exact Heap.get?_none_of_le (Qo I.ok.bsz I.ok.above)
def Inv.stkSub (I:Inv X pins σ H s):∀b∈g4 X.stack,b∈X.env.locals::X.fs:=λb j=>by
 rcases I.ok.stk with e|⟨e,y⟩
 ·rw[e] at j;exact Qu _ j
 ·rw[e] at j;unfold g4 at j;rw[List.filterMap_cons,y] at j;exact j
def Inv.stkFree (I:Inv X pins σ H s):∀b∈g4 X.stack,H b=none:=λb j=>by
 rcases QZ.mp (I.stkSub b j) with e|j
 ·rw[e];exact I.free
 ·obtain⟨_,o,ho,_⟩:=I.ok.funs.mem j;exact I.base.free b o ho (I.ok.frf b j) λz=>I.ok.exfs b z j
def Inv.step {g':Array GenState}{t':Nat}{d':Drawn}{ch:List Addr}(I:Inv X pins σ H s)
 (B:∀b∈ch,(b∈X.ex\/X.s₀.heap.objs.size<=b)/\b≠X.env.locals/\(∀x c,X.env.cells.lookup x=some c->c≠b)/\∀p∈X.pn++pins,p.1≠b)
 (keep:∀b o,b≠X.env.locals->b∉X.fs->b∉ch->s.heap.get? b=some o->H b=none->h'.get? b=some o)
 (slot:∀b o,b≠X.env.locals->b∈X.fs->b∉ch->s.heap.get? b=some o->H b=none->∃sl,h'.get? b=some {o with slots:=sl}) (free:∀b o,b∉ch->s.heap.get? b=some o->H b=none->H' b=none)
 (there:∀b o,b∉ch->s.heap.get? b=some o->∃o',h'.get? b=some o')
 (tups:∀b xs,H b=some (.tup xs)->H' b=some (.tup xs)) (frzs:∀b o u,H b=some (.frz o u)->H' b=some (.frz o u)) (tbls:∀b ps,H b=some (.tbl ps)->∃more,H' b=some (.tbl (ps++more)))
 (ns:∀m,s.heap.Ns X.env.locals m->h'.Ns X.env.locals m) (hok:eX X.prog X.w H' h') (Y:AllBare g') :
 Inv X pins σ H' {s with heap:=h',gens:=g',drawn:=d',toks:=t'}:=by
 have M:∀b o,X.s₀.heap.get? b=some o->b≠X.env.locals:=λb o e=>QN (QE (Qz e) I.ok.above);have J:∀b o,X.s₀.heap.get? b=some o->b∉X.ex->b∉ch:=λb o e j L=>by
  rcases(B b L).1 with z|z
  ·exact j z
  ·exact absurd (QE (Qz e) z) (Rz _)
 have y:∀x c,X.env.cells.lookup x=some c->∀v,s.heap.IsCell c v->h'.IsCell c v:=λx c e v ⟨o,ho,hd⟩=>by
  have F:c∉ch:=λz=>(B c z).2.2.1 x c e rfl;by_cases R:c∈X.fs
  ·obtain⟨sl,q⟩:=slot c o (I.cne x c e) R F ho (I.freeC x c e);exact{_,q,hd}
  ·exact{o,keep c o (I.cne x c e) R F ho (I.freeC x c e),hd}
 refine{I.ok,I.os,Y,{λb o e n L j=>?_,λb o e n L j=>?_,λb o e n j=>?_,λb o e j=>?_,λb xs e=>tups b xs (I.base.tups b xs e),λb o xs e=>frzs b o xs (I.base.frzs b o xs e),λb ps e=>?_},?_,λx c e=>?_,?_,λx c e=>?_,λp S=>?_,hok,I.len}
 ·exact keep b o (M b o e) L (J b o e j) (I.base.keep b o e n L j) (I.base.free b o e n j)
 ·obtain⟨sl,e1⟩:=I.base.slot b o e n L j;obtain⟨O,e2⟩:=slot b _ (M b o e) L (J b o e j) e1 (I.base.free b o e n j);exact⟨O,e2⟩
 ·obtain⟨o',e1⟩:=I.base.there b o e j;exact free b o' (J b o e j) e1 (I.base.free b o e n j)
 ·obtain⟨o',e1⟩:=I.base.there b o e j;exact there b o' (J b o e j) e1
 ·obtain⟨m1,e1⟩:=I.base.tbls b ps e;obtain⟨m2,e2⟩:=tbls b _ e1;exact{m1++m2,by rw[e2,Array.append_assoc]}
 ·obtain⟨m,hn,hl⟩:=I.loc;refine{m,ns m hn,λi x v e1 e2 W=>?_};obtain⟨u,r,l⟩:=hl i x v e1 e2 W;refine{u,r,?_};rcases l with l|⟨k,c,e,z⟩
  ·exact .inl l
  ·exact .inr {k,c,e,y x c e _ z}
 ·obtain⟨v,z⟩:=I.cell x c e;exact{v,y x c e v z}
 ·obtain⟨m,⟨o,_,_,ho,_⟩,_⟩:=I.loc;exact free _ o (λz=>(B _ z).2.1 rfl) ho I.free
 ·obtain⟨v,o,ho,hd⟩:=I.cell x c e;exact free c o (λz=>(B c z).2.2.1 x c e rfl) ho (I.freeC x c e)
 ·obtain⟨e,n,ne,U,d⟩:=I.pin p S;have F:p.1∉ch:=λz=>(B p.1 z).2.2.2 p S rfl;exact{keep p.1 p.2 ne U F e n,free p.1 p.2 F e n,ne,U,d}
def Inv.un {t':Nat}(I:Inv X pins σ H s)(u:Un X.fs [] H H' s.heap h')(hok:eX X.prog X.w H' h'):Inv X pins σ H' {s with heap:=h',toks:=t'}:=by
 obtain⟨m,⟨o,es,M,ho,r⟩,_⟩:=id I.loc;obtain⟨sl,J⟩:=u.any ho I.free `s
 exact I.step (g':=s.gens) (d':=s.drawn) (ch:=[]) (λ_ z=>nomatch z) (λb o _ F _ e n=>u.keep b o e n F `s) (λb o _ F _ e n=>u.slot b o e n F `s) (λb o _ e n=>u.free b o e n `s) (λb o _ e=>u.there b o e `s) u.tups u.frzs u.tbls (λO hm=>by
  obtain⟨o',B,y,j,L⟩:=hm;rw[ho] at j;cases j;exact{_,B,y,J,L}) hok I.bare
def Inv.call {g':Array GenState}{t':Nat}{d':Drawn}{ch:List Addr}(I:Inv X pins σ H s)(u:Un (g4 X.stack) ch H H' s.heap h')(hok:eX X.prog X.w H' h')(O:AllBare g')
 (y:∀b∈ch,(b∈X.ex\/X.s₀.heap.objs.size<=b)/\b≠X.env.locals/\(∀x c,X.env.cells.lookup x=some c->c≠b)/\∀p∈X.pn++pins,p.1≠b) :
 Inv X pins σ H' {s with heap:=h',gens:=g',drawn:=d',toks:=t'}:=by
 obtain⟨m,⟨o,es,S,ho,r⟩,_⟩:=id I.loc;obtain⟨sl,L⟩:=u.any ho I.free λz=>(y _ z).2.1 rfl;exact I.step (ch:=ch) y (λb o L M j e n=>u.keep b o e n (λz=>(QZ.mp (I.stkSub b z)).elim L M) j) (λb o _ _ j e n=>u.any e n j) (λb o j e n=>u.free b o e n j) (λb o j e=>u.there b o e j) u.tups u.frzs u.tbls (λU hm=>by
  obtain⟨o',J,F,B,R⟩:=hm;rw[ho] at B;cases B;exact{_,J,F,L,R}) hok O
def Inv.turned {t':Nat}{j:Addr}(I:Inv X pins σ H s)(k:∀b o,b≠j->s.heap.get? b=some o->h'.get? b=some o)(hn:H j=none)(F:j≠X.env.locals)
 (h1:j∈X.ex\/X.s₀.heap.objs.size<=j) (h2:∀x c,X.env.cells.lookup x=some c->c≠j) (h3:∀p∈X.pn++pins,p.1≠j):Inv X pins σ H {s with heap:=h',toks:=t'}:=by
 have B:∀b u,H b=some u->b≠j:=λb u e z=>by rw[z,hn] at e;cases e
 refine I.step (g':=s.gens) (d':=s.drawn) (ch:=[j]) (λb L=>?_) (λb o _ _ y e _=>k b o (λz=>y (by simp[z])) e) (λb o _ _ y e _=>{o.slots,k b o (λz=>y (by simp[z])) e}) (λ_ _ _ _ n=>n)
  (λb o y e=>{o,k b o (λz=>y (by simp[z])) e}) (λ_ _ e=>e) (λ_ _ _ e=>e) (λb ps e=>{#[],by rw[e];simp}) (λm hm=>?_) (λb u e=>?_) I.bare
 ·have e:b=j:=by simpa using L
  subst e;exact⟨h1,F,h2,h3⟩
 ·obtain⟨o,es,J,ho,r⟩:=hm;exact{o,es,J,k _ o (Rf F) ho,r}
 ·refine(I.hok b u e).stay (λc v y q=>k c v ?_ q) (λ_ q=>q) λ_ _ q=>q;rcases y with z|z
  ·rw[z];exact B b u e
  ·exact B c _ z
def Inv.tok (I:Inv X pins σ H s)(t:Nat):Inv X pins σ H {s with toks:=t}:=I.un (h':=s.heap) (t':=t) Un.refl I.hok
def Inv.kept {t':Nat}(I:Inv X pins σ H s)(k:∀b u,s.heap.get? b=some u->h'.get? b=some u):Inv X pins σ H {s with heap:=h',toks:=t'}:=I.un (Un.kept k) (I.hok.kept k)
def Inv.laid {a:Addr}{o:HO}{t':Nat}(I:Inv X pins σ H s)(k:∀b u,s.heap.get? b=some u->h'.get? b=some u)(j:s.heap.objs.size<=a)(new:cV X.prog X.w (upd H a o) h' a o) :
 Inv X pins σ (upd H a o) {s with heap:=h',toks:=t'}:=I.un (Un.laid k j (I.hok.fresh j)) (I.hok.laid k j new)
def Inv.write {x e:Addr}{o:HO}{t':Nat}(I:Inv X pins σ H s)(mu:Ft (H x))(he:e=x\/H e=some (.own x))(k:∀b u,b≠e->s.heap.get? b=some u->h'.get? b=some u)(j:∃u,h'.get? e=some u)
 (new:cV X.prog X.w (upd H x o) h' x o):Inv X pins σ (upd H x o) {s with heap:=h',toks:=t'}:=I.un (Un.write mu he k j) (I.hok.write mu he k j new)
def Inv.pins_of {j:List (Addr×Obj)}(I:Inv X pins σ H s)(h:∀p∈j,s.heap.get? p.1=some p.2/\H p.1=none/\p.1≠X.env.locals/\p.1∉X.fs/\∀v,p.2.data≠.cell v):Inv X j σ H s:=
 {I.ok,I.os,I.bare,I.base,I.loc,I.cell,I.free,I.freeC,λp y=>(QH.mp y).elim (λz=>I.pin p (Rh _ z)) (h p),I.hok,I.len}
def tZ {N:List Str}(y:N.Nodup){i j:Nat}{x:Str}(a:N[i]?=some x)(b:N[j]?=some x):i=j:=by
 obtain⟨h1,e1⟩:=P9.mp a;obtain⟨h2,e2⟩:=P9.mp b;exact(List.getElem_inj y).mp (e1.trans e2.symm)
def rB {M:Model}{A:RL}{E:Qb->Qf->Prop}{i:Nat}{x:Str}{v:V}{u:Qb}{Q:Unit->Qf->Prop}(I:Inv X pins σ H s)(hN:X.N.Nodup)(hi:X.N[i]?=some x)(J:Loc X.env.scope x)(r:RelV v u)
 (h:∀s',Inv X pins (σ.set i (some v)) H s'->(∃a,RY a s.heap s'.heap/\(a=X.env.locals\/X.env.cells.lookup x=some a))->Q () s') (hf:X.fn x=true\/X.env.scope.names.lookup x=some .local:=by first|exact .inl rfl|exact .inr rfl|assumption):wpAny M A (storeName X.env x u) Q E s:=by
 obtain⟨m,hn,hl⟩:=id I.loc;have hcls:(X.env.scope.kind==.class||(X.env.scope.kind==.module&&X.env.locals != X.env.globals))=false:=by rw[I.ok.kind];rfl
 have O:i<σ.length:=by rw[I.len];exact(P9.mp hi).1
 have cne:=I.cne;have B:∀{a:Addr}{h':Heap},(∃o,s.heap.get? a=some o/\H a=none)->RY a s.heap h'->eX X.prog X.w H h':=λ{a h'} ha hs b ob e=>by
  obtain⟨_,_,L⟩:=ha;refine(I.hok b ob e).stay (λc w' F q=>(hs.2 c ?_).trans q) (λ_ q=>q) λ_ _ q=>q;rintro rfl;rcases F with rfl|F
  ·rw[L] at e;cases e
  ·rw[L] at F;cases F
 rcases J with R|R
 ·refine wpAny_storeName_local R hn (λh' hn' hs=>?_) hcls;obtain⟨oL,_,_,hoL,_⟩:=id hn;refine h _ {I.ok,I.os,I.bare,{λb o e n S J=>?_,λb o e n S J=>?_,I.base.free,λb o e J=>?_,I.base.tups,I.base.frzs,I.base.tbls},{_,hn',λj y v' e1 e2 e3=>?_},λy c e=>?_,I.free,I.freeC,λp hp=>?_,B ⟨oL,hoL,I.free⟩ hs,by simpa using I.len} {_,hs,.inl rfl}
  ·exact(hs.2 b (QN (QE (Qz e) I.ok.above))).trans (I.base.keep b o e n S J)
  ·obtain⟨sl,e1⟩:=I.base.slot b o e n S J;exact{sl,(hs.2 b (QN (QE (Qz e) I.ok.above))).trans e1}
  ·obtain⟨o',e1⟩:=I.base.there b o e J;exact{o',(hs.2 b (QN (QE (Qz e) I.ok.above))).trans e1}
  ·by_cases W:j=i
   ·subst W;rw[hi] at e1;cases e1;rw[QI O] at e2;cases e2;exact{u,r,.inl {R,`s}}
   ·rw[Qj (Rf W)] at e2;obtain⟨u',r',q⟩:=hl j y v' e1 e2 e3;refine{u',r',?_};rcases q with⟨k,e⟩|⟨k,c,e,z⟩
    ·refine .inl {k,?_};have:y≠x:=λe=>W (tZ hN e1 (e ▸ hi));simp[this,e]
    ·exact .inr {k,c,e,z.sameBut hs (cne y c e)}
  ·obtain⟨w',z⟩:=I.cell y c e;exact{w',z.sameBut hs (cne y c e)}
  ·obtain⟨e,n,ne,nf,d⟩:=I.pin p hp;exact{(hs.2 p.1 ne).trans e,n,ne,nf,d}
 ·have U:X.fn x=true:=by
   rcases hf with z|z
   ·exact z
   ·rw[z] at R;cases R
  obtain⟨c,F⟩:=I.ok.has x (.inl R);obtain⟨w',z⟩:=I.cell x c F;refine wpAny_storeName_cell I.ok.kind R F z (λh' Y hs=>?_);obtain⟨oc,hoc,hocd⟩:=id z;refine h {s with heap:=h'} {I.ok,I.os,I.bare,{λb o e n S J=>?_,λb o e n S J=>?_,I.base.free,λb o e J=>?_,I.base.tups,I.base.frzs,I.base.tbls},{m,hn.sameBut hs (Rf (cne x c F)),λj y v' e1 e2 e3=>?_},λy c' e=>?_,I.free,I.freeC,λp hp=>?_,B {oc,hoc,I.freeC x c F} hs,by simpa using I.len} {c,hs,.inr F}
  ·exact(hs.2 b (QN (QE (Qz e) (I.ok.cab x c U F)))).trans (I.base.keep b o e n S J)
  ·obtain⟨sl,e1⟩:=I.base.slot b o e n S J;exact{sl,(hs.2 b (QN (QE (Qz e) (I.ok.cab x c U F)))).trans e1}
  ·obtain⟨o',e1⟩:=I.base.there b o e J;exact{o',(hs.2 b (QN (QE (Qz e) (I.ok.cab x c U F)))).trans e1}
  ·by_cases W:j=i
   ·subst W;rw[hi] at e1;cases e1;rw[QI O] at e2;cases e2;exact{u,r,.inr {.inl R,c,F,Y}}
   ·rw[Qj (Rf W)] at e2;obtain⟨u',r',q⟩:=hl j y v' e1 e2 e3;refine{u',r',?_};rcases q with q|⟨k,c',e,z'⟩
    ·exact .inl q
    ·refine .inr {k,c',e,z'.sameBut hs ?_};rintro rfl;exact W (tZ hN e1 (I.ok.inj _ _ _ e F ▸ hi))
  ·by_cases hcc:c'=c
   ·subst hcc;exact{_,Y}
   ·obtain⟨w2,z2⟩:=I.cell y c' e;exact{w2,z2.sameBut hs hcc}
  ·obtain⟨e,n,ne,nf,d⟩:=I.pin p hp;refine{(hs.2 p.1 ?_).trans e,n,ne,nf,d};intro q;rw[q,hoc] at e;have q':oc=p.2:=Qr e;exact d w' (by rw[<- q'];exact hocd)
def B7 {M:Model}{A:RL}{E:Qb->Qf->Prop}{i:Nat}{x:Str}{v:V}{u:Qb}{Q:Unit->Qf->Prop}(I:Inv X pins σ H s)(y:X.N.Nodup)(hi:X.N[i]?=some x)(B:Loc X.env.scope x)(r:RelV v u)
 (h:∀s',Inv X pins (σ.set i (some v)) H s'->Q () s') (z:X.fn x=true\/X.env.scope.names.lookup x=some .local:=by first|exact .inl rfl|exact .inr rfl|assumption):wpAny M A (storeName X.env x u) Q E s:=
 rB I y hi B r (λs' j _=>h s' j) z
def Inv.call' {s':Qf}{ch:List Addr}(I:Inv X pins σ H s)(ho:s'.os=s.os)(u:Un (g4 X.stack) ch H H' s.heap s'.heap)(hok:eX X.prog X.w H' s'.heap)(y:AllBare s'.gens)
 (j:∀b∈ch,(b∈X.ex\/X.s₀.heap.objs.size<=b)/\b≠X.env.locals/\(∀x c,X.env.cells.lookup x=some c->c≠b)/\∀p∈X.pn++pins,p.1≠b):Inv X pins σ H' s':=by
 obtain⟨h',g',d',t',o'⟩:=s';have e:o'=s.os:=ho;subst e;exact I.call (g':=g') (t':=t') (d':=d') u hok y j
end
abbrev XK:=Qb->Option Addr->Hp->Prop
abbrev St:=List (Option V)
abbrev VK:=V->Hp->Prop
abbrev TE:=St->Hp->VK->Prop
abbrev TT:=St->Hp->(Bool->Hp->Prop)->Prop
abbrev TA:=St->Hp->(List V->Hp->Prop)->Prop
structure Ends where
 nx:St->Hp->Prop
 rt:VK
 bk:St->Hp->Prop:=λ_ _=>False
 ct:St->Hp->Prop:=λ_ _=>False
abbrev TS:=Ends->St->Hp->Prop
def EP (X:Cx)(pins:List (Addr×Obj))(σ:St)(Q:VK)(u:Qb)(s':Qf):Prop:=∃v H',Inv X pins σ H' s'/\RelV v u/\Q v H'
def TP (X:Cx)(pins:List (Addr×Obj))(σ:St)(Q:Bool->Hp->Prop)(b:Bool)(s':Qf):Prop:=∃H',Inv X pins σ H' s'/\Q b H'
def AP (X:Cx)(pins:List (Addr×Obj))(σ:St)(Q:List V->Hp->Prop)(us:List Qb)(s':Qf):Prop:=∃j H',Inv X pins σ H' s'/\Vals j us/\Q j H'
def SP (X:Cx)(pins:List (Addr×Obj))(D:Ends)(f:Flow)(s':Qf):Prop:=
 match f with
 |.next=>∃j H',Inv X pins j H' s'/\D.nx j H'
 |.brk=>∃j H',Inv X pins j H' s'/\D.bk j H'
 |.cont=>∃j H',Inv X pins j H' s'/\D.ct j H'
 |.ret u=>∃v j H',Inv X pins j H' s'/\RelV v u/\D.rt v H'
def PE (X:Cx)(e:Expr)(t:TE):Prop:=
 ∀(pins:List (Addr×Obj)) (s:Qf) (σ:St) (H:Hp) (Q:VK),Inv X pins σ H s->t σ H Q->wpAny (model X.prog X.w) X.A (eval e X.env) (EP X pins σ Q) X.xe s
def PT (X:Cx)(e:Expr)(t:TT):Prop:=
 ∀(pins:List (Addr×Obj)) (s:Qf) (σ:St) (H:Hp) (Q:Bool->Hp->Prop),Inv X pins σ H s->t σ H Q->wpAny (model X.prog X.w) X.A (isTrue e X.env (eval e X.env)) (TP X pins σ Q) X.xe s
def PW (X:Cx)(e:Expr)(t:TT):Prop:=
 ∀(whole:Sem Qb) (pins:List (Addr×Obj)) (s:Qf) (σ:St) (H:Hp) (Q:Bool->Hp->Prop),Inv X pins σ H s->t σ H Q->wpAny (model X.prog X.w) X.A (isTrue e X.env whole) (TP X pins σ Q) X.xe s
def PW.pt {X:Cx}{e:Expr}{t:TT}(h:PW X e t):PT X e t:=h _
def PA (X:Cx)(es:List Expr)(t:TA):Prop:=
 ∀(pos:Pos) (pins:List (Addr×Obj)) (s:Qf) (σ:St) (H:Hp) (Q:List V->Hp->Prop),Inv X pins σ H s->t σ H Q->wpAny (model X.prog X.w) X.A (spliced (backTo pos (starEach es X.env))) (AP X pins σ Q) X.xe s
def PS (X:Cx)(st:Stmt)(t:TS):Prop:=
 ∀(pins:List (Addr×Obj)) (s:Qf) (σ:St) (H:Hp) (D:Ends),Inv X pins σ H s->t D σ H->wpAny (model X.prog X.w) X.A (exec st X.env) (SP X pins D) X.xe s
def kM (X:Cx)(st:List Stmt)(t:TS):Prop:=
 ∀(pins:List (Addr×Obj)) (s:Qf) (σ:St) (H:Hp) (D:Ends),Inv X pins σ H s->t D σ H->wpAny (model X.prog X.w) X.A (execs st X.env) (SP X pins D) X.xe s
def aW {j:Type}{t:Sem j}{Q Q':j->Qf->Prop}{M:Model}{A:RL}{E:Qb->Qf->Prop}{s:Qf}(h:wpAny M A t Q E s)(y:∀a s,Q a s->Q' a s):wpAny M A t Q' E s:=wpAny_mono h y λ_ _ x=>x
section
variable{X:Cx}
def Ov (i:Nat):TE:=λσ H Q=>∃v,σ[i]?=some (some v)/\Q v H
def tC (v:V):TE:=λ_ H Q=>Q v H
def Ac {i:Nat}{x:Str}{pos:Pos}(J:X.N[i]?=some x)(L:Bs X.env.scope x)(hd:(x==("__debug__":Str))=false:=by decide)(B:(x==("__classdict__":Str))=false:=by decide):PE X (.Name x pos) (Ov i):=by
 intro pins s σ H Q I h;obtain⟨v,e,h⟩:=h;obtain⟨m,hn,hl⟩:=I.loc;obtain⟨u,r,l⟩:=hl i x v J e L;have y:EP X pins σ Q u s:=⟨v,H,I,r,h⟩;rcases l with⟨z,hm⟩|⟨z,c,F,j⟩
 ·exact wpAny_Name (wpAny_loadName_local I.ok.kind z hn hm y) hd
 ·rcases z with z|z
  ·exact wpAny_Name (wpAny_loadName_cell I.ok.kind z F j y) hd
  ·exact wpAny_Name (wpAny_loadName_free I.ok.kind z F j y B) hd
def JR {i j pos}:PE X (.Constant (.int i) j pos) (tC (.int i)):=λ_ _ _ H _ I h=>wpAny_Constant_int {.int i,H,I.tok _,{_,rfl},h}
def MB {b j pos}:PE X (.Constant (.bool b) j pos) (tC (.bl b)):=λ_ _ _ H _ I h=>Constant_bool {.bl b,H,I,rfl,h}
def JP {j pos}:PE X (.Constant .none j pos) (tC .non):=λ_ _ _ H _ I h=>Constant_none {.non,H,I,rfl,h}
def JM {x j pos}:PE X (.Constant (.str x) j pos) (tC (.str x)):=λ_ _ _ H _ I h=>Calls.Constant_str {.str x,H,I.tok _,{_,rfl},h}
def Gl (X:Cx)(x:Str):Prop:=X.env.kindOf x=some .globalImplicit
def kB {E:Qb->Qf->Prop}{pins:List (Addr×Obj)}{s:Qf}{σ:St}{H:Hp}{x:Str}{u:Qb}{pos:Pos}{Q:Qb->Qf->Prop}(I:Inv X pins σ H s)(j:Gl X x)(hm:X.mg x=some u)(h:Q u s)
 (hd:(x==("__debug__":Str))=false:=by decide):wpAny (model X.prog X.w) X.A (eval (.Name x pos) X.env) Q E s:=
 Calls.Name_function_global I.ok.kind j (Calls.loadGlobal_global (by rw[I.ok.glob];exact I.mod.glob.keeps I.bk) hm h) hd
def gV {E:Qb->Qf->Prop}{pins:List (Addr×Obj)}{s:Qf}{σ:St}{H:Hp}{x:Str}{u:Qb}{pos:Pos}{Q:Qb->Qf->Prop}(I:Inv X pins σ H s)(j:Gl X x)(hm:X.mg x=none)(y:bootBuiltins x=some u)(h:Q u s)
 (hn:x≠"__name__":=by decide) (hd:(x==("__debug__":Str))=false:=by decide):wpAny (model X.prog X.w) X.A (eval (.Name x pos) X.env) Q E s:=by
 obtain⟨z,h1,h2⟩:=I.mod.blt;exact Calls.Name_function_global I.ok.kind j (Calls.loadGlobal_builtin (by rw[I.ok.glob];exact I.mod.glob.keeps I.bk) hm (by rw[I.ok.blt];exact h1.keeps I.bk) ((h2 x hn).trans y) h) hd
def ko {x:Str}{v:V}{u:Qb}{pos:Pos}(j:Gl X x)(hm:X.mg x=some u)(r:RelV v u)(hd:(x==("__debug__":Str))=false:=by decide):PE X (.Name x pos) (tC v):=
 λ_ _ _ H _ I h=>kB I j hm ⟨v,H,I,r,h⟩ hd
def GR {x:Str}{v:V}{u:Qb}{pos:Pos}(j:Gl X x)(hm:X.mg x=none)(y:bootBuiltins x=some u)(r:RelV v u)(hn:x≠"__name__":=by decide)(hd:(x==("__debug__":Str))=false:=by decide):PE X (.Name x pos) (tC v):=
 λ_ _ _ H _ I h=>gV I j hm y ⟨v,H,I,r,h⟩ hn hd
variable{a b:Expr}{ta tb:TE}{pos:Pos}
variable{tA tB':TT}{rest:List Expr}
def eQ (t u:TT):TT:=λσ H Q=>t σ H λc H1=>if c=true then u σ H1 Q else Q false H1
def eL (t u:TT):TT:=λσ H Q=>t σ H λc H1=>if c=true then Q true H1 else u σ H1 Q
def cq (t:TT):TT:=λσ H Q=>t σ H λc H1=>Q (!c) H1
def GG (j:PT X a tA):PW X (.BoolOp .And [a] pos) tA:=by
 intro y pins s σ H Q I h;refine isTrue_and (aW (j pins s σ H Q I h) λc s1 e=>?_);cases c with
 |true=>exact isTrue_and_nil e
 |false=>exact e
def JC (j:PT X a tA):PW X (.BoolOp .Or [a] pos) tA:=by
 intro y pins s σ H Q I h;refine isTrue_or (aW (j pins s σ H Q I h) λc s1 e=>?_);cases c with
 |false=>exact isTrue_or_nil e
 |true=>exact e
def JD (z:PT X a tA)(B:PW X (.BoolOp .And (b::rest) pos) tB'):PW X (.BoolOp .And (a::b::rest) pos) (eQ tA tB'):=by
 intro F pins s σ H Q I h;refine isTrue_and (aW (z pins s σ H _ I h) λc s1 ⟨H1,j,y⟩=>?_);cases c with
 |true=>exact B F pins s1 σ H1 Q j y
 |false=>exact⟨H1,j,y⟩
def Mw (z:PT X a tA)(B:PW X (.BoolOp .Or (b::rest) pos) tB'):PW X (.BoolOp .Or (a::b::rest) pos) (eL tA tB'):=by
 intro F pins s σ H Q I h;refine isTrue_or (aW (z pins s σ H _ I h) λc s1 ⟨H1,j,y⟩=>?_);cases c with
 |true=>exact⟨H1,j,y⟩
 |false=>exact B F pins s1 σ H1 Q j y
def JG (j:PT X a tA):PT X (.UnaryOp .Not a pos) (cq tA):=by
 intro pins s σ H Q I h;exact isTrue_not (j pins s σ H (λc H1=>Q (!c) H1) I h)
def Mn (ta tb:TE):TE:=λσ H Q=>ta σ H λx H1=>∃c,x=.bl c/\if c=true then tb σ H1 Q else Q (.bl false) H1
def Oz (ta tb:TE):TE:=λσ H Q=>ta σ H λx H1=>∃c,x=.bl c/\if c=true then Q (.bl true) H1 else tb σ H1 Q
def Mi (ta:TE):TE:=λσ H Q=>ta σ H λx H1=>∃c,x=.bl c/\Q (.bl (!c)) H1
def JN {op}{t:TE}(h:PE X a t):PE X (.BoolOp op [a] pos) t:=λpins s σ H Q I j=>BoolOp_one (h pins s σ H Q I j)
def JS (z:PE X a ta)(B:PE X (.BoolOp .And (b::rest) pos) tb):PE X (.BoolOp .And (a::b::rest) pos) (Mn ta tb):=by
 intro pins s σ H Q I h;refine BoolOp_and (aW (z pins s σ H _ I h) λv s1 ⟨x,H1,y,r1,j⟩=>?_);obtain⟨c,rfl,j⟩:=j;cases r1;refine tqp ?_;cases c with
 |true=>exact B pins s1 σ H1 Q y j
 |false=>exact{.bl false,H1,y,rfl,j}
def My (z:PE X a ta)(B:PE X (.BoolOp .Or (b::rest) pos) tb):PE X (.BoolOp .Or (a::b::rest) pos) (Oz ta tb):=by
 intro pins s σ H Q I h;refine BoolOp_or (aW (z pins s σ H _ I h) λv s1 ⟨x,H1,y,r1,j⟩=>?_);obtain⟨c,rfl,j⟩:=j;cases r1;refine tqp ?_;cases c with
 |false=>exact B pins s1 σ H1 Q y j
 |true=>exact{.bl true,H1,y,rfl,j}
def JO (z:PE X a ta):PE X (.UnaryOp .Not a pos) (Mi ta):=by
 intro pins s σ H Q I h;refine UnaryOp_ (aW (z pins s σ H _ I h) λv s1 ⟨x,H1,y,r1,j⟩=>?_);obtain⟨c,rfl,j⟩:=j;cases r1;exact not_of (tqp {.bl (!c),H1,y,rfl,j})
def tIf (t:TT)(ta tb:TE):TE:=λσ H Q=>t σ H λc H1=>if c=true then ta σ H1 Q else tb σ H1 Q
def tS {c:Expr}(F:PT X c tA)(z:PE X a ta)(B:PE X b tb):PE X (.IfExp c a b pos) (tIf tA ta tb):=by
 intro pins s σ H Q I h;refine wpAny_IfExp (aW (F pins s σ H _ I h) λd s1 ⟨H1,j,y⟩=>?_);cases d with
 |true=>exact z pins s1 σ H1 Q j y
 |false=>exact B pins s1 σ H1 Q j y
end
def dB (K:Qa)(H:Hp)(a:Addr)(xs:List V):Prop:=
 Rd H a (.lst xs)\/
  ∃(o:Obj) (j:Array Qb) (n:Nat),K.lookup a=some o/\o.cls=.type "list"/\o.dict=none/\o.data=.seq j n/\j.size<=sizeLine/\Vals xs j.toList
def dG (K:Qa)(H:Hp)(a:Addr)(xs:List V):Prop:=
 Rd H a (.tup xs)\/
  ∃(o:Obj) (j:Array Qb) (n:Nat),K.lookup a=some o/\o.cls=.type "tuple"/\o.data=.seq j n/\j.size<=sizeLine/\Vals xs j.toList
noncomputable def PB:Qb->Option V
 |.none=>some .non
 |.bool b=>some (.bl b)
 |.int i _=>some (.int i)
 |.str x _=>some (.str x)
 |.bytes b _=>some (.byt b)
 |.float b _=>some (.flt b)
 |.ref a=>some (.ref a)
 |.type n=>some (.ty n)
 |_=>none
def RelV.abs {x:V}{u:Qb}(r:RelV x u):PB u=some x:=by
 cases x with
 |non=>cases r;rfl
 |bl _=>cases r;rfl
 |int _=>obtain⟨t,rfl⟩:=r;rfl
 |str _=>obtain⟨t,rfl⟩:=r;rfl
 |byt _=>obtain⟨t,rfl⟩:=r;rfl
 |flt _=>obtain⟨t,rfl⟩:=r;rfl
 |ref _=>cases r;rfl
 |ty _=>cases r;rfl
def RelV.inj {x y:V}{u:Qb}(r:RelV x u)(q:RelV y u):x=y:=Qr (r.abs.symm.trans q.abs)
def Vals.inj:∀{xs ys:List V}{us:List Qb},Vals xs us->Vals ys us->xs=ys
 |_,_,_,.nil,.nil=>rfl
 |_,_,_,.cons r t,.cons j y=>by rw[r.inj j,Vals.inj t y]
section
variable{X:Cx}{pins:List (Addr×Obj)}{σ:St}{H:Hp}{s:Qf}{a:Addr}{xs ys:List V}
def dB.of {K:Qa}(h:H a=some (.lst xs)):dB K H a xs:=.inl (.inl h)
def dG.of {K:Qa}(h:H a=some (.tup xs)):dG K H a xs:=.inl (.inl h)
def Inv.list (I:Inv X pins σ H s)(h:dB X.K H a xs):∃j:List Qb,Vals xs j/\PlainL s.heap a j.toArray/\xs.length<=sizeLine:=by
 rcases h with h|⟨o,j,n,B,y,hd,hs,F,r⟩
 ·obtain⟨z,j,n,r,e⟩:=h.ok I.hok;exact{j,r,{_,n,e,rfl,rfl,rfl},z}
 ·refine{j.toList,r,{o,n,I.kIn a o B,y,hd,by simpa using hs},?_}
  have e:=r.length;simp only[Si] at e;omega
def Inv.tuple (I:Inv X pins σ H s)(h:dG X.K H a xs):∃j:List Qb,Vals xs j/\IsTup s.heap a j.toArray/\xs.length<=sizeLine:=by
 rcases h with h|⟨o,j,n,B,y,hs,F,r⟩
 ·obtain⟨z,j,r,p⟩:=h.ok I.hok;exact⟨j,r,p,z⟩
 ·refine{j.toList,r,{o,I.kIn a o B,y,n,by simpa using hs},?_}
  have e:=r.length;simp only[Si] at e;omega
def Inv.list_inj (I:Inv X pins σ H s)(h:dB X.K H a xs)(h':dB X.K H a ys):xs=ys:=by
 obtain⟨y,r,⟨o,n,e,_,_,d⟩,_⟩:=I.list h;obtain⟨j,F,⟨o',J,B,_,_,z⟩,_⟩:=I.list h';rw[e] at B;cases B;rw[d] at z;injection z with d1 _
 have:y=j:=by simpa using congrArg Array.toList d1
 subst this;exact r.inj F
def Inv.tuple_inj (I:Inv X pins σ H s)(h:dG X.K H a xs)(h':dG X.K H a ys):xs=ys:=by
 obtain⟨y,r,⟨o,e,_,n,d⟩,_⟩:=I.tuple h;obtain⟨j,F,⟨o',B,_,J,z⟩,_⟩:=I.tuple h';rw[e] at B;cases B;rw[d] at z;injection z with d1 _
 have:y=j:=by simpa using congrArg Array.toList d1
 subst this;exact r.inj F
end
section
variable{X:Cx}{st:Stmt}{rest:List Stmt}{t u:TS}{e:Expr}{te:TE}{pos:Pos}
def Ec:TS:=λD σ H=>D.nx σ H
def Ox (t u:TS):TS:=λD σ H=>t {D with nx:=u D} σ H
def qz:kM X [] Ec:=λ_ _ σ H _ I h=>wpAny_execs_nil ⟨σ,H,I,h⟩
def lu (h1:PS X st t)(h2:kM X rest u):kM X (st::rest) (Ox t u):=by
 intro pins s σ H D I h;refine wpAny_execs_cons (aW (h1 pins s σ H {D with nx:=u D} I h) λf s1 q=>?_)
 cases f with
 | next =>
   obtain⟨j,H',y,q⟩:=q;exact h2 pins s1 j H' D y q
 |ret v=>exact q
 |brk=>exact q
 |cont=>exact q
def Ml:TS:=λD σ H=>D.ct σ H
def GK:PS X (.Pass pos) Ec:=λ_ _ σ H _ I h=>wpAny_Pass ⟨σ,H,I,h⟩
def vm:PS X (.Continue pos) Ml:=λ_ _ σ H _ I h=>wpAny_Continue ⟨σ,H,I,h⟩
def Inv.quiet {pins:List (Addr×Obj)}{σ:St}{H:Hp}{s:Qf}(I:Inv X pins σ H s):interactive X.env=false:=by simp[interactive,I.ok.kind]
def Mj (te:TE):TS:=λD σ H=>te σ H λ_ H1=>D.nx σ H1
def nE (he:PE X e te)(hs:swapsWith e none pos.line X.env=pure false:=by rfl):PS X (.Expr e pos) (Mj te):=by
 intro pins s σ H D I h;exact wpAny_Expr_any (aW (he pins s σ H _ I h) λv s1 ⟨x,H1,j,r1,y⟩=>⟨σ,H1,j,y⟩) I.quiet hs
def Oy (te:TE):TS:=λD σ H=>te σ H D.rt
def zV (he:PE X e te):PS X (.Return (some e) pos) (Oy te):=by
 intro pins s σ H D I h;exact wpAny_Return_some (aW (he pins s σ H _ I h) λv s1 ⟨x,H1,j,r1,y⟩=>⟨x,σ,H1,j,r1,y⟩)
def Mg:TS:=λD _ H=>D.rt .non H
def GJ:PS X (.Return none pos) Mg:=λ_ _ σ H _ I h=>wpAny_Return_none {.non,σ,H,I,rfl,h}
def OC (c:TT)(t u:TS):TS:=λD σ H=>c σ H λb H1=>if b=true then t D σ H1 else u D σ H1
def El {c:Expr}{a b:List Stmt}{tc:TT}(F:PT X c tc)(z:kM X a t)(B:kM X b u):PS X (.If c a b pos) (OC tc t u):=by
 intro pins s σ H D I h;refine wpAny_If (aW (F pins s σ H _ I h) λd s1 ⟨H1,j,y⟩=>?_);cases d with
 |true=>exact z pins s1 σ H1 D j y
 |false=>exact B pins s1 σ H1 D j y
end
abbrev TG:=V->St->Hp->(St->Hp->Prop)->Prop
abbrev sm:=List V->St->Hp->(St->Hp->Prop)->Prop
def PG (X:Cx)(j:Expr)(t:TG):Prop:=
 ∀(pins:List (Addr×Obj)) (s:Qf) (σ:St) (H:Hp) (v:V) (u:Qb) (Q:St->Hp->Prop),Inv X pins σ H s->RelV v u->t v σ H Q->
  wpAny (model X.prog X.w) X.A (assign j X.env u) (λ_ s'=>∃y H',Inv X pins y H' s'/\Q y H') X.xe s
def vg (X:Cx)(ts:List Expr)(t:sm):Prop:=
 ∀(pins:List (Addr×Obj)) (s:Qf) (σ:St) (H:Hp) (z:List V) (y:List Qb) (Q:St->Hp->Prop),Inv X pins σ H s->Vals z y->t z σ H Q->
  wpAny (model X.prog X.w) X.A (assignInOrder ((assignEach ts X.env).map (·.2)) y) (λ_ s'=>∃j H',Inv X pins j H' s'/\Q j H') X.xe s
abbrev yr:=V->V->V->Hp->(Hp->Prop)->Prop
def Dz (X:Cx)(t:yr):Prop:=
 ∀(pins:List (Addr×Obj)) (s:Qf) (σ:St) (H:Hp) (o i v:V) (y j u:Qb) (Q:Hp->Prop),Inv X pins σ H s->RelV o y->RelV i j->RelV v u->t o i v H Q->
  wpAny (model X.prog X.w) X.A (setItem y j u) (λ_ s'=>∃H',Inv X pins σ H' s'/\Q H') X.xe s
section
variable{X:Cx}{pos:Pos}
def MV (i:Nat):TG:=λv σ H Q=>Q (σ.set i (some v)) H
def qB {i:Nat}{x:Str}(y:X.N.Nodup)(hi:X.N[i]?=some x)(B:Loc X.env.scope x)(z:X.fn x=true\/X.env.scope.names.lookup x=some .local:=by first|exact .inl rfl|exact .inr rfl|assumption):PG X (.Name x pos) (MV i):=by
 intro pins s σ H v u Q I r h;exact wpAny_assign_Name (B7 I y hi B r (λs' j=>{_,H,j,h}) z)
noncomputable def a9:sm:=λj σ H Q=>j=[]/\Q σ H
def aX (t:TG)(u:sm):sm:=λy σ H Q=>∃v r,y=v::r/\t v σ H λj H'=>u r j H' Q
def vO:vg X [] a9:=by
 intro pins s σ H y j Q I r h;obtain⟨e,h⟩:=h;subst e;cases r;exact assignInOrder_nil ⟨σ,H,I,h⟩
def oM {e:Expr}{es:List Expr}{t:TG}{u:sm}(h1:PG X e t)(h2:vg X es u)
 (hs:(assignEach (e::es) X.env).map (·.2)=assign e X.env::(assignEach es X.env).map (·.2):=by rfl):vg X (e::es) (aX t u):=by
 intro pins s σ H J F Q I r h;obtain⟨v,vr,e1,h⟩:=h;subst e1;cases r with
 | cons r B =>
   rw[hs];refine assignInOrder_cons (aW (h1 pins s σ H _ _ _ I r h) λ_ s1 ⟨j,H1,y,z⟩=>?_);exact h2 pins s1 j H1 _ _ Q y B z
def aM (K:Qa)(n:Nat)(t:sm):TG:=λv σ H Q=>∃a xs,v=.ref a/\dG K H a xs/\xs.length=n/\t xs σ H Q
def tQ {es:List Expr}{k:Nat}{t:sm}{n:Nat}(F:X.calm=true)(h:vg X es t)
 (hn:(assignEach es X.env).length=n:=by rfl) (j:(assignEach es X.env).findIdx? (·.1)=none:=by rfl):PG X (.Tuple es k pos) (aM X.K n t):=by
 intro pins s σ H v u Q I r y;obtain⟨a,xs,e1,J,hl,y⟩:=y;subst e1;cases r;obtain⟨O,z,L,R⟩:=I.tuple J;refine assign_Tuple_tuple (I.ok.hd F) L (by simp[hn,<- hl,z.length]) j λh' M=>?_
 have B:Inv X pins σ H {s with heap:=h'}:=I.kept (t':=s.toks) λb o e=>M b o (QN (Qz e)) e
 exact h pins _ σ H xs _ Q B (by simpa using z) y
def Ph (to y:TE)(t:yr):TG:=λv σ H Q=>to σ H λo H1=>y σ H1 λi H2=>t o i v H2 λj=>Q σ j
def Ab {o i:Expr}{to B:TE}{t:yr}(ho:PE X o to)(hi:PE X i B)(hs:Dz X t)
 (O:∀v,assign (.Subscript o i pos) X.env v=(do
  let j <- holding [v] (eval o X.env)
  let z <- holding [v,j] (eval i X.env)
  standAt pos
  holding [v,j,z] (setItem j z v)
  release [v,j,z] []):=by intro _;rfl):PG X (.Subscript o i pos) (Ph to B t):=by
 intro pins s σ H v u Q I r h;rw[O];refine tqa (tqo (aW (ho pins s σ H _ I h) λj s1 ⟨x,H1,J,r1,R⟩=>?_));refine tqa (tqo (aW (hi pins s1 σ H1 _ J R) λz s2 ⟨y,H2,L,r2,S⟩=>?_));refine tqa (wpAny_standAt (tqa (tqo (aW (hs pins s2 σ H2 x y v j z u _ L r1 r2 r S) λ_ W ⟨F,M,U⟩=>?_))));exact wpAny_release ⟨σ,F,M,U⟩
def OE (te:TE)(g:TG):TS:=λD σ H=>te σ H λx H1=>g x σ H1 D.nx
def pF {tg e:Expr}{te:TE}{g:TG}(he:PE X e te)(y:PG X tg g)(hs:swapsWithSole [tg] e pos.line X.env=pure false:=by rfl)(z:swappedStores [tg] e X.env=pure none:=by rfl)
 (h1:(assignEach [tg] X.env).map (·.2)=[assign tg X.env]:=by rfl):PS X (.Assign [tg] e pos) (OE te g):=by
 intro pins s σ H D I h;refine wpAny_Assign_stores (aW (he pins s σ H _ I h) λv s1 ⟨x,H1,j,r1,B⟩=>?_) hs z;rw[h1];exact aW (y pins s1 σ H1 x v _ j r1 B) λ_ s2 q=>q
end
section
variable{X:Cx}{pos:Pos}
def IU (c:TT)(tb:TS):TS:=λD σ H=>∃W:Nat->St->Hp->Prop,(∃m,W m σ H)/\∀m σ H,W m σ H->
 c σ H λb H1=>if b=true then ∃N:St->Hp->Prop,(∀j H',N j H'->∃y,y<m/\W y j H')/\tb {D with nx:=N,ct:=N,bk:=D.nx} σ H1 else D.nx σ H1
def Ct {c:Expr}{body:List Stmt}{tc:TT}{tb:TS}(Y:PassesOwn (model X.prog X.w) X.A X.env X.xe)(hc:PT X c tc)(hb:kM X body tb):PS X (.While c body [] pos) (IU tc tb):=by
 intro pins s σ H D I h;obtain⟨W,⟨m0,w0⟩,turn⟩:=h;refine wpAny_While (codeAny_whileLoop (λn s'=>∃B H',Inv X pins B H' s'/\W n B H') ?_ m0 ⟨σ,H,I,w0⟩);rintro n s1 ⟨y,H1,I1,w1⟩;refine wpAny_passesOwn Y (aW (hc pins s1 y H1 _ I1 (turn n y H1 w1)) λb s2 ⟨H2,S,F⟩=>?_);cases b with
 | true =>
   obtain⟨N,U,F⟩:=F;rw[if_pos rfl];refine wpAny_passesOwn Y (aW (hb pins s2 y H2 _ S F) λf s3 J=>?_);cases f with
   | next =>
     obtain⟨j,z,L,O⟩:=J;obtain⟨M,hm,R⟩:=U j z O;exact⟨M,hm,j,z,L,R⟩
   | cont =>
     obtain⟨j,z,L,O⟩:=J;obtain⟨M,hm,R⟩:=U j z O;exact⟨M,hm,j,z,L,R⟩
   |brk=>exact J
   |ret v=>exact J
 | false =>
   rw[if_neg QF];exact wpAny_execs_nil ⟨y,H2,S,F⟩
end
structure It where
 go:Nat->Hp->Prop
 yld:Nat->Hp->V->Hp->Prop
 stop:Nat->Hp->Prop
def fK (X:Cx)(pins:List (Addr×Obj))(H:Hp)(b:Addr):Prop:=
 H b=none/\b≠X.env.locals/\b∉X.fs/\(b∈X.ex\/X.s₀.heap.objs.size<=b)/\(∀x c,X.env.cells.lookup x=some c->c≠b)/\∀p∈X.pn++pins,p.1≠b
def Inv.fpOk {X:Cx}{pins:List (Addr×Obj)}{σ:St}{H H':Hp}{s:Qf}{b:Addr}(I:Inv X pins σ H s)(j:s.heap.objs.size<=b)(hn:H' b=none):fK X pins H' b:=by
 refine{hn,Rj (QE I.lt j),I.nofs j,.inr (Qo I.sz j),λx c e z=>?_,λp y z=>?_}
 ·obtain⟨v,q⟩:=I.cell x c e;exact absurd (QE q.lt (by rw[z];exact j)) (Rz _)
 ·exact absurd (QE (Qz (I.pin p y).1) (by rw[z];exact j)) (Rz _)
structure Turn (P:Q5) (w:Q4) (K:Qa) (tg:Expr) (J:It) (fp:List Addr) (it:Addr) (tn:Nat->Heap->Prop):Prop where
 mem:it∈fp
 obj:∀i h,tn i h->∀b∈fp,∃o,h.get? b=some o/\∀v,o.data≠.cell v
 keep:∀i h h',tn i h->(∀b∈fp,∀o,h.get? b=some o->h'.get? b=some o)->tn i h'
 item:∀(X:Cx),X.prog=P->X.w=w->X.K=K->X.calm=true->∀(i:Nat) (pins:List (Addr×Obj)) (s:Qf) (σ:St) (H:Hp) (E:Qb->Qf->Prop),Inv X pins σ H s->(∀b∈fp,fK X pins H b)->tn i s.heap->J.go i H->
  wpAny (model P w) X.A (pyNext (.ref it)) (λr s1=>∃u,r=some u/\
   wpAny (model P w) X.A (letOwnedTupleGo tg (.ref it) u) (λ_ s2=>∃x H',Inv X pins σ H' s2/\RelV x u/\J.yld i H x H'/\tn (i+1) s2.heap/\∀b∈fp,H' b=none) E s1) E s
 done:∀(X:Cx),X.prog=P->X.w=w->X.K=K->X.calm=true->∀(i:Nat) (pins:List (Addr×Obj)) (s:Qf) (σ:St) (H:Hp) (E:Qb->Qf->Prop),Inv X pins σ H s->(∀b∈fp,fK X pins H b)->tn i s.heap->J.stop i H->
  wpAny (model P w) X.A (pyNext (.ref it)) (λr s1=>r=none/\Inv X pins σ H s1) E s
 self:∀(A:RL) (i:Nat) (s:Qf) (Q:Qb->Qf->Prop) (E:Qb->Qf->Prop),tn i s.heap->Q (.ref it) s->wpAny (model P w) A (pyIter (.ref it)) Q E s
abbrev TI:=St->Hp->(It->Hp->Prop)->Prop
def LZ (X:Cx)(pins:List (Addr×Obj))(σ:St)(tg:Expr)(R:It->Hp->Prop)(j:Qb)(s2:Qf):Prop:=
 ∃(z:Addr) (y:List Addr) (B:Nat->Heap->Prop) (J:It) (H':Hp),j=.ref z/\Inv X pins σ H' s2/\Turn X.prog X.w X.K tg J y z B/\B 0 s2.heap/\(∀b∈y,fK X pins H' b)/\R J H'
def PI (X:Cx)(tg j:Expr)(y:TI):Prop:=
 ∀(pins:List (Addr×Obj)) (s:Qf) (σ:St) (H:Hp) (R:It->Hp->Prop),Inv X pins σ H s->y σ H R->
  wpAny (model X.prog X.w) X.A (eval j X.env) (λv s1=>wpAny (model X.prog X.w) X.A (pyIter v) (LZ X pins σ tg R) X.xe s1) X.xe s
def sI {M:Model}{A:RL}{E:Qb->Qf->Prop}{s:Qf}{tg:Expr}{y:Addr}{u:Qb}{o:Obj}{n:String}{vs:Array Qb}{Q:Unit->Qf->Prop}(ho:s.heap.get? y=some o)(z:o.cls=.type n)(hd:o.data=.fields vs)
 (hn:["enumerate","zip","dict_itemiterator","dict_reverseitemiterator","odict_iterator","itertools.zip_longest","itertools.pairwise"].contains n=false) (j:Q () s):wpAny M A (letOwnedTupleGo tg (.ref y) u) Q E s:=by
 unfold letOwnedTupleGo;cases tg<;>first
  |exact tqb j
  |(cases u<;>first
   |exact tqb j
   | (refine tqa (wpAny_load ho ?_)
      rw[z,hd];show wpAny M A (if (["enumerate","zip","dict_itemiterator","dict_reverseitemiterator","odict_iterator","itertools.zip_longest","itertools.pairwise"].contains n&&vs[0]?==some (rawInt _))=true then _ else _) Q E s;rw[if_neg (by intro h;rw[hn,Bool.false_and] at h;cases h)]
      exact tqb j))
def L6 (K:Qa)(a:Addr):It:=
 {λi H=>∃xs x,dB K H a xs/\xs[i]?=some x,λi H x H'=>H'=H/\∀xs,dB K H a xs->xs[i]?=some x,λi H=>∃xs,dB K H a xs/\xs.length<=i}
def L5 (K:Qa)(a:Addr):It:=
 {λi H=>∃xs x,dG K H a xs/\xs[i]?=some x,λi H x H'=>H'=H/\∀xs,dG K H a xs->xs[i]?=some x,λi H=>∃xs,dG K H a xs/\xs.length<=i}
def Fu (lo:Int)(n:Nat):It:={λi _=>i<n,λi H x H'=>H'=H/\x=.int (lo+i),λi _=>n<=i}
def zh {P:Q5}{w:Q4}{K:Qa}{tg:Expr}(a y:Addr):Turn P w K tg (L6 K a) [y] y (λi h=>h.IsListIter y a i) where
 mem:=`s
 obj:=λi h st b j=>by
  have e:b=y:=by simpa using j
  subst e;obtain⟨o,e,c,d⟩:=st;exact{o,e,λv z=>by rw[d] at z;cases z}
 keep:=λi h h' st k=>st.at λo e=>k y `s o e
 item:=by
  intro X U hw S hc i pins s σ H E I F st Y;subst U hw S;obtain⟨xs,x,J,hx⟩:=Y;obtain⟨its,rv,p,hz⟩:=I.list J;obtain⟨u,hu,ru⟩:=rv.get hx;obtain⟨L,f1,f2,M,O,R⟩:=F y `s
  refine wpAny_pyNext_list_item st p.isList (x:=u) (by simpa using hu) λh' B sb=>?_
  have I1:Inv X pins σ H {s with heap:=h'}:=I.turned (t':=s.toks) (λb o j e=>(sb.2 b j).trans e) L f1 M O R
  obtain⟨o,e,c,d⟩:=id B;exact{u,rfl,sI (s:={s with heap:=h'}) e c d `d {x,H,I1,ru,{rfl,λys hy=>by rw[I.list_inj hy J];exact hx},B,λb j=>(F b j).1}}
 done:=by
  intro X U hw S hc i pins s σ H E I F st Y;subst U hw S;obtain⟨xs,J,hx⟩:=Y;obtain⟨its,rv,p,hz⟩:=I.list J;obtain⟨L,f1,f2,M,O,R⟩:=F y `s
  have hl:=rv.length;exact wpAny_pyNext_list_end (I.ok.hd hc) st p.isList `o λh' eb=>{rfl,I.turned (t':=s.toks) (λb o j e=>eb b o j e) L f1 M O R}
 self:=λ_ _ _ _ _ st h=>wpAny_pyIter_listiter st h
def xg {P:Q5}{w:Q4}{K:Qa}{tg:Expr}(a y:Addr):Turn P w K tg (L5 K a) [y] y (λi h=>h.IsTupleIter y a i) where
 mem:=`s
 obj:=λi h st b j=>by
  have e:b=y:=by simpa using j
  subst e;obtain⟨o,e,c,d⟩:=st;exact{o,e,λv z=>by rw[d] at z;cases z}
 keep:=λi h h' st k=>st.at λo e=>k y `s o e
 item:=by
  intro X Y hw U hc i pins s σ H E I J st hg;subst Y hw U;obtain⟨xs,x,L,hx⟩:=hg;obtain⟨B,rv,p,hz⟩:=I.tuple L;obtain⟨u,hu,ru⟩:=rv.get hx;obtain⟨M,f1,f2,O,R,S⟩:=J y `s
  refine wpAny_pyNext_tuple_item st (show s.heap.IsTuple a B.toArray from p) (x:=u) (by simpa using hu) λh' F sb=>?_
  have I1:Inv X pins σ H {s with heap:=h'}:=I.turned (t':=s.toks) (λb o j e=>(sb.2 b j).trans e) M f1 O R S
  obtain⟨o,e,c,d⟩:=id F;exact{u,rfl,sI (s:={s with heap:=h'}) e c d `d {x,H,I1,ru,{rfl,λys hy=>by rw[I.tuple_inj hy L];exact hx},F,λb j=>(J b j).1}}
 done:=by
  intro X Y hw U hc i pins s σ H E I J st hg;subst Y hw U;obtain⟨xs,L,hx⟩:=hg;obtain⟨B,rv,p,hz⟩:=I.tuple L;obtain⟨M,f1,f2,O,R,S⟩:=J y `s
  have hl:=rv.length;exact wpAny_pyNext_tuple_end (I.ok.hd hc) st (show s.heap.IsTuple a B.toArray from p) `o λh' eb=>{rfl,I.turned (t':=s.toks) (λb o j e=>eb b o j e) M f1 O R S}
 self:=λ_ _ _ _ _ st h=>wpAny_pyIter_tupleiter st h
def xh {P:Q5}{w:Q4}{K:Qa}{tg:Expr}(j:Addr)(lo:Int)(n:Nat):Turn P w K tg (Fu lo n) [j] j (λi h=>IsRangeIter h j (lo+(i:Nat)*1) ((n:Int)-(i:Nat)) 1) where
 mem:=`s
 obj:=λi h st b y=>by
  have e:b=j:=by simpa using y
  subst e;exact{_,st,λv z=>by
   have z':Data.fields _=Data.cell v:=z;cases z'}
 keep:=λi h h' st k=>k j `s _ st
 item:=by
  intro X S hw R U i pins s σ H E I F st Y;subst S hw R;obtain⟨J,f1,f2,L,M,O⟩:=F j `s
  have W:=Walks.range (prog:=X.prog) (w:=X.w) (I.ok.hd U) j lo 1 n;refine W.item i s _ _ Y st λv h' tk hv B kk=>?_;obtain⟨t,rfl⟩:=hv;have I1:Inv X pins σ H {s with heap:=h',toks:=tk}:=I.turned (λb o y e=>kk b o (by simpa using y) e) J f1 L M O
  refine{_,rfl,sI (s:={s with heap:=h',toks:=tk}) (n:="range_iterator") B rfl rfl `d {.int (lo+i),H,I1,{t,?_},⟨rfl,rfl⟩,B,λb y=>(F b y).1}}
  rw[Int.mul_one]
 done:=by
  intro X S hw R U i pins s σ H E I F st Y;subst S hw R;obtain⟨J,f1,f2,L,M,O⟩:=F j `s
  exact wpAny_pyNext_range_end (I.ok.hd U) st (by have:n<=i:=Y;omega) λh' eb=>{rfl,I.turned (t':=s.toks) (λb o y e=>eb b o y e) J f1 L M O}
 self:=λ_ _ _ _ _ st h=>wpAny_pyIter_rangeiter st h
section
variable{X:Cx}{tg:Expr}
def MT (K:Qa)(tl:TE):TI:=λσ H R=>tl σ H λx H1=>∃a,x=.ref a/\(∃xs,dB K H1 a xs)/\R (L6 K a) H1
def Pf (K:Qa)(tl:TE):TI:=λσ H R=>tl σ H λx H1=>∃a,x=.ref a/\(∃xs,dG K H1 a xs)/\R (L5 K a) H1
def GP {l:Expr}{tl:TE}(hl:PE X l tl):PI X tg l (MT X.K tl):=by
 intro pins s σ H R I h;refine aW (hl pins s σ H _ I h) λv s1 ⟨x,H1,j,r1,F⟩=>?_;obtain⟨a,e,⟨xs,z⟩,q⟩:=F;subst e;cases r1;obtain⟨B,L,p,J⟩:=j.list z;refine wpAny_pyIter_list p.isList ?_;refine{s1.heap.objs.size,[s1.heap.objs.size],_,_,H1,rfl,j.kept (t':=s1.toks) λb o e=>Qd _ e,zh a _,{_,QA _ rfl,rfl,rfl},λb y=>?_,q};have e:b=s1.heap.objs.size:=by simpa using y
 subst e;exact j.fpOk (Qe _) (j.hok.fresh (Qe _))
def JK {l:Expr}{tl:TE}(hl:PE X l tl):PI X tg l (Pf X.K tl):=by
 intro pins s σ H R I h;refine aW (hl pins s σ H _ I h) λv s1 ⟨x,H1,j,r1,F⟩=>?_;obtain⟨a,e,⟨xs,B⟩,q⟩:=F;subst e;cases r1;obtain⟨y,L,p,J⟩:=j.tuple B;refine wpAny_pyIter_tuple (show s1.heap.IsTuple a y.toArray from p) ?_;refine{s1.heap.objs.size,[s1.heap.objs.size],_,_,H1,rfl,j.kept (t':=s1.toks) λb o e=>Qd _ e,xg a _,{_,QA _ rfl,rfl,rfl},λb z=>?_,q};have e:b=s1.heap.objs.size:=by simpa using z
 subst e;exact j.fpOk (Qe _) (j.hok.fresh (Qe _))
def Cq {pins:List (Addr×Obj)}{σ:St}{H:Hp}{s:Qf}{R:It->Hp->Prop}{E:Qb->Qf->Prop}{lo hi:Int}{t u v:Tok}{tk:Nat}(I:Inv X pins σ H s)(h1:-(2^62)<=lo)(h2:lo<2^62)(h3:-(2^62)<=hi)(h4:hi<2^62)
 (q:R (Fu lo (hi-lo).toNat) H):wpAny (model X.prog X.w) X.A (pyIter (.ref s.heap.objs.size)) (LZ X pins σ tg R) E {s with heap:=s.heap.push {cls:=.type "range",data:=.fields #[.int lo t,.int hi u,.int 1 v]},toks:=tk}:=by
 refine wpAny_pyIter_range (IsRange.new ..) (small_one h1 h2 h3 h4) ?_;have j:Inv X pins σ H {s with heap:=s.heap.push {cls:=.type "range",data:=.fields #[.int lo t,.int hi u,.int 1 v]},toks:=tk}:=I.kept λb o e=>Qd _ e
 refine{(s.heap.push {cls:=.type "range",data:=.fields #[.int lo t,.int hi u,.int 1 v]}).objs.size,[(s.heap.push {cls:=.type "range",data:=.fields #[.int lo t,.int hi u,.int 1 v]}).objs.size],_,_,H,rfl,
  j.kept (t':=tk) λb o e=>Qd _ e,xh _ lo (hi-lo).toNat,?_,λb y=>?_,q}
 ·have e1:lo+((0:Nat):Int)*1=lo:=`s
  have e2:(((hi-lo).toNat:Nat):Int)-((0:Nat):Int)=Builtin.Range.rangeSize lo hi 1:=by rw[rangeSize_one];split<;>omega
  show IsRangeIter _ _ (lo+((0:Nat):Int)*1) ((((hi-lo).toNat:Nat):Int)-((0:Nat):Int)) 1;rw[e1,e2];exact QA _ rfl
 ·have e:b=(s.heap.push {cls:=.type "range",data:=.fields #[.int lo t,.int hi u,.int 1 v]}).objs.size:=by simpa using y
  subst e;exact j.fpOk (Qe _) (j.hok.fresh (Qe _))
def MS (ta:TA):TI:=λσ H R=>ta σ H λy H1=>∃j:Int,y=[.int j]/\-(2^62)<=j/\j<2^62/\R (Fu 0 j.toNat) H1
def Aa {a:Expr}{ta:TA}{p pos:Pos}(F:Gl X "range")(hm:X.mg "range"=none)(B:PA X [a] ta)(hs:starEach [a] X.env=[(false,eval a X.env)]:=by rfl):PI X tg (.Call (.Name "range" p) [a] [] pos) (MS ta):=by
 intro pins s σ H R I h;refine Call_ (gV I F hm boot_range (RR (aW (B pos pins s σ H _ I h) λM s1 ⟨O,H1,z,r1,y⟩=>?_) hs rfl));obtain⟨j,e,y,J,q⟩:=y;subst e;cases r1 with
 | cons r L =>
   cases L;obtain⟨t,rfl⟩:=r;exact call_range_1 (Cq z `a `a y J (by simpa using q))
def OD (wi:TI)(g:TG)(tb:TS):TS:=λD σ H=>wi σ H λJ H1=>∃W:Nat->Nat->St->Hp->Prop,(∃m,W 0 m σ H1)/\∀i m σ H,W i m σ H->
 (J.stop i H/\D.nx σ H)\/(J.go i H/\∃N:St->Hp->Prop,(∀σ' H',N σ' H'->∃m',m'<m/\W (i+1) m' σ' H')/\∀x H',J.yld i H x H'->g x σ H' λσ2 H2=>tb {D with nx:=N,ct:=N,bk:=D.nx} σ2 H2)
noncomputable def pG (j:List Addr)(h:Heap):List (Addr×Obj):=j.filterMap λb=>(h.get? b).map λo=>(b,o)
def iU {j:List Addr}{h:Heap}{b:Addr}{o:Obj}(y:b∈j)(e:h.get? b=some o):(b,o)∈pG j h:=List.mem_filterMap.mpr {b,y,by rw[e];rfl}
def Ag {j:List Addr}{h:Heap}{p:Addr×Obj}(B:p∈pG j h):p.1∈j/\h.get? p.1=some p.2:=by
 obtain⟨b,z,e⟩:=List.mem_filterMap.mp B;cases q:h.get? b with
 |none=>rw[q] at e;cases e
 | some o =>
   rw[q] at e;have y:(b,o)=p:=Qr e;subst y;exact⟨z,q⟩
def Inv.pinned {pins:List (Addr×Obj)}{σ:St}{H:Hp}{s:Qf}{j:List Addr}(I:Inv X pins σ H s)(L:∀b∈j,fK X pins H b)(ho:∀b∈j,∃o,s.heap.get? b=some o/\∀v,o.data≠.cell v):Inv X (pins++pG j s.heap) σ H s:=
 I.pins_of λp M=>(QH.mp M).elim (λz=>I.pin p (QY _ z)) λz=>by
  obtain⟨B,e⟩:=Ag z;obtain⟨F,f1,J,_⟩:=L p.1 B;obtain⟨o,y,d⟩:=ho p.1 B;rw[e] at y;cases y;exact⟨e,F,f1,J,d⟩
def Inv.unpinned {pins pl:List (Addr×Obj)}{σ:St}{H:Hp}{s:Qf}(I:Inv X (pins++pl) σ H s):Inv X pins σ H s:=I.pins_of λp j=>I.pin p (QY _ (Rh _ j))
def JH {L:Expr}{body:List Stmt}{wi:TI}{g:TG}{tb:TS}{pos:Pos}(hp:PassesOwn (model X.prog X.w) X.A X.env X.xe)(hc:X.calm=true)(hi:PI X tg L wi)(hg:PG X tg g)(F:kM X body tb)
 (hs:∀x,foldedSetIterable L X.env x=pure x:=by intro _;rfl):PS X (.For tg L body [] pos) (OD wi g tb):=by
 intro pins s σ H D I h;refine wpAny_For (aW (hi pins s σ H _ I h) λv s1 h1=>aW h1 λitv s2 h2=>?_) hs;obtain⟨it,Y,tn,J,H2,e,I2,T,st2,f2,W,⟨m0,w0⟩,turn⟩:=h2;subst e;have M:∀{H':Hp},(∀b∈Y,H' b=none)->∀b∈Y,fK X pins H' b:=λhn b F=>{hn b F,(f2 b F).2};refine codeAny_forLoop_any (λn s'=>∃i O H',Inv X pins O H' s'/\tn i s'.heap/\(∀b∈Y,H' b=none)/\W i n O H') ?_ m0 {0,σ,H2,I2,st2,λb F=>(f2 b F).1,w0};rintro n s3 ⟨i,R,H3,I3,st3,fr3,w3⟩;rcases turn i n R H3 w3 with⟨stop,qn⟩|⟨go,N,hN,step⟩
 ·refine wpAny_passesOwn hp (aW (T.done X rfl rfl rfl hc i pins s3 R H3 X.xe I3 (M fr3) st3 stop) λr s4 ⟨hr,I4⟩=>?_);subst hr;exact wpAny_execs_nil ⟨R,H3,I4,qn⟩
 ·refine wpAny_passesOwn hp (aW (T.item X rfl rfl rfl hc i pins s3 R H3 X.xe I3 (M fr3) st3 go) λr s4 ⟨u,hr,h4⟩=>?_);subst hr;refine wpAny_passesOwn hp (aW h4 λ_ s5 ⟨x,H5,I5,r5,y5,U,fr5⟩=>?_);have I5':=I5.pinned (M fr5) (T.obj _ _ U);refine wpAny_passesOwn hp (aW (hg _ s5 R H5 x u _ I5' r5 (step x H5 y5)) λ_ s6 ⟨σ6,H6,I6,q6⟩=>?_);refine wpAny_passesOwn hp (aW (F _ s6 σ6 H6 _ I6 q6) λf s7 S=>?_);have B:∀{j:St}{y:Hp},Inv X (pins++pG Y s5.heap) j y s7->N j y->∃m,m<n/\∃i O H',Inv X pins O H' s7/\tn i s7.heap/\(∀b∈Y,H' b=none)/\W i m O H':=λ{j y} z n7=>by
   obtain⟨m',hm,w7⟩:=hN j y n7;refine{m',hm,i+1,j,y,z.unpinned,T.keep _ _ _ U λb F o e=>(z.pin (b,o) (QY _ (QY _ (iU F e)))).1,λb F=>?_,w7};obtain⟨o,e,d⟩:=T.obj _ _ U b F;exact(z.pin (b,o) (QY _ (QY _ (iU F e)))).2.1
  cases f with
  |next=>obtain⟨j,y,z,n7⟩:=S;exact B z n7
  |cont=>obtain⟨j,y,z,n7⟩:=S;exact B z n7
  |brk=>obtain⟨j,y,z,S⟩:=S;exact⟨j,y,z.unpinned,S⟩
  |ret v=>obtain⟨x7,j,y,z,r7,S⟩:=S;exact⟨x7,j,y,z.unpinned,r7,S⟩
end
abbrev R2:=V->V->Hp->VK->Prop
def bM (X:Cx)(f:Qb->Qb->Sem Qb)(r:R2):Prop:=
 ∀(pins:List (Addr×Obj)) (s:Qf) (σ:St) (H:Hp) (x y:V) (v u:Qb) (Q:VK),Inv X pins σ H s->RelV x v->RelV y u->r x y H Q->
  wpAny (model X.prog X.w) X.A (f v u) (EP X pins σ Q) X.xe s
def LX (X:Cx)(f:Qb->Sem Qb)(r:V->Hp->VK->Prop):Prop:=
 ∀(pins:List (Addr×Obj)) (s:Qf) (σ:St) (H:Hp) (x:V) (v:Qb) (Q:VK),Inv X pins σ H s->RelV x v->r x H Q->
  wpAny (model X.prog X.w) X.A (f v) (EP X pins σ Q) X.xe s
def cy (X:Cx)(f:Qb)(r:List V->Hp->VK->Prop):Prop:=
 ∀(pins:List (Addr×Obj)) (s:Qf) (σ:St) (H:Hp) (xs:List V) (j:List Qb) (Q:VK),Inv X pins σ H s->Vals xs j->r xs H Q->
  wpAny (model X.prog X.w) X.A (call f j) (EP X pins σ Q) X.xe s
def PD (X:Cx)(r:V->Hp->(Bool->Hp->Prop)->Prop):Prop:=
 ∀(pins:List (Addr×Obj)) (s:Qf) (σ:St) (H:Hp) (x:V) (v:Qb) (Q:Bool->Hp->Prop),Inv X pins σ H s->RelV x v->r x H Q->
  wpAny (model X.prog X.w) X.A (truthy v) (TP X pins σ Q) X.xe s
def zr (r:R2)(ta tb:TE):TE:=λσ H Q=>ta σ H λx H1=>tb σ H1 λy H2=>r x y H2 Q
def tUn (r:V->Hp->VK->Prop)(ta:TE):TE:=λσ H Q=>ta σ H λx H1=>r x H1 Q
def rI (C:Int->Int->Prop)(g:Int->Int->V):R2:=λx y H Q=>∃i j,x=.int i/\y=.int j/\C i j/\Q (g i j) H
def rE (g:Int->Int->V):R2:=λx y H Q=>∃i j,x=.int i/\y=.int j/\Q (g i j) H
def rU (g:Int->V):V->Hp->VK->Prop:=λx H Q=>∃i,x=.int i/\Q (g i) H
section
variable{X:Cx}{a b c:Expr}{ta tb tc:TE}{pos:Pos}
def Dt (J:PE X a ta)(L:PE X b tb){pins:List (Addr×Obj)}{s:Qf}{σ:St}{H:Hp}{R:V->V->Hp->Prop}(I:Inv X pins σ H s)
 (h:ta σ H λx H1=>tb σ H1 λy H2=>R x y H2) {Q:Qb->Qf->Prop}{f:Qb->Qb->Sem Qb}
 (M:∀v u s2 x y H2,Inv X pins σ H2 s2->RelV x v->RelV y u->R x y H2->wpAny (model X.prog X.w) X.A (f v u) Q X.xe s2) :
 wpAny (model X.prog X.w) X.A (eval a X.env) (λv j=>wpAny (model X.prog X.w) X.A (eval b X.env) (λu z=>wpAny (model X.prog X.w) X.A (f v u) Q X.xe z) X.xe j) X.xe s:=by
 refine aW (J pins s σ H _ I h) λv s1 ⟨x,H1,B,r1,O⟩=>?_;refine aW (L pins s1 σ H1 _ B O) λu s2 ⟨y,H2,F,r2,S⟩=>?_;exact M v u s2 x y H2 F r1 r2 S
def Mz {op:Operator}{r:R2}(ho:bM X (binaryOp op) r)(z:PE X a ta)(B:PE X b tb):PE X (.BinOp a op b pos) (zr r ta tb):=by
 intro pins s σ H Q I h;exact wpAny_BinOp (Dt z B I h λv u s2 x y H2 j F J q=>ho pins s2 σ H2 x y v u Q j F J q)
def Mx {op:UnaryOp}{r:V->Hp->VK->Prop}(ho:LX X (unaryOp op) r)(y:PE X a ta):PE X (.UnaryOp op a pos) (tUn r ta):=by
 intro pins s σ H Q I h;exact UnaryOp_ (aW (y pins s σ H _ I h) λv s1 ⟨x,H1,j,r1,z⟩=>ho pins s1 σ H1 x v Q j r1 z)
def Eo {f:Qb->Qb->Sem Qb}{C:Int->Int->Prop}{g:Int->Int->Int}
 (rule:∀(i j:Int) (t u:Tok) (s:Qf) (Q:Qb->Qf->Prop) (E:Qb->Qf->Prop),C i j->Q (.int (g i j) s.toks) {s with toks:=s.toks+1}->wpAny (model X.prog X.w) X.A (f (.int i t) (.int j u)) Q E s) :
 bM X f (rI C λi j=>.int (g i j)):=by
 intro pins s σ H x y v u Q I B F h;obtain⟨i,j,rfl,rfl,z,q⟩:=h;obtain⟨t,rfl⟩:=B;obtain⟨J,rfl⟩:=F;exact rule i j t J s _ _ z {.int (g i j),H,I.tok _,{_,rfl},q}
def J1 {f:Qb->Qb->Sem Qb}{g:Int->Int->Int}
 (rule:∀(i j:Int) (t u:Tok) (s:Qf) (Q:Qb->Qf->Prop) (E:Qb->Qf->Prop),Q (.int (g i j) s.toks) {s with toks:=s.toks+1}->wpAny (model X.prog X.w) X.A (f (.int i t) (.int j u)) Q E s) :
 bM X f (rE λi j=>.int (g i j)):=by
 intro pins s σ H x y v u Q I z B h;obtain⟨i,j,rfl,rfl,q⟩:=h;obtain⟨t,rfl⟩:=z;obtain⟨F,rfl⟩:=B;exact rule i j t F s _ _ {.int (g i j),H,I.tok _,{_,rfl},q}
def xD {f:Qb->Qb->Sem Qb}{g:Int->Int->Bool}
 (rule:∀(i j:Int) (t u:Tok) (s:Qf) (Q:Qb->Qf->Prop) (E:Qb->Qf->Prop),Q (.bool (g i j)) s->wpAny (model X.prog X.w) X.A (f (.int i t) (.int j u)) Q E s) :
 bM X f (rE λi j=>.bl (g i j)):=by
 intro pins s σ H x y v u Q I z B h;obtain⟨i,j,rfl,rfl,q⟩:=h;obtain⟨t,rfl⟩:=z;obtain⟨F,rfl⟩:=B;exact rule i j t F s _ _ {.bl (g i j),H,I,rfl,q}
def Mb (i j:Int):Prop:=0<j/\j<1073741824
def Ma (i j:Int):Prop:=0<=j/\j<=1000000/\i.natAbs<2^64
def DF (i j:Int):Prop:=(-(2^64)<i/\i<2^64)\/(-(2^64)<j/\j<2^64)
def DF.ok {i j:Int}(h:DF i j):IntMulOk i j:=by
 rcases h with⟨h1,h2⟩|⟨h1,h2⟩
 ·exact .of_left (intBits_le_64 h1 h2)
 ·exact .of_right (intBits_le_64 h1 h2)
def J0:bM X (binaryOp .Add) (rE λi j=>.int (i+j)):=J1 λ_ _ _ _ _ _ _ q=>add_int q
def JT:bM X (binaryOp .Sub) (rE λi j=>.int (i-j)):=J1 λ_ _ _ _ _ _ _ q=>sub_int q
def JW:bM X (binaryOp .Mult) (rI DF λi j=>.int (i*j)):=Eo λ_ _ _ _ _ _ _ y q=>mul_int q y.ok
def GY:bM X (binaryOp .FloorDiv) (rI Mb λi j=>.int (i / j)):=Eo λi j _ _ _ _ _ y q=>by
 have h1:(0:Int)<j:=y.1;have h2:j<1073741824:=y.2;exact floordiv_int `a (by rw[Int.fdiv_eq_ediv_of_nonneg i `a];exact q) (.inl (PyProof.noPylong_small `a))
def JX:bM X (binaryOp .Mod) (rI (λ_ j=>0<j) λi j=>.int (i % j)):=Eo λi j _ _ _ _ _ y q=>by
 have h1:(0:Int)<j:=y;exact mod_int' `a (by rw[Int.fmod_eq_emod_of_nonneg i `a];exact q)
def JV:bM X (binaryOp .Pow) (rI Ma λi j=>.int (i^j.toNat)):=Eo λ_ _ _ _ _ _ _ y q=>pow_int_small y.1 y.2.1 y.2.2 q
def unI {f:Qb->Sem Qb}{g:Int->Int}
 (rule:∀(i:Int) (t:Tok) (s:Qf) (Q:Qb->Qf->Prop) (E:Qb->Qf->Prop),Q (.int (g i) s.toks) {s with toks:=s.toks+1}->wpAny (model X.prog X.w) X.A (f (.int i t)) Q E s) :
 LX X f (rU λi=>.int (g i)):=by
 intro pins s σ H x v Q I j h;obtain⟨i,rfl,q⟩:=h;obtain⟨t,rfl⟩:=j;exact rule i t s _ _ {.int (g i),H,I.tok _,{_,rfl},q}
def IA:LX X (unaryOp .USub) (rU λi=>.int (-i)):=unI λ_ _ _ _ _ q=>neg_int q
end
noncomputable def Je:V->V->Bool
 |.non,.non=>true|.non,.int _=>true|.int _,.non=>true|.non,.bl _=>true|.bl _,.non=>true|.non,.str _=>true|.str _,.non=>true
 |.int _,.int _=>true|.bl _,.bl _=>true|.str _,.str _=>true|.byt _,.byt _=>true
 |.int _,.str _=>true|.str _,.int _=>true|.bl _,.str _=>true|.str _,.bl _=>true
 |_,_=>false
def rEq:R2:=λx y H Q=>Je x y=true/\Q (.bl (decide (x=y))) H
def rNe:R2:=λx y H Q=>Je x y=true/\Q (.bl (!decide (x=y))) H
def wJ {i j:Int}:decide (V.int i=V.int j)=(i==j):=by
 rw[Rb];simp
def A5 {i j:Bool}:decide (V.bl i=V.bl j)=(i==j):=by
 rw[Rb];simp
def nY {i j:Str}:decide (V.str i=V.str j)=(i==j):=by
 rw[Rb];simp
def wK {i j:Array UInt8}:decide (V.byt i=V.byt j)=(i.toList==j.toList):=by
 rw[Rb];cases i;cases j;simp
section
variable{X:Cx}{a b c:Expr}{ta tb tc:TE}{pos:Pos}
def bx {pins:List (Addr×Obj)}{σ:St}{H:Hp}{s:Qf}{Q:VK}{k k':Bool}(I:Inv X pins σ H s)(q:Q (.bl k) H)(e:k=k'):EP X pins σ Q (.bool k') s:=by
 subst e;exact{.bl k,H,I,rfl,q}
def MH:bM X (compareOp .Eq) rEq:=by
 intro pins s σ H x y v u Q I F z h;obtain⟨hs,q⟩:=h;cases x with
 | non =>
   cases F;cases y with
   |non=>cases z;exact PySem.EqNone.eq_none_none (bx I q `s)
   |bl j=>cases z;exact PySem.EqNone.eq_none_bool (bx I q `s)
   |int j=>obtain⟨B,rfl⟩:=z;exact PySem.EqNone.eq_none_int (bx I q `s)
   |str j=>obtain⟨B,rfl⟩:=z;exact PySem.EqNone.eq_none_str (bx I q `s)
   |_=>exact absurd (show false=true from hs) QF
 | bl i =>
   cases F;cases y with
   |non=>cases z;exact PySem.EqNone.eq_bool_none (bx I q `s)
   |bl j=>cases z;exact eq_bool (bx I q A5)
   |str j=>obtain⟨B,rfl⟩:=z;exact PySem.EqMixed.eq_bool_str (bx I q `s)
   |_=>exact absurd (show false=true from hs) QF
 | int i =>
   obtain⟨t,rfl⟩:=F;cases y with
   |non=>cases z;exact PySem.EqNone.eq_int_none (bx I q `s)
   |int j=>obtain⟨B,rfl⟩:=z;exact eq_int (bx I q wJ)
   |str j=>obtain⟨B,rfl⟩:=z;exact PySem.EqMixed.eq_int_str (bx I q `s)
   |_=>exact absurd (show false=true from hs) QF
 | str i =>
   obtain⟨t,rfl⟩:=F;cases y with
   |non=>cases z;exact PySem.EqNone.eq_str_none (bx I q `s)
   |bl j=>cases z;exact PySem.EqMixed.eq_str_bool (bx I q `s)
   |int j=>obtain⟨B,rfl⟩:=z;exact PySem.EqMixed.eq_str_int (bx I q `s)
   |str j=>obtain⟨B,rfl⟩:=z;exact eq_str (bx I q nY)
   |_=>exact absurd (show false=true from hs) QF
 | byt i =>
   obtain⟨t,rfl⟩:=F;cases y with
   |byt j=>obtain⟨B,rfl⟩:=z;exact PySem.W.eq_bytes (bx I q wK)
   |_=>exact absurd (show false=true from hs) QF
 |_=>cases y<;>exact absurd (show false=true from hs) QF
def MC:bM X (compareOp .NotEq) rNe:=by
 intro pins s σ H x y v u Q I F z h;obtain⟨hs,q⟩:=h;cases x with
 | non =>
   cases F;cases y with
   |non=>cases z;exact PySem.EqNone.ne_none_none (bx I q `s)
   |bl j=>cases z;exact PySem.EqNone.ne_none_bool (bx I q `s)
   |int j=>obtain⟨B,rfl⟩:=z;exact PySem.EqNone.ne_none_int (bx I q `s)
   |str j=>obtain⟨B,rfl⟩:=z;exact PySem.EqNone.ne_none_str (bx I q `s)
   |_=>exact absurd (show false=true from hs) QF
 | bl i =>
   cases F;cases y with
   |non=>cases z;exact PySem.EqNone.ne_bool_none (bx I q `s)
   |bl j=>cases z;exact ne_bool (bx I q (congrArg not A5))
   |str j=>obtain⟨B,rfl⟩:=z;exact PySem.EqMixed.ne_bool_str (bx I q `s)
   |_=>exact absurd (show false=true from hs) QF
 | int i =>
   obtain⟨t,rfl⟩:=F;cases y with
   |non=>cases z;exact PySem.EqNone.ne_int_none (bx I q `s)
   |int j=>obtain⟨B,rfl⟩:=z;exact ne_int (bx I q (congrArg not wJ))
   |str j=>obtain⟨B,rfl⟩:=z;exact PySem.EqMixed.ne_int_str (bx I q `s)
   |_=>exact absurd (show false=true from hs) QF
 | str i =>
   obtain⟨t,rfl⟩:=F;cases y with
   |non=>cases z;exact PySem.EqNone.ne_str_none (bx I q `s)
   |bl j=>cases z;exact PySem.EqMixed.ne_str_bool (bx I q `s)
   |int j=>obtain⟨B,rfl⟩:=z;exact PySem.EqMixed.ne_str_int (bx I q `s)
   |str j=>obtain⟨B,rfl⟩:=z;exact ne_str (bx I q (congrArg not nY))
   |_=>exact absurd (show false=true from hs) QF
 | byt i =>
   obtain⟨t,rfl⟩:=F;cases y with
   |byt j=>obtain⟨B,rfl⟩:=z;exact PySem.W.ne_bytes (bx I q (congrArg not wK))
   |_=>exact absurd (show false=true from hs) QF
 |_=>cases y<;>exact absurd (show false=true from hs) QF
def MD:bM X (compareOp .Lt) (rE λi j=>.bl (decide (i<j))):=xD λ_ _ _ _ _ _ _ q=>lt_int q
def ME:bM X (compareOp .LtE) (rE λi j=>.bl (decide (i<=j))):=xD λ_ _ _ _ _ _ _ q=>le_int q
def MF:bM X (compareOp .Gt) (rE λi j=>.bl (decide (j<i))):=xD λ_ _ _ _ _ _ _ q=>gt_int q
def MG:bM X (compareOp .GtE) (rE λi j=>.bl (decide (j<=i))):=xD λ_ _ _ _ _ _ _ q=>ge_int q
def Ae:bM X (compareOp .In) (λx y H Q=>∃i j,x=.str i/\y=.str j/\Q (.bl (!(Builtin.Str.occurrences j i 0 j.length 1).isEmpty)) H):=by
 intro pins s σ H x y v u Q I z B h;obtain⟨i,j,rfl,rfl,q⟩:=h;obtain⟨t,rfl⟩:=z;obtain⟨F,rfl⟩:=B;exact in_str (bx I q rfl)
def JY:bM X (compareOp .Is) (λx y H Q=>y=.non/\Q (.bl (decide (x=.non))) H):=by
 intro pins s σ H x y v u Q I j z h;obtain⟨rfl,q⟩:=h;cases z;refine is_none_gen (bx I q ?_);cases x<;>first
  |(cases j;rfl)
  |(obtain⟨t,rfl⟩:=j;rfl)
def GX:bM X (compareOp .IsNot) (λx y H Q=>y=.non/\Q (.bl (!decide (x=.non))) H):=by
 intro pins s σ H x y v u Q I j z h;obtain⟨rfl,q⟩:=h;cases z;refine isnot_none_gen (bx I q ?_);cases x<;>first
  |(cases j;rfl)
  |(obtain⟨t,rfl⟩:=j;rfl)
def tU:bM X (compareOp .NotIn) (λx y H Q=>∃i j,x=.str i/\y=.str j/\Q (.bl (!(!(Builtin.Str.occurrences j i 0 j.length 1).isEmpty))) H):=by
 intro pins s σ H x y v u Q I z B h;obtain⟨i,j,rfl,rfl,q⟩:=h;obtain⟨t,rfl⟩:=z;obtain⟨F,rfl⟩:=B;exact notIn_str (bx I q rfl)
def qC {op:CmpOp}{r:R2}(ho:bM X (compareOp op) r)(z:PE X a ta)(B:PE X b tb)(hm:behindInMarks op b=false):PE X (.Compare a [op] [b] pos) (zr r ta tb):=by
 intro pins s σ H Q I h;exact wpAny_Compare1 (Dt z B I h λv u s2 x y H2 j F J q=>ho pins s2 σ H2 x y v u Q j F J q) hm
def Eb (t:TE):TT:=λσ H Q=>t σ H λx H'=>∃k,x=.bl k/\Q k H'
def qy {op:CmpOp}{r:R2}(ho:bM X (compareOp op) r)(L:PE X a ta)(M:PE X b tb)(hm:behindInMarks op b=false):PT X (.Compare a [op] [b] pos) (Eb (zr r ta tb)):=by
 intro pins s σ H Q I h;refine wpAny_isTrue_Compare1 (aW (L pins s σ H _ I h) λv s1 ⟨x,H1,B,r1,O⟩=>aW (M pins s1 σ H1 _ B O) λu s2 ⟨y,H2,F,r2,R⟩=>
  aW (ho pins s2 σ H2 x y v u _ F r1 r2 R) λc W ⟨z,j,J,U,k,e,S⟩=>?_) hm
 subst e;cases U;exact tqp ⟨j,J,S⟩
def s8 (r r':R2)(ta tb tc:TE):TE:=λσ H Q=>ta σ H λx H1=>tb σ H1 λy H2=>r x y H2 λz j=>∃k,z=.bl k/\
 (if k=true then tc σ j λF B=>r' y F B Q else Q (.bl false) j)
def Cy {op j:CmpOp}{r r':R2}(ho:bM X (compareOp op) r)(B:bM X (compareOp j) r')(U:PE X a ta)(W:PE X b tb)(Y:PE X c tc)
 (hm:lastMarks [op,j] [b,c]=false:=by with_unfolding_all rfl):PE X (.Compare a [op,j] [b,c] pos) (s8 r r' ta tb tc):=by
 intro pins s σ H Q I h;refine Compare_chain (aW (U pins s σ H _ I h) λv s1 ⟨x,H1,O,r1,q1⟩=>chain_link (aW (W pins s1 σ H1 _ O q1) λu s2 ⟨y,H2,R,r2,q2⟩=>
  aW (ho pins s2 σ H2 x y v u _ R r1 r2 q2) λd s3 ⟨z,F,J,r3,k,e,L⟩=>?_)) hm
 subst e;cases r3;refine tqp ?_;cases k with
 |false=>exact ite_ff {.bl false,F,J,rfl,L}
 |true=>exact ite_tt (chain_last (aW (Y pins s3 σ F _ J L) λw' s4 ⟨z',M,S,r4,q4⟩=>B pins s4 σ M y z' u w' Q S r2 r4 q4))
def Cs {op j:CmpOp}{r r':R2}(ho:bM X (compareOp op) r)(B:bM X (compareOp j) r')(ha:PE X a ta)(hb:PE X b tb)(hc:PE X c tc)
 (hm:lastMarks [op,j] [b,c]=false:=by with_unfolding_all rfl):PT X (.Compare a [op,j] [b,c] pos) (Eb (s8 r r' ta tb tc)):=by
 intro pins s σ H Q I h;refine isTrue_chain (aW (ha pins s σ H _ I h) λv s1 ⟨x,H1,R,r1,q1⟩=>test_link (aW (hb pins s1 σ H1 _ R q1) λu s2 ⟨y,H2,S,r2,q2⟩=>
  aW (ho pins s2 σ H2 x y v u _ S r1 r2 q2) λd s3 ⟨z,F,J,r3,k,e,L⟩=>?_)) hm
 subst e;cases r3;refine tqp ?_;cases k with
 | false =>
   obtain⟨k',Y,q'⟩:=L;cases Y;exact ite_ff ⟨F,J,q'⟩
 | true =>
   refine ite_tt (test_last (aW (hc pins s3 σ F _ J L) λw' s4 ⟨z',M,U,r4,q4⟩=>aW (B pins s4 σ M y z' u w' _ U r2 r4 q4) λd' s5 ⟨z2,O,W,r5,k2,e2,q5⟩=>?_));subst e2;cases r5;exact tqp ⟨O,W,q5⟩
def Dw (K:Qa)(x:V)(H:Hp)(k:Bool):Prop:=
 match x with
 |.non=>k=false
 |.bl b=>k=b
 |.int i=>k=(i != 0)
 |.str y=>y.length<=sizeLine/\k=((y.length:Int) != 0)
 |.byt y=>y.size<=sizeLine/\k=((y.size:Int) != 0)
 |.ref p=>(∃xs,dB K H p xs/\k=!xs.isEmpty)\/(∃xs,dG K H p xs/\k=!xs.isEmpty)\/∃kvs,H p=some (.dK kvs)/\k=!kvs.isEmpty
 |_=>False
def xT {κ:Type}{kvs:List (κ×V)}{vs:List (κ×Qb)}(r:KV kvs vs):(!vs.isEmpty)=!kvs.isEmpty:=by
 cases r<;>rfl
def lL {xs:List V}{its:List Qb}(r:Vals xs its):(!its.toArray.isEmpty)=!xs.isEmpty:=by
 cases r<;>simp
def ju:(sizeLine:Nat)<2^63:=by rw[sizeLine_eq];decide
def IS:PD X (λx H Q=>∃k,Dw X.K x H k/\Q k H):=by
 intro pins s σ H x v Q I rx h;obtain⟨k,e,q⟩:=h;have hl:=ju;have hs:sizeLine=16777216:=sizeLine_eq;cases x with
 | non =>
   cases rx;have e':k=false:=e;subst e';exact truthy_none ⟨H,I,q⟩
 | bl b =>
   cases rx;have e':k=b:=e;subst e';exact tqp ⟨H,I,q⟩
 | int i =>
   obtain⟨t,rfl⟩:=rx;have e':k=(i != 0):=e;subst e';exact PySem.P.truthy_int ⟨H,I,q⟩
 | str y =>
   obtain⟨t,rfl⟩:=rx;obtain⟨hy,e'⟩:y.length<=sizeLine/\k=((y.length:Int) != 0):=e;subst e';exact PySem.P.truthy_str `a {H,I.tok _,q}
 | byt y =>
   obtain⟨t,rfl⟩:=rx;obtain⟨hy,e'⟩:y.size<=sizeLine/\k=((y.size:Int) != 0):=e;subst e';exact PySem.W.truthy_bytes `a {H,I.tok _,q}
 | ref p =>
   cases rx;have e':(∃xs,dB X.K H p xs/\k=!xs.isEmpty)\/(∃xs,dG X.K H p xs/\k=!xs.isEmpty)\/∃kvs,H p=some (.dK kvs)/\k=!kvs.isEmpty:=e;rcases e' with⟨xs,hx,e'⟩|⟨xs,hx,e'⟩|⟨kvs,hx,e'⟩
   ·subst e';obtain⟨its,r,pl,hz⟩:=I.list hx;have hlen:=r.length;exact wpAny_truthy_list pl.isList (by simp only[Qy];omega) {H,I.tok _,by rw[lL r];exact q}
   ·subst e';obtain⟨its,r,pl,hz⟩:=I.tuple hx;have hlen:=r.length;exact truthy_tuple pl (by simp only[Qy];omega) {H,I.tok _,by rw[lL r];exact q}
   ·subst e';obtain⟨hz,hS,vs,r,m⟩:kvs.length<=sizeLine/\(p==sysModules)=false/\∃vs,KV kvs vs/\s.heap.DictOf (kA X.prog X.w) p vs:=I.hok p _ hx;have hlen:kvs.length=vs.length:=Paired.length r;exact wpAny_truthy_dict hS m `a {H,I.tok _,by rw[xT r];exact q}
 |_=>exact(show False from e).elim
def Cr (y:PE X a ta)(he:∀whole,isTrue a X.env whole=(do let v <- whole;standAt a.pos;holding [v] (truthy v))) :
 PT X a (λσ H Q=>ta σ H λx H'=>∃k,Dw X.K x H' k/\Q k H'):=by
 intro pins s σ H Q I h;exact isTrue_plain (aW (y pins s σ H _ I h) λv s1 ⟨x,H1,j,r1,z⟩=>IS pins s1 σ H1 x v Q j r1 z) (he _)
def xC:bM X (binaryOp .Add) (λx y H Q=>∃i j,x=.str i/\y=.str j/\i.length+j.length<=sizeLine/\Q (.str (i++j)) H):=by
 intro pins s σ H x y v u Q I B F h;obtain⟨i,j,rfl,rfl,z,q⟩:=h;obtain⟨t,rfl⟩:=B;obtain⟨J,rfl⟩:=F;exact add_str (λJ tk=>{.str (i++j),H,I.tok _,{_,rfl},q}) z
def vals1 {x:V}{us:List Qb}(r:Vals [x] us):∃u,us=[u]/\RelV x u:=by
 cases r with
 |cons r1 r2=>cases r2;exact{_,rfl,r1}
def vals2 {x y:V}{us:List Qb}(r:Vals [x,y] us):∃u j,us=[u,j]/\RelV x u/\RelV y j:=by
 cases r with
 | cons r1 r2 =>
   cases r2 with
   |cons z B=>cases B;exact{_,_,rfl,r1,z}
def Bf:cy X (.type "int") (λxs H Q=>(∃i,xs=[.int i]/\Q (.int i) H)\/∃k,xs=[.bl k]/\Q (.int (if k then 1 else 0)) H):=by
 intro pins s σ H xs j Q I r h;rcases h with⟨i,rfl,q⟩|⟨k,rfl,q⟩
 ·obtain⟨u,rfl,t,rfl⟩:=vals1 r;exact call_int_int {.int i,H,I,{_,rfl},q}
 ·obtain⟨u,rfl,r1⟩:=vals1 r;cases r1;exact call_int_bool {.int (if k then 1 else 0),H,I.tok _,{_,rfl},q}
end
structure DC (h:Heap) (x dx C:Addr) (mA:Str->Option Qb):Prop where
 obj:h.get? x=some (PySem.W.instObj C dx)
 ns:h.Ns1 dx mA
 ne:dx≠x
set_option tactic.hygienic true in
def Au {h:Heap}{dx:Addr}{mA:Str->Option Qb}(n:h.Ns1 dx mA):∃od,h.get? dx=some od/\∀name,PySem.W.lookIn name od=some (mA name):=by
 obtain⟨o,es,J,ho,hd,F,_,hm⟩:=n;refine{o,ho,λname=>?_};have e:=hm name;unfold nsFind findBy at e;rw[<- Array.find?_toList] at e;unfold PySem.W.lookIn;rw[hd];dsimp only;split
 ·rename_i y q;rw[q] at e;exact congrArg some e
 ·rename_i q;rw[q] at e;have a:es.toList.any (·.refKey)=false:=by
   rw[List.any_eq_false];intro y I;obtain⟨z,t,j⟩:=F y (Array.mem_toList_iff.mp I);simp[DictEntry.refKey,j]
  have B:¬ es.toList.any (·.refKey)=true:=by rw[a];exact QF
  rw[if_neg B];exact congrArg some e
def DC.look {h:Heap}{x dx C:Addr}{mA:Str->Option Qb}(I:DC h x dx C mA):∃od,PySem.W.InstAt h x (PySem.W.instObj C dx) C (some od)/\∀name,PySem.W.lookIn name od=some (mA name):=
 let⟨od,ho,hl⟩:=Au I.ns
 {od,⟨I.obj,rfl,rfl,ho⟩,hl}
section
variable{P:Q5}{w:Q4}{H H':Hp}{h h':Heap}{a C dx:Addr}{fs fs':List (Str×V)}
def Hj (hok:eX P w H h)(e:H a=some (.ins C dx fs)):∃mA,DC h a dx C mA/\(∀f,Dy (fs.lookup f) (mA f))/\PySem.Within mA (fs.map (·.1))/\fs.length<=1000/\H dx=some (.own a):=by
 obtain⟨d,z,ne,ob,mA,n,r,q⟩:=(show cV P w H h a (.ins C dx fs) from hok a _ e);exact{mA,⟨ob,n,ne⟩,r,q,z,d}
end
structure w9 (K:Qa) (C:Addr):Prop where
 pg:PySem.W.plainGet K C Str.empty=true
 hd:PySem.W.hasDictIn K C=true
 po:PySem.W.plainOver K C=true
 sa:PySem.W.findIn K (.ref C) "__setattr__"=some (some (.builtin "object.__setattr__"))
def w9.get {K:Qa}{C:Addr}(c:w9 K C)(f:Str):PySem.W.plainGet K C f=true:=c.pg
def L3 (K:Qa)(C:Addr)(f:Str):Prop:=PySem.W.findIn K (.ref C) f=some none
structure Meth (K:Qa) (C:Addr) (m:Str) (f:Addr):Prop where
 at_:PySem.W.findIn K (.ref C) m=some (some (.ref f))
 fn:PySem.W.isFn K (.ref f)=true
 kp:PySem.W.keepIn K (.ref f)=true
section
variable{X:Cx}{pins:List (Addr×Obj)}{σ:St}{H:Hp}{s:Qf}{A:RL}{E:Qb->Qf->Prop}{Q:Qb->Qf->Prop}{c:Qb}{b:Bool}
inductive iO (K:Qa) (H:Hp):V->Qb->Prop where
 |non:iO K H .non (.type "NoneType")
 |bl (x:Bool):iO K H (.bl x) (.type "bool")
 |int (i:Int):iO K H (.int i) (.type "int")
 |str (x:Str):iO K H (.str x) (.type "str")
 |flt (x:UInt64):iO K H (.flt x) (.type "float")
 |lst {a:Addr}{xs:List V} (e:H a=some (.lst xs)):iO K H (.ref a) (.type "list")
 |frz {a:Addr}{o:Obj}{xs:List V} (e:H a=some (.frz o (.lst xs))):iO K H (.ref a) (.type "list")
 |tup {a:Addr}{xs:List V} (e:H a=some (.tup xs)):iO K H (.ref a) (.type "tuple")
 |dK {a:Addr}{kvs:List (Key×V)} (e:H a=some (.dK kvs)):iO K H (.ref a) (.type "dict")
 |dT {a:Addr}{kvs:List (List Key×V)} (e:H a=some (.dT kvs)):iO K H (.ref a) (.type "dict")
 |ins {a C dx:Addr}{fs:List (Str×V)} (e:H a=some (.ins C dx fs)) (cl:w9 K C) (ha:PySem.W.findIn K (.ref C) "__class__"=some (some (.builtin "object.__class__")))
  (hn:PySem.W.specialIn K (.builtin "object.__class__") "__get__"=some (some (.builtin "getset_descriptor.__get__"))) (htk:PySem.W.takesIn K (.builtin "object.__class__")=some true)
  (hm:PySem.W.mroIn K C (.type "object")=some true):iO K H (.ref a) (.ref C)
def jR {x:V}{u t:Qb}(I:Inv X pins σ H s)(B:RelV x u)(ty:iO X.K H x t)(e:PySem.W.kitOne X.K t c=some b)(h:∀tk,Q (.bool b) {s with toks:=tk}) :
 wpAny (model X.prog X.w) A (call (.builtin "isinstance") [u,c]) Q E s:=by
 cases ty with
 |non=>cases (show u=Value.none from B);exact Rr PySem.W.kitx_none I.kIn True.intro e (λz=>nomatch z) h
 |bl y=>cases (show u=Value.bool y from B);exact Rr PySem.W.kitx_bool I.kIn True.intro e (λz=>nomatch z) h
 |int i=>obtain⟨t,q⟩:=(show ∃t,u=Value.int i t from B);cases q;exact Rr PySem.W.kitx_int I.kIn True.intro e (λz=>nomatch z) h
 |str y=>obtain⟨t,q⟩:=(show ∃t,u=Value.str y t from B);cases q;exact Rr PySem.W.kitx_str I.kIn True.intro e (λz=>nomatch z) h
 |flt y=>obtain⟨t,q⟩:=(show ∃t,u=Value.float y t from B);cases q;exact Rr PySem.W.kitx_float I.kIn True.intro e (λz=>nomatch z) h
 | @lst a xs j =>
   cases (show u=Value.ref a from B);obtain⟨_,_,n,_,h1⟩:=(show cV X.prog X.w H s.heap a (.lst xs) from I.hok a _ j);exact Rr PySem.W.kitx_list I.kIn {_,h1,rfl} e (λz=>nomatch z) h
 | @frz a ob xs j =>
   cases (show u=Value.ref a from B);obtain⟨_,_,_,n,_,h1⟩:=(show cV X.prog X.w H s.heap a (.frz ob (.lst xs)) from I.hok a _ j);exact Rr PySem.W.kitx_list I.kIn {_,h1,rfl} e (λz=>nomatch z) h
 | @tup a xs j =>
   cases (show u=Value.ref a from B);obtain⟨_,_,_,p⟩:=(show cV X.prog X.w H s.heap a (.tup xs) from I.hok a _ j);obtain⟨o,h1,h2,_⟩:=p;exact Rr PySem.W.kitx_tuple I.kIn ⟨o,h1,h2⟩ e (λz=>nomatch z) h
 | @dK a F j =>
   cases (show u=Value.ref a from B);obtain⟨_,_,S,_,p⟩:=(show cV X.prog X.w H s.heap a (.dK F) from I.hok a _ j);obtain⟨o,es,M,h1,h2,_⟩:=p;exact Rr PySem.W.kitx_dict I.kIn ⟨o,h1,h2.1⟩ e (λz=>nomatch z) h
 | @dT a F j =>
   cases (show u=Value.ref a from B);obtain⟨_,_,xs,_,o,es,M,h1,h2,_⟩:=(show cV X.prog X.w H s.heap a (.dT F) from I.hok a _ j);exact Rr PySem.W.kitx_dict I.kIn ⟨o,h1,h2.1⟩ e (λz=>nomatch z) h
 | @ins a C dx fs j cl R hn L hm =>
   cases (show u=Value.ref a from B);obtain⟨mA,O,_⟩:=Hj I.hok j;obtain⟨od,J,_⟩:=O.look;exact Rr (PySem.W.kitx_own (cl.get _) cl.hd R hn L hm) I.kIn J e (λz=>nomatch z) h
end
structure dr (k:Nat) (A:RL):Prop where
 hd:A.handled=none
 dp:A.depth+3*k+5<recursionLimit
 un:A.units+16*k+200<cLine
 gd:A.guards=some []
def dr.mono {j k:Nat}{A:RL}(r:dr k A)(h:j<=k):dr j A:={r.hd,by have:=r.dp;omega,by have:=r.un;omega,r.gd}
def dr.deeper {k:Nat}{A:RL}(r:dr (k+1) A)(env:Env):dr k (A.deeper env):=
 {r.hd,by have:=r.dp;show A.depth+1+3*k+5<_;omega,by have:=r.un;show A.units+3+16*k+200<_;omega,r.gd}
def dr.depth {k:Nat}{A:RL}(r:dr k A):A.depth<recursionLimit:=by have:=r.dp;omega
def dr.units {k:Nat}{A:RL}(r:dr k A):A.units+64<cLine:=by have:=r.un;omega
def OA:TA:=λ_ H Q=>Q [] H
def Mm (ta:TE)(j:TA):TA:=λσ H Q=>ta σ H λx H1=>j σ H1 λxs H2=>Q (x::xs) H2
section
variable{X:Cx}{e:Expr}{es:List Expr}{te:TE}{t:TA}{pos:Pos}
def dN:PA X [] OA:=λ_ _ _ _ H Q I h=>Calls.spliced_nil {[],H,I,.nil,h}
def cm (z:PE X e te)(hr:PA X es t)(hs:starEach (e::es) X.env=(false,eval e X.env)::starEach es X.env:=by rfl):PA X (e::es) (Mm te t):=by
 intro pos pins s σ H Q I h;rw[hs];show wpAny _ _ (spliced ((false,eval e X.env)::backTo pos (starEach es X.env))) _ _ s;refine Calls.spliced_cons (aW (z pins s σ H _ I h) λu s1 ⟨x,H1,j,r1,B⟩=>?_);exact aW (hr pos pins s1 σ H1 _ j B) λJ s2 ⟨xs,H2,y,r2,F⟩=>{x::xs,H2,y,.cons r1 r2,F}
def Ow (t:TA):TE:=λσ H Q=>t σ H λxs H1=>xs.length<=sizeLine/\∀p,H1 p=none->Q (.ref p) (upd H1 p (.tup xs))
def OB (t:TA):TE:=λσ H Q=>t σ H λxs H1=>xs.length<=sizeLine/\∀p,H1 p=none->Q (.ref p) (upd H1 p (.lst xs))
def JL {x1}(h:PA X es t):PE X (.Tuple es x1 pos) (Ow t):=by
 intro pins s σ H Q I B;refine wpAny_Tuple_spliced (aW (h pos pins s σ H _ I B) λF s1 ⟨xs,H1,j,r,z,q⟩=>{by rw[<- r.length];exact z,?_})
 have y:H1 s1.heap.objs.size=none:=j.hok.fresh (Qe _);refine{.ref s1.heap.objs.size,upd H1 s1.heap.objs.size (.tup xs),j.laid (t':=s1.toks) (λb u e=>Qd _ e) (Qe _) ?_,rfl,q _ y};exact{z,F,r,{_,QA _ rfl,rfl,_,rfl}}
def JQ (h:PA X es t):PE X (.List es pos) (OB t):=by
 intro pins s σ H Q I B;refine wpAny_List_spliced (aW (h pos pins s σ H _ I B) λF s1 ⟨xs,H1,j,r,z,q⟩=>{by rw[<- r.length];exact z,?_})
 have y:H1 s1.heap.objs.size=none:=j.hok.fresh (Qe _);refine{.ref s1.heap.objs.size,upd H1 s1.heap.objs.size (.lst xs),j.laid (t':=s1.toks) (λb u e=>Qd _ e) (Qe _) ?_,rfl,q _ y};exact{z,F,0,r,QA _ rfl}
end
abbrev Sp:=List V->Hp->VK->XK->Prop
abbrev oD:=List Env->Hp->Qf->XK->Qb->Qf->Prop
structure yz (P:Q5) (w:Q4) (K:Qa) (mg:Str->Option Qb) (base:Heap) (A:RL) (outer:List Env) (s:Qf) (H:Hp):Prop where
 frames:A.frames=some outer
 mod:Mod K mg base
 bs:∀b o,base.get? b=some o->s.heap.get? b=some o/\H b=none
 bsz:base.objs.size<=s.heap.objs.size
 funs:s.heap.FunFrames base outer
 frf:∀b∈g4 outer,H b=none
 hok:eX P w H s.heap
 bare:AllBare s.gens
def CE (outer:List Env)(P:Q5)(w:Q4)(H:Hp)(s:Qf)(Q:VK)(u:Qb)(s':Qf):Prop:=
 ∃v H',s'.os=s.os/\AllBare s'.gens/\Un (g4 outer) [] H H' s.heap s'.heap/\eX P w H' s'.heap/\RelV v u/\Q v H'
def CR (CX:oD)(outer:List Env)(P:Q5)(w:Q4)(H:Hp)(s:Qf)(Q:VK)(E:XK)(r:Result)(s':Qf):Prop:=
 match r with
 |.ok (.ret u)=>CE outer P w H s Q u s'
 |.ok _=>False
 |.error e=>CX outer H s E e s'
structure md (P:Q5) (w:Q4) (K:Qa) (mg:Str->Option Qb) (base:Heap) (CX:oD) (k:Nat) (f:Addr) (fd:FuncData) (ps:List Str) (sp:Sp):Prop where
 len:∀vs H Q E,sp vs H Q E->vs.length=ps.length
 run:∀(A:RL) (outer:List Env) (s:Qf) (H:Hp) (args:Args) (us:List Qb) (vs:List V) (Q:VK) (E:XK),dr k A->yz P w K mg base A outer s H->BindsTo s fd args (ps.zip us)->Vals vs us->sp vs H Q E->
  codeAny (model P w) A (.call (.ref f) args) (CR CX outer P w H s Q E) s
section
variable{X:Cx}{pins:List (Addr×Obj)}{σ:St}{H:Hp}{s s':Qf}
def Inv.env0 (I:Inv X pins σ H s):yz X.prog X.w X.K X.mg X.base X.A X.stack s H:=
 {I.ok.frames,I.ok.mod,I.bs,Qo I.ok.bsz I.sz,I.stack,I.stkFree,I.hok,I.bare}
def Inv.after {Q:VK}{u:Qb}(I:Inv X pins σ H s)(h:CE X.stack X.prog X.w H s Q u s'):EP X pins σ Q u s':=by
 obtain⟨v,H',os,bare,un,hok,r,q⟩:=h;obtain⟨y,g,d,t,j⟩:=s';obtain rfl:j=s.os:=os;exact{v,H',I.call (h':=y) (g':=g) (d':=d) (t':=t) (ch:=[]) un hok bare (λb z=>absurd z `s),r,q}
end
def Ed (sp:Sp)(dvs:List V)(E:XK)(t:TA):TE:=λσ H Q=>t σ H λvs H1=>sp (vs++dvs) H1 Q E
def Binds (K:Qa)(fd:FuncData)(ps:List Str)(ds:List Qb):Prop:=
 ∀(s:Qf) (j:List Qb),K.In s.heap->(j++ds).length=ps.length->BindsTo s fd {j,[]} (ps.zip (j++ds))
def Binds.all {K:Qa}{fd:FuncData}{ps:List Str}(h:∀us:List Qb,us.length=ps.length->bindArgs fd {us,[]}=pure (ps.zip us)):Binds K fd ps []:=λs us _ hl=>by
 rw[Q7] at hl ⊢;exact .of_eq (h us hl)
def Passes (CX:oD)(X:Cx)(E:XK):Prop:=∀(pins:List (Addr×Obj)) (σ:St) (H:Hp) (s:Qf) (e:Qb) (s':Qf),Inv X pins σ H s->CX X.stack H s E e s'->X.xe e s'
section
variable{X:Cx}{CX:oD}{k:Nat}{f C:Addr}{fd:FuncData}{ps:List Str}{sp:Sp}{dvs:List V}{ds:List Qb}{E:XK}{x m:Str}{p pos apos:Pos}{e o:Expr}{es:List Expr}{ta:TE}{t:TA}
def zP {pins:List (Addr×Obj)}{σ:St}{H:Hp}{s:Qf}{Q:VK}{us:List Qb}{vs:List V}(F:md X.prog X.w X.K X.mg X.base CX k f fd ps sp)(hr:dr k X.A)(y:Binds X.K fd ps ds)(hd:Vals dvs ds)(z:Passes CX X E)
 (I:Inv X pins σ H s) (r:Vals vs us) (h:sp (vs++dvs) H Q E):wpAny (model X.prog X.w) X.A (call (.ref f) us) (EP X pins σ Q) X.xe s:=by
 have r2:Vals (vs++dvs) (us++ds):=r.append hd;have hl:(us++ds).length=ps.length:=by rw[<- r2.length];exact F.len _ _ _ _ h
 refine wpAny_call (codeAny_mono (F.run X.A X.stack s H {us,[]} (us++ds) (vs++dvs) Q E hr I.env0 (y s us I.kIn hl) r2 h) λr s' j=>?_);cases r with
 |error e=>exact z pins σ H s e s' I j
 | ok fl =>
   cases fl with
   |ret u=>exact I.after j
   |next=>exact False.elim j
   |brk=>exact False.elim j
   |cont=>exact False.elim j
def GQ (F:md X.prog X.w X.K X.mg X.base CX k f fd ps sp)(hr:dr k X.A)(L:Gl X x)(hm:X.mg x=some (.ref f))(M:PySem.W.keepIn X.K (.ref f)=true)(J:Binds X.K fd ps ds)(hd:Vals dvs ds)(O:Passes CX X E)
 (B:PA X (e::es) t) (j:(x==("__debug__":Str))=false:=by decide) (he:starEach (e::es) X.env=(false,eval e X.env)::starEach es X.env:=by rfl) (y:(backTo pos (starEach es X.env)).any (·.1)=false:=by rfl) :
 PE X (.Call (.Name x p) (e::es) [] pos) (Ed sp dvs E t):=by
 intro pins s σ H Q I h;refine wpAny_Call_Name_kw (kB I L hm ?_ j);refine PySem.W.callWith_K (h₀:=X.base) I.ok.mod.kin M (aW (B pos pins s σ H _ I h) λR s1 ⟨S,H1,z,r,q⟩=>{z.kIn,?_}) he y;exact zP F hr J hd O z r q
structure Mk (K:Qa) (C f:Addr):Prop where
 makes:PySem.W.makesIn K C=true
 init:PySem.W.findIn K (.ref C) "__init__"=some (some (.ref f))
 fn:PySem.W.isFn K (.ref f)=true
 kp:PySem.W.keepIn K (.ref C)=true
end
structure jh (N P:List Str) (sc:Scope):Prop where
 kind:sc.kind=.function
 co:sc.isCoroutine=false
 gen:sc.isGenerator=false
 nd:N.Nodup
 pre:N.take P.length=P
 par:∀x∈P,sc.names.lookup x=some .local\/sc.names.lookup x=some .cell
 nofree:∀y∈sc.names,y.2≠.free
def sd {j:Str->Option NameKind}{x:Str}:∀{binds:List (Str×Qb)}{m:Str->Option Qb},(∀v,(x,v)∉binds)->bindL j binds m x=m x
 |[],_,_=>rfl
 | (n, v) :: r, m, h => by
   unfold bindL;rw[sd λw y=>h w (Qu _ y)];split
   ·have:x≠n:=by rintro rfl;exact h v QB
    simp[this]
   ·rfl
def sf {j:Str->Option NameKind}{x:Str}:∀{binds:List (Str×Qb)}{m:Str->Option Qb},(∀v,(x,v)∉binds)->bindC j binds m x=m x
 |[],_,_=>rfl
 | (n, v) :: r, m, h => by
   unfold bindC;rw[sf λw y=>h w (Qu _ y)];split
   ·rfl
   ·have:x≠n:=by rintro rfl;exact h v QB
    simp[this]
def se {j:Str->Option NameKind}{x:Str}{v:Qb}:∀{P:List Str}{vs:List Qb}{i:Nat}{m:Str->Option Qb},P.Nodup->P[i]?=some x->vs[i]?=some v->j x=some .local->
 bindL j (P.zip vs) m x=some v
 |[],_,_,_,_,h,_,_=>by simp at h
 |_::_,[],_,_,_,_,h,_=>by simp at h
 | p :: P, w :: vs, 0, m, nd, h1, h2, y => by
   simp at h1 h2;subst h1;subst h2;show bindL j ((p,w)::P.zip vs) m p=_;unfold bindL;rw[sd λv z=>(Rn.mp nd).1 (List.of_mem_zip z).1,if_pos y];simp
 | p :: P, w :: vs, i + 1, m, nd, h1, h2, y => by
   show bindL j ((p,w)::P.zip vs) m x=_;unfold bindL;exact se (i:=i) (Rn.mp nd).2 (by simpa using h1) (by simpa using h2) y
def sg {j:Str->Option NameKind}{x:Str}{v:Qb}:∀{P:List Str}{vs:List Qb}{i:Nat}{m:Str->Option Qb},P.Nodup->P[i]?=some x->vs[i]?=some v->j x≠some .local->
 bindC j (P.zip vs) m x=some v
 |[],_,_,_,_,h,_,_=>by simp at h
 |_::_,[],_,_,_,_,h,_=>by simp at h
 | p :: P, w :: vs, 0, m, nd, h1, h2, y => by
   simp at h1 h2;subst h1;subst h2;show bindC j ((p,w)::P.zip vs) m p=_;unfold bindC;rw[sf λv z=>(Rn.mp nd).1 (List.of_mem_zip z).1,if_neg y];simp
 | p :: P, w :: vs, i + 1, m, nd, h1, h2, y => by
   show bindC j ((p,w)::P.zip vs) m x=_;unfold bindC;exact sg (i:=i) (Rn.mp nd).2 (by simpa using h1) (by simpa using h2) y
noncomputable def start (N:List Str)(vs:List V):St:=vs.map some++List.replicate (N.length-vs.length) none
noncomputable def gz (CX:oD)(P:Q5)(w:Q4)(K:Qa)(mg:Str->Option Qb)(base:Heap)(N:List Str)(y:Str)(j:Scope)(f:Addr)(B:Qb)(A:RL)(outer:List Env)(s:Qf)(H:Hp)(E:XK):Cx where
 prog:=P
 w:=w
 K:=K
 mg:=mg
 base:=base
 A:=A.deeper (envOfC y j s.heap.objs.size f B)
 N:=N
 s₀:=s
 H₀:=H
 env:=envOfC y j s.heap.objs.size f B
 outer:=outer
 stack:=envOfC y j s.heap.objs.size f B::outer
 ex:=[]
 calm:=true
 fn:=λ_=>true
 pn:=[]
 xe:=λe s'=>wpAny (model P w) (A.deeper (envOfC y j s.heap.objs.size f B)) (leaving (envOfC y j s.heap.objs.size f B) e) (λ_ z=>CX outer H s E e z) (λF z=>CX outer H s E F z) s'
def uQ {sc:Scope}{n:Nat}{x:Str}(h:sc.names.lookup x=some .cell):∃c,(cellsFrom n sc.names []).lookup x=some c:=by
 have q:=PySem.W.cellsFrom_some sc.names n [] (.inl h);exact Sh.mp q
def AQ {CX:oD}{P:Q5}{w:Q4}{K:Qa}{mg:Str->Option Qb}{base:Heap}{N ps:List Str}{B:Str}{j:Scope}{f:Addr}{O:Qb}{A:RL}{outer:List Env}{s s1:Qf}{H:Hp}{E:XK}{us:List Qb}{vs:List V}
 (S:jh N ps j) (hd:A.handled=none) (F:yz P w K mg base A outer s H) (hl:vs.length=ps.length) (r:Vals vs us)
 (x:InCallC s s.heap.objs.size (bindL (envOfC B j s.heap.objs.size f O).kindOf (ps.zip us) λ_=>none) (cellsFrom (s.heap.objs.size+1) j.names []) (bindC (envOfC B j s.heap.objs.size f O).kindOf (ps.zip us) λ_=>none) s1) :
 Inv (gz CX P w K mg base N B j f O A outer s H E) [] (start N vs) H s1:=by
 have hpl:ps.length<=N.length:=by have:=congrArg List.length S.pre;rw[RA] at this;omega
 obtain⟨h1,tk,rfl,R⟩:=x.done;have J:∀b:Addr,b∉(gz CX P w K mg base N B j f O A outer s H E).ex:=λb z=>absurd (show b∈([]:List Addr) from z) `s
 refine{{F.mod,S.kind,rfl,rfl,Qe _,λy z c h1 h2=>?_,λy I=>?_,λy c _ h=>?_,λ_=>hd,Around.frames_deeper F.frames,.inr ⟨rfl,rfl⟩,λb z=>absurd z (J b),F.bs,F.bsz,λb _ _=>J b,λb z=>absurd z (J b),F.funs,F.frf},
  rfl,F.bare,Un.kept R,{_,x.toInCall.ns,λi y v h1 h2 h3=>?_},λy c h=>{_,x.cell y c h},F.hok.fresh (Qe _),λy c h=>?_,λp L=>absurd (show p∈([]:List (Addr×Obj)) from L) `s,F.hok.kept R,?_}
 ·exact name_of_addr x.apart (Sv h1) (Sv h2)
 ·have I:j.names.lookup y=some .cell\/j.names.lookup y=some .free:=I;rcases I with I|I
  ·exact uQ I
  ·exact absurd rfl (S.nofree _ (Sv I))
 ·exact Sf (x.above y c (Sv h))
 ·have hi:i<vs.length:=by
   unfold start at h2;by_cases hi:i<vs.length
   ·exact hi
   ·rw[QO (by simpa using hi)] at h2
    rw[Sj] at h2;split at h2<;>cases h2
  have Y:vs[i]?=some v:=by
   unfold start at h2;rw[Qi (by simpa using hi),Qv] at h2
   cases e:vs[i]? with
   |none=>rw[e] at h2;cases h2
   |some a=>rw[e] at h2;cases h2;rfl
  obtain⟨u,U,rv⟩:=r.get Y;have L:ps[i]?=some y:=by
   rw[<- S.pre,List.getElem?_take_of_lt `a];exact h1
  have M:ps.Nodup:=by rw[<- S.pre];exact S.nd.sublist (List.take_sublist _ _)
  refine{u,rv,?_};rcases S.par y (QC L) with k|k
  ·exact .inl {k,se M L U k}
  ·obtain⟨c,e⟩:=uQ (n:=s.heap.objs.size+1) k;refine .inr {.inl k,c,e,?_};have q:=x.cell y c e;rw[sg M L U (by show j.names.lookup y≠_;rw[k];decide)] at q
   exact q
 ·exact F.hok.fresh (Sf (x.above y c (Sv h)))
 ·unfold start;show _=N.length;rw[QD,P8,List.length_replicate];omega
def MW {CX:oD}{P:Q5}{w:Q4}{K:Qa}{mg:Str->Option Qb}{base:Heap}{k:Nat}{f:Addr}{name z:Str}{params:Arguments}{body:List Stmt}{j:Scope}{dV kV O pm B ct oc:Qb}{an od:Option Addr}
 {osl:Array (Option Qb)}{N ps:List Str}{sp:Sp} (lk:K.lookup f=some {oc,od,.func (PySem.W.fnOf name z params body j dV kV O pm an B ct),osl}) (hcd:PySem.W.codeIn K B z=true) (S:jh N ps j)
 (len:∀vs H Q E,sp vs H Q E->vs.length=ps.length)
 (L:∀(A:RL) (outer:List Env) (s:Qf) (H:Hp) (vs:List V) (Q:VK) (E:XK),dr k (A.deeper (envOfC z j s.heap.objs.size f B))->sp vs H Q E->
  ∃t,kM (gz CX P w K mg base N z j f B A outer s H E) body t/\t {nx:=λ_ H'=>Q .non H',rt:=Q} (start N vs) H) :
 md P w K mg base CX (k+1) f (PySem.W.fnOf name z params body j dV kV O pm an B ct) ps sp:=by
 refine{len,λA outer s H args us vs Q E hr R hb r Y=>?_};have hl:=len _ _ _ _ Y;have KX:K.In s.heap:=R.mod.kin.keeps λb o e=>(R.bs b o e).1;have lim:s.heap.NoLimit:=R.mod.nolimit.keeps λb o e=>(R.bs b o e).1;have M:∀y∈ps.zip us,j.names.lookup y.1=some .local\/(j.names.lookup y.1=some .cell/\((cellsFrom (s.heap.objs.size+1) j.names []).lookup y.1).isSome=true):=λ⟨n,v⟩ hy=>by
  rcases S.par n (List.of_mem_zip hy).1 with q|q
  ·exact .inl q
  ·exact .inr {q,PySem.W.cellsFrom_some _ _ _ (.inl q)}
 refine codeAny_call_function hr.depth (KX _ _ lk) rfl S.co S.gen rfl (PySem.W.codeRec_of KX hcd) (hb _ _ _ _ ?_);refine wpAny_newFunctionEnv_cells S.kind M λenv he s1 x=>?_;subst he;refine{lim.keeps x.toInCall.keep,codeAny_func ?_};obtain⟨t,ht,hq⟩:=L A outer s H vs Q E (hr.deeper _) Y;have I:Inv (gz CX P w K mg base N z j f B A outer s H E) [] (start N vs) H s1:=AQ S hr.hd R hl r x;refine wpAny_mono (ht [] s1 (start N vs) H _ I hq) (λfl s' hs=>?_) λe s' hs=>hs;have U:∀{F:St}{H':Hp}{v:V}{u:Qb},Inv (gz CX P w K mg base N z j f B A outer s H E) [] F H' s'->RelV v u->Q v H'->CE outer P w H s Q u s':=
  λ{F H' v u} J rv q=>⟨v,H',J.os,J.bare,J.base,J.hok,rv,q⟩
 cases fl with
 | ret u =>
   obtain⟨v,F,H',J,rv,q⟩:=hs;exact U J rv q
 | next =>
   obtain⟨F,H',J,q⟩:=hs;exact U (v:=V.non) (u:=Value.none) J rfl q
 | brk =>
   obtain⟨_,_,_,q⟩:=hs;exact False.elim q
 | cont =>
   obtain⟨_,_,_,q⟩:=hs;exact False.elim q
section
variable{X:Cx}{x:Str}{p pos:Pos}{e:Expr}{es:List Expr}{t:TA}{id T:String}{r:List V->Hp->VK->Prop}
def NX (r:List V->Hp->VK->Prop)(t:TA):TE:=λσ H Q=>t σ H λj H1=>r j H1 Q
def jq (F:cy X (.builtin id) r)(J:Gl X x)(hm:X.mg x=none)(L:bootBuiltins x=some (.builtin id))(B:PA X (e::es) t)(hn:x≠"__name__":=by decide)(j:(x==("__debug__":Str))=false:=by decide)
 (he:starEach (e::es) X.env=(false,eval e X.env)::starEach es X.env:=by rfl) (y:(backTo pos (starEach es X.env)).any (·.1)=false:=by rfl):PE X (.Call (.Name x p) (e::es) [] pos) (NX r t):=by
 intro pins s σ H Q I h;refine wpAny_Call_Name_kw (gV I J hm L ?_ hn j);exact PyProof.Rows.callWith_builtin1 (aW (B pos pins s σ H _ I h) λO s1 ⟨R,H1,z,r1,M⟩=>F pins s1 σ H1 R O Q z r1 M) he y
def mB (F:cy X (.type T) r)(J:Gl X x)(hm:X.mg x=none)(L:bootBuiltins x=some (.type T))(B:PA X (e::es) t)(hn:x≠"__name__":=by decide)(j:(x==("__debug__":Str))=false:=by decide)
 (he:starEach (e::es) X.env=(false,eval e X.env)::starEach es X.env:=by rfl) (y:(backTo pos (starEach es X.env)).any (·.1)=false:=by rfl):PE X (.Call (.Name x p) (e::es) [] pos) (NX r t):=by
 intro pins s σ H Q I h;refine wpAny_Call_Name_kw (gV I J hm L ?_ hn j);exact RR (aW (B pos pins s σ H _ I h) λO s1 ⟨R,H1,z,r1,M⟩=>F pins s1 σ H1 R O Q z r1 M) he y
end
end L2
namespace HT
open PySem PyProof.Rows
section
variable{prog:Q5}{w:Q4}{A:RL}{E:Qb->Qf->Prop}{s:Qf}
def HW {t b:Addr}{vs ws:List Qb}{Q:Qb->Qf->Prop}(W:IsTup s.heap t vs.toArray)(U:IsTup s.heap b ws.toArray)(S:vs≠[])
 (h1:ws=[]->Q (.ref t) s) (h2:ws≠[]->Q (.ref s.heap.objs.size) {s with heap:=s.heap.push {cls:=.type "tuple",data:=.seq (vs++ws).toArray}})
 (hsz:vs.length+ws.length<=sizeLine):wpAny (model prog w) A (binaryOp .Add (.ref t) (.ref b)) Q E s:=by
 obtain⟨⟨cls,O,data,sl⟩,ho,R,n,hd⟩:=id W;obtain⟨⟨M,y,L,I⟩,j,z,n2,B⟩:=id U;simp only at R hd z B;subst R hd z B;have e:vs.toArray++ws.toArray=(vs++ws).toArray:=`s
 by_cases J:ws=[]
 ·exact concat_meets {_,ho,rfl} {_,j,rfl} noFill_tuple_add seq_tuple_add PySem.F.slot_tuple_add PySem.F.entry_tuple_add (PySem.F.args_tuple_add_2 _ _)
   (tuple_addW1 t b vs.toArray ws.toArray n n2 O y sl I (by simpa using S) (by simp[J])) {ho,j,h1 J}
 ·refine concat_meets {_,ho,rfl} {_,j,rfl} noFill_tuple_add seq_tuple_add PySem.F.slot_tuple_add PySem.F.entry_tuple_add (PySem.F.args_tuple_add_2 _ _)
   (tuple_addW2 t b vs.toArray ws.toArray n n2 O y sl I (by simpa using S) (by simpa using J) (by rw[Qy,Qy];exact hsz)) {ho,j,?_}
  rw[e];exact h2 J
noncomputable def aU (n d:Nat):Option Int->Nat
 |none=>d
 |some v=>if v<0 then(v+(n:Int)).toNat else min v.toNat n
def Jn (n d:Nat)(hd:d<=n)(o:Option Int):aU n d o<=n:=by
 cases o with
 |none=>exact hd
 | some v =>
   show(if v<0 then(v+(n:Int)).toNat else min v.toNat n)<=n;by_cases j:v<0
   ·rw[if_pos j];omega
   ·rw[if_neg j];exact Nat.min_le_right _ _
def wO (v:Int)(n d:Nat):(if v<0 then max (v+(n:Int)) 0 else min v (n:Int))=((aU n d (some v):Nat):Int):=by
 show(if v<0 then max (v+(n:Int)) 0 else min v (n:Int))=(((if v<0 then(v+(n:Int)).toNat else min v.toNat n):Nat):Int);by_cases j:v<0
 ·simp only[if_pos j];omega
 ·simp only[if_neg j];omega
def ym (lo hi:Option Int)(n:Nat):Builtin.Slice.sliceAdjust lo hi 1 (n:Int)=(((aU n 0 lo:Nat):Int),((aU n n hi:Nat):Int)):=by
 have h1:¬ ((1:Int)<0):=`a
 unfold Builtin.Slice.sliceAdjust;simp only[h1,if_false];refine Prod.ext ?_ ?_
 ·cases lo with
  |none=>rfl
  |some v=>exact wO v n 0
 ·cases hi with
  |none=>rfl
  |some v=>exact wO v n n
def xv (i j:Nat):Builtin.Slice.slicePlaces (i:Int) (j:Int) 1=j-i:=by
 unfold Builtin.Slice.slicePlaces;have h1:(1:Int) > 0:=`a
 simp only[h1,if_true,Int.ediv_one];split<;>omega
def pC {v:Qb}{o:Option Int}{Q:Option Int->Qf->Prop}(p:IsPart v o)(h:Q o s):wpAny (model prog w) A (Builtin.Slice.slicePartIndex v) Q E s:=by
 cases p with
 |none=>exact slicePart_none h
 |int i t=>exact slicePart_int h
def jl {sl:Addr}{z B:Qb}{lo hi:Option Int}{n:Nat}{Q:Int×Int×Nat->Qf->Prop}(hs:s.heap.IsSliceOf sl z B .none)(pl:IsPart z lo)(I:IsPart B hi)
 (h:Q (((aU n 0 lo:Nat):Int),1,aU n n hi-aU n 0 lo) s):wpAny (model prog w) A (Builtin.Slice.sliceApplied (.ref sl) (pure (n:Int))) Q E s:=by
 obtain⟨os,y,F,j⟩:=id hs;unfold Builtin.Slice.sliceApplied Builtin.Slice.sliceFields;refine tqa (tqa (tqf y j (x:=z) rfl (tqa (tqf y j (x:=B) rfl (tqa (tqf y j (x:=.none) rfl (tqb ?_)))))));refine tqa (slicePart_none ?_);show wpAny _ _ (if ((1:Int)==0)=true then _ else _) _ _ s;rw[if_neg `d]
 refine tqa (pC pl (tqa (pC I (tqa (tqb ?_)))));show wpAny _ _ (match Builtin.Slice.sliceAdjust lo hi 1 (n:Int) with|(lo,hi)=>pure (lo,(1:Int),Builtin.Slice.slicePlaces lo hi 1)) _ _ s
 rw[ym lo hi n];show wpAny _ _ (pure (((aU n 0 lo:Nat):Int),(1:Int),Builtin.Slice.slicePlaces ((aU n 0 lo:Nat):Int) ((aU n n hi:Nat):Int) 1)) _ _ s;rw[xv];exact tqb h
def Cu (xs:Array Qb)(i k:Nat):((List.range k).filterMap λ(m:Nat)=>xs[((i:Int)+(m:Int)*1).toNat]?).toArray=((xs.toList.drop i).take k).toArray:=by
 have e:(λ(m:Nat)=>xs[((i:Int)+(m:Int)*1).toNat]?)=λm=>xs[i+m]?:=by
  funext m
  have:((i:Int)+(m:Int)*1).toNat=i+m:=`a
  rw[this]
 rw[e];have:=pick_run xs i k;rw[List.filterMap_map] at this;have e2:((λx=>xs[x]?)∘λx=>i+x)=λm=>xs[i+m]?:=rfl;rw[e2] at this;rw[this]
def om {t sl:Addr}{items:Array Qb}{J L:Qb}{lo hi:Option Int}{Q:Qb->Qf->Prop}(y:IsTup s.heap t items)(hs:s.heap.IsSliceOf sl J L .none)(pl:IsPart J lo)(R:IsPart L hi)
 (O:¬ (aU items.size 0 lo=0/\aU items.size items.size hi=items.size))
 (h:Q (.ref s.heap.objs.size) {s with heap:=s.heap.push {cls:=.type "tuple",data:=.seq ((items.toList.drop (aU items.size 0 lo)).take (aU items.size items.size hi-aU items.size 0 lo)).toArray}})
 (hsz:items.size<=sizeLine):wpAny (model prog w) A (getItem (.ref t) (.ref sl)) Q E s:=by
 have j:sizeOk (.seq ((items.toList.drop (aU items.size 0 lo)).take (aU items.size items.size hi-aU items.size 0 lo)).toArray):=by
  show((items.toList.drop (aU items.size 0 lo)).take (aU items.size items.size hi-aU items.size 0 lo)).toArray.size<=sizeLine;rw[Qy,RA,List.length_drop,Si];omega
 have S:aU items.size items.size hi<=items.size:=Jn _ _ (Qe _) hi;obtain⟨os,I,B,M⟩:=id hs;have z:s.TypeIs (.ref sl) "slice":=⟨os,I,B⟩;unfold getItem;try with_reducible refine tqo ?_
 first|refine tqa (tqb ?_)|skip
 refine tqa (wpAny_sequenceKey y.typeIs `d ?_)
 refine tqa (wpAny_callSpecial?_slot (name:=Str.ofString "__getitem__") y.typeIs RE
  (wpAny_call_entry RE y.typeIs entry_tuple_getitem ?_ (args_tuple_getitem _ _)))
 show wpAny _ _ (Builtin.Tuple.tupleItemsOf (.ref t) >>= _) _ _ s;refine tqa (tupleItemsOf_ y ?_);refine tqa (wpAny_typeOf z ?_);rw[if_pos `d]
 refine tqa (jl hs pl R ?_);have F:¬ ((((aU items.size 0 lo:Nat):Int)==0&&(1:Int)==1&&(aU items.size items.size hi-aU items.size 0 lo)==items.size)=true):=by
  intro q;rw[Qg,Qg] at q;have U:((aU items.size 0 lo:Nat):Int)=0:=eq_of_beq q.1.1;have W:aU items.size items.size hi-aU items.size 0 lo=items.size:=eq_of_beq q.2;exact O {`a,`a}
 show wpAny _ _ (if (((aU items.size 0 lo:Nat):Int)==0&&(1:Int)==1&&(aU items.size items.size hi-aU items.size 0 lo)==items.size)=true then _ else _) _ _ s;rw[if_neg F,Cu];first
  |exact tqa (m:=Builtin.Tuple.tupleExact _) (wpAny_newObj_type (tqb {_,rfl,tqb h}) j)
  |exact tqa (m:=Builtin.Tuple.tupleExact _) (wpAny_newObj_type (tqa (tqb (tqb {_,rfl,tqb h}))) j)
  |exact tqa (tqa (m:=Builtin.Tuple.tupleExact _) (wpAny_newObj_type (tqb (tqb {_,rfl,tqb h})) j))
  |exact tqa (tqa (m:=Builtin.Tuple.tupleExact _) (wpAny_newObj_type (tqb {_,rfl,tqb h}) j))
end
end HT
namespace L2
open PySem PySem.Spec PyProof.Rows
abbrev TO:=St->Hp->(Option Int->Hp->Prop)->Prop
def PO (X:Cx)(e:Option Expr)(t:TO):Prop:=
 ∀(pins:List (Addr×Obj)) (s:Qf) (σ:St) (H:Hp) (Q:Option Int->Hp->Prop),Inv X pins σ H s->t σ H Q->
  wpAny (model X.prog X.w) X.A (evalPart e X.env) (λu s'=>∃o H',Inv X pins σ H' s'/\IsPart u o/\Q o H') X.xe s
def F0:TO:=λ_ H Q=>Q none H
def Mh (t:TE):TO:=λσ H Q=>t σ H λx H1=>∃i,x=.int i/\Q (some i) H1
section
variable{X:Cx}{e:Expr}{te:TE}{lo hi:Option Expr}{tl th:TO}{pos p2:Pos}
def GO:PO X none F0:=by
 intro pins s σ H Q I h;rw[evalPart_none];exact tqb {none,H,I,.none,h}
def GN (h:PE X e te):PO X (some e) (Mh te):=by
 intro pins s σ H Q I y;rw[evalPart_some];refine aW (h pins s σ H _ I y) λu s1 ⟨x,H1,j,r1,z⟩=>?_;obtain⟨i,rfl,q⟩:=z;obtain⟨t,rfl⟩:=r1;exact{some i,H1,j,.int i t,q}
def nh (X:Cx)(r:V->Option Int->Option Int->Hp->VK->Prop):Prop:=
 ∀(pins:List (Addr×Obj)) (s:Qf) (σ:St) (H:Hp) (x:V) (v j y:Qb) (lo hi:Option Int) (sl:Addr) (Q:VK),Inv X pins σ H s->RelV x v->s.heap.IsSliceOf sl j y .none->IsPart j lo->IsPart y hi->r x lo hi H Q->
  ∃T id,typeLookup (.type T) "__getitem__"=pure (some (.builtin id))/\s.TypeIs v T/\wpAny (model X.prog X.w) X.A (getItem v (.ref sl)) (EP X pins σ Q) X.xe s
def nh.or {r r':V->Option Int->Option Int->Hp->VK->Prop}(h:nh X r)(h':nh X r'):nh X (λx lo hi H Q=>r x lo hi H Q\/r' x lo hi H Q):=by
 intro pins s σ H x v B F lo hi sl Q I z hs j y q;rcases q with q|q
 ·exact h pins s σ H x v B F lo hi sl Q I z hs j y q
 ·exact h' pins s σ H x v B F lo hi sl Q I z hs j y q
def tSl (r:V->Option Int->Option Int->Hp->VK->Prop)(te:TE)(tl th:TO):TE:=λσ H Q=>te σ H λx H1=>tl σ H1 λl H2=>th σ H2 λu j=>r x l u j Q
def Cw {r:V->Option Int->Option Int->Hp->VK->Prop}(hr:nh X r)(he:PE X e te)(hl:PO X lo tl)(U:PO X hi th):PE X (.Subscript e (.Slice lo hi none p2) pos) (tSl r te tl th):=by
 intro pins s σ H Q I h;refine Subscript_ (aW (he pins s σ H _ I h) λv s1 ⟨x,H1,F,r1,q1⟩=>?_);refine wpAny_Slice (aW (hl pins s1 σ H1 _ F q1) λy s2 ⟨l,H2,J,W,q2⟩=>aW (U pins s2 σ H2 _ J q2) λz j ⟨u,B,L,Y,q3⟩=>?_);rw[evalPart_none];refine tqb ?_;have M:Inv X pins σ B {j with heap:=j.heap.push {cls:=.type "slice",data:=.fields #[y,z,.none]}}:=L.kept (t':=j.toks) λb ob q=>Qd _ q
 obtain⟨T,id,O,S,R⟩:=hr pins {j with heap:=j.heap.push {cls:=.type "slice",data:=.fields #[y,z,.none]}} σ B x v y z l u j.heap.objs.size Q M r1 (Heap.IsSliceOf.new ..) W Y q3
 show wpAny (model X.prog X.w) X.A (subscriptTail e (.Slice lo hi none p2) v (.ref j.heap.objs.size)) (EP X pins σ Q) X.xe {j with heap:=j.heap.push {cls:=.type "slice",data:=.fields #[y,z,.none]}}
 exact tail_any (ops:=[.ref j.heap.objs.size,v]) S O R (by with_unfolding_all rfl)
def mU (xs:List V)(lo hi:Option Int):List V:=(xs.drop (HT.aU xs.length 0 lo)).take (HT.aU xs.length xs.length hi-HT.aU xs.length 0 lo)
def oy (xs:List V)(lo hi:Option Int):(mU xs lo hi).length<=xs.length:=by
 unfold mU;rw[RA,List.length_drop];omega
def Jv (K:Qa):V->Option Int->Option Int->Hp->VK->Prop:=λx lo hi H Q=>∃a xs,x=.ref a/\dG K H a xs/\
 ¬ (HT.aU xs.length 0 lo=0/\HT.aU xs.length xs.length hi=xs.length)/\∀p,H p=none->Q (.ref p) (upd H p (.tup (mU xs lo hi)))
def I9:nh X (Jv X.K):=by
 intro pins s σ H x v R S lo hi sl Q I O hs L M h;obtain⟨a,xs,rfl,J,F,q⟩:=h;cases O;obtain⟨y,r,z,B⟩:=I.tuple J;have j:y.toArray.size=xs.length:=by rw[Qy];exact r.length.symm
 refine{"tuple",_,RE.lookup,z.typeIs,?_};refine HT.om z hs L M (by rw[j];exact F) ?_ (by rw[j];exact B)
 rw[j];refine{.ref s.heap.objs.size,_,I.laid (t':=s.toks) (o:=.tup (mU xs lo hi)) (λb ob q=>Qd _ q) (Qe _) ?_,rfl,q _ (I.hok.fresh (Qe _))};exact{Qo (oy xs lo hi) B,_,(r.drop (HT.aU xs.length 0 lo)).take (HT.aU xs.length xs.length hi-HT.aU xs.length 0 lo),IsTup.new _ _}
def Mv (K:Qa):R2:=λx y H Q=>∃a b xs ys,x=.ref a/\y=.ref b/\dG K H a xs/\dG K H b ys/\xs≠[]/\xs.length+ys.length<=sizeLine/\
 (ys=[]->Q (.ref a) H)/\(ys≠[]->∀p,H p=none->Q (.ref p) (upd H p (.tup (xs++ys))))
def Vals.nil_iff {xs:List V}{us:List Qb}(r:Vals xs us):us=[]↔xs=[]:=by
 cases r with
 |nil=>simp
 |cons _ _=>simp
def GZ:bM X (binaryOp .Add) (Mv X.K):=by
 intro pins s σ H x y v u Q I S U h;obtain⟨a,b,xs,ys,rfl,rfl,F,J,L,j,O,R⟩:=h;cases S;cases U;obtain⟨M,r1,p1,_⟩:=I.tuple F;obtain⟨B,r2,p2,_⟩:=I.tuple J;refine HT.HW p1 p2 (λz=>L (r1.nil_iff.mp z)) (λz=>{.ref a,H,I,rfl,O (r2.nil_iff.mp z)}) (λz=>?_) (by rw[<- r1.length,<- r2.length];exact j)
 refine{.ref s.heap.objs.size,_,I.laid (t':=s.toks) (o:=.tup (xs++ys)) (λb ob q=>Qd _ q) (Qe _) ?_,rfl,R (λw=>z (r2.nil_iff.mpr w)) _ (I.hok.fresh (Qe _))};exact{by rw[QD];exact j,_,r1.append r2,IsTup.new _ _}
end
def cv (n:Nat)(i:Int):Option Nat:=if 0<=i then(if i<n then some i.toNat else none) else if -(n:Int)<=i then some (i+n).toNat else none
def sk {y:Type}(xs:List y)(i:Int):Option y:=(cv xs.length i).bind λj=>xs[j]?
def wj {n:Nat}{i:Int}{j:Nat}(h:cv n i=some j):seqIndex? i n=some j/\j<n/\-(n:Int)<=i/\i<n:=by
 unfold cv at h;by_cases y:0<=i
 ·rw[if_pos y] at h;by_cases h1:i<n
  ·rw[if_pos h1] at h;have e:i.toNat=j:=Qr h;exact{by rw[seqIndex_of y h1,e],`a,`a,h1}
  ·rw[if_neg h1] at h;cases h
 ·rw[if_neg y] at h;by_cases h1:-(n:Int)<=i
  ·rw[if_pos h1] at h;have e:(i+n).toNat=j:=Qr h;exact{by rw[seqIndex_neg `a h1,e],`a,h1,`a}
  ·rw[if_neg h1] at h;cases h
def q8 {y:Type}{xs:List y}{i:Int}{v:y}(h:sk xs i=some v):∃j,seqIndex? i xs.length=some j/\xs[j]?=some v/\j<xs.length/\-(xs.length:Int)<=i/\i<xs.length:=by
 unfold sk at h;cases e:cv xs.length i with
 |none=>rw[e] at h;cases h
 | some j =>
   rw[e] at h;obtain⟨h1,h2,h3,h4⟩:=wj e;exact⟨j,h1,h,h2,h3,h4⟩
def jg (b:Expr):Prop:=∀o i,subscripted b false o i=operate [o,i] (getItem o i)
def jW (X:Cx)(r:R2):Prop:=
 ∀(value j:Expr) (pins:List (Addr×Obj)) (s:Qf) (σ:St) (H:Hp) (x y:V) (v u:Qb) (Q:VK),Inv X pins σ H s->RelV x v->RelV y u->r x y H Q->
  subscripted j false v u=operate [v,u] (getItem v u)->wpAny (model X.prog X.w) X.A (subscriptTail value j v u) (EP X pins σ Q) X.xe s
def Ol (X:Cx)(id:String)(r:V->List V->Hp->VK->Prop):Prop:=
 ∀(pins:List (Addr×Obj)) (s:Qf) (σ:St) (H:Hp) (x:V) (xs:List V) (v:Qb) (j:List Qb) (Q:VK),Inv X pins σ H s->RelV x v->Vals xs j->r x xs H Q->
  wpAny (model X.prog X.w) X.A (call (.builtin id) (v::j)) (EP X pins σ Q) X.xe s
section
variable{X:Cx}{a b:Expr}{ta tb:TE}{pos:Pos}
def jW.or {r r':R2}(h:jW X r)(h':jW X r'):jW X (λx y H Q=>r x y H Q\/r' x y H Q):=by
 intro value j pins s σ H x y v u Q I z B q hs;rcases q with q|q
 ·exact h value j pins s σ H x y v u Q I z B q hs
 ·exact h' value j pins s σ H x y v u Q I z B q hs
def xx {r:R2}(hr:jW X r)(z:PE X a ta)(B:PE X b tb)(hs:jg b):PE X (.Subscript a b pos) (zr r ta tb):=by
 intro pins s σ H Q I h;exact Subscript_ (Dt z B I h λv u s2 x y H2 j F J q=>hr a b pins s2 σ H2 x y v u Q j F J q (hs _ _))
def Jz (K:Qa):R2:=λx y H Q=>∃p xs i v,x=.ref p/\y=.int i/\dB K H p xs/\sk xs i=some v/\Q v H
def Jx (K:Qa):R2:=λx y H Q=>∃p xs i v,x=.ref p/\y=.int i/\dG K H p xs/\sk xs i=some v/\Q v H
def Jy:R2:=λx y H Q=>∃z i c,x=.str z/\y=.int i/\z.length<=sizeLine/\sk z.cps.toList i=some c/\Q (.str {#[c]}) H
def Hg:jW X (Jz X.K):=by
 intro value O pins s σ H x y v u Q I rx ry h hs;obtain⟨p,xs,i,z,rfl,rfl,Y,W,q⟩:=h;cases rx;obtain⟨t,rfl⟩:=ry;obtain⟨J,r,L,hz⟩:=I.list Y;obtain⟨j,h1,h2,h3,h4,U⟩:=q8 W;obtain⟨w,R,M⟩:=r.get h2;have hl:=r.length;have hn:=ju;have B:EP X pins σ Q w s:=⟨z,H,I,M,q⟩;by_cases S:0<=i
 ·have F:i.toNat=j:=by
   rw[seqIndex_of S U] at h1;exact Qr h1
  exact item_listR L.isList S `a (by rw[F];simpa using R) B hs
 ·have F:(i+(J.toArray.size:Int)).toNat=j:=by
   rw[seqIndex_neg `a h4] at h1
   rw[Qy,<- hl];exact Qr h1
  exact subscriptTail_builtinR (x:=w) L.isList.typeIs slot_list_getitem.lookup
   (wpAny_getItem_list_neg (Q:=λr s'=>r=w/\EP X pins σ Q r s') L.isList `a (by rw[Qy]<;>omega) `a (by rw[F];simpa using R) ⟨rfl,B⟩) hs
def Kz:jW X (Jx X.K):=by
 intro value J pins s σ H x y v u Q I U W h hs;obtain⟨p,xs,i,z,rfl,rfl,R,O,q⟩:=h;cases U;obtain⟨t,rfl⟩:=W;obtain⟨S,r,L,hz⟩:=I.tuple R;obtain⟨j,h1,h2,h3,h4,Y⟩:=q8 O;obtain⟨w,M,F⟩:=r.get h2;have hl:=r.length;have hn:=ju;have B:EP X pins σ Q w s:=⟨z,H,I,F,q⟩;exact subscriptTail_builtinR (x:=w) L.typeIs slot_tuple_getitem.lookup
  (getItem_tuple (j:=j) (Q:=λr s'=>r=w/\EP X pins σ Q r s') L `a `a (by rw[Qy,<- hl];exact h1) (by simpa using M) ⟨rfl,B⟩) hs
def KA:jW X Jy:=by
 intro value B pins s σ H x y v u Q I L M h hs;obtain⟨z,i,c,rfl,rfl,O,J,q⟩:=h;obtain⟨t,rfl⟩:=L;obtain⟨R,rfl⟩:=M;obtain⟨j,h1,h2,h3,h4,F⟩:=q8 J;have hl:z.cps.toList.length=z.length:=by simp[Str.length]
 rw[hl] at h1 h4 F;have hn:=ju;exact tail_any (typeIs_str s z t) slot_str_getitem.lookup (getItem_str (c:=c) (by
  have e1:decide (i < -(2^63:Int))=false:=decide_eq_false `a
  have e2:decide (i≥2^63)=false:=decide_eq_false `a
  rw[e1,e2,Bool.or_false]) (by rw[h1];simpa using h2) {.str {#[c]},H,I.tok _,{_,rfl},q}) hs
def JA (K:Qa):R2:=λx y H Q=>Jz K x y H Q\/Jx K x y H Q\/Jy x y H Q
def KC:jW X (JA X.K):=Hg.or (Kz.or KA)
def xI (its:List Qb)(n j:Nat)(u:Qb):Obj.mapSeq (·.setIfInBounds j u) {cls:=.type "list",data:=.seq its.toArray n}={cls:=.type "list",data:=.seq (its.set j u).toArray n}:=by
 simp[Obj.mapSeq]
def Inv.lst {pins:List (Addr×Obj)}{σ:St}{H:Hp}{s:Qf}{p:Addr}{xs:List V}(I:Inv X pins σ H s)(h:H p=some (.lst xs)) :
 ∃(j:List Qb) (n:Nat),Vals xs j/\s.heap.get? p=some {cls:=.type "list",data:=.seq j.toArray n}/\xs.length<=sizeLine:=by
 obtain⟨z,j,n,r,e⟩:=I.hok p _ h;exact⟨j,n,r,e,z⟩
def Inv.lstUpd {pins:List (Addr×Obj)}{σ:St}{H:Hp}{s:Qf}{p:Addr}{xs ys:List V}{j its':List Qb}{n n':Nat}{f:Obj->Obj}(I:Inv X pins σ H s)(h:H p=some (.lst xs))
 (ho:s.heap.get? p=some {cls:=.type "list",data:=.seq j.toArray n}) (y:f {cls:=.type "list",data:=.seq j.toArray n}={cls:=.type "list",data:=.seq its'.toArray n'}) (r:Vals ys its') (hz:ys.length<=sizeLine) (t:Nat) :
 Inv X pins σ (upd H p (.lst ys)) {s with heap:=s.heap.update p f,toks:=t}:=by
 have e:(s.heap.update p f).get? p=some {cls:=.type "list",data:=.seq its'.toArray n'}:=by
  rw[Ra f ho (by rw[y]<;>rfl),y]
 refine I.write (x:=p) (e:=p) (by rw[h];trivial) (.inl rfl) (λb u z q=>(Q0 _ _ (Rf z)).trans q) {_,e} ?_
 exact⟨hz,its',n',r,e⟩
def Ek:V->V->V->Hp->(Hp->Prop)->Prop:=λo i v H Q=>∃p xs k j,o=.ref p/\i=.int k/\H p=some (.lst xs)/\cv xs.length k=some j/\Q (upd H p (.lst (xs.set j v)))
def set_list:Dz X Ek:=by
 intro pins s σ H o i v U S u Q I ro O R h;obtain⟨p,xs,k,j,rfl,rfl,J,L,q⟩:=h;cases ro;obtain⟨t,rfl⟩:=O;obtain⟨y,n,r,ho,M⟩:=I.lst J;obtain⟨h1,h2,h3,h4⟩:=wj L;have hl:=r.length;have hn:=ju;have B:Inv X pins σ (upd H p (.lst (xs.set j v))) {s with heap:=s.heap.update p (Obj.mapSeq (·.setIfInBounds j u))}:=
  I.lstUpd J ho (xI y n j u) (r.set R j) (by rw[List.length_set];exact M) s.toks
 by_cases F:0<=k
 ·have z:k.toNat=j:=by
   rw[seqIndex_of F h4] at h1;exact Qr h1
  exact PySem.W.ki_setAt ho F `a (by rw[Qy,<- hl];exact h4) (by rw[z];exact{_,B,q})
 ·have z:(k+(y.toArray.size:Int)).toNat=j:=by
   rw[seqIndex_neg `a h3] at h1
   rw[Qy,<- hl];exact Qr h1
  exact PySem.W.ki_setBack ho `a (by rw[Qy,<- hl];exact h3) `a (by rw[z];exact{_,B,q})
def tD (lo hi:Option Int)(n:Nat):(sliceBounds lo hi none n).1=((HT.aU n 0 lo:Nat):Int)/\(sliceBounds lo hi none n).2.1=((HT.aU n n hi:Nat):Int)/\(sliceBounds lo hi none n).2.2=1:=by
 refine{?_,?_,rfl}
 ·cases lo with
  |none=>simp[sliceBounds,HT.aU]
  | some i =>
    simp only[sliceBounds,HT.aU,Option.getD_none,show(1:Int) > 0 by decide,if_true]
    by_cases h:i<0
    ·simp only[h,if_true]<;>omega
    ·simp only[h,if_false]<;>omega
 ·cases hi with
  |none=>simp[sliceBounds,HT.aU]
  | some i =>
    simp only[sliceBounds,HT.aU,Option.getD_none,show(1:Int) > 0 by decide,if_true]
    by_cases h:i<0
    ·simp only[h,if_true]<;>omega
    ·simp only[h,if_false]<;>omega
def sr (j:List Qb)(lo hi:Option Int):slicePick j.toArray lo hi none=((j.drop (HT.aU j.length 0 lo)).take (HT.aU j.length j.length hi-HT.aU j.length 0 lo)).toArray:=by
 obtain⟨h1,h2,h3⟩:=tD lo hi j.toArray.size;unfold slicePick;rw[h1,h2,h3];simp only[sliceRange_one,pick_run,Qy]<;>rfl
def Jw (K:Qa):V->Option Int->Option Int->Hp->VK->Prop:=λx lo hi H Q=>∃a xs,x=.ref a/\dB K H a xs/\∀p,H p=none->Q (.ref p) (upd H p (.lst (mU xs lo hi)))
def Gm:nh X (Jw X.K):=by
 intro pins s σ H x v O R lo hi sl Q I M hs J L h;obtain⟨a,xs,rfl,z,q⟩:=h;cases M;obtain⟨F,r,y,B⟩:=I.list z;have j:=r.length;refine{"list",_,slot_list_getitem.lookup,y.isList.typeIs,?_};refine wpAny_getItem_list_slice y.isList hs J L .none `s ?_ (by rw[Qy]<;>omega)
 rw[sr,<- j];refine{.ref s.heap.objs.size,_,I.laid (t':=s.toks) (o:=.lst (mU xs lo hi)) (λb ob q=>Qd _ q) (Qe _) ?_,rfl,q _ (I.hok.fresh (Qe _))};exact{Qo (oy xs lo hi) B,_,0,(r.drop (HT.aU xs.length 0 lo)).take (HT.aU xs.length xs.length hi-HT.aU xs.length 0 lo),QA _ rfl}
def uU:cy X (.builtin "len") (λxs H Q=>∃p ys,xs=[.ref p]/\(dB X.K H p ys\/dG X.K H p ys)/\Q (.int ys.length) H):=by
 intro pins s σ H xs M Q I r h;obtain⟨p,ys,rfl,y,q⟩:=h;obtain⟨u,rfl,L⟩:=vals1 r;cases L;have hn:=ju;rcases y with y|y
 ·obtain⟨z,F,B,J⟩:=I.list y;have j:=F.length;exact Calls.call_len_list B.isList (by simp only[Qy]<;>omega) {.int ys.length,H,I.tok _,{s.toks+1,by rw[Qy,j]},q}
 ·obtain⟨z,F,B,J⟩:=I.tuple y;have j:=F.length;exact len_tuple B (by simp only[Qy]<;>omega) {.int ys.length,H,I.tok _,{s.toks+1,by rw[Qy,j]},q}
def uT:cy X (.builtin "len") (λxs H Q=>∃z,xs=[.str z]/\z.length<=sizeLine/\Q (.int z.length) H):=by
 intro pins s σ H xs y Q I r h;obtain⟨z,rfl,j,q⟩:=h;obtain⟨u,rfl,t,rfl⟩:=vals1 r;have hn:=ju;exact len_str `a {.int z.length,H,I.tok _,{_,rfl},q}
def cy.or {f:Qb}{r r':List V->Hp->VK->Prop}(h:cy X f r)(h':cy X f r'):cy X f (λxs H Q=>r xs H Q\/r' xs H Q):=by
 intro pins s σ H xs j Q I rs q;rcases q with q|q
 ·exact h pins s σ H xs j Q I rs q
 ·exact h' pins s σ H xs j Q I rs q
def uS:cy X (.type "list") (λxs H Q=>∃p ys,xs=[.ref p]/\(dB X.K H p ys\/dG X.K H p ys)/\∀l,H l=none->Q (.ref l) (upd H l (.lst ys))):=by
 intro pins s σ H xs S Q I r h;obtain⟨p,ys,rfl,J,q⟩:=h;obtain⟨u,rfl,R⟩:=vals1 r;cases R;have B:∀(j:List Qb),Vals ys j->ys.length<=sizeLine->∀(h':Heap) (y:Nat),(∀b o',s.heap.get? b=some o'->h'.get? b=some o')->
  h'.get? s.heap.objs.size=some {cls:=.type "list",dict:=none,data:=.seq j.toArray y,slots:=#[]}->EP X pins σ Q (.ref s.heap.objs.size) {s with heap:=h'}:=λj z L h' y kp e=>
  {.ref s.heap.objs.size,_,I.laid (t':=s.toks) kp (Qe _) (show cV X.prog X.w _ h' _ (.lst ys) from⟨L,j,y,z,e⟩),rfl,q _ (I.hok.fresh (Qe _))}
 rcases J with J|J
 ·obtain⟨j,z,O,L⟩:=I.list J;have F:=z.length;obtain⟨o,ho,M,n,hd⟩:=O.isList;exact call_list_seq p (.inl rfl) ho M hd (λh' y kp e=>B j z L h' y kp e) (by simp only[Qy]<;>omega)
 ·obtain⟨j,z,O,L⟩:=I.tuple J;have F:=z.length;obtain⟨o,ho,M,n,hd⟩:=O;exact call_list_seq p (.inr rfl) ho M hd (λh' y kp e=>B j z L h' y kp e) (by simp only[Qy]<;>omega)
def sv:cy X (.type "tuple") (λxs H Q=>∃p ys,xs=[.ref p]/\((dB X.K H p ys/\∀l,H l=none->Q (.ref l) (upd H l (.tup ys)))\/(dG X.K H p ys/\Q (.ref p) H))):=by
 intro pins s σ H xs R Q I r h;obtain⟨p,ys,rfl,h⟩:=h;obtain⟨u,rfl,O⟩:=vals1 r;cases O;rcases h with⟨y,q⟩|⟨y,q⟩
 ·obtain⟨j,B,z,L⟩:=I.list y;have J:=B.length;refine call_tuple_list z.isList (λh' kp=>?_) (by simp only[Qy]<;>omega)
  have F:Inv X pins σ H {s with heap:=h'}:=I.kept (t':=s.toks) kp
  have M:Inv X pins σ (upd H h'.objs.size (.tup ys)) {s with heap:=h'.push {cls:=.type "tuple",data:=.seq j.toArray}}:=
   F.laid (t':=s.toks) (λb o e=>Qd _ e) (Qe _) (show cV X.prog X.w _ _ _ (.tup ys) from{L,j,B,IsTup.new _ _})
  exact{.ref h'.objs.size,_,M,rfl,q _ (F.hok.fresh (Qe _))}
 ·obtain⟨j,B,z,L⟩:=I.tuple y;exact call_tuple_same z {.ref p,H,I,rfl,q}
def NT (K:Qa)(T:String)(x:V)(H:Hp):Prop:=match x with
 |.str _=>T="str"
 |.int _=>T="int"
 |.ref p=>(T="list"/\∃xs,dB K H p xs)\/(T="tuple"/\∃o,K.lookup p=some o/\o.cls=.type "tuple"/\o.dict=none)\/
  (T="dict"/\((∃kvs,H p=some (.dK kvs))\/(∃kvs,H p=some (.dT kvs))\/∃es,H p=some (.dn es)))\/(T="set"/\∃S n,H p=some (.set S n))
 |_=>False
def IQ {pins:List (Addr×Obj)}{σ:St}{H:Hp}{s:Qf}{T:String}{x:V}{v:Qb}(I:Inv X pins σ H s)(r:RelV x v)(ty:NT X.K T x H) :
 s.TypeIs v T/\∀a,v=.ref a->∃ob,s.heap.get? a=some ob/\ob.dict=none:=by
 cases x with
 | str z =>
   obtain⟨t,rfl⟩:=r;cases (show T="str" from ty);exact{typeIs_str s z t,λ_ e=>nomatch e}
 | int i =>
   obtain⟨t,rfl⟩:=r;cases (show T="int" from ty);exact{typeIs_int s i t,λ_ e=>nomatch e}
 | ref p =>
   cases r;rcases ty with⟨rfl,xs,J⟩|⟨rfl,o,j,F,hd⟩|⟨rfl,j⟩|⟨rfl,S,n,j⟩
   ·obtain⟨L,_,B,_⟩:=I.list J;refine{B.isList.typeIs,λa e=>?_};cases e;obtain⟨o,n,e,c,hd,_⟩:=B;exact⟨o,e,hd⟩
   ·refine{{o,I.kIn p o j,F},λa e=>?_};cases e;exact{o,I.kIn _ o j,hd}
   ·have z:∃o,s.heap.get? p=some o/\o.ExactDict:=by
     rcases j with⟨y,j⟩|⟨y,j⟩|⟨es,j⟩
     rotate_left 2
     ·obtain⟨_,_,o,e,ex,_⟩:=I.hok p _ j;exact⟨o,e,ex⟩
     ·obtain⟨_,_,_,_,o,_,_,e,ex,_⟩:=I.hok p _ j;exact⟨o,e,ex⟩
     ·obtain⟨_,_,_,_,o,_,_,e,ex,_⟩:=I.hok p _ j;exact⟨o,e,ex⟩
    obtain⟨o,e,ex⟩:=z;refine{⟨o,e,ex.1⟩,λa e2=>?_};cases e2;exact⟨o,e,ex.2.1⟩
   ·obtain⟨o,_,_,_,e,ex,_⟩:=I.hok p _ j;refine{⟨o,e,ex.1⟩,λa e2=>?_};cases e2;exact⟨o,e,ex.2.1⟩
 |_=>exact False.elim ty
def tBM (K:Qa)(T:String)(r:V->List V->Hp->VK->Prop)(to:TE)(t:TA):TE:=λσ H Q=>to σ H λx H1=>NT K T x H1/\t σ H1 λxs H2=>r x xs H2 Q
variable{o e:Expr}{es:List Expr}{to:TE}{t:TA}{name:Str}{apos cpos:Pos}{T id:String}{r:V->List V->Hp->VK->Prop}
def xy (R:PlainAttrs T)(slot:Slot T name id)(F:typeOf (.builtin id)=pure (.type "method_descriptor"))(hm:Ol X id r)(ho:PE X o to)(O:PA X (e::es) t)
 (y:attributeBase o name X.env (eval o X.env)=eval o X.env:=by rfl)
 (B:((backTo cpos (starEach (e::es) X.env)).all (λx=>!x.1)&&(backToKw cpos (keywordEach [] X.env)).all (λx=>x.1.isSome)
  && decide ((e::es).length+([]:List Keyword).length+(if ([]:List Keyword).isEmpty then 0 else 1)<30))=true:=by rfl)
 (z:(apos.endLine==cpos.line)=true:=by rfl) (hs:starEach (e::es) X.env=(false,eval e X.env)::starEach es X.env:=by rfl) (j:(backTo cpos (starEach es X.env)).any (·.1)=false:=by rfl) :
 PE X (.Call (.Attribute o name apos) (e::es) [] cpos) (tBM X.K T r to t):=by
 intro pins s σ H Q I h;refine wpAny_Call_method_late y B z rfl (aW (ho pins s σ H _ I h) λv s1 ⟨x,H1,J,r1,ty,S⟩=>?_);obtain⟨h1,h2⟩:=IQ J r1 ty;refine{T,id,R,slot,F,h1,h2,?_};have L:=O cpos pins s1 σ H1 _ J S;rw[hs] at L ⊢;refine Calls.callWith_builtin (by show(false||(backTo cpos (starEach es X.env)).any (·.1))=false;rw[j]<;>rfl) (Calls.evalArgs_plain ?_)
 exact aW L λW s2 ⟨Y,H2,M,r2,U⟩=>hm pins s2 σ H2 x Y v W Q M r1 r2 U
end
def MtM (X:Cx)(id:String)(r:V->List V->Hp->VK->Prop):Prop:=
 ∀(pins:List (Addr×Obj)) (s:Qf) (σ:St) (H:Hp) (x:V) (xs:List V) (v:Qb) (j:List Qb) (Q:VK),Inv X pins σ H s->RelV x v->Vals xs j->r x xs H Q->
  wpAny (model X.prog X.w) X.A (call (.builtin id) (v::j)) (EP X pins σ Q) X.xe s
def Vals.one:∀{x:V}{us:List Qb},Vals [x] us->∃u,us=[u]/\RelV x u
 |_,_,.cons r .nil=>{_,rfl,r}
def Vals.rep {xs:List V}{us:List Qb}(h:Vals xs us):∀k:Nat,Vals (List.replicate k xs).flatten (List.replicate k us).flatten
 |0=>.nil
 | k + 1 => by
   rw[R8,R8,Sr,Sr];exact Vals.append h (Vals.rep h k)
def foldl_rep (j:List Qb):∀(k:Nat) (acc:List Qb),
 List.foldl (λx1 x2=>x1++x2) acc.toArray (List.replicate k j.toArray)=(acc++(List.replicate k j).flatten).toArray
 |0,acc=>`s
 | k + 1, acc => by
   have e:acc.toArray++j.toArray=(acc++j).toArray:=`s
   have e2:(acc++j)++(List.replicate k j).flatten=acc++(List.replicate (k+1) j).flatten:=by
    rw[R8,Sr,Rl]
   rw[<- e2,<- foldl_rep j k (acc++j),<- e,R8,List.foldl_cons]
section
variable{X:Cx}{pins:List (Addr×Obj)}{σ:St}{H:Hp}{s:Qf}{l b:Addr}{xs ys zs:List V}
def Inv.lset {j its':List Qb}{n:Nat}{f:Array Qb->Array Qb}{t':Nat}(I:Inv X pins σ H s)(y:H l=some (.lst xs))
 (e:s.heap.get? l=some {cls:=.type "list",data:=.seq j.toArray n}) (B:f j.toArray=its'.toArray) (J:Vals ys its') (hz:ys.length<=sizeLine) :
 Inv X pins σ (upd H l (.lst ys)) {s with heap:=s.heap.update l (Obj.mapSeq f),toks:=t'}:=by
 have q:=PySem.IsL.update e f;rw[B] at q;refine I.write (x:=l) (e:=l) (by rw[y];exact trivial) (.inl rfl) (λL u z F=>(Q0 s.heap (Obj.mapSeq f) (Rf z)).trans F) {_,q} ?_
 exact{hz,its',_,J,q}
def Inv.lnew {j:List Qb}{t':Nat}(I:Inv X pins σ H s)(y:Vals ys j)(hz:ys.length<=sizeLine) :
 Inv X pins σ (upd H s.heap.objs.size (.lst ys)) {s with heap:=s.heap.push {cls:=.type "list",data:=.seq j.toArray},toks:=t'}:=
 I.laid (λ_ _ q=>Qd _ q) (Qe _) {hz,j,0,y,QA _ rfl}
def Inv.fresh (I:Inv X pins σ H s):H s.heap.objs.size=none:=I.hok.fresh (Qe _)
def Inv.lstM (I:Inv X pins σ H s)(y:H l=some (.lst xs)):xs.length<=sizeLine/\∃(j:List Qb) (n:Nat),Vals xs j/\xs.length=j.length/\s.heap.get? l=some {cls:=.type "list",data:=.seq j.toArray n}:=by
 obtain⟨z,j,n,r,e⟩:=I.hok l _ y;exact⟨z,j,n,r,r.length,e⟩
def CF {n:Nat}(h:n<=sizeLine):Builtin.List.listTooLong n=false:=by
 unfold Builtin.List.listTooLong;exact decide_eq_false `a
end
section
variable{X:Cx}
def GD:V->List V->Hp->VK->Prop:=λx j H Q=>∃l xs y,x=.ref l/\j=[y]/\H l=some (.lst xs)/\xs.length<sizeLine/\Q .non (upd H l (.lst (xs++[y])))
def mD:MtM X "list.append" GD:=by
 intro pins s σ H x S v R Q I M L h;obtain⟨l,xs,y,rfl,rfl,B,O,q⟩:=h;cases M;obtain⟨u,rfl,J⟩:=L.one;obtain⟨z,j,n,r,hl,e⟩:=I.lstM B;refine call_meets F.slot_list_append {_,e,rfl} F.entry_list_append (F.args_list_append_2 _ _) (PySem.list_append l j.toArray n u (by rw[Qy];omega)) {e,?_}
 refine{.non,_,I.lset (its':=j++[u]) B e `s (r.append (.cons J .nil)) ?_,rfl,q}
 rw[QD,List.length_singleton];omega
def OL:R2:=λx y H Q=>∃l b xs zs,x=.ref l/\y=.ref b/\H l=some (.lst xs)/\H b=some (.lst zs)/\xs.length+zs.length<=sizeLine/\∀p,H p=none->Q (.ref p) (upd H p (.lst (xs++zs)))
def JZ:bM X (binaryOp .Add) OL:=by
 intro pins s σ H x y v u Q I O R h;obtain⟨l,b,xs,zs,rfl,rfl,L,J,S,q⟩:=h;cases O;cases R;obtain⟨z,B,n,r,hl,e⟩:=I.lstM L;obtain⟨U,j,n2,r2,M,e2⟩:=I.lstM J;refine PySem.P.add_list e e2 ?_ (by rw[Qy,Qy];omega)
 have F:B.toArray++j.toArray=(B++j).toArray:=`s
 rw[F];exact{.ref _,_,I.lnew (t':=s.toks) (r.append r2) (by rw[QD];omega),rfl,q _ I.fresh}
def OJ:R2:=λx y H Q=>∃l k xs,x=.ref l/\y=.int k/\H l=some (.lst xs)/\-(2^63)<=k/\k<2^63/\xs.length*k.toNat<=sizeLine/\
 ∀p,H p=none->Q (.ref p) (upd H p (.lst (List.replicate k.toNat xs).flatten))
def len_rep {y:Type}(xs:List y)(k:Nat):(List.replicate k xs).flatten.length=k*xs.length:=by
 induction k with
 |zero=>simp
 |succ k j=>rw[R8,Sr,QD,j,Nat.succ_mul,Nat.add_comm]
def JU:bM X (binaryOp .Mult) OJ:=by
 intro pins s σ H x y v u Q I rx ry h;obtain⟨l,k,xs,rfl,rfl,hH,h1,h2,W,q⟩:=h;cases rx;obtain⟨t,rfl⟩:=ry;obtain⟨z,j,n,r,hl,e⟩:=I.lstM hH;have M:j.toArray.size*k.toNat<=sizeLine:=by rw[Qy,<- hl];exact W
 have J:¬ j.toArray.size*k.toNat > (2^63-1) / 8:=by
  have:(sizeLine:Nat)<=(2^63-1) / 8:=`d
  omega
 have L:¬ (!Builtin.List.listFitsIndex k)=true:=by
  rw[fitsIndex_both h1 h2];exact QF
 have B:¬ Builtin.List.listTooLong (j.toArray.size*k.toNat)=true:=by
  rw[CF M];exact QF
 have O:List.foldl (λR S=>R++S) #[] (List.replicate (if j.toArray.isEmpty=true then 0 else k.toNat) j.toArray)=(List.replicate k.toNat j).flatten.toArray:=by
  have Y:∀m:Nat,List.foldl (λR S=>R++S) #[] (List.replicate m j.toArray)=(List.replicate m j).flatten.toArray:=λm=>by
   have:=foldl_rep j m [];rw[Sn] at this;exact this
  rw[Y];cases j with
  |nil=>simp
  |cons a r'=>rw[if_neg `s]
 refine wpAny_binaryOp_repeat_ref (T:="list") (U:="int") `d {_,e,rfl} (λs'=>typeIs_int s' k t) noFill_list_mul F.fills_int_mul F.slot_int_rmul repeat_list F.slot_int_index.lookup
  (call_meets F.slot_int_rmul (typeIs_int s k t) F.entry_int_rmul (F.args_int_rmul_2 _ _) (int___rmul___int_list k t l j.toArray n)
   {e,rfl,{_,e,rfl},call_meets F.slot_list_mul {_,e,rfl} F.entry_list_mul (F.args_list_mul_2 _ _) (AutoListH.list___mul___list_int_3 l j.toArray n k t L J B) {e,?_}})
 rw[O];exact{.ref _,_,I.lnew (t':=s.toks) (r.rep k.toNat) (by rw[len_rep,Nat.mul_comm];exact W),rfl,q _ I.fresh}
end
end L2
namespace Att
open PySem PySem.W PySem.Calls PyProof.Rows
def pU {P:R3}{h:Heap}:∀(ns:List Int) (vs:List Qb),WellAll P h vs (ns.map WData.int)->So vs ns:=by
 intro ns;induction ns with
 | nil =>
   intro vs w;rw[List.map_nil] at w;cases w;exact .nil
 | cons n ns j =>
   intro vs w;rw[Q9] at w;cases w with
   | cons a b =>
     cases a;exact .cons _ _ (j _ b)
def zM {l:OpenLaw}{n:Nat}(hn:l.most=some n){P:R3}{h:Heap}{args:List WData}{y:List Qb}
 (j:l.row.toRowW.claim.pre args=true) (J:WellAll P h y args) :
 ∃a vs ns,y=[Value.ref a]/\args=[WData.list (ns.map WData.int)]/\h.get? a=some {cls:=.type "list",data:=.seq vs.toArray}/\So vs ns/\ns.length<=n:=by
 have I:WShape.hasAll [] args [.list .int]=true:=(pre_splitW j).1;have L:l.pre.holds [] {args:=args}=true:=(pre_splitW j).2;obtain⟨d,r,rfl,h1,h2⟩:=hasAllW_cons I;obtain rfl:=hasAllW_nil h2;obtain⟨xs,rfl,h3⟩:=hasW_list h1;obtain⟨ns,rfl⟩:=items_int h3;have B:ns.length<=n:=by
  unfold OpenLaw.pre at L;have h4:(WTm.not (.lt (.lit (.int (n:Int))) (.len (.arg 0)))).holds [] {args:=[.list (ns.map .int)]}=true:=by
   have h4:=(holds_andW L).1;rw[hn] at h4;exact h4
  have F:=condW_of h4 (w_not (w_lt w_lit (w_len_list (w_arg rfl))));rw[P8] at F;refine Nat.le_of_not_lt λq=>?_;have M:(n:Int)<((ns.length:Nat):Int):=`a
  first
   |(rw[decide_eq_true M] at F;exact absurd F `d)
   |(simp at F;omega)
 cases J with
 | cons O w2 =>
   cases w2;cases O with
   |list ho z=>exact{_,_,ns,rfl,rfl,ho,pU ns _ z,B}
def zZ (l:OpenLaw)(args:List WData):l.row.toRowW.claim.post args (.bool true) args=true:=
 postW_of (r:=l.row.toRowW) (X:=(true==true))
  (show WShape.has [] (.bool true) .bool=true by first|rfl|decide|simp[WShape.has,WShape.arms,WShape.armsAll])
  (show(WTm.eq .res (.lit (.bool true))).value [] {args:=args,res:=some (.bool true),after:=args}=some (.bool (true==true)) from w_eq_bool (w_res rfl) w_lit) rfl
def attach_call {l:OpenLaw}{n:Nat}{q:Q5}{loose:List Str}{U:(Str->Option Qb)->Heap->Prop}{W:Q4->Heap->Prop}{d:DefRec}
 (hn:l.most=some n) (M:d.params.defaults=[])
 (call:∀(w:Q4) (s₀ j:Qf) (mg S:Str->Option Qb) (fa:Addr) (o:Obj) (pm J y:Qb) (a:Addr) (vs:List Qb) (ns:List Int),
  Ground q loose [] U w s₀ mg S j.heap->W w j.heap->
  j.heap.get? fa=some o->o.data=.func (docDef d.name d.params d.body d.scope pm J y)->j.heap.CodeRec J d.name->mg d.name=some (.ref fa)->
  j.heap.get? a=some {cls:=.type "list",data:=.seq vs.toArray}->So vs ns->ns.length<=n->j.gens=#[]->
  codeAny (model l.prog w) callerA (.call (.ref fa) {[.ref a],[]}) (λr s'=>r=.ok (.ret (.bool true))/\OldK j.heap s'.heap/\s'.os=j.os/\AllBare s'.gens) j) :
 WalkO q loose U W l.row.toRowW d [] (λf vs=>PySem.call f vs):=by
 intro w s₀ j mg S G Y fa o pm J y dV kV ho hd L hD O hg args vals as I hlay hrd R hlo;obtain rfl:dV=.none:=Dflts.none hD M;obtain rfl:kV=.none:=Dflts.noKw hD;obtain⟨a,vs,ns,rfl,rfl,F,z,B⟩:=zM hn I R;refine enter_call (codeAny_mono (call w s₀ j mg S fa o pm J y a vs ns G Y ho (fd_plain hd) L O F z B hg) λr s' hq=>?_);obtain⟨rfl,h2,h3,h4⟩:=hq;exact{.inl {.bool true,.bool true,[],rfl,λ_=>rfl,.bool true,zZ l _,λ_=>{List.Pairwise.nil,λ_ hm=>(nomatch hm)}},h2,h3,h4}
end Att
namespace L2
open PySem PySem.Spec PyProof.Rows
def ri:∀{vs:List Qb}{ns:List Int},So vs ns->Vals (ns.map V.int) vs
 |_,_,.nil=>.nil
 |_,_,.cons n t h=>.cons ⟨t,rfl⟩ (ri h)
def yu (H:Hp):Prop:=∀b,H b=none\/∃o xs,H b=some (.frz o (.lst xs))
def CS {P:Q5}{w:Q4}{K:Qa}{mg mb:Str->Option Qb}{CX:oD}{k:Nat}{fa a:Addr}{fd:FuncData}{x:Str}{sp:Sp}{j:Qf}{vs:List Qb}{ns:List Int}
 (KX:K.In j.heap) (R:j.heap.Ns mainGlobals mg) (y:j.heap.Ns builtinsNs mb) (hbb:∀x:Str,x≠"__name__"->mb x=bootBuiltins x) (O:j.heap.NoLimit) (hg:j.gens=#[])
 (ha:j.heap.get? a=some {cls:=.type "list",data:=.seq vs.toArray}) (hi:So vs ns) (hl:ns.length<=sizeLine) (hr:dr k callerA)
 (F:∀base:Heap,K.In base->base.Ns mainGlobals mg->md P w K mg base CX k fa fd [x] sp) (J:∀(s:Qf) (u:Qb),BindsTo s fd {[u],[]} [(x,u)])
 (hsp:∀H:Hp,yu H->dB K H a (ns.map V.int)->sp [.ref a] H (λv _=>v=.bl true) λ_ _ _=>False)
 (hCX:∀H e s',CX [] H j (λ_ _ _=>False) e s'->False) :
 codeAny (model P w) callerA (.call (.ref fa) {[.ref a],[]}) (λr s'=>r=.ok (.ret (.bool true))/\OldK j.heap s'.heap/\s'.os=j.os/\AllBare s'.gens) j:=by
 have rv:=ri hi;have U:=hi.length;have I:∀H:Hp,yu H->dB K H a (ns.map V.int)->eX P w H j.heap->(∀b,H b≠none->b=a)->(H a≠none->K.lookup a=none)->
  codeAny (model P w) callerA (.call (.ref fa) {[.ref a],[]}) (λr s'=>r=.ok (.ret (.bool true))/\OldK j.heap s'.heap/\s'.os=j.os/\AllBare s'.gens) j:=by
  intro H hO hS hok hA hK;have jf:∀{b:Addr}{o:Obj},j.heap.get? b=some o->H b=none->(lM j.heap H).get? b=some o:=λe n=>Dc e n;have noA:∀{b:Addr}{o:Obj}{es:Array Rx}{L:Nat},j.heap.get? b=some o->o.data=.dict es L->H b=none:=λ{b o es L} e d=>by
   cases q:H b with
   |none=>rfl
   | some u =>
     have e':b=a:=hA b (by rw[q];simp)
     subst e';rw[ha] at e;cases e;have d':Data.seq vs.toArray _=Data.dict es L:=d;cases d'
  have B:∀{b:Addr}{m:Str->Option Qb},j.heap.Ns b m->(lM j.heap H).Ns b m:=λ{b m} ⟨o,es,L,e,d,r⟩=>{o,es,L,jf e (noA e d),d,r};have M:K.In (lM j.heap H):=λb o e=>jf (KX b o e) (by
   cases q:H b with
   |none=>rfl
   | some u =>
     have e':b=a:=hA b (by rw[q];simp)
     subst e';rw[hK (by rw[q];simp)] at e;cases e)
  have hM:Mod K mg (lM j.heap H):={M,B R,{mb,B y,hbb},let⟨mc,h1,h2⟩:=O;{mc,B h1,h2}}
  have e0:yz P w K mg (lM j.heap H) callerA [] j H:={rfl,hM,λb o e=>G0 e,Nat.le_of_eq (AX _ _),trivial,λb y=>absurd (show b∈([]:List Addr) from y) `s,hok,.of_eq hg}
  refine codeAny_mono ((F _ M (B R)).run callerA [] j H {[.ref a],[]} [.ref a] [.ref a] _ _ hr e0 (J j (.ref a)) (.cons rfl .nil) (hsp H hO hS)) λr s' h=>?_;cases r with
  |error e=>exact(hCX H e s' h).elim
  | ok fl =>
    cases fl with
    |next=>exact False.elim h
    |brk=>exact False.elim h
    |cont=>exact False.elim h
    | ret u =>
      obtain⟨v,H',os,bare,un,S,r',q⟩:=h;have q':v=.bl true:=q;subst q';obtain rfl:u=Value.bool true:=r';refine{rfl,OldK.of_keep λb o e=>?_,os,bare};cases q:H b with
      |none=>exact un.keep b o e q (by intro z;exact absurd (show b∈([]:List Addr) from z) `s) `s
      | some u =>
        rcases hO b with z|⟨ob,xs,z⟩
        ·rw[q] at z;cases z
        ·have z2:=un.frzs b ob _ z;obtain⟨e1,_⟩:=hok b _ z;obtain⟨e2,_⟩:=S b _ z2;rw[e] at e1;cases e1;exact e2
 cases hk:K.lookup a with
 | some o =>
   have e:=KX a o hk;rw[ha] at e;cases e;refine I (λ_=>none) (λ_=>.inl rfl) (.inr {_,vs.toArray,_,hk,rfl,rfl,rfl,by rw[Qy,U];exact hl,by simpa using rv}) (λb u z=>by have Y:(none:Option HO)=some u:=z;cases Y) (λb z=>absurd rfl z) λz=>absurd rfl z
 | none =>
   refine I (λb=>if b=a then some (.frz {cls:=.type "list",data:=.seq vs.toArray} (.lst (ns.map V.int))) else none) (λb=>?_) (.inl (.inr {{cls:=.type "list",data:=.seq vs.toArray},if_pos rfl})) (λb u z=>?_) (λb z=>?_) λ_=>hk
   ·by_cases y:b=a
    ·exact .inr {_,_,if_pos y}
    ·exact .inl (if_neg y)
   ·by_cases y:b=a
    ·have Y:=(if_pos y).symm.trans z;cases Y;subst y;exact{ha,by rw[P8];exact hl,vs,_,rv,ha}
    ·have Y:=(if_neg y).symm.trans z;cases Y
   ·by_cases y:b=a
    ·exact y
    ·exact absurd (if_neg y) z
def FE {l:PySem.W.OpenLaw}{n k:Nat}{q:Q5}{loose:List Str}{U:(Str->Option Qb)->Heap->Prop}{S:Q4->Heap->Prop}{d:DefRec}{K:R3->Qa}{CX:Q4->oD}{sp:Q4->Sp}{x:Str}
 (hn:l.most=some n) (M:n<=sizeLine) (J:d.params.defaults=[]) (hr:dr k callerA)
 (hY:∀(w:Q4) (h:Heap),S w h->(K w.params).In h)
 (F:∀(w:Q4) (mg:Str->Option Qb) (fa:Addr) (h:Heap),(K w.params).In h->h.Ns mainGlobals mg->mg d.name=some (.ref fa)->
  ∃fd:FuncData,(∀(s:Qf) (u:Qb),BindsTo s fd {[u],[]} [(x,u)])/\
   ∀base:Heap,(K w.params).In base->base.Ns mainGlobals mg->md l.prog w (K w.params) mg base (CX w) k fa fd [x] (sp w))
 (O:∀(w:Q4) (H:Hp) (a:Addr) (ns:List Int),ns.length<=n->yu H->dB (K w.params) H a (ns.map V.int)->sp w [.ref a] H (λv _=>v=.bl true) λ_ _ _=>False)
 (I:∀(w:Q4) (H:Hp) (s:Qf) (e:Qb) (s':Qf),CX w [] H s (λ_ _ _=>False) e s'->False) :
 PySem.W.WalkO q loose U S l.row.toRowW d [] (λf vs=>PySem.call f vs):=by
 refine Att.attach_call hn J λw s₀ B mg mb fa o pm cd doc a vs ns G Y ho hd hcd L z y j hg=>?_;have R:=hY w _ Y;obtain⟨fd,hb,hF⟩:=F w mg fa _ R G.T.g L;exact CS R G.T.g G.T.b G.T.builtins G.T.nolimit hg z y (Qo j M) hr hF hb (λH hO hS=>O w H a ns j hO hS) λH e s'=>I w H B e s'
noncomputable def fq (s:Stmt):Arguments:=match s with
 |.FunctionDef _ a _ _ _ _ _ _ _ _=>a
 |_=>{posonlyargs:=[],args:=[],vararg:=none,kwonlyargs:=[],kw_defaults:=[],kwarg:=none,defaults:=[]}
noncomputable def c7 (s:Stmt):List Stmt:=match s with
 |.FunctionDef _ _ b _ _ _ _ _ _ _=>b
 |_=>[]
noncomputable def bj (s:Stmt):Scope:=match s with
 |.FunctionDef _ _ _ _ _ _ sc _ _ _=>sc
 |_=>{kind:=.function,names:=[],isGenerator:=false,isCoroutine:=false}
abbrev E0:XK:=λ_ _ _=>False
structure w6 (K:Qa) (x qual:Str) (st:Stmt) (f:Addr) (fd:FuncData):Prop where
 ex:∃(oc:Qb) (od:Option Addr) (kV doc pm:Qb) (an:Option Addr) (cdv ct:Qb) (osl:Array (Option Qb)),
  fd=PySem.W.fnOf x qual (fq st) (c7 st) (bj st) .none kV doc pm an cdv ct/\K.lookup f=some {oc,od,.func fd,osl}/\PySem.W.codeIn K cdv qual=true
 kp:PySem.W.keepIn K (.ref f)=true
section
variable{P:Q5}{w:Q4}{K:Qa}{mg:Str->Option Qb}{base:Heap}
def KP {x j:Str}{st:Stmt}{f:Addr}{oc:Qb}{od F:Option Addr}{B:Array (Option Qb)}{kV z pm y ct:Qb}(l:K.lookup f=some {oc,od,.func (PySem.W.fnOf x j (fq st) (c7 st) (bj st) .none kV z pm F y ct),B})
 (c:PySem.W.codeIn K y j=true) (k:PySem.W.keepIn K (.ref f)=true):w6 K x j st f (PySem.W.fnOf x j (fq st) (c7 st) (bj st) .none kV z pm F y ct):={⟨oc,od,kV,z,pm,F,y,ct,B,rfl,l,c⟩,k}
end
end L2
namespace LD
open PySem
inductive D where
 |non|bl (b:Bool)|int (i:Int)|str (x:Str)|tup (ds:List D)|lst (ds:List D)|frz (ds:List D)|cell (k:Nat)|fn (f:Nat)|exc (c:Nat) (p:Option Int)
 deriving Inhabited
abbrev Mem:=List (List D)
abbrev Env:=List (Option D)
inductive Res (α:Type) where
 |ok (a:α) (M:Mem)
 |err (x:D) (M:Mem)
 |bad
noncomputable def Res.bind {h j:Type}(r:Res h)(f:h->Mem->Res j):Res j:=match r with
 |.ok a M=>f a M
 |.err x M=>.err x M
 |.bad=>.bad
@[simp] theorem Res.bind_ok {h j:Type}(a:h)(M:Mem)(f:h->Mem->Res j):(Res.ok a M).bind f=f a M:=rfl
@[simp] theorem Res.bind_err {h j:Type}(x:D)(M:Mem)(f:h->Mem->Res j):(Res.err x M:Res h).bind f=.err x M:=rfl
@[simp] theorem Res.bind_bad {h j:Type}(f:h->Mem->Res j):(Res.bad:Res h).bind f=.bad:=rfl
inductive oE where
 |add|sub|mul|fdiv|mod|pow
 deriving DecidableEq
inductive jI where
 |eq|ne|lt|le|gt|ge|isN|notN|isin|notin
 deriving DecidableEq
inductive Ty where
 |int|bool|str|tuple|list|own (c:Str)
 deriving DecidableEq
inductive xa where
 |len|tuple|list (m:Bool)|listR (m:Bool)|all|sum|repr
 deriving DecidableEq
inductive fX where
 |one (i:Nat)
 |tup (l:List Nat)
 |two (i:Nat) (l:List Nat)
noncomputable def sz:Nat:=16777216
noncomputable def bf (m:Bool)(ds:List D)(M:Mem):Res D:=if ds.length<=sz then(if m then .ok (.cell M.length) (M++[ds]) else .ok (.lst ds) M) else .bad
noncomputable def lE (ds:List D)(M:Mem):Res D:=if ds.length<=sz then .ok (.tup ds) M else .bad
noncomputable def cE (M:Mem):D->Option (List D)
 |.lst h=>some h
 |.tup h=>some h
 |.frz h=>some h
 |.cell k=>M[k]?
 |_=>none
noncomputable def fj (M:Mem):D->Option (List D)
 |.lst h=>some h
 |.frz h=>some h
 |.cell k=>M[k]?
 |_=>none
noncomputable def jt (M:Mem):D->Option (List D)
 |.lst h=>some h
 |.cell k=>M[k]?
 |_=>none
noncomputable def az:Nat->D->Bool
 |_,.non=>true
 |_,.bl _=>true
 |_,.int _=>true
 |_,.str x=>x.cps.all (· < 0x110000)
 |n+1,.tup h=>h.all (az n)
 |n+1,.lst h=>h.all (az n)
 |0,.tup _=>false
 |0,.lst _=>false
 |_,.frz _=>false
 |_,.cell _=>false
 |_,.fn _=>false
 |_,.exc _ _=>false
mutual
noncomputable def bJ:D->D->Bool
 |.non,.non=>true
 |.bl a,.bl b=>a==b
 |.bl a,.int b=>(if a then 1 else 0)==b
 |.int a,.bl b=>a==(if b then 1 else 0)
 |.int a,.int b=>a==b
 |.str a,.str b=>a==b
 |.tup a,.tup b=>dE a b
 |.lst a,.lst b=>dE a b
 |_,_=>false
noncomputable def dE:List D->List D->Bool
 |[],[]=>true
 |a::r,b::t=>bJ a b&&dE r t
 |[],_::_=>false
 |_::_,[]=>false
end
noncomputable def hU:D->Bool
 |.str _=>true
 |_=>false
def mR (a b:D):Option Bool:=if hU a&&hU b||az 64 a&&az 64 b then some (bJ a b) else none
noncomputable def view (M:Mem):D->D
 | .cell k => match M[k]? with
   |some h=>.lst h
   |none=>.cell k
 |.frz h=>.lst h
 |d=>d
noncomputable def dt:Nat->Mem->D->D
 |0,_,d=>d
 | n + 1, M, .cell k => match M[k]? with
   |some h=>.lst (h.map (dt n M))
   |none=>.cell k
 |n+1,M,.frz h=>.lst (h.map (dt n M))
 |n+1,M,.lst h=>.lst (h.map (dt n M))
 |n+1,M,.tup h=>.tup (h.map (dt n M))
 |_+1,_,d=>d
def mQ (M:Mem)(a b:D):Option Bool:=match mR (view M a) (view M b) with
 |some r=>some r
 |none=>mR (dt 64 M a) (dt 64 M b)
def jZ (M:Mem):D->Option Bool
 |.non=>some false
 |.bl b=>some b
 |.int i=>some (i != 0)
 |.str x=>if x.cps.size<=sz then some (x.cps.size != 0) else none
 |.tup ds=>some (!ds.isEmpty)
 |.lst ds=>some (!ds.isEmpty)
 |.frz ds=>some (!ds.isEmpty)
 |.cell k=>(M[k]?).map λds=>!ds.isEmpty
 |.fn _=>none
 |.exc _ _=>none
def cv (n:Nat)(i:Int):Option Nat:=if 0<=i then(if i<n then some i.toNat else none) else if -(n:Int)<=i then some (i+n).toNat else none
def fY (m:Bool)(o:oE)(a b:D)(M:Mem):Res D:=match o,a,b with
 |.add,.int i,.int j=>.ok (.int (i+j)) M
 |.add,.str x,.str y=>if x.cps.size+y.cps.size<=sz then .ok (.str {x.cps++y.cps}) M else .bad
 |.add,.tup x,.tup y=>lE (x++y) M
 | .add, a, b => match jt M a, jt M b with
   |some x,some y=>bf m (x++y) M
   |_,_=>.bad
 |.sub,.int i,.int j=>.ok (.int (i-j)) M
 |.mul,.int i,.int j=>if (-(2^64)<i/\i<2^64)\/(-(2^64)<j/\j<2^64) then .ok (.int (i*j)) M else .bad
 |.mul,.tup x,.int j=>if x.length*j.toNat<=sz/\-(2^63)<=j/\j<2^63 then .ok (.tup (List.replicate j.toNat x).flatten) M else .bad
 | .mul, a, .int j => match jt M a with
   |some x=>if x.length*j.toNat<=sz/\-(2^63)<=j/\j<2^63 then bf m (List.replicate j.toNat x).flatten M else .bad
   |none=>.bad
 |.fdiv,.int i,.int j=>if 0<j/\j<1073741824 then .ok (.int (i / j)) M else .bad
 |.mod,.int i,.int j=>if 0<j then .ok (.int (i % j)) M else .bad
 |.pow,.int i,.int j=>if 0<=j/\j<=1000000/\i.natAbs<2^64 then .ok (.int (i^j.toNat)) M else .bad
 |_,_,_=>.bad
def ur (x:D)(ds:List D):Option Bool:=if az 64 x&&ds.all (az 63) then some (ds.any λy=>bJ y x) else none
noncomputable def zu (x y:Str):Bool:=!(Builtin.Str.occurrences y x 0 y.length 1).isEmpty
noncomputable def intsOf:List D->Option (List Int)
 |[]=>some []
 |.int b::r=>(intsOf r).map (b::·)
 |_=>none
def mJ:D->Option (List Int)
 |.tup h=>intsOf h
 |_=>none
def jP:List D->Option (List (List Int))
 |[]=>some []
 |d::r=>(mJ d).bind λk=>(jP r).map (k::·)
def qI:D->Option (List (List Int))
 |.tup h=>jP h
 |_=>none
def isKey (c:Int)(d:D):Bool:=if c=77 then(mJ d).isSome else if c=78 then(qI d).isSome else false
def bB (M:Mem)(o:Nat):Option (Int×List D):=if 5000<=o then(match M[o-5000]? with
 |some (.int c::es)=>if c=77\/c=78 then some (c,es) else none
 |_=>none) else none
noncomputable def b9:D->D
 |.tup [k,_]=>k
 |d=>d
noncomputable def Pn:D->D
 |.tup [_,v]=>v
 |d=>d
def cw (es:List D)(k:D):Option D:=(es.find? λe=>bJ (b9 e) k).map Pn
def putD (es:List D)(k v:D):List D:=if (cw es k).isSome then es.map (λe=>if bJ (b9 e) k then .tup [b9 e,v] else e) else es++[.tup [k,v]]
def inD (M:Mem)(o:Nat)(k:D):Option Bool:=(bB M o).bind λq=>if isKey q.1 k then some (cw q.2 k).isSome else none
def getD (M:Mem)(o:Nat)(k:D):Option D:=(bB M o).bind λq=>if isKey q.1 k then cw q.2 k else none
noncomputable def fc:D->Bool
 |.non=>true
 |_=>false
def bE (o:jI)(a b:D)(M:Mem):Option Bool:=match o,a,b with
 |.eq,a,b=>mQ M a b
 |.ne,a,b=>(mQ M a b).map (!·)
 |.lt,.int i,.int j=>some (decide (i<j))
 |.le,.int i,.int j=>some (decide (i<=j))
 |.gt,.int i,.int j=>some (decide (j<i))
 |.ge,.int i,.int j=>some (decide (j<=i))
 |.isN,a,.non=>some (fc a)
 |.notN,a,.non=>some (!fc a)
 |.isin,.str x,.str y=>some (zu x y)
 |.notin,.str x,.str y=>some (!zu x y)
 |.isin,a,b=>(cE M b).bind (ur (view M a))
 |.notin,a,b=>((cE M b).bind (ur (view M a))).map (!·)
 |_,_,_=>none
def bV (a i:D)(M:Mem):Option D:=match a,i with
 |.str x,.int i=>if x.cps.size<=sz then(cv x.cps.size i).bind λj=>(x.cps[j]?).map λc=>.str {#[c]} else none
 |a,.int i=>(cE M a).bind λh=>(cv h.length i).bind λj=>h[j]?
 |_,_=>none
noncomputable def aU (n d:Nat):D->Option Nat
 |.non=>some d
 |.int v=>some (if v<0 then(v+(n:Int)).toNat else min v.toNat n)
 |_=>none
noncomputable def cJ:Bool->D->Bool
 |true,.int _=>true
 |false,.non=>true
 |_,_=>false
noncomputable def cut {h:Type}(xs:List h)(lo hi:Nat):List h:=(xs.drop lo).take (hi-lo)
def gK (m:Bool)(a lo hi:D)(M:Mem):Res D:=match a with
 | .tup xs => match aU xs.length 0 lo, aU xs.length xs.length hi with
   |some l,some h=>.ok (.tup (cut xs l h)) M
   |_,_=>.bad
 | a => match fj M a with
   | some xs => match aU xs.length 0 lo, aU xs.length xs.length hi with
     |some l,some h=>bf m (cut xs l h) M
     |_,_=>.bad
   |none=>.bad
def gW (t:Ty):D->Option Bool
 |.non=>some false
 |.bl _=>some (t==.bool||t==.int)
 |.int _=>some (t==.int)
 |.str _=>some (t==.str)
 |.tup _=>some (t==.tuple)
 |.lst _=>some (t==.list)
 |.frz _=>some (t==.list)
 |.cell _=>some (t==.list)
 |.fn _=>none
 |.exc _ _=>none
noncomputable def boolsOf:List D->Option (List Bool)
 |[]=>some []
 |.bl b::r=>(boolsOf r).map (b::·)
 |_=>none
def gA (f:xa)(ds:List D)(M:Mem):Res D:=match f,ds with
 |.len,[.str x]=>if x.cps.size<=sz then .ok (.int x.cps.size) M else .bad
 | .len, [d] => match cE M d with
   |some xs=>.ok (.int xs.length) M
   |none=>.bad
 |.tuple,[.tup xs]=>.ok (.tup xs) M
 | .tuple, [d] => match fj M d with
   |some xs=>.ok (.tup xs) M
   |none=>.bad
 | .list m, [d] => match cE M d with
   |some xs=>bf m xs M
   |none=>.bad
 |.listR m,[.int n]=>if n<2^20 then bf m ((List.range n.toNat).map λ(k:Nat)=>D.int (k:Int)) M else .bad
 | .all, [d] => match fj M d with
   | some xs => match boolsOf xs with
     |some bs=>.ok (.bl (bs.all id)) M
     |none=>.bad
   |none=>.bad
 | .sum, [d] => match fj M d with
   | some xs => match intsOf xs with
     |some is=>.ok (.int is.sum) M
     |none=>.bad
   |none=>.bad
 |_,_=>.bad
noncomputable def cX:List Nat->List D->Env->Option Env
 |[],[],h=>some h
 |i::l,d::ds,h=>cX l ds (h.set i (some d))
 |_,_,_=>none
def bT (t:fX)(d:D)(Z:Env):Option Env:=match t,d with
 |.one i,d=>some (Z.set i (some d))
 |.tup l,.tup h=>cX l h Z
 |.two i l,.tup [d,.tup h]=>cX l h (Z.set i (some d))
 |.tup _,_=>none
 |.two _ _,_=>none
abbrev Walk:=Mem->Option (List D)
noncomputable def fy:Nat->List D->List D
 |_,[]=>[]
 |k,d::r=>.tup [.int k,d]::fy (k+1) r
noncomputable def eZ:List D->List D->List D
 |a::r,b::t=>.tup [a,b]::eZ r t
 |_,_=>[]
def gj {h:Type}(f:h->D->Mem->Res h)(w:Walk):Nat->Nat->h->Mem->Res h
 |0,_,_,_=>.bad
 | n + 1, i, a, M => match w M with
   |none=>.bad
   | some j => match j[i]? with
     |none=>.ok a M
     |some d=>(f a d M).bind (gj f w n (i+1))
def cW {h:Type}(f:h->D->Mem->Res h)(w:Walk)(a:h)(M:Mem):Res h:=gj f w (((w M).getD []).length+1) 0 a M
noncomputable def cf {h:Type}(M:Mem):Option h->Res h
 |some a=>.ok a M
 |none=>.bad
@[simp] theorem tX {h:Type}(M:Mem)(a:h):cf M (some a)=.ok a M:=rfl
@[simp] theorem OM {h:Type}(M:Mem):(cf M none:Res h)=.bad:=rfl
inductive Fl where
 |next (Z:Env)
 |ret (d:D)
 |exc (x:D) (Z:Env)
def Fi {a b:Int}:bJ (.int a) (.int b)=(a==b):=rfl
end LD
namespace LD
open PySem PySem.Spec PyProof.Rows L2
structure Mu where
 pub:Nat->Option Addr
 priv:List Addr
 ob:Nat->Option Addr
def Mu.Mt (μ:Mu)(a:Addr):Prop:=(∃k,μ.pub k=some a)\/a∈μ.priv
abbrev Fa:=Nat->Option Addr
def KL (K:Qa)(a:Addr)(xs:List V):Prop:=
 ∃(o:Obj) (h:Array Qb) (n:Nat),K.lookup a=some o/\o.cls=.type "list"/\o.dict=none/\o.data=.seq h n/\h.size<=sizeLine/\Vals xs h.toList
def XAt (C:Addr)(u:Option Addr)(a:Addr)(h:Heap):Prop:=∃o j,h.get? a=some o/\o.cls=.ref C/\o.dict=u/\o.data=.fields j/\1<j.size
noncomputable def BA (c:Nat):Str:=if c=1 then "number" else "place"
def vc (H:Hp)(c:Nat)(h:Option Addr):Option Int->Prop
 |none=>h=none
 |some i=>∃d,h=some d/\H d=some (.xd [(BA c,.int i)])
def gg (c:Nat):Nat:=1000+c
def jN (c:Nat):Nat:=900+c
section
variable(fa:Fa)(K:Qa)(μ:Mu)(H:Hp)
mutual
def Rep:D->V->Prop
 |.non,v=>v=.non
 |.bl b,v=>v=.bl b
 |.int i,v=>v=.int i
 |.str x,v=>v=.str x
 |.tup j,v=>∃a h,v=.ref a/\dG K H a h/\aL j h
 |.lst j,v=>∃a h,v=.ref a/\(H a=some (.lst h)/\¬ μ.Mt a)/\aL j h
 |.frz j,v=>∃a h,v=.ref a/\((∃ob,H a=some (.frz ob (.lst h)))\/KL K a h)/\aL j h
 |.cell k,v=>∃a,v=.ref a/\μ.pub k=some a
 |.fn f,v=>∃a,v=.ref a/\(fa f=some a\/(fa f=none/\μ.ob f=some a))
 |.exc c p,v=>∃a C u,v=.ref a/\fa (gg c)=some C/\H a=some (.ext (XAt C u a))/\vc H c u p
def aL:List D->List V->Prop
 |[],h=>h=[]
 |d::ds,h=>∃v r,h=v::r/\Rep d v/\aL ds r
end
end
def IsX (o:HO):Prop:=(∃h,o=.ext h)\/∃fs,o=.xd fs
structure ExtW (μ:Mu) (H:Hp) (μ':Mu) (H':Hp):Prop where
 mu:∀k a,μ.pub k=some a->μ'.pub k=some a
 tups:∀a vs,Rd H a (.tup vs)->Rd H' a (.tup vs)
 lsts:∀a vs,H a=some (.lst vs)->¬ μ.Mt a->H' a=some (.lst vs)/\¬ μ'.Mt a
 frzs:∀a ob u,H a=some (.frz ob u)->H' a=some (.frz ob u)
 exts:∀a o,IsX o->H a=some o->H' a=some o
 obs:∀k a,μ.ob k=some a->μ'.ob k=some a
structure Ext (μ:Mu) (H:Hp) (μ':Mu) (H':Hp):Prop extends ExtW μ H μ' H' where
 pr:μ'.priv=μ.priv
 pk:∀a∈μ.priv,H' a=H a
def ExtW.refl:ExtW μ H μ H:={λ_ _ h=>h,λ_ _ h=>h,λ_ _ h n=>⟨h,n⟩,λ_ _ _ h=>h,λ_ _ _ h=>h,λ_ _ h=>h}
def ExtW.trans (a:ExtW μ H μ1 H1)(b:ExtW μ1 H1 μ2 H2):ExtW μ H μ2 H2:=
 {λk x h=>b.mu k x (a.mu k x h),λx j h=>b.tups x j (a.tups x j h),λx j h n=>b.lsts x j (a.lsts x j h n).1 (a.lsts x j h n).2,λx ob u h=>b.frzs x ob u (a.frzs x ob u h),λx o i h=>b.exts x o i (a.exts x o i h),λk x h=>b.obs k x (a.obs k x h)}
def Ext.refl:Ext μ H μ H:={.refl,rfl,λ_ _=>rfl}
def Ext.trans (a:Ext μ H μ1 H1)(b:Ext μ1 H1 μ2 H2):Ext μ H μ2 H2:=
 {a.toExtW.trans b.toExtW,b.pr.trans a.pr,λx h=>(b.pk x (by rw[a.pr];exact h)).trans (a.pk x h)}
section
variable{fa:Fa}{K:Qa}{μ μ':Mu}{H H':Hp}
def ExtW.sqT (x:ExtW μ H μ' H')(h:dG K H a vs):dG K H' a vs:=h.elim (λz=>.inl (x.tups a vs z)) .inr
mutual
def Rep.extW (x:ExtW μ H μ' H'):∀{d:D}{v:V},Rep fa K μ H d v->Rep fa K μ' H' d v
 |.non,v,h=>h
 |.bl b,v,h=>h
 |.int i,v,h=>h
 |.str y,v,h=>h
 | .tup u, v, h => by
   obtain⟨a,j,e,s,r⟩:=h;exact{a,j,e,x.sqT s,aL.extW x r}
 | .lst u, v, h => by
   obtain⟨a,j,e,s,r⟩:=h;exact{a,j,e,x.lsts a j s.1 s.2,aL.extW x r}
 | .frz u, v, h => by
   obtain⟨a,j,e,s,r⟩:=h;exact{a,j,e,s.elim (λ⟨ob,z⟩=>.inl {ob,x.frzs a ob _ z}) .inr,aL.extW x r}
 | .cell k, v, h => by
   obtain⟨a,e,m⟩:=h;exact{a,e,x.mu k a m}
 | .fn f, v, h => by
   obtain⟨a,e,m⟩:=h;exact{a,e,m.imp id λz=>{z.1,x.obs _ _ z.2}}
 | .exc c p, v, h => by
   obtain⟨a,C,B,e,f,g,n⟩:=h;refine{a,C,B,e,f,x.exts _ _ (.inl {_,rfl}) g,?_};cases p with
   |none=>exact n
   |some i=>exact let⟨d,h1,h2⟩:=n;{d,h1,x.exts _ _ (.inr {_,rfl}) h2}
def aL.extW (x:ExtW μ H μ' H'):∀{ds:List D}{vs:List V},aL fa K μ H ds vs->aL fa K μ' H' ds vs
 |[],vs,h=>h
 | d :: ds, vs, h => by
   obtain⟨v,r,e,p,q⟩:=h;exact{v,r,e,Rep.extW x p,aL.extW x q}
end
def Rep.ext (x:Ext μ H μ' H')(h:Rep fa K μ H d v):Rep fa K μ' H' d v:=Rep.extW x.toExtW h
def aL.ext (x:Ext μ H μ' H')(h:aL fa K μ H d v):aL fa K μ' H' d v:=aL.extW x.toExtW h
def aL.length:∀{ds:List D}{vs:List V},aL fa K μ H ds vs->vs.length=ds.length
 | [], vs, h => by
   subst h;rfl
 | d :: ds, vs, h => by
   obtain⟨v,r,e,p,q⟩:=h;subst e;simp[aL.length q]
def aL.get:∀{ds:List D}{vs:List V}{i:Nat}{d:D},aL fa K μ H ds vs->ds[i]?=some d->∃v,vs[i]?=some v/\Rep fa K μ H d v
 |[],_,_,_,_,e=>by simp at e
 | d :: ds, vs, 0, j, h, e => by
   obtain⟨v,r,rfl,p,q⟩:=h;simp at e;subst e;exact⟨v,rfl,p⟩
 | d :: ds, vs, i + 1, j, h, e => by
   obtain⟨v,r,rfl,p,q⟩:=h;obtain⟨u,h1,h2⟩:=aL.get q (by simpa using e)
   exact{u,by simpa using h1,h2}
def aL.getV:∀{ds:List D}{vs:List V}{i:Nat}{v:V},aL fa K μ H ds vs->vs[i]?=some v->∃d,ds[i]?=some d/\Rep fa K μ H d v:=by
 intro ds vs i v h e;have hl:=h.length;have j:i<vs.length:=(P9.mp e).1;obtain⟨d,hd⟩:∃d,ds[i]?=some d:={ds[i]'(`a),`s}
 obtain⟨u,h1,h2⟩:=h.get hd;rw[e] at h1;cases h1;exact⟨d,hd,h2⟩
def aL.append:∀{ds es:List D}{vs ws:List V},aL fa K μ H ds vs->aL fa K μ H es ws->aL fa K μ H (ds++es) (vs++ws)
 | [], _, vs, _, h, g => by
   subst h;exact g
 | d :: ds, es, vs, ws, h, g => by
   obtain⟨v,r,rfl,p,q⟩:=h;exact{v,r++ws,rfl,p,aL.append q g}
def aL.one (h:Rep fa K μ H d v):aL fa K μ H [d] [v]:={v,[],rfl,h,rfl}
def aL.drop:∀(n:Nat) {ds:List D}{vs:List V},aL fa K μ H ds vs->aL fa K μ H (ds.drop n) (vs.drop n)
 |0,_,_,h=>h
 | n + 1, [], vs, h => by
   subst h;exact rfl
 | n + 1, d :: ds, vs, h => by
   obtain⟨v,r,rfl,p,q⟩:=h;exact aL.drop n q
def aL.take:∀(n:Nat) {ds:List D}{vs:List V},aL fa K μ H ds vs->aL fa K μ H (ds.take n) (vs.take n)
 |0,_,_,h=>rfl
 | n + 1, [], vs, h => by
   subst h;exact rfl
 | n + 1, d :: ds, vs, h => by
   obtain⟨v,r,rfl,p,q⟩:=h;exact{v,r.take n,rfl,p,aL.take n q}
def aL.set:∀(n:Nat) {ds:List D}{vs:List V}{d:D}{v:V},aL fa K μ H ds vs->Rep fa K μ H d v->aL fa K μ H (ds.set n d) (vs.set n v)
 | _, [], vs, _, _, h, _ => by
   subst h;exact rfl
 | 0, d :: ds, vs, _, j, h, g => by
   obtain⟨v,r,rfl,p,q⟩:=h;exact⟨j,r,rfl,g,q⟩
 | n + 1, d :: ds, vs, _, j, h, g => by
   obtain⟨v,r,rfl,p,q⟩:=h;exact{v,r.set n j,rfl,p,aL.set n q g}
def aL.rep:∀(n:Nat) {ds:List D}{vs:List V},aL fa K μ H ds vs->aL fa K μ H (List.replicate n ds).flatten (List.replicate n vs).flatten
 |0,_,_,_=>rfl
 | n + 1, ds, vs, h => by
   rw[R8,R8,Sr,Sr];exact h.append (aL.rep n h)
def aL.ints:∀(ns:List Int),aL fa K μ H (ns.map D.int) (ns.map V.int)
 |[]=>rfl
 |n::ns=>{.int n,ns.map V.int,rfl,rfl,aL.ints ns}
end
noncomputable def lP:Nat->List Str
 |40=>["machine","standing","earlier"]
 |_=>[]
def au (k:Nat):Nat:=5000+k
noncomputable def E6 (ks:List Int):Int:=reduceHash (Builtin.Tuple.tupleHashOf (ks.map hashInt))
noncomputable def MJ (h:List (List Int)):Int:=reduceHash (Builtin.Tuple.tupleHashOf (h.map E6))
def nO (c:Int)(d:D):Option Int:=if c=77 then(mJ d).map E6 else if c=78 then(qI d).map MJ else none
def nj (fa:Fa)(K:Qa)(μ:Mu)(H:Hp)(c:Int)(p:D×D)(e:Rx):Prop:=∃b v,e.key=.ref b/\nO c p.1=some e.hash/\Rep fa K μ H p.1 (.ref b)/\RelV v e.val/\Rep fa K μ H p.2 v
def jF (fa:Fa)(K:Qa)(μ:Mu)(H:Hp)(a:Addr)(ds:List D):Prop:=
 (∃(c:Nat) (C u:Addr) (fs:List (Str×V)) (j:List D),fa (jN c)=some C/\H a=some (.ins C u fs)/\fs.map (·.1)=(lP c).take fs.length/\ds=.int c::j/\aL fa K μ H j (fs.map (·.2)))\/
 ∃(c:Int) (j:List Rx) (h:List (D×D)),H a=some (.dn j)/\(c=77\/c=78)/\ds=.int c::h.map (λp=>.tup [p.1,p.2])/\RX (nj fa K μ H c) h j/\(h.map (·.1)).Nodup
def jF.extW {fa:Fa}{K:Qa}{μ μ':Mu}{H H':Hp}{a:Addr}{ds:List D}(h:jF fa K μ H a ds)(x:ExtW μ H μ' H')(e:H' a=H a):jF fa K μ' H' a ds:=
 h.imp (λ⟨c,C,z,fs,j,h1,h2,h3,h4,u⟩=>{c,C,z,fs,j,h1,e.trans h2,h3,h4,u.extW x})
  λ⟨c,j,y,h1,h2,h3,h4,u⟩=>{c,j,y,e.trans h1,h2,h3,RX.mapP h4 λp q ⟨b,v,e1,e2,B,E,F⟩=>{b,v,e1,e2,B.extW x,E,F.extW x},u}
def jF.hold {fa:Fa}{K:Qa}{μ:Mu}{H:Hp}{a:Addr}{ds:List D}(h:jF fa K μ H a ds):∃o,H a=some o/\(∀vs,o≠.lst vs):=by
 rcases h with⟨_,_,_,_,_,_,h,_⟩|⟨_,_,_,h,_⟩
 ·exact{_,h,λ_ z=>by cases z}
 ·exact{_,h,λ_ z=>by cases z}
def jF.new {fa:Fa}{K:Qa}{μ:Mu}{H:Hp}{a p:Addr}{ds:List D}(h:jF fa K μ H a ds)(j:H p=none):a≠p:=let{_,e,_}:=h.hold;a5 e j
def jF.nl {fa:Fa}{K:Qa}{μ:Mu}{H:Hp}{a p:Addr}{ds:List D}{vs:List V}(h:jF fa K μ H a ds)(j:H p=some (.lst vs)):a≠p:=λz=>by
 obtain⟨o,e,n⟩:=h.hold;rw[z,j] at e;cases e;exact n _ rfl
def NO (fa:Fa)(K:Qa)(μ:Mu)(H:Hp)(k:Nat)(ds:List D):Prop:=
 (∃a h,μ.pub k=some a/\H a=some (.lst h)/\aL fa K μ H ds h)\/∃a,μ.ob (au k)=some a/\μ.pub k=none/\jF fa K μ H a ds
structure RelM (fa:Fa) (K:Qa) (μ:Mu) (H:Hp) (M:Mem):Prop where
 at':∀(k:Nat) (ds:List D),M[k]?=some ds->NO fa K μ H k ds
 out:∀(k:Nat),M.length<=k->μ.pub k=none
 oout:∀(k:Nat),M.length<=k->μ.ob (au k)=none
 inj:∀j k a,μ.pub j=some a->μ.pub k=some a->j=k
 oinj:∀j k a,μ.ob (au j)=some a->μ.ob (au k)=some a->j=k
 sep:∀k a,μ.pub k=some a->μ.ob (au k)=none
 pv:∀a∈μ.priv,(∃vs,H a=some (.lst vs))/\∀k,μ.pub k≠some a
structure bw (fa:Fa) (K:Qa) (μ:Mu) (H:Hp) (σ:L2.St) (Z:Env):Prop where
 len:σ.length=Z.length
 at':∀(i:Nat) (d:D),Z[i]?=some (some d)->∃v,σ[i]?=some (some v)/\Rep fa K μ H d v
section
variable{fa:Fa}{K:Qa}{μ μ':Mu}{H H':Hp}{σ:L2.St}{Z:Env}{M:Mem}
def bw.ext (h:bw fa K μ H σ Z)(x:Ext μ H μ' H'):bw fa K μ' H' σ Z:=
 {h.len,λi d e=>let⟨v,h1,h2⟩:=h.at' i d e;{v,h1,h2.ext x}}
def bw.set (h:bw fa K μ H σ Z){i:Nat}{d:D}{v:V}(r:Rep fa K μ H d v):bw fa K μ H (σ.set i (some v)) (Z.set i (some d)):=by
 refine{by simp[h.len],λj z e=>?_}
 by_cases y:j=i
 ·subst y;have hl:j<Z.length:=by
   have:=(P9.mp e).1;simpa using this
  rw[QI hl] at e;cases e;exact{v,QI (by rw[h.len];exact hl),r}
 ·rw[Qj (Rf y)] at e;obtain⟨u,h1,h2⟩:=h.at' j z e;exact{u,by rw[Qj (Rf y)];exact h1,h2}
def bw.extW (h:bw fa K μ H σ Z)(x:ExtW μ H μ' H'):bw fa K μ' H' σ Z:=
 {h.len,λi d e=>let⟨v,h1,h2⟩:=h.at' i d e;{v,h1,h2.extW x}}
def RelM.mu_lt (h:RelM fa K μ H M)(e:μ.pub k=some a):∃ds vs,M[k]?=some ds/\H a=some (.lst vs)/\aL fa K μ H ds vs:=by
 by_cases j:k<M.length
 ·rcases h.at' k M[k] (by simp[j]) with⟨u,vs,h1,h2,h3⟩|⟨_,_,z,_⟩
  ·rw[e] at h1;cases h1;exact{_,vs,by simp[j],h2,h3}
  ·rw[e] at z;cases z
 ·rw[h.out k `a] at e;cases e
def RelM.at_ (h:RelM fa K μ H M)(e:M[k]?=some ds)(p:μ.pub k=some a):∃vs,H a=some (.lst vs)/\aL fa K μ H ds vs:=by
 obtain⟨j,vs,h1,h2,h3⟩:=h.mu_lt p;rw[e] at h1;cases h1;exact⟨vs,h2,h3⟩
def RelM.fresh (h:RelM fa K μ H M)(j:H p=none):¬ μ.Mt p:=λe=>by
 rcases e with⟨k,e⟩|e
 ·obtain⟨v,u,_,h2,_⟩:=h.mu_lt e;rw[j] at h2;cases h2
 ·obtain⟨⟨u,h2⟩,_⟩:=h.pv p e;rw[j] at h2;cases h2
def RelM.pne (h:RelM fa K μ H M)(u:H p=none)(j:a∈μ.priv):a≠p:=λe=>by
 obtain⟨⟨v,h2⟩,_⟩:=h.pv a j;rw[e,u] at h2;cases h2
def Ext.alloc (h:RelM fa K μ H M)(j:H p=none):Ext μ H μ (upd H p o):=by
 have rd:∀a u,Rd H a u->Rd (upd H p o) a u:=λa u h=>by
  rcases h with h|⟨ob,h⟩
  ·exact .inl (by rw[aE (a5 h j)];exact h)
  ·exact .inr {ob,by rw[aE (a5 h j)];exact h}
 exact{{λ_ _ h=>h,λa y h=>rd a _ h,λa y h n=>{by rw[aE (a5 h j)];exact h,n},λa ob u h=>by rw[aE (a5 h j)];exact h,λa o _ h=>by rw[aE (a5 h j)];exact h,λ_ _ h=>h},rfl,λa v=>by rw[aE (h.pne j v)]}
def RelM.alloc (h:RelM fa K μ H M)(j:H p=none):RelM fa K μ (upd H p o) M:=
 {λk y e=>(h.at' k y e).imp (λ⟨a,v,h1,h2,h3⟩=>{a,v,h1,by rw[aE (a5 h2 j)];exact h2,h3.ext (Ext.alloc h j)}) λ⟨a,h1,h2,h3⟩=>{a,h1,h2,h3.extW (Ext.alloc h j).toExtW (aE (h3.new j))},h.out,h.oout,h.inj,h.oinj,h.sep,λa u=>{let{⟨v,e⟩,_}:=h.pv a u;{v,by rw[aE (h.pne j u)];exact e},(h.pv a u).2}}
noncomputable def fQ (μ:Mu)(n:Nat)(p:Addr):Mu:={λk=>if k=n then some p else μ.pub k,μ.priv,μ.ob}
set_option tactic.hygienic true in
def Ext.cell (h:RelM fa K μ H M)(j:H p=none):Ext μ H (fQ μ M.length p) (upd H p o):=by
 have rd:∀a u,Rd H a u->Rd (upd H p o) a u:=λa u h=>by
  rcases h with h|⟨ob,h⟩
  ·exact .inl (by rw[aE (a5 h j)];exact h)
  ·exact .inr {ob,by rw[aE (a5 h j)];exact h}
 refine{{λk a e=>?_,λa y g=>rd a _ g,λa y g n=>{by rw[aE (a5 g j)];exact g,λe=>?_},λa ob u h=>by rw[aE (a5 h j)];exact h,λa o _ h=>by rw[aE (a5 h j)];exact h,λ_ _ h=>h},rfl,λa v=>by rw[aE (h.pne j v)]}
 ·show(if k=M.length then some p else μ.pub k)=some a;split
  ·next q=>rw[q,h.out _ (Qe _)] at e;cases e
  ·exact e
 ·rcases e with⟨k,e⟩|e
  ·have e:(if k=M.length then some p else μ.pub k)=some a:=e;split at e
   ·cases e;exact a5 g j rfl
   ·exact n (.inl ⟨k,e⟩)
  ·exact n (.inr e)
set_option tactic.hygienic true in
def RelM.cell (h:RelM fa K μ H M){p:Addr}{ds:List D}{vs:List V}(v:H p=none)(r:aL fa K μ H ds vs) :
 RelM fa K (fQ μ M.length p) (upd H p (.lst vs)) (M++[ds]):=by
 have x:Ext μ H (fQ μ M.length p) (upd H p (.lst vs)):=Ext.cell h v;have I:=h.fresh v;refine{λk y e=>?_,λk u=>?_,λk u=>h.oout k (by simp at u;omega),λj k a h1 h2=>?_,h.oinj,λk a z=>?_,λa B=>?_}
 ·by_cases u:k<M.length
  ·rw[Qi u] at e;rcases h.at' k y e with⟨a,F,h1,h2,h3⟩|⟨a,h1,h2,h3⟩
   ·exact .inl {a,F,x.mu k a h1,by rw[aE (a5 h2 v)];exact h2,h3.ext x}
   ·exact .inr {a,h1,by show(if k=M.length then some p else μ.pub k)=none;rw[if_neg (QN u)];exact h2,h3.extW x.toExtW (aE (h3.new v))}
  ·have E:k=M.length:=by
    have:=(P9.mp e).1;simp at this;omega
   subst E;rw[QO (Qe _)] at e;simp at e;subst e;exact .inl {p,vs,by simp[fQ],cD,r.ext x}
 ·simp at u;show(if k=M.length then some p else μ.pub k)=none;rw[if_neg `a]
  exact h.out k `a
 ·have h1:(if j=M.length then some p else μ.pub j)=some a:=h1;have h2:(if k=M.length then some p else μ.pub k)=some a:=h2;split at h1<;>split at h2
  ·omega
  ·cases h1;exact absurd (.inl ⟨k,h2⟩) I
  ·cases h2;exact absurd (.inl ⟨j,h1⟩) I
  ·exact h.inj j k a h1 h2
 ·have z:(if k=M.length then some p else μ.pub k)=some a:=z;show μ.ob (au k)=none;split at z
  ·next e=>rw[e];exact h.oout _ (Qe _)
  ·exact h.sep k a z
 ·obtain⟨⟨F,e⟩,n⟩:=h.pv a B;refine{{F,by rw[aE (h.pne v B)];exact e},λk e2=>?_}
  have e2:(if k=M.length then some p else μ.pub k)=some a:=e2;split at e2
  ·cases e2;exact h.pne v B rfl
  ·exact n k e2
def ExtW.write (h2:H a=some (.lst vs))(e:μ.Mt a):ExtW μ H μ (upd H a (.lst ws)):=by
 have ne:∀b u,Rd H b u->(∀xs,u≠.lst xs)->b≠a:=λb u g j q=>by
  subst q;rcases g with g|⟨ob,g⟩
  ·rw[h2] at g;cases g;exact j _ rfl
  ·rw[h2] at g;cases g
 have rd:∀b u,b≠a->Rd H b u->Rd (upd H a (.lst ws)) b u:=λb u h g=>by
  rcases g with g|⟨ob,g⟩
  ·exact .inl (by rw[aE h];exact g)
  ·exact .inr {ob,by rw[aE h];exact g}
 exact{λ_ _ q=>q,λb v g=>rd b _ (ne b _ g (λxs q=>by cases q)) g,λb v g n=>{by rw[aE (λq=>n (by rw[q];exact e))];exact g,n},λb ob u g=>by rw[aE (λq=>by rw[q,h2] at g;cases g)];exact g,λb o i g=>by rw[aE (λq=>by rw[q,h2] at g;cases g;rcases i with⟨_,i⟩|⟨_,i⟩<;>cases i)];exact g,λ_ _ q=>q}
def Ext.write {k:Nat}{a:Addr}{vs ws:List V}(h:RelM fa K μ H M)(e:μ.pub k=some a):Ext μ H μ (upd H a (.lst ws)):=by
 obtain⟨u,vs,_,h2,_⟩:=h.mu_lt e;exact{ExtW.write h2 (.inl ⟨k,e⟩),rfl,λb j=>by rw[aE (λq=>(h.pv b j).2 k (by rw[q];exact e))]}
def RelM.write (h:RelM fa K μ H M){k:Nat}{a:Addr}{ds:List D}{ws:List V}(e:μ.pub k=some a)(r:aL fa K μ H ds ws):RelM fa K μ (upd H a (.lst ws)) (M.set k ds):=by
 have x:Ext μ H μ (upd H a (.lst ws)):=Ext.write (vs:=ws) h e;refine{λj y q=>?_,λj u=>h.out j (by simpa using u),λj u=>h.oout j (by simpa using u),h.inj,h.oinj,h.sep,λb v=>{let{⟨vs,g⟩,_}:=h.pv b v;{vs,by rw[x.pk b v];exact g},(h.pv b v).2}}
 by_cases u:j=k
 ·subst u;have hl:j<M.length:=by have:=(P9.mp q).1;simpa using this
  rw[QI hl] at q;cases q;exact .inl {a,ws,e,cD,r.ext x}
 ·rw[Qj (Rf u)] at q;rcases h.at' j y q with⟨b,vs,h1,h2,h3⟩|⟨b,h1,h2,h3⟩
  ·have B:b≠a:=λz=>u (h.inj j k a (z ▸ h1) e);exact .inl {b,vs,h1,by rw[aE B];exact h2,h3.ext x}
  ·obtain⟨_,_,_,hl,_⟩:=h.mu_lt e;exact .inr {b,h1,h2,h3.extW x.toExtW (aE (h3.nl hl))}
end
def ae {h:Type}(r:Res h)(k:h->Mem->Prop):Prop:=match r with
 |.ok a M=>k a M
 |_=>False
def aG {j u:Type}{r:Res j}{f:j->Mem->Res u}{k:u->Mem->Prop}(h:ae (r.bind f) k):∃a M,r=.ok a M/\ae (f a M) k:=by
 cases r with
 |ok a M=>exact⟨a,M,rfl,h⟩
 |err=>exact h.elim
 |bad=>exact h.elim
def ku {j:Type}{M:Mem}{o:Option j}{k:j->Mem->Prop}(h:ae (cf M o) k):∃a,o=some a/\k a M:=by
 cases o with
 |none=>exact h.elim
 |some a=>exact⟨a,rfl,h⟩
def aI {j:Type}{r:Res j}{k k':j->Mem->Prop}(h:ae r k)(m:∀a M,k a M->k' a M):ae r k':=by
 cases r with
 |ok a M=>exact m a M h
 |err=>exact h
 |bad=>exact h
section
variable(fa:Fa)(K:Qa)
def a8 (μ:Mu)(H:Hp)(Q:VK)(d:D)(M':Mem):Prop:=∀v H' μ',Ext μ H μ' H'->RelM fa K μ' H' M'->Rep fa K μ' H' d v->Q v H'
def tE (g:Env->Mem->Res D):TE:=λσ H Q=>∃μ Z M,bw fa K μ H σ Z/\RelM fa K μ H M/\ae (g Z M) (a8 fa K μ H Q)
def tT (g:Env->Mem->Res Bool):TT:=λσ H Q=>∃μ Z M,bw fa K μ H σ Z/\RelM fa K μ H M/\ae (g Z M) λb h=>∀H' μ',Ext μ H μ' H'->RelM fa K μ' H' h->Q b H'
def tA (g:Env->Mem->Res (List D)):TA:=λσ H Q=>∃μ Z M,bw fa K μ H σ Z/\RelM fa K μ H M/\ae (g Z M) λu j=>∀h H' μ',Ext μ H μ' H'->RelM fa K μ' H' j->aL fa K μ' H' u h->Q h H'
end
def oB (New:Addr->Prop)(C:Addr)(v:Option Addr)(a:Addr)(h:Heap)(H:Hp):Prop:=New a/\H a=none/\∃o j,h.get? a=some o/\o.cls=.ref C/\o.dict=v/\o.data=.fields j/\
 (j[1]?=some .none\/∃T u ts,j[1]?=some (.ref T)/\T≠a/\New T/\H T=none/\h.get? T=some u/\u.data=.fields ts/\ts[3]?=some .none)
def yv (X:Cx)(b:Addr):Prop:=X.s₀.heap.get? b=none/\∀p∈X.pn,p.1≠b
def XW (fa:Fa)(X:Cx)(μ:Mu)(H:Hp)(x:D)(Z:Env)(M:Mem):Prop:=∀h j H' μ' u a C v c p,Inv X h j H' u->Ext μ H μ' H'->bw fa X.K μ' H' j Z->RelM fa X.K μ' H' M->x=.exc c p->fa (gg c)=some C->vc H' c v p->oB (yv X) C v a u.heap H'->X.xe (.ref a) u
def ni (fa:Fa)(X:Cx)(μ:Mu)(H:Hp)(D:Ends):Fl->Mem->Prop
 |.next h,j=>∀u H' μ',Ext μ H μ' H'->bw fa X.K μ' H' u h->RelM fa X.K μ' H' j->D.nx u H'
 |.ret d,j=>a8 fa X.K μ H D.rt d j
 |.exc x h,j=>XW fa X μ H x h j
def tF (fa:Fa)(X:Cx)(g:Env->Mem->Res Fl):TS:=λD σ H=>∃μ Z M,bw fa X.K μ H σ Z/\RelM fa X.K μ H M/\ae (g Z M) (ni fa X μ H D)
def XW.ext (h:XW fa X μ H x Z M)(y:Ext μ H μ' H'):XW fa X μ' H' x Z M:=λj v z u s1 a C B c p I e=>h j v z u s1 a C B c p I (y.trans e)
section
variable{fa:Fa}{K:Qa}{μ μ':Mu}{H H':Hp}{Q:VK}
def a8.ext (h:a8 fa K μ H Q d M)(x:Ext μ H μ' H'):a8 fa K μ' H' Q d M:=λv u j y m r=>h v u j (x.trans y) m r
def kr {r:Res D}(h:ae r (a8 fa K μ H Q))(x:Ext μ H μ' H'):ae r (a8 fa K μ' H' Q):=aI h λ_ _ w=>w.ext x
end
def bG (h:PE X e t)(i:∀σ H Q,t' σ H Q->t σ H Q):PE X e t':=λj s σ H Q I q=>h j s σ H Q I (i σ H Q q)
def km (h:PT X e t)(i:∀σ H Q,t' σ H Q->t σ H Q):PT X e t':=λj s σ H Q I q=>h j s σ H Q I (i σ H Q q)
def zS (h:PW X e t)(i:∀σ H Q,t' σ H Q->t σ H Q):PW X e t':=λw j s σ H Q I q=>h w j s σ H Q I (i σ H Q q)
def Ad (h:PA X e t)(i:∀σ H Q,t' σ H Q->t σ H Q):PA X e t':=λu j s σ H Q I q=>h u j s σ H Q I (i σ H Q q)
def dM (h:PS X e t)(i:∀D σ H,t' D σ H->t D σ H):PS X e t':=λj s σ H D I q=>h j s σ H D I (i D σ H q)
def vN (h:kM X e t)(i:∀D σ H,t' D σ H->t D σ H):kM X e t':=λj s σ H D I q=>h j s σ H D I (i D σ H q)
section
variable{fa:Fa}{K:Qa}{μ:Mu}{H:Hp}{σ:L2.St}{Z:Env}{M:Mem}
def t1 {g:Env->Mem->Res D}{B:Type}{f:D->Mem->Res B}{P:B->Mem->Prop}{R:V->Hp->Prop}(y:bw fa K μ H σ Z)(E:RelM fa K μ H M)(h:ae ((g Z M).bind f) P)
 (k:∀x M1 v u j,Ext μ H j u->bw fa K j u σ Z->RelM fa K j u M1->Rep fa K j u x v->ae (f x M1) P->R v u):tE fa K g σ H R:=by
 obtain⟨x,M1,e,q⟩:=aG h;refine{μ,Z,M,y,E,?_};rw[e];exact λv u j z F r1=>k x M1 v u j z (y.ext z) F r1 q
def vF {g:Env->Mem->Res Bool}{z:Type}{f:Bool->Mem->Res z}{P:z->Mem->Prop}{R:Bool->Hp->Prop}(v:bw fa K μ H σ Z)(B:RelM fa K μ H M)(h:ae ((g Z M).bind f) P)
 (k:∀b M1 u j,Ext μ H j u->bw fa K j u σ Z->RelM fa K j u M1->ae (f b M1) P->R b u):tT fa K g σ H R:=by
 obtain⟨b,M1,e,q⟩:=aG h;refine{μ,Z,M,v,B,?_};rw[e];exact λu j y E=>k b M1 u j y (v.ext y) E q
def tf {g:Env->Mem->Res (List D)}{B:Type}{f:List D->Mem->Res B}{P:B->Mem->Prop}{R:List V->Hp->Prop}(y:bw fa K μ H σ Z)(E:RelM fa K μ H M)(h:ae ((g Z M).bind f) P)
 (k:∀ds M1 vs u j,Ext μ H j u->bw fa K j u σ Z->RelM fa K j u M1->aL fa K j u ds vs->ae (f ds M1) P->R vs u):tA fa K g σ H R:=by
 obtain⟨ds,M1,e,q⟩:=aG h;refine{μ,Z,M,y,E,?_};rw[e];exact λv u j z F r1=>k ds M1 v u j z (y.ext z) F r1 q
end
mutual
noncomputable def toPy:D->PyData
 |.non=>.none
 |.bl b=>.bool b
 |.int i=>.int i
 |.str x=>.str x
 |.tup h=>.tuple (cM h)
 |.lst h=>.list (cM h)
 |.frz _=>.none
 |.cell _=>.none
 |.fn _=>.none
 |.exc _ _=>.none
noncomputable def cM:List D->List PyData
 |[]=>[]
 |d::r=>toPy d::cM r
end
def qp:∀(n:Nat) (d:D),az n d=true->(toPy d).canLay0=true/\(toPy d).depth<=n:=by
 have all:∀(n:Nat),(∀d,az n d=true->(toPy d).canLay0=true/\(toPy d).depth<=n)->∀j:List D,j.all (az n)=true->PyData.canLayAll0 (cM j)=true/\PyData.depthAll (cM j)<=n:=by
  intro n h j;induction j with
  |nil=>intro _;simp[cM,PyData.canLayAll0,PyData.depthAll]
  | cons d r u =>
    intro q;simp only[Rw,Qg] at q;obtain⟨h1,h2⟩:=h d q.1;obtain⟨h3,h4⟩:=u q.2;simp only[cM,PyData.canLayAll0,PyData.depthAll,h1,h3,Bool.and_self,true_and];omega
 intro n;induction n with
 | zero =>
   intro d h;cases d with
   |str x=>exact{by simpa[toPy,PyData.canLay0,PyData.strOk,az] using h,by simp[toPy,PyData.depth]}
   |tup _=>simp[az] at h
   |lst _=>simp[az] at h
   |frz _=>simp[az] at h
   |cell _=>simp[az] at h
   |fn _=>simp[az] at h
   |exc y p=>simp[az] at h
   |_=>exact{by simp[toPy,PyData.canLay0],by simp[toPy,PyData.depth]}
 | succ n u =>
   intro d h;cases d with
   |str x=>exact{by simpa[toPy,PyData.canLay0,PyData.strOk,az] using h,by simp[toPy,PyData.depth]}
   | tup j =>
     obtain⟨h1,h2⟩:=all n u j (by simpa[az] using h)
     simp only[toPy,PyData.canLay0,PyData.depth,h1,true_and];omega
   | lst j =>
     obtain⟨h1,h2⟩:=all n u j (by simpa[az] using h)
     simp only[toPy,PyData.canLay0,PyData.depth,h1,true_and];omega
   |frz _=>simp[az] at h
   |cell _=>simp[az] at h
   |fn _=>simp[az] at h
   |exc y p=>simp[az] at h
   |_=>exact{by simp[toPy,PyData.canLay0],by simp[toPy,PyData.depth]}
def jL (h:az 64 d=true):SeqAt.shaped (toPy d)=true:=by
 obtain⟨h1,h2⟩:=qp 64 d h;simp[SeqAt.shaped,h1,h2]
mutual
def nS:∀(n m:Nat) (a b:D),az n a=true->az m b=true->PyData.eqv (toPy a) (toPy b)=bJ a b
 | n, m, .tup a, .tup b, h, j => by
   cases n with
   |zero=>simp[az] at h
   | succ n =>
     cases m with
     |zero=>simp[az] at j
     | succ m =>
       exact oW n m a b (by simpa[az] using h) (by simpa[az] using j)
 | n, m, .lst a, .lst b, h, j => by
   cases n with
   |zero=>simp[az] at h
   | succ n =>
     cases m with
     |zero=>simp[az] at j
     | succ m =>
       exact oW n m a b (by simpa[az] using h) (by simpa[az] using j)
 |n,m,.frz _,_,h,j=>by cases n<;>simp[az] at h
 |n,m,.cell _,_,h,j=>by cases n<;>simp[az] at h
 |n,m,.fn _,_,h,j=>by cases n<;>simp[az] at h
 |n,m,.exc _ _,_,h,j=>by cases n<;>simp[az] at h
 |n,m,_,.frz _,h,j=>by cases m<;>simp[az] at j
 |n,m,_,.cell _,h,j=>by cases m<;>simp[az] at j
 |n,m,_,.fn _,h,j=>by cases m<;>simp[az] at j
 |n,m,_,.exc _ _,h,j=>by cases m<;>simp[az] at j
 |_,_,.non,.non,_,_=>by first|rfl|simp[toPy,PyData.eqv];rfl
 |_,_,.non,.bl _,_,_=>by first|rfl|simp[toPy,PyData.eqv];rfl
 |_,_,.non,.int _,_,_=>by first|rfl|simp[toPy,PyData.eqv];rfl
 |_,_,.non,.str _,_,_=>by first|rfl|simp[toPy,PyData.eqv];rfl
 |_,_,.non,.tup _,_,_=>by first|rfl|simp[toPy,PyData.eqv];rfl
 |_,_,.non,.lst _,_,_=>by first|rfl|simp[toPy,PyData.eqv];rfl
 |_,_,.bl _,.non,_,_=>by first|rfl|simp[toPy,PyData.eqv];rfl
 |_,_,.bl _,.bl _,_,_=>by first|rfl|simp[toPy,PyData.eqv];rfl
 |_,_,.bl _,.int _,_,_=>by first|rfl|simp[toPy,PyData.eqv];rfl
 |_,_,.bl _,.str _,_,_=>by first|rfl|simp[toPy,PyData.eqv];rfl
 |_,_,.bl _,.tup _,_,_=>by first|rfl|simp[toPy,PyData.eqv];rfl
 |_,_,.bl _,.lst _,_,_=>by first|rfl|simp[toPy,PyData.eqv];rfl
 |_,_,.int _,.non,_,_=>by first|rfl|simp[toPy,PyData.eqv];rfl
 |_,_,.int _,.bl _,_,_=>by first|rfl|simp[toPy,PyData.eqv];rfl
 |_,_,.int _,.int _,_,_=>by first|rfl|simp[toPy,PyData.eqv];rfl
 |_,_,.int _,.str _,_,_=>by first|rfl|simp[toPy,PyData.eqv];rfl
 |_,_,.int _,.tup _,_,_=>by first|rfl|simp[toPy,PyData.eqv];rfl
 |_,_,.int _,.lst _,_,_=>by first|rfl|simp[toPy,PyData.eqv];rfl
 |_,_,.str _,.non,_,_=>by first|rfl|simp[toPy,PyData.eqv];rfl
 |_,_,.str _,.bl _,_,_=>by first|rfl|simp[toPy,PyData.eqv];rfl
 |_,_,.str _,.int _,_,_=>by first|rfl|simp[toPy,PyData.eqv];rfl
 |_,_,.str _,.str _,_,_=>by first|rfl|simp[toPy,PyData.eqv];rfl
 |_,_,.str _,.tup _,_,_=>by first|rfl|simp[toPy,PyData.eqv];rfl
 |_,_,.str _,.lst _,_,_=>by first|rfl|simp[toPy,PyData.eqv];rfl
 |_,_,.tup _,.non,_,_=>by first|rfl|simp[toPy,PyData.eqv];rfl
 |_,_,.tup _,.bl _,_,_=>by first|rfl|simp[toPy,PyData.eqv];rfl
 |_,_,.tup _,.int _,_,_=>by first|rfl|simp[toPy,PyData.eqv];rfl
 |_,_,.tup _,.str _,_,_=>by first|rfl|simp[toPy,PyData.eqv];rfl
 |_,_,.tup _,.lst _,_,_=>by first|rfl|simp[toPy,PyData.eqv];rfl
 |_,_,.lst _,.non,_,_=>by first|rfl|simp[toPy,PyData.eqv];rfl
 |_,_,.lst _,.bl _,_,_=>by first|rfl|simp[toPy,PyData.eqv];rfl
 |_,_,.lst _,.int _,_,_=>by first|rfl|simp[toPy,PyData.eqv];rfl
 |_,_,.lst _,.str _,_,_=>by first|rfl|simp[toPy,PyData.eqv];rfl
 |_,_,.lst _,.tup _,_,_=>by first|rfl|simp[toPy,PyData.eqv];rfl
def oW:∀(n m:Nat) (a b:List D),a.all (az n)=true->b.all (az m)=true->PyData.eqvAll (cM a) (cM b)=dE a b
 |n,m,[],[],_,_=>by simp[cM,PyData.eqvAll,dE]
 |n,m,[],_::_,_,_=>by simp[cM,PyData.eqvAll,dE]
 |n,m,_::_,[],_,_=>by simp[cM,PyData.eqvAll,dE]
 | n, m, x :: a, y :: b, h, j => by
   simp only[Rw,Qg] at h j;simp only[cM,PyData.eqvAll,dE];rw[nS n m x y h.1 j.1,oW n m a b h.2 j.2]
end
section
variable{fa:Fa}{X:Cx}{μ:Mu}{H:Hp}{σ:L2.St}{pins:List (Addr×Obj)}{s:Qf}{M:Mem}
def jo (j:RelM fa X.K μ H M)(h:Rep fa X.K μ H d v)(e:jt M d=some ds):∃a vs,v=.ref a/\H a=some (.lst vs)/\aL fa X.K μ H ds vs:=by
 cases d with
 | lst xs =>
   cases e;obtain⟨a,vs,e,s,r⟩:=h;exact⟨a,vs,e,s.1,r⟩
 | cell k =>
   obtain⟨a,rfl,u⟩:=h;obtain⟨vs,h2,h3⟩:=j.at_ e u;exact⟨a,vs,rfl,h2,h3⟩
 |_=>cases e
def bL (j:RelM fa X.K μ H M)(h:Rep fa X.K μ H d v)(e:fj M d=some ds):∃a vs,v=.ref a/\dB X.K H a vs/\aL fa X.K μ H ds vs:=by
 cases d with
 | lst xs =>
   obtain⟨a,vs,h1,h2,h3⟩:=jo j h e;exact{a,vs,h1,.of h2,h3}
 | frz xs =>
   cases e;obtain⟨a,vs,e,s,r⟩:=h;exact{a,vs,e,s.elim (λz=>.inl (.inr z)) .inr,r}
 | cell k =>
   obtain⟨a,vs,h1,h2,h3⟩:=jo j h e;exact{a,vs,h1,.of h2,h3}
 |_=>cases e
def jn (j:RelM fa X.K μ H M)(h:Rep fa X.K μ H d v)(e:cE M d=some ds):∃a vs,v=.ref a/\(dB X.K H a vs\/dG X.K H a vs)/\aL fa X.K μ H ds vs:=by
 cases d with
 | tup xs =>
   cases e;obtain⟨a,vs,rfl,h1,h2⟩:=h;exact{a,vs,rfl,.inr h1,h2}
 | lst xs =>
   obtain⟨a,vs,h1,h2,h3⟩:=bL j h e;exact{a,vs,h1,.inl h2,h3}
 | frz xs =>
   obtain⟨a,vs,h1,h2,h3⟩:=bL j h e;exact{a,vs,h1,.inl h2,h3}
 | cell k =>
   obtain⟨a,vs,h1,h2,h3⟩:=bL j h e;exact{a,vs,h1,.inl h2,h3}
 |_=>cases e
mutual
def d5 (I:Inv X pins σ H s):∀(d:D) (n:Nat) (v:V) (u:Qb),az n d=true->Rep fa X.K μ H d v->RelV v u->∃z,Reads s.heap u (toPy d) z
 | .non, n, v, u, _, h, r => by
   obtain rfl:v=.non:=h;obtain rfl:u=Value.none:=r;exact{_,.none}
 | .bl b, n, v, u, _, h, r => by
   obtain rfl:v=.bl b:=h;obtain rfl:u=Value.bool b:=r;exact{_,.bool b}
 | .int i, n, v, u, _, h, r => by
   obtain rfl:v=.int i:=h;obtain⟨t,rfl⟩:=r;exact{_,.int i t}
 | .str x, n, v, u, _, h, r => by
   obtain rfl:v=.str x:=h;obtain⟨t,rfl⟩:=r;exact{_,.str x t}
 | .tup B, n, v, u, j, h, r => by
   cases n with
   |zero=>simp[az] at j
   | succ n =>
     obtain⟨a,J,rfl,h1,h2⟩:=h;obtain rfl:u=Value.ref a:=r;obtain⟨y,F,⟨o,e1,e2,k,E⟩,_⟩:=I.tuple h1;obtain⟨z,q⟩:=fP I B n J y (by simpa[az] using j) h2 F
     exact{_,.tuple e1 e2 E (by simpa using q)}
 | .lst B, n, v, u, j, h, r => by
   cases n with
   |zero=>simp[az] at j
   | succ n =>
     obtain⟨a,J,rfl,h1,h2⟩:=h;obtain rfl:u=Value.ref a:=r;obtain⟨y,F,⟨o,k,e1,e2,L,E⟩,_⟩:=I.list (dB.of h1.1);obtain⟨z,q⟩:=fP I B n J y (by simpa[az] using j) h2 F
     exact{_,.list e1 e2 E (by simpa using q)}
 |.frz k,n,v,u,j,_,_=>by cases n<;>simp[az] at j
 |.cell k,n,v,u,j,_,_=>by cases n<;>simp[az] at j
 |.fn f,n,v,u,j,_,_=>by cases n<;>simp[az] at j
 |.exc _ _,n,v,u,j,_,_=>by cases n<;>simp[az] at j
def fP (I:Inv X pins σ H s):∀(ds:List D) (n:Nat) (vs:List V) (us:List Qb),ds.all (az n)=true->aL fa X.K μ H ds vs->Vals vs us->∃u,ReadsAll s.heap us (cM ds) u
 | [], n, vs, us, _, h, r => by
   obtain rfl:vs=[]:=h;cases r;exact{_,.nil}
 | d :: ds, n, vs, us, j, h, r => by
   obtain⟨v,vr,rfl,h1,h2⟩:=h;simp only[Rw,Qg] at j;cases r with
   | cons r1 r2 =>
     obtain⟨u,y⟩:=d5 I d n v _ j.1 h1 r1;obtain⟨bs,z⟩:=fP I ds n vr _ j.2 h2 r2;exact{_,.cons y z}
end
def FH (h:az n (view M d)=true):(view M d=d/\az n d=true)\/∃ds,fj M d=some ds/\view M d=.lst ds:=by
 cases d with
 | cell k =>
   cases e:M[k]? with
   | none =>
     have j:view M (.cell k)=.cell k:=by simp[view,e]
     rw[j] at h;cases n<;>simp[az] at h
   |some ds=>exact .inr {ds,e,by simp[view,e]}
 |frz ds=>exact .inr ⟨ds,rfl,rfl⟩
 |_=>exact .inl ⟨rfl,h⟩
def kQ (I:Inv X pins σ H s)(L:RelM fa X.K μ H M)(j:az 64 (view M d)=true)(h:Rep fa X.K μ H d v)(r:RelV v u):∃B,Reads s.heap u (toPy (view M d)) B:=by
 rcases FH j with⟨e,y⟩|⟨E,e,J⟩
 ·rw[e];exact d5 I _ 64 v u y h r
 ·rw[J] at j ⊢;obtain⟨a,P,rfl,h1,h2⟩:=bL L h e;obtain rfl:u=Value.ref a:=r;obtain⟨z,O,⟨o,k,e1,e2,Q,F⟩,_⟩:=I.list h1;obtain⟨B,q⟩:=fP I E 63 P z (by simpa[az] using j) h2 O
  exact{_,.list e1 e2 F (by simpa using q)}
def jY (I:Inv X pins σ H s)(J:RelM fa X.K μ H M):∀(n m:Nat) (d:D) (v:V) (u:Qb),az m (dt n M d)=true->Rep fa X.K μ H d v->RelV v u->∃E,Reads s.heap u (toPy (dt n M d)) E
 |0,m,d,v,u,j,h,r=>d5 I d m v u j h r
 | n + 1, m, d, v, u, j, h, r => by
   have S:=jY I J n;have all:∀(m:Nat) (z:List D) (B:List V) (L:List Qb),(z.map (dt n M)).all (az m)=true->aL fa X.K μ H z B->Vals B L->∃E,ReadsAll s.heap L (cM (z.map (dt n M))) E:=by
    intro m z;induction z with
    | nil =>
      intro B L _ h r;obtain rfl:B=[]:=h;cases r;exact{_,.nil}
    | cons d z Q =>
      intro B L j h r;obtain⟨v,vr,rfl,h1,h2⟩:=h;simp only[Q9,Rw,Qg] at j;cases r with
      | cons r1 r2 =>
        obtain⟨E,U⟩:=S m d v _ j.1 h1 r1;obtain⟨bs,W⟩:=Q vr _ j.2 h2 r2;exact{_,.cons U W}
   have lst:∀(z:List D) (a:Addr) (B:List V),az m (.lst (z.map (dt n M)))=true->dB X.K H a B->aL fa X.K μ H z B->u=.ref a->∃E,Reads s.heap u (toPy (.lst (z.map (dt n M)))) E:=by
    intro z a B j h1 h2 e;subst e;cases m with
    |zero=>simp[az] at j
    | succ m =>
      obtain⟨F,R,⟨o,k,e1,e2,Y,O⟩,_⟩:=I.list h1;obtain⟨E,q⟩:=all m z B F (by simpa[az] using j) h2 R
      exact{_,.list e1 e2 O (by simpa using q)}
   cases d with
   | cell k =>
     cases e:M[k]? with
     | none =>
       have P:dt (n+1) M (.cell k)=.cell k:=by simp[dt,e]
       rw[P] at j;cases m<;>simp[az] at j
     | some z =>
       have P:dt (n+1) M (.cell k)=.lst (z.map (dt n M)):=by simp[dt,e]
       rw[P] at j ⊢;obtain⟨a,B,rfl,h1,h2⟩:=bL J h e;exact lst z a B j h1 h2 r
   | frz z =>
     obtain⟨a,B,rfl,h1,h2⟩:=bL J h rfl;exact lst z a B j h1 h2 r
   | lst z =>
     obtain⟨a,B,rfl,h1,h2⟩:=bL J h rfl;exact lst z a B j h1 h2 r
   | tup z =>
     have j:az m (.tup (z.map (dt n M)))=true:=j;cases m with
     |zero=>simp[az] at j
     | succ m =>
       obtain⟨a,B,rfl,h1,h2⟩:=h;obtain rfl:u=Value.ref a:=r;obtain⟨F,R,⟨o,e1,e2,k,O⟩,_⟩:=I.tuple h1;obtain⟨E,q⟩:=all m z B F (by simpa[az] using j) h2 R
       exact{_,.tuple e1 e2 O (by simpa using q)}
   |non=>exact d5 I .non m v u j h r
   |bl b=>exact d5 I (.bl b) m v u j h r
   |int i=>exact d5 I (.int i) m v u j h r
   |str x=>exact d5 I (.str x) m v u j h r
   |fn f=>exact d5 I (.fn f) m v u j h r
   |exc y p=>exact d5 I (.exc y p) m v u j h r
abbrev Rm (X:Cx):Prop:=X.A.units+100<cLine
def gO (fa:Fa)(K:Qa)(o:jI):R2:=λx y H Q=>∃μ M h j b,RelM fa K μ H M/\Rep fa K μ H h x/\Rep fa K μ H j y/\bE o h j M=some b/\Q (.bl b) H
set_option tactic.hygienic true in
def uE (hs:(hU a&&hU b)=false)(h:mR a b=some k):az 64 a=true/\az 64 b=true/\k=bJ a b:=by
 unfold mR at h;rw[hs,Bool.false_or] at h;split at h
 ·next q=>
  simp only[Qg] at q;exact{q.1,q.2,(Qr h).symm}
 ·cases h
def uo (d:D):hU (view M d)=hU d:=by
 cases d with
 |cell k=>cases e:M[k]?<;>simp[view,e,hU]
 |_=>rfl
def rM (n:Nat)(d:D):hU (dt n M d)=hU d:=by
 cases n with
 |zero=>rfl
 | succ n =>
   cases d with
   |cell k=>cases e:M[k]?<;>simp[dt,e,hU]
   |_=>rfl
def rS (I:Inv X pins σ H s)(z:RelM fa X.K μ H M)(hs:(hU a&&hU b)=false)(h:mQ M a b=some k)(h1:Rep fa X.K μ H a x)(h2:Rep fa X.K μ H b y)(B:RelV x v)(E:RelV y u) :
 ∃c e j bs,az 64 c=true/\az 64 e=true/\k=bJ c e/\Reads s.heap v (toPy c) j/\Reads s.heap u (toPy e) bs:=by
 unfold mQ at h;cases q:mR (view M a) (view M b) with
 | some r =>
   rw[q] at h;cases h;obtain⟨p1,p2,e⟩:=uE (by rw[uo,uo];exact hs) q
   obtain⟨j,r1⟩:=kQ I z p1 h1 B;obtain⟨bs,r2⟩:=kQ I z p2 h2 E;exact{_,_,j,bs,p1,p2,e,r1,r2}
 | none =>
   rw[q] at h;obtain⟨p1,p2,e⟩:=uE (by rw[rM,rM];exact hs) h
   obtain⟨j,r1⟩:=jY I z 64 64 a x v p1 h1 B;obtain⟨bs,r2⟩:=jY I z 64 64 b y u p2 h2 E;exact{_,_,j,bs,p1,p2,e,r1,r2}
def ti (h:(hU a&&hU b)=true):∃x y,a=.str x/\b=.str y:=by
 cases a with
 | str x =>
   cases b with
   |str y=>exact⟨x,y,rfl,rfl⟩
   |_=>cases h
 |_=>cases h
def wA:mQ M (.str x) (.str y)=some (x==y):=by
 have e:bJ (.str x) (.str y)=(x==y):=rfl;rw[<- e];rfl
def Py (L:Rm X):bM X (compareOp .Eq) (gO fa X.K .eq):=by
 intro pins s σ H x y v u Q I z B h;obtain⟨μ,M,E,F,b,J,h1,h2,e,q⟩:=h;cases hs:hU E&&hU F with
 | true =>
   obtain⟨i,j,rfl,rfl⟩:=ti hs;obtain rfl:x=.str i:=h1;obtain rfl:y=.str j:=h2;obtain rfl:(i==j)=b:=Qr (wA.symm.trans e);exact MH pins s σ H _ _ v u Q I z B {rfl,by rw[nY];exact q}
 | false =>
   obtain⟨_,_,O,bs,p1,p2,rfl,r1,r2⟩:=rS I J hs (e) h1 h2 z B;refine SeqAt.compareEq_shaped r1 r2 (jL p1) (jL p2) (by unfold Rm at L;omega) ?_
   rw[nS 64 64 _ _ p1 p2];exact{.bl _,H,I,rfl,q}
def Pq (O:Rm X):bM X (compareOp .NotEq) (gO fa X.K .ne):=by
 intro pins s σ H x y v u Q I F J h;obtain⟨μ,M,B,E,b,L,h1,h2,e,q⟩:=h;have e:(mQ M B E).map (!·)=some b:=e;cases z:mQ M B E with
 |none=>rw[z] at e;cases e
 | some k =>
   rw[z] at e;obtain rfl:(!k)=b:=Qr e;cases hs:hU B&&hU E with
   | true =>
     obtain⟨i,j,rfl,rfl⟩:=ti hs;obtain rfl:x=.str i:=h1;obtain rfl:y=.str j:=h2;obtain rfl:(i==j)=k:=Qr (wA.symm.trans z);exact MC pins s σ H _ _ v u Q I F J {rfl,by rw[nY];exact q}
   | false =>
     obtain⟨_,_,P,bs,p1,p2,rfl,r1,r2⟩:=rS I L hs z h1 h2 F J;refine SeqAt.compareNe_shaped r1 r2 (jL p1) (jL p2) (by unfold Rm at O;omega) ?_
     rw[nS 64 64 _ _ p1 p2];exact{.bl _,H,I,rfl,q}
end
section
variable{fa:Fa}{X:Cx}{μ:Mu}{H:Hp}{σ:L2.St}{pins:List (Addr×Obj)}{s:Qf}{M:Mem}
def iF (h:bM X f r)(i:∀x y H Q,r' x y H Q->r x y H Q):bM X f r':=λpins s σ H x y v u Q I j z q=>h pins s σ H x y v u Q I j z (i x y H Q q)
def lU (h:cy X f r)(i:∀xs H Q,r' xs H Q->r xs H Q):cy X f r':=λpins s σ H xs u Q I j q=>h pins s σ H xs u Q I j (i xs H Q q)
def nZ {g:Int->Int->Bool}(ho:o=.lt\/o=.le\/o=.gt\/o=.ge)(F:∀i j,bE o (.int i) (.int j) []=some (g i j))(h:gO fa X.K o x y H Q) :
 ∃i j,x=.int i/\y=.int j/\Q (.bl (g i j)) H:=by
 obtain⟨μ,M,v,z,b,I,h1,h2,e,q⟩:=h;have u:∀i j,v=.int i->z=.int j->∃i j,x=.int i/\y=.int j/\Q (.bl (g i j)) H:=λi j e1 e2=>by
  subst e1 e2;have B:bE o (.int i) (.int j) M=some (g i j):=by
   have:=F i j;rcases ho with rfl|rfl|rfl|rfl<;>exact this
  rw[e] at B;have E:=Qr B;subst E;exact⟨i,j,h1,h2,q⟩
 rcases ho with rfl|rfl|rfl|rfl<;>
 ·cases v with
  |int i=>cases z<;>first|exact u _ _ rfl rfl|cases e
  |_=>cases e
def Pr:bM X (compareOp .Lt) (gO fa X.K .lt):=iF MD λx y H Q h=>nZ (.inl rfl) (λ_ _=>rfl) h
def Pt:bM X (compareOp .LtE) (gO fa X.K .le):=iF ME λx y H Q h=>nZ (.inr (.inl rfl)) (λ_ _=>rfl) h
def Pw:bM X (compareOp .Gt) (gO fa X.K .gt):=iF MF λx y H Q h=>nZ (.inr (.inr (.inl rfl))) (λ_ _=>rfl) h
def Px:bM X (compareOp .GtE) (gO fa X.K .ge):=iF MG λx y H Q h=>nZ (.inr (.inr (.inr rfl))) (λ_ _=>rfl) h
def vL {K:Qa}(h:Rep fa K μ H d v):decide (v=.non)=fc d:=by
 cases d with
 |non=>obtain rfl:v=.non:=h;rfl
 |bl b=>obtain rfl:v=.bl b:=h;rfl
 |int b=>obtain rfl:v=.int b:=h;rfl
 |str b=>obtain rfl:v=.str b:=h;rfl
 |tup b=>obtain⟨a,j,rfl,_⟩:=h;rfl
 |lst b=>obtain⟨a,j,rfl,_⟩:=h;rfl
 |frz b=>obtain⟨a,j,rfl,_⟩:=h;rfl
 |cell b=>obtain⟨a,rfl,_⟩:=h;rfl
 |fn b=>obtain⟨a,rfl,_⟩:=h;rfl
 |exc y p=>obtain⟨a,_,_,rfl,_⟩:=h;rfl
def NA:bM X (compareOp .Is) (gO fa X.K .isN):=iF JY λx y H Q h=>by
 obtain⟨μ,M,u,j,b,v,h1,h2,e,q⟩:=h;cases j<;>first|cases (show(none:Option Bool)=some b from e)|skip
 refine{h2,?_};rw[vL h1];rw[Qr e];exact q
def LJ:bM X (compareOp .IsNot) (gO fa X.K .notN):=iF GX λx y H Q h=>by
 obtain⟨μ,M,u,j,b,v,h1,h2,e,q⟩:=h;cases j<;>first|cases (show(none:Option Bool)=some b from e)|skip
 refine{h2,?_};rw[vL h1];rw[Qr e];exact q
def u7 (x:D)(j:az 64 x=true):∀(ds:List D),ds.all (az 63)=true->((cM ds).any λy=>PyData.eqv y (toPy x))=ds.any λy=>bJ y x
 |[],_=>rfl
 | d :: r, h => by
   simp only[Rw,Qg] at h;simp only[cM,List.any_cons,nS 63 64 d x h.1 j,u7 x j r h.2]
def sY (n:Nat):∀ds:List D,ds.all (az n)=true->PyData.canLayAll0 (cM ds)=true/\PyData.depthAll (cM ds)<=n
 |[],_=>by simp[cM,PyData.canLayAll0,PyData.depthAll]
 | d :: r, h => by
   simp only[Rw,Qg] at h;obtain⟨h1,h2⟩:=qp n d h.1;obtain⟨h3,h4⟩:=sY n r h.2;simp only[cM,PyData.canLayAll0,PyData.depthAll,h1,h3,Bool.and_self,true_and];omega
def zL (I:Inv X pins σ H s)(J:RelM fa X.K μ H M)(E:ds.all (az 63)=true)(h:Rep fa X.K μ H d v)(r:RelV v u)(e:cE M d=some ds) :
 (∃y,Reads s.heap u (.list (cM ds)) y)\/∃y,Reads s.heap u (.tuple (cM ds)) y:=by
 obtain⟨a,F,rfl,h1,h2⟩:=jn J h e;obtain rfl:u=Value.ref a:=r;rcases h1 with h1|h1
 ·obtain⟨j,B,⟨o,k,e1,e2,L,z⟩,_⟩:=I.list h1;obtain⟨y,q⟩:=fP I ds 63 F j E h2 B;exact .inl {_,.list e1 e2 z (by simpa using q)}
 ·obtain⟨j,B,⟨o,e1,e2,k,z⟩,_⟩:=I.tuple h1;obtain⟨y,q⟩:=fP I ds 63 F j E h2 B;exact .inr {_,.tuple e1 e2 z (by simpa using q)}
set_option tactic.hygienic true in
def AR (L:Rm X)(I:Inv X pins σ H s)(F:RelM fa X.K μ H M)(h1:Rep fa X.K μ H dx x)(h2:Rep fa X.K μ H dy y)(O:RelV x v)(P:RelV y u)
 (e1:cE M dy=some ds) (e2:ur (view M dx) ds=some b) (j:Bool) (q:Q (.bool (if j then !b else b)) s):wpAny (model X.prog X.w) X.A (compareOp (if j then .NotIn else .In) v u) Q X.xe s:=by
 unfold ur at e2;split at e2
 ·next z=>
  simp only[Qg] at z;obtain⟨p1,p2⟩:=z;have J:=Qr e2;subst J;obtain⟨R,r1⟩:=kQ I F p1 h1 O;obtain⟨B,d1⟩:=qp 64 _ p1;obtain⟨E,S⟩:=sY 63 ds p2;have h:X.A.units+1+min (PyData.depthAll (cM ds)) (toPy (view M dx)).depth<cLine:=by unfold Rm at L;omega
  rw[<- u7 _ p1 ds p2] at q;rcases zL I F p2 h2 P e1 with⟨bs,r2⟩|⟨bs,r2⟩
  ·cases j
   ·exact SeqAt.in_list_reads r2 r1 E B h q
   ·exact SeqAt.notIn_list_reads r2 r1 E B h q
  ·cases j
   ·exact SeqAt.in_tuple_reads r2 r1 E B h q
   ·exact SeqAt.notIn_tuple_reads r2 r1 E B h q
 ·cases e2
def Pu (L:Rm X):bM X (compareOp .In) (gO fa X.K .isin):=by
 intro pins s σ H x y v u Q I B E h;obtain⟨μ,M,z,j,b,J,h1,h2,e,q⟩:=h;have gen:(cE M j).bind (ur (view M z))=some b->wpAny (model X.prog X.w) X.A (compareOp .In v u) (EP X pins σ Q) X.xe s:=λe=>by
  cases e1:cE M j with
  |none=>rw[e1] at e;cases e
  | some O =>
    rw[e1] at e;exact AR L I J h1 h2 B E e1 e false {.bl b,H,I,rfl,q}
 by_cases hs:(∃a,z=.str a)/\∃c,j=.str c
 ·obtain⟨⟨a,rfl⟩,c,rfl⟩:=hs;have F:=Qr e;subst F;exact Ae pins s σ H x y v u Q I B E ⟨a,c,h1,h2,q⟩
 ·refine gen ?_;cases z<;>first|exact e|(cases j<;>first|exact e|exact absurd {{_,rfl},_,rfl} hs)
def HX (O:Rm X):bM X (compareOp .NotIn) (gO fa X.K .notin):=by
 intro pins s σ H x y v u Q I E F h;obtain⟨μ,M,j,z,b,L,h1,h2,e,q⟩:=h;have gen:((cE M z).bind (ur (view M j))).map (!·)=some b->wpAny (model X.prog X.w) X.A (compareOp .NotIn v u) (EP X pins σ Q) X.xe s:=λe=>by
  cases e1:cE M z with
  |none=>rw[e1] at e;cases e
  | some J =>
    rw[e1] at e;cases e2:ur (view M j) J with
    |none=>rw[Option.bind_some,e2] at e;cases e
    | some k =>
      rw[Option.bind_some,e2] at e;have B:=Qr e;subst B;exact AR O I L h1 h2 E F e1 e2 true {.bl _,H,I,rfl,q}
 by_cases hs:(∃a,j=.str a)/\∃c,z=.str c
 ·obtain⟨⟨a,rfl⟩,c,rfl⟩:=hs;have B:=Qr e;subst B;exact tU pins s σ H x y v u Q I E F ⟨a,c,h1,h2,q⟩
 ·refine gen ?_;cases j<;>first|exact e|(cases z<;>first|exact e|exact absurd {{_,rfl},_,rfl} hs)
noncomputable def ff:jI->CmpOp
 |.eq=>.Eq|.ne=>.NotEq|.lt=>.Lt|.le=>.LtE|.gt=>.Gt|.ge=>.GtE|.isN=>.Is|.notN=>.IsNot|.isin=>.In|.notin=>.NotIn
def n5 (h:Rm X):∀o:jI,bM X (compareOp (ff o)) (gO fa X.K o)
 |.eq=>Py h|.ne=>Pq h|.lt=>Pr|.le=>Pt|.gt=>Pw|.ge=>Px|.isN=>NA|.notN=>LJ|.isin=>Pu h|.notin=>HX h
def my (fa:Fa)(K:Qa)(m:Bool)(o:oE):R2:=λx y H Q=>∃μ M h j,RelM fa K μ H M/\Rep fa K μ H h x/\Rep fa K μ H j y/\ae (fY m o h j M) (a8 fa K μ H Q)
def aR (j:RelM fa X.K μ H M)(h:a8 fa X.K μ H Q d M)(r:Rep fa X.K μ H d v):Q v H:=h v H μ .refl j r
set_option tactic.hygienic true in
def gu (j:RelM fa X.K μ H M)(r:aL fa X.K μ H ds vs)(h:ae (bf m ds M) (a8 fa X.K μ H Q)):ds.length<=sz/\∀p,H p=none->Q (.ref p) (upd H p (.lst vs)):=by
 unfold bf at h;split at h
 ·next v=>
  refine{v,λp u=>?_};cases m with
  | true =>
    exact h (.ref p) _ (fQ μ M.length p) (Ext.cell j u) (j.cell u r) {p,rfl,by simp[fQ]}
  | false =>
    exact h (.ref p) _ μ (Ext.alloc j u) (j.alloc u) {p,vs,rfl,{cD,j.fresh u},r.ext (Ext.alloc j u)}
 ·exact h.elim
def ji (j:RelM fa X.K μ H M)(r:aL fa X.K μ H ds vs)(h:a8 fa X.K μ H Q (.tup ds) M):∀p,H p=none->Q (.ref p) (upd H p (.tup vs)):=λp u=>
 h (.ref p) _ μ (Ext.alloc j u) (j.alloc u) {p,vs,rfl,.of cD,r.ext (Ext.alloc j u)}
def dR:sz=sizeLine:=by rw[sizeLine_eq];rfl
def CA:bM X (binaryOp .Add) (λx y H Q=>∃a b ys,x=.ref a/\y=.ref b/\dG X.K H a []/\dG X.K H b ys/\Q (.ref b) H):=by
 intro pins s σ H x y v u Q I rx ry h;obtain⟨a,b,ys,rfl,rfl,U,W,q⟩:=h;cases rx;cases ry;obtain⟨its,r1,p1,_⟩:=I.tuple U;obtain⟨z,r2,p2,_⟩:=I.tuple W;cases r1;obtain⟨⟨cls,S,R,sl⟩,ho,Y,n,hd⟩:=id p1;obtain⟨⟨P,E,B,O⟩,j,J,n2,L⟩:=id p2;subst Y hd J L;exact concat_meets {_,ho,rfl} {_,j,rfl} noFill_tuple_add seq_tuple_add PySem.F.slot_tuple_add PySem.F.entry_tuple_add (PySem.F.args_tuple_add_2 _ _)
  (tuple_addW0 a b #[] z.toArray n n2 S E sl O rfl) {ho,j,{.ref b,H,I,rfl,q}}
def Dq (I:Inv X pins σ H s)(j:RelM fa X.K μ H M)(h1:Rep fa X.K μ H dx x)(h2:Rep fa X.K μ H dy y)(L:RelV x v)(O:RelV y u)
 (h:ae (match jt M dx,jt M dy with|some x,some y=>bf m (x++y) M|_,_=>.bad) (a8 fa X.K μ H Q)):wpAny (model X.prog X.w) X.A (binaryOp .Add v u) (EP X pins σ Q) X.xe s:=by
 cases e1:jt M dx with
 |none=>rw[e1] at h;exact h.elim
 | some xs =>
   cases e2:jt M dy with
   |none=>rw[e1,e2] at h;exact h.elim
   | some S =>
     rw[e1,e2] at h;obtain⟨a,P,rfl,E,z⟩:=jo j h1 e1;obtain⟨b,R,rfl,F,B⟩:=jo j h2 e2;obtain⟨J,k⟩:=gu j (z.append B) h;refine JZ pins s σ H _ _ v u Q I L O {a,b,P,R,rfl,rfl,E,F,?_,k};rw[z.length,B.length,<- QD,<- dR];exact J
set_option tactic.hygienic true in
def NL (m:Bool):bM X (binaryOp .Add) (my fa X.K m .add):=by
 intro pins s σ H x y v u Q I F J h;obtain⟨μ,M,L,O,B,h1,h2,h⟩:=h;have hi:∀i j,L=.int i->O=.int j->wpAny (model X.prog X.w) X.A (binaryOp .Add v u) (EP X pins σ Q) X.xe s:=λi j e1 e2=>by
  subst e1 e2;exact J0 pins s σ H x y v u Q I F J {i,j,h1,h2,aR B h rfl}
 have hs:∀i j,L=.str i->O=.str j->wpAny (model X.prog X.w) X.A (binaryOp .Add v u) (EP X pins σ Q) X.xe s:=λi j e1 e2=>by
  subst e1 e2;have h:ae (if i.cps.size+j.cps.size<=sz then .ok (.str {i.cps++j.cps}) M else .bad) (a8 fa X.K μ H Q):=h;split at h
  ·next W=>exact xC pins s σ H x y v u Q I F J {i,j,h1,h2,by rw[<- dR];exact W,aR B h rfl}
  ·exact h.elim
 have ht:∀i j,L=.tup i->O=.tup j->wpAny (model X.prog X.w) X.A (binaryOp .Add v u) (EP X pins σ Q) X.xe s:=λi j e1 e2=>by
  subst e1 e2;have h:ae (if (i++j).length<=sz then .ok (.tup (i++j)) M else .bad) (a8 fa X.K μ H Q):=h;split at h
  ·next W=>
   obtain⟨a,R,e1,S,E⟩:=id h1;obtain⟨b,Y,e2,U,P⟩:=id h2;by_cases h0:i=[]
   ·subst h0;obtain rfl:R=[]:=E;exact CA pins s σ H x y v u Q I F J {a,b,Y,e1,e2,S,U,aR B h ⟨b,Y,rfl,U,P⟩}
   ·have hv:R≠[]:=λz=>h0 (by have:=E.length;rw[z] at this;exact R5.mp this.symm)
    refine GZ pins s σ H x y v u Q I F J {a,b,R,Y,e1,e2,S,U,hv,?_,λz=>?_,λ_=>ji B (E.append P) h}
    ·rw[E.length,P.length,<- QD,<- dR];exact W
    ·subst z;have ej:=R5.mp P.length.symm;subst ej;exact aR B h {a,R,rfl,S,by simpa using E}
  ·exact h.elim
 cases L<;>cases O<;>first|exact hi _ _ rfl rfl|exact hs _ _ rfl rfl|exact ht _ _ rfl rfl|exact Dq (m:=m) I B h1 h2 F J h
def sO {g:Int->Int->Int}(hr:bM X (binaryOp op) (rI C λi j=>.int (g i j)))
 (z:∀u v M (P:D->Mem->Prop),ae (fY m o u v M) P->∃i j,u=.int i/\v=.int j/\C i j/\P (.int (g i j)) M):bM X (binaryOp op) (my fa X.K m o):=iF hr λx y H Q h=>by
 obtain⟨μ,M,u,v,B,h1,h2,h⟩:=h;obtain⟨i,j,rfl,rfl,c,q⟩:=z u v M _ h;exact{i,j,h1,h2,c,aR B q rfl}
def NF (m:Bool):bM X (binaryOp .Sub) (my fa X.K m .sub):=sO (C:=λ_ _=>True) (iF JT λx y H Q ⟨i,j,e1,e2,_,q⟩=>⟨i,j,e1,e2,q⟩) λu v M P h=>by
 cases u<;>cases v<;>first|exact{_,_,rfl,rfl,trivial,h}|exact h.elim
set_option tactic.hygienic true in
def LN (m:Bool):bM X (binaryOp .FloorDiv) (my fa X.K m .fdiv):=sO GY λu v M P h=>by
 have y:∀i j,u=.int i->v=.int j->∃i j,u=.int i/\v=.int j/\Mb i j/\P (.int (i / j)) M:=λi j e1 e2=>by
  subst e1 e2;have h:ae (if 0<j/\j<1073741824 then .ok (.int (i / j)) M else .bad) P:=h;split at h
  ·next c=>exact⟨i,j,rfl,rfl,c,h⟩
  ·exact h.elim
 cases u<;>cases v<;>first|exact y _ _ rfl rfl|exact h.elim
set_option tactic.hygienic true in
def NI (m:Bool):bM X (binaryOp .Mod) (my fa X.K m .mod):=sO JX λu v M P h=>by
 have y:∀i j,u=.int i->v=.int j->∃i j,u=.int i/\v=.int j/\0<j/\P (.int (i % j)) M:=λi j e1 e2=>by
  subst e1 e2;have h:ae (if 0<j then .ok (.int (i % j)) M else .bad) P:=h;split at h
  ·next c=>exact⟨i,j,rfl,rfl,c,h⟩
  ·exact h.elim
 cases u<;>cases v<;>first|exact y _ _ rfl rfl|exact h.elim
set_option tactic.hygienic true in
def NG (m:Bool):bM X (binaryOp .Pow) (my fa X.K m .pow):=sO JV λu v M P h=>by
 have y:∀i j,u=.int i->v=.int j->∃i j,u=.int i/\v=.int j/\Ma i j/\P (.int (i^j.toNat)) M:=λi j e1 e2=>by
  subst e1 e2;have h:ae (if 0<=j/\j<=1000000/\i.natAbs<2^64 then .ok (.int (i^j.toNat)) M else .bad) P:=h;split at h
  ·next c=>exact⟨i,j,rfl,rfl,c,h⟩
  ·exact h.elim
 cases u<;>cases v<;>first|exact y _ _ rfl rfl|exact h.elim
set_option tactic.hygienic true in
def Co {j:Int}(I:Inv X pins σ H s)(z:RelM fa X.K μ H M)(h1:Rep fa X.K μ H dx x)(h2:Rep fa X.K μ H (.int j) y)(F:RelV x v)(J:RelV y u)
 (h:ae (match jt M dx with|some x=>if x.length*j.toNat<=sz/\-(2^63)<=j/\j<2^63 then bf m (List.replicate j.toNat x).flatten M else .bad|none=>.bad) (a8 fa X.K μ H Q)) :
 wpAny (model X.prog X.w) X.A (binaryOp .Mult v u) (EP X pins σ Q) X.xe s:=by
 cases e1:jt M dx with
 |none=>rw[e1] at h;exact h.elim
 | some xs =>
   rw[e1] at h;simp only at h;split at h
   ·next c=>
    obtain⟨a,L,rfl,E,B⟩:=jo z h1 e1;obtain⟨O,k⟩:=gu z (B.rep j.toNat) h;exact JU pins s σ H _ _ v u Q I F J {a,j,L,rfl,h2,E,c.2.1,c.2.2,by rw[B.length,<- dR];exact c.1,k}
   ·exact h.elim
end
end LD
namespace LD
open PySem PySem.Spec PyProof.Rows L2 PySem.Builtin
open PySem.Sem (wp)
def oN:fillsNumberSlot (.type "tuple") "mul"=pure false:=
 PySem.fillsNumberSlot_seq F.slot_tuple_mul.lookup `k F.slot_tuple_rmul.lookup `k
def tJ:seqRepeat? (.type "tuple")=pure (some (.builtin "tuple.__mul__")):=by
 unfold seqRepeat?;rw[PySem.seqSlot_of (name:="__mul__") F.slot_tuple_mul.lookup `k,PySem.seqSlot_of (name:="__rmul__") F.slot_tuple_rmul.lookup `k]
 rfl
def qu (a:Int)(t:Tok)(l:Addr)(items:Array Qb)(n:Nat)(dd:Option Addr)(sl:Array (Option Qb)) :
 Meets (Builtin.«int.__rmul__» {[.int a t,.ref l],[]}) (λ_ R s=>s.heap.get? l=some {cls:=.type "tuple",dict:=dd,data:=.seq items n,slots:=sl}/\R (.ok (.ret Value.notImplemented)) s):=
 .of_wp λprog w A R s h=>by obtain⟨j,g,d,tk,os⟩:=s;obtain⟨hl,h⟩:=h;wp_walk using wpAny_loadPart' hl;exact{_,rfl,h}
def xB {x:Int}(h:-(2^63)<=x)(h1:x<2^63):(decide (x < -2^63)||decide (x≥2^63))=false:=by
 rw[decide_eq_false `a,decide_eq_false `a];rfl
def qF (l:Addr)(items:Array Qb)(n:Nat)(dd:Option Addr)(sl:Array (Option Qb))(x:Int)(u:Tok)(j:-(2^63)<=x)(h1:x<2^63)(v:(items.isEmpty||x==1)=true) :
 Meets (Builtin.«tuple.__mul__» {[.ref l,.int x u],[]}) (λ_ R s=>s.heap.get? l=some {cls:=.type "tuple",dict:=dd,data:=.seq items n,slots:=sl}/\R (.ok (.ret (.ref l))) s):=
 .of_wp λprog w A R s h=>by
  obtain⟨y,g,d,tk,os⟩:=s;obtain⟨hl,h⟩:=h;have f1:=AutoSeq1.idx_int;wp_walk using wpAny_loadPart' hl
  refine wpAny_ite_false (by rw[xB j h1];rfl) ?_
  wp_walk using wpAny_loadPart' hl
  exact{_,rfl,h}
def qG (l:Addr)(items:Array Qb)(n:Nat)(dd:Option Addr)(sl:Array (Option Qb))(x:Int)(u:Tok)(j:-(2^63)<=x)(h1:x<2^63)(y:(items.isEmpty||x==1)=false)(v:(decide (x<=0)||items.isEmpty)=true) :
 Meets (Builtin.«tuple.__mul__» {[.ref l,.int x u],[]}) (λ_ R s=>s.heap.get? l=some {cls:=.type "tuple",dict:=dd,data:=.seq items n,slots:=sl}/\R (.ok (.ret (.ref s.heap.objs.size))) {s with heap:=s.heap.push {cls:=Value.type "tuple",data:=Data.seq #[]},toks:=s.toks}):=
 .of_wp λprog w A R s h=>by
  obtain⟨z,g,d,tk,os⟩:=s;obtain⟨hl,h⟩:=h;have f1:=AutoSeq1.idx_int;wp_walk using wpAny_loadPart' hl
  refine wpAny_ite_false (by rw[xB j h1];rfl) ?_
  wp_walk using wpAny_loadPart' hl
  exact{_,rfl,h}
def qH (l:Addr)(items:Array Qb)(n:Nat)(dd:Option Addr)(sl:Array (Option Qb))(x:Int)(u:Tok)(j:-(2^63)<=x)(h1:x<2^63)(z:(items.isEmpty||x==1)=false)(v:(decide (x<=0)||items.isEmpty)=false)
 (hs:(items.size:Int)*x<=16777216) (y:(List.foldl (λx1 x2=>x1++x2) #[] (List.replicate x.toNat items)).size<=sizeLine) :
 Meets (Builtin.«tuple.__mul__» {[.ref l,.int x u],[]}) (λ_ R s=>s.heap.get? l=some {cls:=.type "tuple",dict:=dd,data:=.seq items n,slots:=sl}/\R (.ok (.ret (.ref s.heap.objs.size))) {s with heap:=s.heap.push {cls:=Value.type "tuple",data:=Data.seq (List.foldl (λx1 x2=>x1++x2) #[] (List.replicate x.toNat items))},toks:=s.toks}):=
 .of_wp λprog w A R s h=>by
  obtain⟨B,g,d,tk,os⟩:=s;obtain⟨hl,h⟩:=h;have f1:=AutoSeq1.idx_int;wp_walk using wpAny_loadPart' hl
  refine wpAny_ite_false (by rw[xB j h1];rfl) ?_
  wp_walk using wpAny_loadPart' hl
  refine wpAny_ite_false (decide_eq_false `a) ?_
  wp_walk using wpAny_loadPart' hl
  refine wpAny_ite_false (decide_eq_false (by unfold Tuple.tupleTooMany;rw[sizeLine_eq];simp;omega)) ?_
  wp_walk using wpAny_loadPart' hl
  exact{_,rfl,h}
section
variable{fa:Fa}{X:Cx}{μ:Mu}{H:Hp}{σ:L2.St}{pins:List (Addr×Obj)}{s:Qf}{M:Mem}
def rD (h:List Qb)(m:Nat):List.foldl (λx1 x2=>x1++x2) #[] (List.replicate m h.toArray)=(List.replicate m h).flatten.toArray:=by
 have:=foldl_rep h m [];rw[Sn] at this;exact this
def GV:bM X (binaryOp .Mult) (λx y H Q=>∃l k xs,x=.ref l/\y=.int k/\dG X.K H l xs/\-(2^63)<=k/\k<2^63/\xs.length*k.toNat<=sz/\
 ((List.replicate k.toNat xs).flatten=xs->Q (.ref l) H)/\∀p,H p=none->Q (.ref p) (upd H p (.tup (List.replicate k.toNat xs).flatten))):=by
 intro pins s σ H x y v u Q I rx ry h;obtain⟨l,k,xs,rfl,rfl,hq,h1,h2,U,q1,q2⟩:=h;cases rx;obtain⟨t,rfl⟩:=ry;obtain⟨j,r,p,hzz⟩:=I.tuple hq;have hl:=r.length;obtain⟨⟨cls,L,data,sl⟩,ho,W,n,hd⟩:=id p;subst W hd;refine wpAny_binaryOp_repeat_ref `d {_,ho,rfl} (λs'=>typeIs_int s' k t) oN F.fills_int_mul F.slot_int_rmul tJ F.slot_int_index.lookup
  (call_meets F.slot_int_rmul (typeIs_int s k t) F.entry_int_rmul (F.args_int_rmul_2 _ _) (qu k t l j.toArray n L sl) {ho,rfl,{_,ho,rfl},?_})
 have new:∀(B:List Qb),Vals (List.replicate k.toNat xs).flatten B->EP X pins σ Q (.ref s.heap.objs.size) {s with heap:=s.heap.push {cls:=Value.type "tuple",data:=Data.seq B.toArray}}:=λB r'=>by
  refine{.ref s.heap.objs.size,_,I.laid (λb ob q=>Qd _ q) (Qe _) ?_,rfl,q2 _ (I.hok.fresh (Qe _))};exact{by rw[len_rep,Nat.mul_comm,<- dR];exact U,_,r',IsTup.new _ _}
 by_cases O:(j.toArray.isEmpty||k==1)=true
 ·refine call_meets F.slot_tuple_mul {_,ho,rfl} F.entry_tuple_mul (F.args_tuple_mul_2 _ _) (qF l j.toArray n L sl k t h1 h2 O) {ho,{.ref l,H,I,rfl,q1 ?_}};rcases Bool.or_eq_true_iff.mp O with z|z
  ·have e:j=[]:=by simpa using z
   subst e;have e2:=R5.mp hl;subst e2;simp
  ·have e:k=1:=by simpa using z
   subst e;simp
 ·have E:(j.toArray.isEmpty||k==1)=false:=by simpa using O
  by_cases P:(decide (k<=0)||j.toArray.isEmpty)=true
  ·refine call_meets F.slot_tuple_mul {_,ho,rfl} F.entry_tuple_mul (F.args_tuple_mul_2 _ _) (qG l j.toArray n L sl k t h1 h2 E P) {ho,new [] ?_};have Y:k<=0:=by
    rcases Bool.or_eq_true_iff.mp P with z|z
    ·simpa using z
    ·rw[z] at E;cases E
   have R:k.toNat=0:=`a
   rw[R];exact .nil
  ·have J:(decide (k<=0)||j.toArray.isEmpty)=false:=by simpa using P
   have Y:0<k:=by
    have:=(Bool.or_eq_false_iff.mp J).1;simpa using this
   have hs:(j.toArray.size:Int)*k<=16777216:=by
    have e1:(j.toArray.size:Int)*k=((xs.length*k.toNat:Nat):Int):=by
     rw[Qy,<- hl,Int.natCast_mul,Int.toNat_of_nonneg `a]
    rw[e1];have:xs.length*k.toNat<=16777216:=U;omega
   have S:(List.foldl (λx1 x2=>x1++x2) #[] (List.replicate k.toNat j.toArray)).size<=sizeLine:=by
    rw[rD,Qy,len_rep,Nat.mul_comm,<- hl,<- dR];exact U
   refine call_meets F.slot_tuple_mul {_,ho,rfl} F.entry_tuple_mul (F.args_tuple_mul_2 _ _) (qH l j.toArray n L sl k t h1 h2 E J hs S) {ho,?_};rw[rD];exact new _ (r.rep k.toNat)
set_option tactic.hygienic true in
def NH (m:Bool):bM X (binaryOp .Mult) (my fa X.K m .mul):=by
 intro pins s σ H x y v u Q I L O h;obtain⟨μ,M,B,E,F,h1,h2,h⟩:=h;have U:∀i j,B=.int i->E=.int j->wpAny (model X.prog X.w) X.A (binaryOp .Mult v u) (EP X pins σ Q) X.xe s:=λi j e1 e2=>by
  subst e1 e2;have h:ae (if (-(2^64)<i/\i<2^64)\/(-(2^64)<j/\j<2^64) then .ok (.int (i*j)) M else .bad) (a8 fa X.K μ H Q):=h;split at h
  ·next c=>exact JW pins s σ H x y v u Q I L O {i,j,h1,h2,c,aR F h rfl}
  ·exact h.elim
 have W:∀i j,B=.tup i->E=.int j->wpAny (model X.prog X.w) X.A (binaryOp .Mult v u) (EP X pins σ Q) X.xe s:=λi j e1 e2=>by
  subst e1 e2;have h:ae (if i.length*j.toNat<=sz/\-(2^63)<=j/\j<2^63 then .ok (.tup (List.replicate j.toNat i).flatten) M else .bad) (a8 fa X.K μ H Q):=h;split at h
  ·next c=>
   obtain⟨a,R,e1,P,J⟩:=id h1;refine GV pins s σ H x y v u Q I L O {a,j,R,e1,h2,P,c.2.1,c.2.2,by rw[J.length];exact c.1,λz=>?_,ji F (J.rep j.toNat) h}
   refine aR F h {a,R,rfl,P,?_};have:=J.rep j.toNat;rw[z] at this;exact this
  ·exact h.elim
 have hl:∀j,E=.int j->ae (match jt M B with|some x=>if x.length*j.toNat<=sz/\-(2^63)<=j/\j<2^63 then bf m (List.replicate j.toNat x).flatten M else .bad|none=>.bad) (a8 fa X.K μ H Q)->
  wpAny (model X.prog X.w) X.A (binaryOp .Mult v u) (EP X pins σ Q) X.xe s:=λj e1 S=>by
  subst e1;exact Co I F h1 h2 L O S
 cases E with
 |int j=>cases B<;>first|exact U _ _ rfl rfl|exact W _ _ rfl rfl|exact hl _ rfl h
 |_=>cases B<;>exact h.elim
noncomputable def binOp:oE->Operator
 |.add=>.Add|.sub=>.Sub|.mul=>.Mult|.fdiv=>.FloorDiv|.mod=>.Mod|.pow=>.Pow
def NJ (m:Bool):∀o:oE,bM X (binaryOp (binOp o)) (my fa X.K m o)
 |.add=>NL m|.sub=>NF m|.mul=>NH m|.fdiv=>LN m|.mod=>NI m|.pow=>NG m
end
end LD
namespace LD
open PySem PySem.Spec PyProof.Rows L2
section
variable{fa:Fa}{X:Cx}{μ:Mu}{H:Hp}{σ:L2.St}{pins:List (Addr×Obj)}{s:Qf}{M:Mem}
def KG (h:jW X r)(i:∀x y H Q,r' x y H Q->r x y H Q):jW X r':=λz j pins s σ H x y v u Q I B E q hs=>h z j pins s σ H x y v u Q I B E (i x y H Q q) hs
def rIdx (fa:Fa)(K:Qa):R2:=λx y H Q=>∃μ M h j d,RelM fa K μ H M/\Rep fa K μ H h x/\Rep fa K μ H j y/\bV h j M=some d/\a8 fa K μ H Q d M
def uj (n:Nat)(i:Int):LD.cv n i=L2.cv n i:=rfl
set_option tactic.hygienic true in
def MR:jW X (rIdx fa X.K):=KG KC λx y H Q h=>by
 obtain⟨μ,M,u,I,d,F,h1,h2,e,q⟩:=h;have gen:∀i,I=.int i->((cE M u).bind λE=>(LD.cv E.length i).bind λj=>E[j]?)=some d->JA X.K x y H Q:=λi S O=>by
  subst S;clear e;have e:=O;clear O;cases e1:cE M u with
  |none=>rw[e1] at e;cases e
  | some E =>
    rw[e1,Option.bind_some] at e;obtain⟨a,L,rfl,B,r⟩:=jn F h1 e1;cases e2:LD.cv E.length i with
    |none=>rw[e2] at e;cases e
    | some j =>
      rw[e2,Option.bind_some] at e;obtain⟨v,W,R⟩:=r.get e;have P:sk L i=some v:=by
       unfold sk;rw[r.length,<- uj,e2];exact W
      rcases B with B|B
      ·exact .inl {a,L,i,v,rfl,h2,B,P,aR F q R}
      ·exact .inr (.inl {a,L,i,v,rfl,h2,B,P,aR F q R})
 have str:∀z i,u=.str z->I=.int i->JA X.K x y H Q:=λz i e1 e2=>by
  subst e1 e2;have e:(if z.cps.size<=sz then(LD.cv z.cps.size i).bind λj=>(z.cps[j]?).map λc=>D.str {#[c]} else none)=some d:=e;split at e
  ·next Y=>
   cases e2:LD.cv z.cps.size i with
   |none=>rw[e2] at e;cases e
   | some j =>
     rw[e2,Option.bind_some] at e;cases J:z.cps[j]? with
     |none=>rw[J] at e;cases e
     | some c =>
       rw[J] at e;have U:=Qr e;subst U;refine .inr (.inr {z,i,c,h1,h2,by rw[<- dR];exact Y,?_,aR F q rfl})
       unfold sk;rw[show z.cps.toList.length=z.cps.size by simp,<- uj,e2]
       simpa using J
  ·cases e
 cases I with
 |int i=>cases u<;>first|exact str _ _ rfl rfl|exact gen _ rfl e
 |_=>cases u<;>cases (e)
def Ja (h:nh X r)(i:∀x lo hi H Q,r' x lo hi H Q->r x lo hi H Q):nh X r':=λpins s σ H x v z B lo hi sl Q I y hs j u q=>h pins s σ H x v z B lo hi sl Q I y hs j u (i x lo hi H Q q)
noncomputable def pH:D->Option (Option Int)
 |.non=>some none
 |.int i=>some (some i)
 |_=>none
def tH (n d:Nat)(x:D):LD.aU n d x=(pH x).map (HT.aU n d):=by
 cases x<;>rfl
def tG:nh X (λx lo hi H Q=>∃a xs,x=.ref a/\dG X.K H a xs/\(HT.aU xs.length 0 lo=0/\HT.aU xs.length xs.length hi=xs.length)/\Q (.ref a) H):=by
 intro pins s σ H x v W Y lo hi sl Q I S hs P R h;obtain⟨a,xs,rfl,O,J,q⟩:=h;cases S;obtain⟨j,r,u,U⟩:=I.tuple O;refine{"tuple",_,RE.lookup,u.typeIs,?_};have y:j.toArray.size=xs.length:=by rw[Qy];exact r.length.symm
 rw[<- y] at J;obtain⟨os,F,E,L⟩:=id hs;have B:s.TypeIs (.ref sl) "slice":=⟨os,F,E⟩;unfold getItem;try with_reducible refine tqo ?_
 first|refine tqa (tqb ?_)|skip
 refine tqa (wpAny_sequenceKey u.typeIs `d ?_)
 refine tqa (wpAny_callSpecial?_slot u.typeIs RE
  (wpAny_call_entry RE u.typeIs entry_tuple_getitem ?_ (args_tuple_getitem _ _)))
 show wpAny _ _ (Builtin.Tuple.tupleItemsOf (.ref a) >>= _) _ _ s;refine tqa (tupleItemsOf_ u ?_);refine tqa (wpAny_typeOf B ?_);rw[if_pos `d]
 refine tqa (HT.jl hs P R ?_);have z:(((HT.aU j.toArray.size 0 lo:Nat):Int)==0&&(1:Int)==1&&(HT.aU j.toArray.size j.toArray.size hi-HT.aU j.toArray.size 0 lo)==j.toArray.size)=true:=by
  rw[J.1,J.2];simp
 show wpAny _ _ (if (((HT.aU j.toArray.size 0 lo:Nat):Int)==0&&(1:Int)==1&&(HT.aU j.toArray.size j.toArray.size hi-HT.aU j.toArray.size 0 lo)==j.toArray.size)=true then _ else _) _ _ s;rw[if_pos z];refine tqa ?_;refine tqa (wpAny_typeOf u.typeIs ?_);refine tqb ?_;rw[if_pos `d]
 exact tqa (wpAny_rule (tqb {_,rfl,tqb {.ref a,H,I,rfl,q}}))
def OI (fa:Fa)(K:Qa)(m:Bool):V->Option Int->Option Int->Hp->VK->Prop:=λx lo u H Q=>∃μ M j dl h,RelM fa K μ H M/\Rep fa K μ H j x/\pH dl=some lo/\pH h=some u/\ae (gK m j dl h M) (a8 fa K μ H Q)
def Gk (m:Bool):nh X (OI fa X.K m):=by
 refine Ja (Gm.or (I9.or tG)) λx lo u H Q h=>?_;obtain⟨μ,M,z,dl,E,B,h1,e1,e2,h⟩:=h;have gen:ae (match fj M z with
  | some xs => match LD.aU xs.length 0 dl, LD.aU xs.length xs.length E with
    |some l,some h=>bf m (cut xs l h) M
    |_,_=>.bad
  |none=>.bad) (a8 fa X.K μ H Q)->Jw X.K x lo u H Q:=λh=>by
  cases e:fj M z with
  |none=>rw[e] at h;exact h.elim
  | some xs =>
    rw[e] at h;simp only[tH,e1,e2,Option.map_some] at h;obtain⟨a,j,rfl,v,r⟩:=bL B h1 e;have hl:=r.length;obtain⟨_,k⟩:=gu B ((r.drop (HT.aU xs.length 0 lo)).take (HT.aU xs.length xs.length u-HT.aU xs.length 0 lo)) h;refine{a,j,rfl,v,?_};unfold mU;rw[hl];exact k
 have tup:∀xs,z=.tup xs->Jv X.K x lo u H Q\/∃a xs,x=.ref a/\dG X.K H a xs/\(HT.aU xs.length 0 lo=0/\HT.aU xs.length xs.length u=xs.length)/\Q (.ref a) H:=λxs e=>by
  subst e;have h:ae (match LD.aU xs.length 0 dl,LD.aU xs.length xs.length E with
   |some l,some h=>.ok (.tup (cut xs l h)) M
   |_,_=>.bad) (a8 fa X.K μ H Q):=h
  simp only[tH,e1,e2,Option.map_some] at h;obtain⟨a,j,rfl,v,r⟩:=h1;have hl:=r.length;by_cases y:HT.aU j.length 0 lo=0/\HT.aU j.length j.length u=j.length
  ·refine .inr {a,j,rfl,v,y,?_};rw[hl] at y;have F:cut xs (HT.aU xs.length 0 lo) (HT.aU xs.length xs.length u)=xs:=by rw[y.1,y.2];simp[cut]
   rw[F] at h;exact aR B h ⟨a,j,rfl,v,r⟩
  ·refine .inl {a,j,rfl,v,y,?_};have k:=ji B ((r.drop (HT.aU xs.length 0 lo)).take (HT.aU xs.length xs.length u-HT.aU xs.length 0 lo)) h;unfold mU;rw[hl];exact k
 cases z<;>first|exact .inr (tup _ rfl)|exact .inl (gen h)
def qw (fa:Fa)(K:Qa)(f:xa):List V->Hp->VK->Prop:=λj H Q=>∃μ M h,RelM fa K μ H M/\aL fa K μ H h j/\ae (gA f h M) (a8 fa K μ H Q)
def sy {d:D}{vs:List V}{K:Qa}(h:aL fa K μ H [d] vs):∃v,vs=[v]/\Rep fa K μ H d v:=by
 obtain⟨v,r,rfl,h1,h2⟩:=h;obtain rfl:r=[]:=h2;exact⟨v,rfl,h1⟩
set_option tactic.hygienic true in
def M8:cy X (.builtin "len") (qw fa X.K .len):=lU (uU.or uT) λB H Q h=>by
 obtain⟨μ,M,E,j,r,h⟩:=h
 match E,r,h with
 |[],_,h=>exact h.elim
 |d::_::_,_,h=>cases d<;>exact h.elim
 | [d], r, h =>
   obtain⟨v,rfl,y⟩:=sy r;have gen:ae (match cE M d with|some xs=>.ok (.int xs.length) M|none=>.bad) (a8 fa X.K μ H Q)->∃p u,[v]=[.ref p]/\(dB X.K H p u\/dG X.K H p u)/\Q (.int u.length) H:=λh=>by
    cases e:cE M d with
    |none=>rw[e] at h;exact h.elim
    | some xs =>
      rw[e] at h;obtain⟨a,B,rfl,F,r⟩:=jn j y e;refine{a,B,rfl,F,?_};rw[r.length];exact aR j h rfl
   have str:∀x,d=.str x->∃z,[v]=[V.str z]/\z.length<=sizeLine/\Q (.int z.length) H:=λx e=>by
    subst e;have h:ae (if x.cps.size<=sz then .ok (.int x.cps.size) M else .bad) (a8 fa X.K μ H Q):=h;split at h
    ·next c=>exact{x,by rw[show v=.str x from y],by rw[<- dR];exact c,aR j h rfl}
    ·exact h.elim
   cases d<;>first|exact .inr (str _ rfl)|exact .inl (gen h)
def Hn:cy X (.type "tuple") (qw fa X.K .tuple):=lU sv λu H Q h=>by
 obtain⟨μ,M,E,y,r,h⟩:=h
 match E,r,h with
 |[],_,h=>exact h.elim
 |d::_::_,_,h=>cases d<;>exact h.elim
 | [d], r, h =>
   obtain⟨v,rfl,B⟩:=sy r;have gen:ae (match fj M d with|some xs=>.ok (.tup xs) M|none=>.bad) (a8 fa X.K μ H Q)->∃p j,[v]=[.ref p]/\((dB X.K H p j/\∀l,H l=none->Q (.ref l) (upd H l (.tup j)))\/(dG X.K H p j/\Q (.ref p) H)):=λh=>by
    cases e:fj M d with
    |none=>rw[e] at h;exact h.elim
    | some xs =>
      rw[e] at h;obtain⟨a,u,rfl,z,r⟩:=bL y B e;exact{a,u,rfl,.inl {z,ji y r h}}
   have tup:∀x,d=.tup x->∃p j,[v]=[.ref p]/\((dB X.K H p j/\∀l,H l=none->Q (.ref l) (upd H l (.tup j)))\/(dG X.K H p j/\Q (.ref p) H)):=λx e=>by
    subst e;obtain⟨a,u,rfl,z,r⟩:=id B;exact{a,u,rfl,.inr {z,aR y h B}}
   cases d<;>first|exact tup _ rfl|exact gen h
def KS (m:Bool):cy X (.type "list") (qw fa X.K (.list m)):=lU uS λu H Q h=>by
 obtain⟨μ,M,y,j,r,h⟩:=h
 match y,r,h with
 |[],_,h=>exact h.elim
 |_::_::_,_,h=>exact h.elim
 | [d], r, h =>
   obtain⟨v,rfl,B⟩:=sy r;have h:ae (match cE M d with|some xs=>bf m xs M|none=>.bad) (a8 fa X.K μ H Q):=h
   cases e:cE M d with
   |none=>rw[e] at h;exact h.elim
   | some xs =>
     rw[e] at h;obtain⟨a,u,rfl,z,r⟩:=jn j B e;obtain⟨_,k⟩:=gu j r h;exact⟨a,u,rfl,z,k⟩
end
section
variable{fa:Fa}{X:Cx}{μ:Mu}{H:Hp}{σ:L2.St}{pins:List (Addr×Obj)}{s:Qf}{M:Mem}
set_option tactic.hygienic true in
def Oo (hM:RelM fa X.K μ H M)(h:Rep fa X.K μ H d v)(e:jZ M d=some k):Dw X.K v H k:=by
 cases d with
 |non=>obtain rfl:v=.non:=h;exact(Qr e).symm
 |bl b=>obtain rfl:v=.bl b:=h;exact(Qr e).symm
 |int i=>obtain rfl:v=.int i:=h;exact(Qr e).symm
 | str x =>
   obtain rfl:v=.str x:=h;have e:(if x.cps.size<=sz then some (x.cps.size != 0) else none)=some k:=e;split at e
   ·next c=>
    refine{by rw[<- dR];exact c,?_}
    rw[<- Qr e];show(x.cps.size != 0)=((x.cps.size:Int) != 0);rw[Rb];simp
   ·cases e
 | tup ds =>
   obtain⟨a,vs,rfl,hq,r⟩:=h;refine .inr (.inl {vs,hq,?_});rw[<- Qr e];have:=r.length;cases vs<;>cases ds<;>simp_all
 | lst ds =>
   obtain⟨a,vs,rfl,hq,r⟩:=bL hM h rfl;refine .inl {vs,hq,?_};rw[<- Qr e];have:=r.length;cases vs<;>cases ds<;>simp_all
 | frz ds =>
   obtain⟨a,vs,rfl,hq,r⟩:=bL hM h rfl;refine .inl {vs,hq,?_};rw[<- Qr e];have:=r.length;cases vs<;>cases ds<;>simp_all
 | cell c =>
   have e:(M[c]?).map (λds=>!ds.isEmpty)=some k:=e;cases e1:M[c]? with
   |none=>rw[e1] at e;cases e
   | some ds =>
     rw[e1] at e;obtain⟨a,vs,rfl,hq,r⟩:=bL hM h e1;refine .inl {vs,hq,?_};rw[<- Qr e];have:=r.length;cases vs<;>cases ds<;>simp_all
 |fn f=>cases e
 |exc y p=>cases e
def zQ:∀{ds:List D}{bs:List Bool}{vs:List V}{us:List Qb},boolsOf ds=some bs->aL fa X.K μ H ds vs->Vals vs us->PyProof.Rows.LSm.BoolsAre us bs:=by
 intro ds;induction ds with
 | nil =>
   intro bs vs us e h r;obtain rfl:vs=[]:=h;cases r;cases e;exact .nil
 | cons d ds j =>
   intro bs vs us e h r;obtain⟨v,vr,rfl,h1,h2⟩:=h;cases r with
   | cons r1 r2 =>
     cases d with
     | bl b =>
       have e:(boolsOf ds).map (b::·)=some bs:=e;cases e1:boolsOf ds with
       |none=>rw[e1] at e;cases e
       | some u =>
         rw[e1] at e;have e2:=Qr e;subst e2;obtain rfl:v=.bl b:=h1;obtain rfl:_=Value.bool b:=r1;exact .cons b (j e1 h2 r2)
     |_=>cases e
def qX:cy X (.builtin "all") (λxs H Q=>∃μ ds bs p vs,xs=[.ref p]/\X.calm=true/\dB X.K H p vs/\aL fa X.K μ H ds vs/\boolsOf ds=some bs/\Q (.bl (bs.all id)) H):=by
 intro pins s σ H xs us Q I r h;obtain⟨μ,ds,bs,p,vs,rfl,L,P,R,F,q⟩:=h;obtain⟨u,rfl,U⟩:=vals1 r;cases U;obtain⟨j,S,z,hz⟩:=I.list P;have E:=zQ F R S;have y:=z.lt;refine call_all_walk (wpAny_pyIter_list z.isList ?_);refine{s.heap.objs.size,[s.heap.objs.size,p],[s.heap.objs.size],j.toArray.size,_,_,λi=>(bs[i]?).getD true,rfl,Walks.list (A:=X.A.in1) (I.ok.hd L) _ p (QN y) j.toArray,
  {{_,QA _ rfl,rfl,rfl},z.isList.push _},λi v s' Y W J B=>?_,λh' tk O=>?_}
 ·obtain⟨b,e,rfl⟩:=E.get i v (by simpa using J)
  simp only[e,Option.getD_some] at B;exact tqp B
 ·have e:((List.range j.toArray.size).all λi=>(bs[i]?).getD true)=bs.all id:=by
   rw[Qy,E.length];exact PyProof.Rows.LSm.range_all bs
  rw[e];exact{.bl _,H,I.kept (PyProof.Rows.LSm.kept_iter O),rfl,q}
def Cn:∀{ds:List D}{bs:List Int}{vs:List V}{us:List Qb},intsOf ds=some bs->aL fa X.K μ H ds vs->Vals vs us->So us bs:=by
 intro ds;induction ds with
 | nil =>
   intro bs vs us e h r;obtain rfl:vs=[]:=h;cases r;cases e;exact .nil
 | cons d ds j =>
   intro bs vs us e h r;obtain⟨v,vr,rfl,h1,h2⟩:=h;cases r with
   | cons r1 r2 =>
     cases d with
     | int b =>
       have e:(intsOf ds).map (b::·)=some bs:=e;cases e1:intsOf ds with
       |none=>rw[e1] at e;cases e
       | some u =>
         rw[e1] at e;have e2:=Qr e;subst e2;obtain rfl:v=.int b:=h1;obtain⟨t,rfl⟩:=r1;exact .cons b t (j e1 h2 r2)
     |_=>cases e
def Na (z:X.calm=true):cy X (.builtin "all") (qw fa X.K .all):=lU (qX) λu H Q h=>by
 obtain⟨μ,M,y,j,r,h⟩:=h
 match y,r,h with
 |[],_,h=>exact h.elim
 |d::_::_,_,h=>exact h.elim
 | [d], r, h =>
   obtain⟨v,rfl,E⟩:=sy r;have h:ae (match fj M d with|some xs=>(match boolsOf xs with|some bs=>.ok (.bl (bs.all id)) M|none=>.bad)|none=>.bad) (a8 fa X.K μ H Q):=h
   cases e:fj M d with
   |none=>rw[e] at h;exact h.elim
   | some xs =>
     rw[e] at h;simp only at h;cases e2:boolsOf xs with
     |none=>rw[e2] at h;exact h.elim
     | some bs =>
       rw[e2] at h;obtain⟨a,u,rfl,B,r⟩:=bL j E e;exact{μ,xs,bs,a,u,rfl,z,B,r,e2,aR j h rfl}
noncomputable def tyName:Ty->String
 |.int=>"int" | .bool=>"bool" | .str=>"str" | .tuple=>"tuple" | .list=>"list" | .own _=>""
def NU:D->String
 |.non=>"NoneType" | .bl _=>"bool" | .int _=>"int" | .str _=>"str" | .tup _=>"tuple" | _=>"list"
def Me (t:Ty)(d:D)(b:Bool)(j:∀c,t≠.own c)(e:gW t d=some b):PySem.W.kitOne X.K (.type (NU d)) (.type (tyName t))=some b:=by
 cases t with
 |own c=>exact absurd rfl (j c)
 |_=>cases d<;>first|(cases (show(none:Option Bool)=some b from e))|(have h:=Qr e;subst h;(first|rfl|decide +kernel))
def BS (J:RelM fa X.K μ H M)(h:Rep fa X.K μ H d v)(e:gW t d=some b)(I:Inv X pins σ H s)(r:RelV v u)
 (j:PySem.W.kitOne X.K (.type (NU d)) c=some b) (q:∀tk,Q (.bool b) {s with toks:=tk}):wpAny (model X.prog X.w) X.A (call (.builtin "isinstance") [u,c]) Q X.xe s:=by
 cases d with
 |non=>obtain rfl:v=.non:=h;exact jR I r .non j q
 |bl x=>obtain rfl:v=.bl x:=h;exact jR I r (.bl x) j q
 |int x=>obtain rfl:v=.int x:=h;exact jR I r (.int x) j q
 |str x=>obtain rfl:v=.str x:=h;exact jR I r (.str x) j q
 | tup F =>
   obtain⟨a,O,rfl,B,_⟩:=h;obtain rfl:u=Value.ref a:=r;obtain⟨E,L,⟨o,h1,h2,_⟩,_⟩:=I.tuple B;exact Rr PySem.W.kitx_tuple I.kIn ⟨o,h1,h2⟩ j (λz=>nomatch z) q
 | lst F =>
   obtain⟨a,O,rfl,B,_⟩:=bL J h rfl;obtain rfl:u=Value.ref a:=r;obtain⟨E,L,⟨o,n,h1,h2,_⟩,_⟩:=I.list B;exact Rr PySem.W.kitx_list I.kIn ⟨o,h1,h2⟩ j (λz=>nomatch z) q
 | frz F =>
   obtain⟨a,O,rfl,B,_⟩:=bL J h rfl;obtain rfl:u=Value.ref a:=r;obtain⟨E,L,⟨o,n,h1,h2,_⟩,_⟩:=I.list B;exact Rr PySem.W.kitx_list I.kIn ⟨o,h1,h2⟩ j (λz=>nomatch z) q
 | cell k =>
   obtain⟨a,rfl,P⟩:=h;obtain⟨F,O,_,B,_⟩:=J.mu_lt P;obtain rfl:u=Value.ref a:=r;obtain⟨E,L,⟨o,n,h1,h2,_⟩,_⟩:=I.list (dB.of B);exact Rr PySem.W.kitx_list I.kIn ⟨o,h1,h2⟩ j (λz=>nomatch z) q
 |fn f=>cases e
 |exc y p=>cases e
def Ms (fa:Fa)(K:Qa)(t:Ty):List V->Hp->VK->Prop:=λh H Q=>∃μ M d v b,h=[v,.ty (tyName t)]/\RelM fa K μ H M/\Rep fa K μ H d v/\gW t d=some b/\Q (.bl b) H
def KU (t:Ty)(y:∀c,t≠.own c):cy X (.builtin "isinstance") (Ms fa X.K t):=by
 intro pins s σ H xs B Q I r h;obtain⟨μ,M,d,v,b,rfl,j,z,e,q⟩:=h;obtain⟨u,w,rfl,r1,r2⟩:=vals2 r;obtain rfl:w=Value.type (tyName t):=r2;exact BS j z e I r1 (Me t d b y e) λtk=>{.bl b,H,I.tok _,rfl,q}
end
section
variable{fa:Fa}{X:Cx}
abbrev DE (fa:Fa)(X:Cx)(e:Expr)(g:Env->Mem->Res D):Prop:=PE X e (tE fa X.K g)
abbrev DT (fa:Fa)(X:Cx)(e:Expr)(g:Env->Mem->Res Bool):Prop:=PT X e (tT fa X.K g)
abbrev DW (fa:Fa)(X:Cx)(e:Expr)(g:Env->Mem->Res Bool):Prop:=PW X e (tT fa X.K g)
abbrev DA (fa:Fa)(X:Cx)(es:List Expr)(g:Env->Mem->Res (List D)):Prop:=PA X es (tA fa X.K g)
abbrev DS (fa:Fa)(X:Cx)(st:Stmt)(g:Env->Mem->Res Fl):Prop:=PS X st (tF fa X g)
abbrev nk (fa:Fa)(X:Cx)(st:List Stmt)(g:Env->Mem->Res Fl):Prop:=kM X st (tF fa X g)
variable{a b d:Expr}{ga gb gd:Env->Mem->Res D}{pos:Pos}
def Ng {i:Nat}(B:X.N[i]?=some x)(E:Bs X.env.scope x)(hd:(x==("__debug__":Str))=false)(j:(x==("__classdict__":Str))=false) :
 DE fa X (.Name x pos) (λZ M=>cf M (Z[i]?.getD none)):=bG (Ac B E hd j) λI H Q ⟨F,Z,M,y,z,h⟩=>by
 obtain⟨d,e,w⟩:=ku h;have u:Z[i]?=some (some d):=by
  cases q:Z[i]? with
  |none=>rw[q] at e;cases e
  |some o=>rw[q] at e;simp at e;rw[e]
 obtain⟨v,h1,h2⟩:=y.at' i d u;exact{v,h1,aR z w h2}
def je (h:PE X e (tC v))(r:∀μ H,Rep fa X.K μ H dc v):DE fa X e (λ_ M=>.ok dc M):=bG h λz H Q ⟨μ,y,M,u,j,h⟩=>aR j h (r μ H)
def Np {i:Int}:DE fa X (.Constant (.int i) j pos) (λ_ M=>.ok (.int i) M):=je JR λ_ _=>rfl
def Pp:DE fa X (.Constant (.bool i) j pos) (λ_ M=>.ok (.bl i) M):=je MB λ_ _=>rfl
def Ni:DE fa X (.Constant (.str i) j pos) (λ_ M=>.ok (.str i) M):=je JM λ_ _=>rfl
def Fc:DE fa X (.Constant .none j pos) (λ_ M=>.ok .non M):=je JP λ_ _=>rfl
def t2 {Q:Type}{f:D->D->Mem->Res Q}{P:Q->Mem->Prop}{R:V->V->Hp->Prop}(S:bw fa X.K μ H σ Z)(U:RelM fa X.K μ H M)
 (h:ae ((ga Z M).bind λx M=>(gb Z M).bind λy M=>f x y M) P)
 (k:∀x y B v u z j,Ext μ H j z->bw fa X.K j z σ Z->RelM fa X.K j z B->Rep fa X.K j z x v->Rep fa X.K j z y u->ae (f x y B) P->R v u z) :
 tE fa X.K ga σ H λv L=>tE fa X.K gb σ L λu z=>R v u z:=
 t1 S U h λx M1 v L Y W E I r1 h1=>t1 E I h1 λy B u z j O F J r2 h2=>k x y B v u z j (W.trans O) F J (r1.ext O) r2 h2
def Nw (m:Bool)(o:oE)(J:DE fa X a ga)(L:DE fa X b gb):DE fa X (.BinOp a (binOp o) b pos) (λZ M=>(ga Z M).bind λx M=>(gb Z M).bind λy M=>fY m o x y M):=
 bG (Mz (NJ m o) J L) λS H Q ⟨R,Z,M,E,I,h⟩=>t2 E I h λx y B v u P z O F j r1 r2 h2=>{z,B,x,y,j,r1,r2,kr h2 O}
def pL {P:D->Mem->Prop}(h:ae ((cf M r).bind λb M=>.ok (.bl b) M) P):∃b,r=some b/\P (.bl b) M:=by
 obtain⟨b,j,e,q⟩:=aG h;cases r with
 |none=>cases e
 |some u=>cases e;exact{_,rfl,q}
def Nu (O:Rm X)(o:jI)(J:DE fa X a ga)(L:DE fa X b gb)(hm:behindInMarks (ff o) b=false) :
 DE fa X (.Compare a [ff o] [b] pos) (λZ M=>(ga Z M).bind λx M=>(gb Z M).bind λy M=>(cf M (bE o x y M)).bind λb M=>.ok (.bl b) M):=
 bG (qC (n5 O o) J L hm) λU H Q ⟨S,Z,M,E,I,h⟩=>t2 E I h λx y B v u R z P F j r1 r2 h2=>by
  obtain⟨b,e,q⟩:=pL h2;exact{z,B,x,y,b,j,r1,r2,e,aR j (q.ext P) rfl}
def Lf (W:Rm X)(o:jI)(S:DE fa X a ga)(U:DE fa X b gb)(hm:behindInMarks (ff o) b=false) :
 DT fa X (.Compare a [ff o] [b] pos) (λZ M=>((ga Z M).bind λx M=>(gb Z M).bind λy M=>(cf M (bE o x y M)).bind λb M=>.ok (.bl b) M).bind λx M=>cf M (jZ M x)):=
 km (qy (n5 W o) S U hm) λσ H Q ⟨μ,Z,M,O,R,h⟩=>by
  obtain⟨z,I,e,q⟩:=aG h;have L:ae ((ga Z M).bind λx M=>(gb Z M).bind λy M=>(cf M (bE o x y M)).bind λb M=>.ok (.bl b) M) (λd M=>d=z/\M=I):=by rw[e];exact⟨rfl,rfl⟩
  refine t2 O R L λx y F v u E B Y P j r1 r2 h2=>?_;obtain⟨b,e1,e2,J⟩:=pL h2;subst e2 J;exact{B,F,x,y,b,j,r1,r2,e1,b,rfl,q E B Y j}
def FX (F:∀Z M x M',g Z M=.ok x M'->∃k,x=.bl k)(h:tT fa X.K (λZ M=>(g Z M).bind λx M=>cf M (jZ M x)) σ H Q) :
 tE fa X.K g σ H (λx u=>∃k,x=.bl k/\Q k u):=by
 obtain⟨L,Z,M,B,E,h⟩:=h;obtain⟨x,z,e,q⟩:=aG h;obtain⟨k,rfl⟩:=F Z M x z e;refine{L,Z,M,B,E,?_};rw[e];intro v y j J I r1;obtain rfl:v=.bl k:=r1;exact{k,rfl,q y j J I}
def E5 {o O:jI}{L:Env->Mem->Res D}(S:L2.St)(H:Hp)(Q:VK):tE fa X.K (λZ M=>(ga Z M).bind λx M=>(gb Z M).bind λy M=>(cf M (bE o x y M)).bind λk M=>
 if k then(L Z M).bind λz M=>(cf M (bE O y z M)).bind λb M=>.ok (.bl b) M else .ok (.bl false) M) S H Q->s8 (gO fa X.K o) (gO fa X.K O) (tE fa X.K ga) (tE fa X.K gb) (tE fa X.K L) S H Q:=λ⟨μ,Z,M,hE,hM,h⟩=>by
 refine t2 hE hM h λx y U v u H2 I P F j r1 r2 h2=>?_;obtain⟨k,M3,e,q⟩:=aG h2;cases E:bE o x y U with
 |none=>rw[E] at e;cases e
 | some k' =>
   rw[E] at e;cases e;refine{I,_,x,y,k,j,r1,r2,E,k,rfl,?_};cases k with
   |false=>exact aR j (a8.ext q P) rfl
   | true =>
     refine t1 F j q λz W w H4 J R hE4 B r4 h4=>?_;obtain⟨b,Y,q4⟩:=pL h4;exact{J,W,y,z,b,B,r2.ext R,r4,Y,aR B (q4.ext (P.trans R)) rfl}
def Nv (j:Rm X)(o h:jI)(u:DE fa X a ga)(v:DE fa X b gb)(B:DE fa X d gc)(hm:lastMarks [ff o,ff h] [b,d]=false) :
 DE fa X (.Compare a [ff o,ff h] [b,d] pos) (λZ M=>(ga Z M).bind λx M=>(gb Z M).bind λy M=>(cf M (bE o x y M)).bind λk M=>
  if k then(gc Z M).bind λz M=>(cf M (bE h y z M)).bind λb M=>.ok (.bl b) M else .ok (.bl false) M):=bG (Cy (n5 j o) (n5 j h) u v B hm) E5
def CC {x:D}(h:((cf M r).bind λb M=>Res.ok (.bl b) M)=.ok x M'):∃k,x=.bl k:=by
 cases r with
 |none=>cases h
 |some b=>cases h;exact⟨b,rfl⟩
def fg {j u:Type}{r:Res j}{f:j->Mem->Res u}{x:u}(h:r.bind f=.ok x M):∃a M1,r=.ok a M1/\f a M1=.ok x M:=by
 cases r with
 |ok a M1=>exact⟨a,M1,rfl,h⟩
 |err=>cases h
 |bad=>cases h
def Lg (v:Rm X)(o j:jI){u:Env->Mem->Res D}(B:DE fa X a ga)(E:DE fa X b gb)(F:DE fa X d u)(hm:lastMarks [ff o,ff j] [b,d]=false) :
 DT fa X (.Compare a [ff o,ff j] [b,d] pos) (λZ M=>((ga Z M).bind λx M=>(gb Z M).bind λy M=>(cf M (bE o x y M)).bind λk M=>
  if k then(u Z M).bind λz M=>(cf M (bE j y z M)).bind λb M=>.ok (.bl b) M else .ok (.bl false) M).bind λx M=>cf M (jZ M x)):=
 km (Cs (n5 v o) (n5 v j) B E F hm) λI H Q h=>E5 I H _ (FX (λZ M x J e=>by
  obtain⟨S,L,_,e⟩:=fg e;obtain⟨U,O,_,e⟩:=fg e;obtain⟨k,P,_,e⟩:=fg e;cases k with
  |false=>cases e;exact{_,rfl}
  | true =>
    obtain⟨W,R,_,e⟩:=fg e;exact CC e) h)
def Nl (B:DE fa X a ga):DE fa X (.UnaryOp .USub a pos) (λZ M=>(ga Z M).bind λx M=>match x with|.int i=>.ok (.int (-i)) M|_=>.bad):=
 bG (Mx IA B) λO H Q ⟨L,Z,M,u,z,h⟩=>t1 u z h λx J v I F E y j r1 h1=>by
  cases x with
  |int i=>exact{i,r1,aR j (a8.ext h1 E) rfl}
  |_=>exact h1.elim
def Ny {rest:List Expr}(I:DE fa X a ga)(J:DE fa X (.BoolOp .And (b::rest) pos) gb):DE fa X (.BoolOp .And (a::b::rest) pos) (λZ M=>(ga Z M).bind λx M=>match x with
 |.bl true=>gb Z M
 |.bl false=>.ok (.bl false) M
 |_=>.bad):=
 bG (JS I J) λP H Q ⟨O,Z,M,E,F,h⟩=>t1 E F h λx B v L y z u j r1 h1=>by
  cases x with
  | bl k =>
    refine{k,r1,?_};cases k with
    |true=>exact{y,Z,B,u,j,kr h1 z}
    |false=>exact aR j (a8.ext h1 z) rfl
  |_=>exact h1.elim
def Po {rest:List Expr}(I:DE fa X a ga)(J:DE fa X (.BoolOp .Or (b::rest) pos) gb):DE fa X (.BoolOp .Or (a::b::rest) pos) (λZ M=>(ga Z M).bind λx M=>match x with
 |.bl true=>.ok (.bl true) M
 |.bl false=>gb Z M
 |_=>.bad):=
 bG (My I J) λP H Q ⟨O,Z,M,E,F,h⟩=>t1 E F h λx B v L y z u j r1 h1=>by
  cases x with
  | bl k =>
    refine{k,r1,?_};cases k with
    |true=>exact aR j (a8.ext h1 z) rfl
    |false=>exact{y,Z,B,u,j,kr h1 z}
  |_=>exact h1.elim
def Fb (h:DE fa X a ga):DE fa X (.BoolOp op [a] pos) ga:=JN h
def Nk (B:DE fa X a ga):DE fa X (.UnaryOp .Not a pos) (λZ M=>(ga Z M).bind λx M=>match x with|.bl k=>.ok (.bl (!k)) M|_=>.bad):=
 bG (JO B) λO H Q ⟨L,Z,M,u,z,h⟩=>t1 u z h λx J v I F E y j r1 h1=>by
  cases x with
  |bl k=>exact{k,r1,aR j (a8.ext h1 E) rfl}
  |_=>exact h1.elim
variable{ta tb:Env->Mem->Res Bool}
def Hu (h:DT fa X a ta):DW fa X (.BoolOp .And [a] pos) ta:=GG h
def Lb (h:DT fa X a ta):DW fa X (.BoolOp .Or [a] pos) ta:=JC h
def N1 {Q:Bool->Hp->Prop}(x:Ext μ H μ' H')(h:ae b' λb M'=>∀u j,Ext μ H j u->RelM fa X.K j u M'->Q b u):ae b' λb M'=>∀u j,Ext μ' H' j u->RelM fa X.K j u M'->Q b u:=
 aI h λb M q u j y m=>q u j (x.trans y) m
def Lc {rest:List Expr}(I:DT fa X a ta)(J:DW fa X (.BoolOp .And (b::rest) pos) tb):DW fa X (.BoolOp .And (a::b::rest) pos) (λZ M=>(ta Z M).bind λk M=>if k then tb Z M else .ok false M):=
 zS (JD I J) λO H Q ⟨L,Z,M,E,F,h⟩=>vF E F h λk B z u y v j h1=>by
  cases k with
  |true=>exact{u,Z,B,v,j,N1 y h1}
  |false=>exact h1 z u y j
def Nc {rest:List Expr}(I:DT fa X a ta)(J:DW fa X (.BoolOp .Or (b::rest) pos) tb):DW fa X (.BoolOp .Or (a::b::rest) pos) (λZ M=>(ta Z M).bind λk M=>if k then .ok true M else tb Z M):=
 zS (Mw I J) λO H Q ⟨L,Z,M,E,F,h⟩=>vF E F h λk B z u y v j h1=>by
  cases k with
  |true=>exact h1 z u y j
  |false=>exact{u,Z,B,v,j,N1 y h1}
def Ld (E:DT fa X a ta):DT fa X (.UnaryOp .Not a pos) (λZ M=>(ta Z M).bind λk M=>.ok (!k) M):=
 km (JG E) λL H Q ⟨J,Z,M,y,B,h⟩=>vF y B h λk I v u F z j h1=>h1 v u F j
def Dh (F:DE fa X a ga)(he:∀whole,isTrue a X.env whole=(do let v <- whole;standAt a.pos;holding [v] (truthy v))):DT fa X a (λZ M=>(ga Z M).bind λx M=>cf M (jZ M x)):=
 km (Cr F he) λO H Q ⟨L,Z,M,z,E,h⟩=>t1 z E h λx J v y u I B j r1 h1=>by
  obtain⟨k,e,q⟩:=ku h1;exact{k,Oo j r1 e,q y u I j}
def Nn (J:DT fa X c gc)(F:DE fa X a ga)(I:DE fa X b gb):DE fa X (.IfExp c a b pos) (λZ M=>(gc Z M).bind λk M=>if k then ga Z M else gb Z M):=
 bG (tS J F I) λP H Q ⟨O,Z,M,B,E,h⟩=>vF B E h λk y L v z j u h1=>by
  cases k with
  |true=>exact{v,Z,y,j,u,kr h1 z}
  |false=>exact{v,Z,y,j,u,kr h1 z}
def Nq (J:DE fa X a ga)(L:DE fa X b gb)(hs:jg b):DE fa X (.Subscript a b pos) (λZ M=>(ga Z M).bind λx M=>(gb Z M).bind λy M=>cf M (bV x y M)):=
 bG (xx MR J L hs) λS H Q ⟨R,Z,M,E,I,h⟩=>t2 E I h λx y B v u P z O F j r1 r2 h2=>by
  obtain⟨d,e,q⟩:=ku h2;exact{z,B,x,y,d,j,r1,r2,e,q.ext O}
def DO (fa:Fa)(X:Cx)(e:Option Expr)(z:Bool)(g:Env->Mem->Res D):Prop:=PO X e λB H Q=>∃u v M,bw fa X.K u H B v/\RelM fa X.K u H M/\ae (g v M) λd y=>∃o,cJ z d=true/\pH d=some o/\∀j h,Ext u H h j->RelM fa X.K h j y->Q o j
def HA:DO fa X none false (λ_ M=>.ok .non M):=λh s v H Q I ⟨u,z,M,y,j,o,_,e,k⟩=>by
 cases e;exact GO h s v H Q I (k H u .refl j)
def Hz (E:DE fa X a ga):DO fa X (some a) true ga:=λj s L H Q I ⟨F,J,M,z,B,h⟩=>GN E j s L H Q I {F,J,M,z,B,aI h λd O ⟨o,p,e,k⟩ v y u x m r=>by
 cases d with
 |int i=>cases e;exact{i,r,k y u x m}
 |_=>cases p}
def part_of {d:D}(h:cJ hp d=true):∃o,pH d=some o:=by
 cases hp<;>cases d<;>first|exact{_,rfl}|cases h
set_option tactic.hygienic true in
def Nj (m hl hh:Bool){lo hi:Option Expr}(ha:DE fa X a ga)(F:DO fa X lo hl gl)(E:DO fa X hi hh gh):DE fa X (.Subscript a (.Slice lo hi none p2) pos)
 (λZ M=>(ga Z M).bind λx M=>(gl Z M).bind λl M=>(gh Z M).bind λh M=>if cJ hl l&&cJ hh h then gK m x l h M else .bad):=
 bG (Cw (Gk m) ha F E) λσ H Q ⟨μ,Z,M,hE,hM,h⟩=>t1 hE hM h λx U v H1 J x1 j y r1 h1=>by
  obtain⟨l,W,e2,h2⟩:=aG h1;obtain⟨u,Y,e3,h3⟩:=aG h2;split at h3
  ·next c=>
   rw[Qg] at c;obtain⟨ol,P⟩:=part_of c.1;obtain⟨ou,R⟩:=part_of c.2;refine{J,Z,U,j,y,?_};rw[e2];refine{ol,c.1,P,λH2 L I z=>{L,Z,W,j.ext I,z,?_}};rw[e3];exact{ou,c.2,R,λH3 O S B=>{O,Y,x,l,u,B,(r1.ext I).ext S,P,R,kr h3 ((x1.trans I).trans S)}}
  ·exact h3.elim
def Lx:DA fa X [] (λ_ M=>.ok [] M):=Ad dN λz H Q ⟨u,y,M,v,j,h⟩=>h [] H u .refl j rfl
def HL (P:DE fa X a ga)(hs:DA fa X es gs)(I:starEach (a::es) X.env=(false,eval a X.env)::starEach es X.env) :
 DA fa X (a::es) (λZ M=>(ga Z M).bind λx M=>(gs Z M).bind λxs M=>.ok (x::xs) M):=
 Ad (cm P hs I) λσ H Q ⟨μ,Z,M,J,O,h⟩=>t1 J O h λx W v U S R j u r1 h1=>tf j u h1 λxs Y B F z E L y r2 h2=>h2 (v::B) F z (R.trans E) y {v,B,rfl,r1.ext E,r2}
set_option tactic.hygienic true in
def Nh (hs:DA fa X es gs):DE fa X (.Tuple es k pos) (λZ M=>(gs Z M).bind lE):=
 bG (JL hs) λL H Q ⟨J,Z,M,u,y,h⟩=>tf u y h λxs F I E B z v j r1 h1=>by
  unfold lE at h1;split at h1
  ·next c=>exact{by rw[r1.length,<- dR];exact c,ji j r1 (a8.ext h1 z)}
  ·exact h1.elim
def Nm (m:Bool)(hs:DA fa X es gs):DE fa X (.List es pos) (λZ M=>(gs Z M).bind (bf m)):=
 bG (JQ hs) λL H Q ⟨J,Z,M,u,y,h⟩=>tf u y h λxs F I E B z v j r1 h1=>by
  obtain⟨c,k⟩:=gu j r1 (kr h1 z);exact{by rw[r1.length,<- dR];exact c,k}
end
def rW (o:Obj)(f:Array Qb->Array Qb):(o.mapFields f).dict=o.dict:=by
 obtain⟨c,d,h,sl⟩:=o;cases h<;>rfl
section
variable{P:Q5}{w:Q4}{M:Model}{A:RL}{E:Qb->Qf->Prop}{base:Heap}{env:RV}{outer:List RV}{L a C:Addr}{dx:Option Addr}{New:Addr->Prop}{H:Hp}{s:Qf}{Q:Unit->Qf->Prop}
def vD (hfr:A.frames=some (env::outer))(hl:s.heap.FunFrames base (env::outer))(hf:env.frame=some L)
 (he:s.heap.get? a=some oe) (hd:oe.data=.fields vs) (hsz:1<vs.size)
 (h:∀h' T oT ts,(∀b o,b∉g4 (env::outer)->b≠a->s.heap.get? b=some o->h'.get? b=some o)->(∀b o,b≠a->s.heap.get? b=some o->∃sl,h'.get? b=some {o with slots:=sl})->s.heap.objs.size<=T->T≠a->
  h'.get? a=some (oe.mapFields (·.setIfInBounds 1 (.ref T)))->h'.get? T=some oT->oT.data=.fields ts->ts[3]?=some .none->Q () {s with heap:=h'}) :
 wpAny M A (do let f <- frameOf env;let pl <- entryPlaceOf L had;let b <- EntryCells.newEntry head f .none (rawInt L) .none pl;setField (.ref a) 1 b) (λ_ s'=>wpAny M A (setFlight (.ref a) none) Q E s') E s:=by
 have S:a∉g4 (env::outer):=λhm=>by
  obtain⟨_,o,ho,hnf⟩:=hl.mem hm;rw[he] at ho;cases ho;exact hnf vs hd
 refine tqa (wpAny_frameOf_fun hfr hl hf λj v=>?_);refine tqa (wpAny_entryPlaceOf λpl U=>?_);refine tqa (wpAny_newObj_type ?_ (U.sizeOk5 _ _ _ _ _));have F:j.get? a=some oe:=(v.2.1 a S).trans he;generalize ho:({cls:=.type "traceback",dict:=none,data:=.fields ([head,.ref L,.none,rawInt L,.none]++(if pl.isEmpty then List.replicate 6 Value.none else pl)).toArray}:Obj)=o;have O:o.data=.fields ([head,.ref L,.none,rawInt L,.none]++(if pl.isEmpty then List.replicate 6 Value.none else pl)).toArray:=by rw[<- ho]
 have I:=Qd o F;refine wpAny_setField I hd hsz ?_;have R:=Rj (Qz F);have B:=RS hd (·.setIfInBounds 1 (Value.ref j.objs.size));have J:=Ra (Obj.mapFields (·.setIfInBounds 1 (Value.ref j.objs.size))) I (Su B);have y:=(Q0 (j.push o) (Obj.mapFields (·.setIfInBounds 1 (Value.ref j.objs.size))) (Rf R)).trans (QA j (Su O));refine tqa (tqf J B (x:=.ref j.objs.size) (by simp[hsz]) ?_)
 rw[if_pos `s]
 refine wpAny_setField y O (by simp only[Qy,QD,RB,List.length_nil]<;>omega) ?_
 have keep:∀b u,b≠a->j.get? b=some u->(((j.push o).update a (Obj.mapFields (·.setIfInBounds 1 (Value.ref j.objs.size)))).update j.objs.size (Obj.mapFields (·.setIfInBounds 3 ((none:Option Addr).elim Value.none λf=>rawInt f)))).get? b=some u:=λb u z W=>by
  have Y:=Rj (Qz W);rw[Q0 _ _ Y,Q0 _ _ (Rf z)];exact Qd _ W
 refine h _ j.objs.size _ _ (λb u W z q=>keep b u z ((v.2.1 b W).trans q)) (λb u z q=>?_) (Nat.le_of_eq v.1.symm) R ?_ (Ra _ y (Su (RS O _))) (RS O _) ?_
 ·obtain⟨sl,e⟩:=v.2.2 b u q;exact{sl,keep b _ z e}
 ·rw[Q0 _ _ R];exact J
 ·first|(simp;done)|(rcases U with rfl|⟨_,_,_,_,_,_,_,rfl⟩<;>simp)
def G1 (hfr:A.frames=some (env::outer))(hl:s.heap.FunFrames base (env::outer))(hf:env.frame=some L)(hF:oB New C dx a s.heap H)(hN:∀b,s.heap.objs.size<=b->New b)(hok:eX P w H s.heap)(I:∀b∈g4 (env::outer),H b=none)
 (h:∀h' ch,(∀b∈ch,New b/\H b=none/\∃o vs,s.heap.get? b=some o/\o.data=.fields vs)->Un (g4 (env::outer)) ch H H s.heap h'->eX P w H h'->oB New C dx a h' H->Q () {s with heap:=h'}) :
 wpAny M A (noteFrame (.ref a) env) (λ_ s1=>wpAny M A (setFlight (.ref a) none) Q E s1) E s:=by
 obtain⟨na,ha,oe,vs,S,hc,Y,hd,tr⟩:=hF;have U:∀h' ch,(∀b∈ch,New b/\H b=none/\∃o vs,s.heap.get? b=some o/\o.data=.fields vs)->(∀b o,b∉g4 (env::outer)->b∉ch->s.heap.get? b=some o->h'.get? b=some o)->(∀b o,b∉ch->s.heap.get? b=some o->∃sl,h'.get? b=some {o with slots:=sl})->oB New C dx a h' H->Q () {s with heap:=h'}:=λh' ch W keep slot fl=>by
  refine h h' ch W {λb o q _ j B=>keep b o j B q,λb o q _ _ B=>slot b o B q,λ_ _ _ n _=>n,λb o q B=>let⟨sl,e⟩:=slot b o B q;{_,e},λ_ _ e=>e,λ_ _ _ e=>e,λb ps e=>{#[],by rw[e];simp}} (λb u e=>(hok b u e).stay (λc v hc q=>?_) (λ_ q=>q) λ_ _ q=>q) fl
  have nn:H c≠none:=by rcases hc with z|z<;>(intro z';first|(rw[z,e] at z';cases z')|(rw[z] at z';cases z'))
  exact keep c v (λz=>nn (I c z)) (λz=>nn (W c z).2.1) q
 unfold noteFrame;simp only[hf];rcases tr with h1|⟨T,oT,ts,h1,hTa,nT,hT0,hT,F,h3⟩
 ·refine tqa (tqf S hd h1 ?_);rw[if_neg `d]
  refine vD hfr hl hf S hd (Sd.mp h1).1 λh' T oT ts k1 k2 O k4 k5 k6 k7 k8=>?_;refine U h' [a] (λb j=>?_) (λb o j B q=>k1 b o j (λz=>B (by simp[z])) q) (λb o B q=>k2 b o (λz=>B (by simp[z])) q) {na,ha,_,_,k5,?_,?_,RS hd _,.inr {T,oT,ts,by simp[(Sd.mp h1).1],k4,hN _ O,hok.fresh O,k6,k7,k8}}
  ·rcases Qs.mp j with rfl
   exact⟨na,ha,oe,vs,S,hd⟩
  ·rw[Obj.cls_mapFields];exact hc
  ·rw[rW];exact Y
 ·refine tqa (tqf S hd h1 ?_);rw[if_pos `s]
  refine tqa (tqf hT F h3 ?_);rw[if_neg (by simp[rawInt])]
  refine tqa (wpAny_setField hT F (Sd.mp h3).1 ?_);have y:∀b,b≠T->(s.heap.update T (Obj.mapFields (·.setIfInBounds 3 Value.none))).get? b=s.heap.get? b:=λb j=>Q0 _ _ (Rf j);have R:∀b o,s.heap.get? b=some o->(∀vs,o.data≠.fields vs)->b≠T:=λb o j J q=>by
   rw[q,hT] at j;cases j;exact J ts F
  have hz:(s.heap.update T (Obj.mapFields (·.setIfInBounds 3 Value.none))).objs.size=s.heap.objs.size:=Heap.size_after_update ..;refine vD hfr (hl.of_keeps λb o j J=>{o,(y b (R b o j J)).trans j,rfl}) hf ((y a (Rf hTa)).trans S) hd (Sd.mp h1).1 λh' T' oT' ts' k1 k2 O k4 k5 k6 k7 k8=>?_;have O:s.heap.objs.size<=T':=by rw[<- hz];exact O
  refine U h' [a,T] (λb j=>?_) (λb o j B q=>k1 b o j (λz=>B (by simp[z])) ((y b (λz=>B (by simp[z]))).trans q)) (λb o B q=>k2 b o (λz=>B (by simp[z])) ((y b (λz=>B (by simp[z]))).trans q)) {na,ha,_,_,k5,?_,?_,RS hd _,.inr {T',oT',ts',by simp[(Sd.mp h1).1],k4,hN _ O,hok.fresh O,k6,k7,k8}}
  ·rcases QZ.mp j with rfl|j
   ·exact⟨na,ha,oe,vs,S,hd⟩
   ·rcases Qs.mp j with rfl
    exact⟨nT,hT0,oT,ts,hT,F⟩
  ·rw[Obj.cls_mapFields];exact hc
  ·rw[rW];exact Y
end
def iS (P:Q5)(w:Q4):oD:=λouter H s E e s'=>∃a C dx H',e=.ref a/\s'.os=s.os/\AllBare s'.gens/\Un (g4 outer) [] H H' s.heap s'.heap/\eX P w H' s'.heap/\oB (λb=>s.heap.get? b=none) C dx a s'.heap H'/\E (.ref C) dx H'
def oB.imp (f:oB New C dx a h H)(i:∀b,New b->New' b):oB New' C dx a h H:=by
 obtain⟨u,j,o,F,h1,h2,h3,h4,B⟩:=f;refine{i _ u,j,o,F,h1,h2,h3,h4,?_};rcases B with t|⟨T,v,ts,t1,t2,y,z⟩
 ·exact .inl t
 ·exact .inr {T,v,ts,t1,t2,i _ y,z}
section
variable{P:Q5}{w:Q4}{K:Qa}{mg:Str->Option Qb}{base:Heap}{N:List Str}{qual:Str}{scope:Scope}{f:Addr}{cd:Qb}{A:RL}{outer:List RV}{s:Qf}{H:Hp}{E:XK}
def CP (I:Inv (gz (iS P w) P w K mg base N qual scope f cd A outer s H E) pins σ H' s')(W:oB (yv (gz (iS P w) P w K mg base N qual scope f cd A outer s H E)) C dx a s'.heap H')(U:E (.ref C) dx H') :
 (gz (iS P w) P w K mg base N qual scope f cd A outer s H E).xe (.ref a) s':=by
 have F:=I.stack;have J:=I.sz;have Y:∀b o,s.heap.get? b=some o->b∈g4 (envOfC qual scope s.heap.objs.size f cd::outer)->b∈g4 outer:=λb o q y=>by
  rcases QZ.mp (y) with e|e
  ·exact absurd (Qz q) (by rw[e];exact Rz _)
  ·exact e
 unfold gz;refine tqa (G1 (New:=λb=>s.heap.get? b=none) I.ok.frames F rfl (W.imp λb z=>z.1) (λb z=>Heap.get?_none_of_le (Qo J z)) I.hok I.stkFree λh' R B u hok fl=>?_);have v:∀b o,s.heap.get? b=some o->b∉R:=λb o q z=>by have:=(B b z).1;rw[q] at this;cases this
 have h:=I.base;refine{a,C,dx,H',rfl,I.os,I.bare,{λb o q n y j=>?_,λb o q n y j=>?_,h.free,λb o q j=>?_,h.tups,h.frzs,h.tbls},hok,fl,U}
 ·exact u.keep b o (h.keep b o q n y j) (h.free b o q n j) (λz=>y (Y b o q z)) (v b o q)
 ·obtain⟨sl,e⟩:=h.slot b o q n y j;obtain⟨O,S⟩:=u.any e (h.free b o q n j) (v b o q);exact⟨O,S⟩
 ·obtain⟨o',e⟩:=h.there b o q j;exact u.there b o' e (v b o q)
end
section
variable{X:Cx}{pins:List (Addr×Obj)}{σ:L2.St}{H H':Hp}{s s':Qf}{E:XK}{e:Qb}
def rN (I:Inv X pins σ H s)(v:X.ex=[])(h:iS X.prog X.w X.stack H s E e s'):∃a C dx H',e=.ref a/\Inv X pins σ H' s'/\oB (yv X) C dx a s'.heap H'/\E (.ref C) dx H':=by
 obtain⟨a,C,dx,H',rfl,os,bare,un,hok,fl,q⟩:=h;refine{a,C,dx,H',rfl,I.call' os un hok bare (λb z=>absurd z `s),fl.imp λb z=>{?_,λp u e=>?_},q}
 ·cases e:X.s₀.heap.get? b with
  |none=>rfl
  | some o =>
    obtain⟨y,j⟩:=I.base.there b o e (by rw[v];simp)
    rw[z] at j;cases j
 ·have:=(I.pin p (Rh _ u)).1;rw[e,z] at this;cases this
end
def fW {h:Type}(r:Res h)(k:h->Mem->Prop)(j:D->Mem->Prop):Prop:=match r with
 |.ok a M=>k a M
 |.err x M=>j x M
 |.bad=>False
def J2 {j:Type}{r:Res j}{k:j->Mem->Prop}{u:D->Mem->Prop}(h:ae r k):fW r k u:=by
 cases r with
 |ok a M=>exact h
 |err=>exact h.elim
 |bad=>exact h
def Fo (fa:Fa)(K:Qa)(μ:Mu)(H:Hp)(E:XK)(x:D)(M':Mem):Prop:=∀C dx c p H' h,Ext μ H h H'->RelM fa K h H' M'->x=.exc c p->fa (gg c)=some C->vc H' c dx p->E (.ref C) dx H'
def Em:Passes (iS P w) X E0:=λ_ _ _ _ _ _ _ h=>let{_,_,_,_,_,_,_,_,_,_,z}:=h;z.elim
def Ef (fa:Fa)(K:Qa)(k:Nat)(call:List D->Mem->Res D):Sp:=λu H Q E=>u.length=k/\∃h M j,RelM fa K h H M/\aL fa K h H j u/\fW (call j M) (a8 fa K h H Q) (Fo fa K h H E)
def hI (fa:Fa)(P:Q5)(w:Q4)(K:Qa)(mg:Str->Option Qb)(base:Heap)(n:Nat)(f:Nat)(call:List D->Mem->Res D):Prop:=
 (∀h M,call h M=.bad)\/∃(ad:Addr) (j:FuncData) (ps:List Str),fa f=some ad/\PySem.W.keepIn K (.ref ad)=true/\Binds K j ps []/\(∀h M,h.length≠ps.length->call h M=.bad)/\md P w K mg base (iS P w) (2*n+4) ad j ps (Ef fa K ps.length call)/\((fa (500+f)).isSome=true->Binds K j ps [.none])
section
variable{fa:Fa}{X:Cx}{a b d:Expr}{ga gb gd:Env->Mem->Res D}{pos p:Pos}{es:List Expr}{gs:Env->Mem->Res (List D)}{n:Nat}
def Bn {call:List D->Mem->Res D}{r:Res (List D)}(j:∀ds M,call ds M=.bad)(h:ae (r.bind λds M=>call ds M) P):False:=by
 obtain⟨ds,M,_,q⟩:=aG h;rw[j] at q;exact q
def r6 {call:List D->Mem->Res D}(v:bw fa X.K μ H σ Z)(z:RelM fa X.K μ H M)(h:ae ((gs Z M).bind λds M=>call ds M) (a8 fa X.K μ H Q))
 (B:∀ds M1,ds.length≠k->call ds M1=.bad):Ed (Ef fa X.K k call) [] E0 (tA fa X.K gs) σ H Q:=by
 refine tf v z h λds M1 I F u E y j r1 h1=>?_;rw[Q7];refine{?_,u,M1,ds,j,r1,J2 (kr h1 E)};rw[r1.length];by_cases hl:ds.length=k
 ·exact hl
 ·rw[B ds M1 hl] at h1;exact h1.elim
def LG {call:List D->Mem->Res D}(C:hI fa X.prog X.w X.K X.mg X.base n f call)(hr:dr (2*n+4) X.A)(E:Gl X x)(hm:∀ad,fa f=some ad->X.mg x=some (.ref ad))(hs:DA fa X (a::es) gs)
 (j:(x==("__debug__":Str))=false) (he:starEach (a::es) X.env=(false,eval a X.env)::starEach es X.env) (u:(backTo pos (starEach es X.env)).any (·.1)=false) :
 DE fa X (.Call (.Name x p) (a::es) [] pos) (λZ M=>(gs Z M).bind λds M=>call ds M):=by
 rcases C with B|⟨ad,O,ps,h1,h2,h3,h4,F,_⟩
 ·exact λz s L H Q I ⟨J,Z,M,v,y,h⟩=>(Bn B h).elim
 ·exact bG (GQ F hr E (hm ad h1) h2 h3 .nil Em hs j he u) λL H Q ⟨J,Z,M,v,y,h⟩=>r6 v y h h4
def HP {i:Nat}{x:Str}{call:Nat->List D->Mem->Res D}(C:∀f,hI fa X.prog X.w X.K X.mg X.base n f (call f))(hr:dr (2*n+4) X.A)(hN:X.N[i]?=some x)(hv:Bs X.env.scope x)(hs:DA fa X (a::es) gs)
 (hd:(x==("__debug__":Str))=false) (z:(x==("__classdict__":Str))=false) (he:starEach (a::es) X.env=(false,eval a X.env)::starEach es X.env) (B:(backTo pos (starEach es X.env)).any (·.1)=false) :
 DE fa X (.Call (.Name x p) (a::es) [] pos) (λZ M=>match Z[i]?.getD none with|some (.fn f)=>(gs Z M).bind λds M=>call f ds M|_=>.bad):=by
 intro y s R H Q I ⟨μ,Z,M,P,hM,h⟩;dsimp only at h;cases e:Z[i]?.getD none with
 |none=>rw[e] at h;exact h.elim
 | some df =>
   cases df with
   | fn f =>
     rw[e] at h;have e':Z[i]?=some (some (.fn f)):=by
      cases q:Z[i]? with
      |none=>rw[q] at e;cases e
      |some o=>rw[q] at e;simp at e;rw[e]
     obtain⟨v,E,J⟩:=P.at' i _ e';obtain⟨ad,rfl,j⟩:=J;rcases C f with hb|⟨Y,fd,ps,h1,h2,h3,h4,F,_⟩
     ·exact(Bn hb h).elim
     ·rcases j with j|⟨j,_⟩<;>rw[j] at h1<;>cases h1
      refine wpAny_Call_Name_kw (aW (Ac hN hv hd z y s R H (λv S=>v=.ref ad/\S=H) I {_,E,rfl,rfl}) λu s1 ⟨v,U,L,r1,e1,e2⟩=>?_);subst e1 e2;obtain rfl:u=Value.ref ad:=r1;refine PySem.W.callWith_K L.ok.mod.kin h2 (aW (hs pos y s1 R U _ L (r6 P hM h h4)) λus s2 ⟨vs,H2,O,r,q⟩=>{O.kIn,?_}) he B;exact zP F hr h3 .nil Em O r q
   |_=>rw[e] at h;exact h.elim
def Fd (f:xa){id:String}(I:cy X (.builtin id) (qw fa X.K f))(J:Gl X x)(hm:X.mg x=none)(L:bootBuiltins x=some (.builtin id))(hs:DA fa X (a::es) gs)(hn:x≠"__name__")(u:(x==("__debug__":Str))=false)
 (he:starEach (a::es) X.env=(false,eval a X.env)::starEach es X.env) (v:(backTo pos (starEach es X.env)).any (·.1)=false):DE fa X (.Call (.Name x p) (a::es) [] pos) (λZ M=>(gs Z M).bind λds M=>gA f ds M):=
 bG (jq I J hm L hs hn u he v) λU H Q ⟨S,Z,M,B,F,h⟩=>tf B F h λds z R P y O E j r1 h1=>{y,z,ds,j,r1,kr h1 O}
def A6 (f:xa)(I:cy X (.type T) (qw fa X.K f))(J:Gl X x)(hm:X.mg x=none)(L:bootBuiltins x=some (.type T))(hs:DA fa X (a::es) gs)(hn:x≠"__name__")(u:(x==("__debug__":Str))=false)
 (he:starEach (a::es) X.env=(false,eval a X.env)::starEach es X.env) (v:(backTo pos (starEach es X.env)).any (·.1)=false):DE fa X (.Call (.Name x p) (a::es) [] pos) (λZ M=>(gs Z M).bind λds M=>gA f ds M):=
 bG (mB I J hm L hs hn u he v) λU H Q ⟨S,Z,M,B,F,h⟩=>tf B F h λds z R P y O E j r1 h1=>{y,z,ds,j,r1,kr h1 O}
def Ly (t:Ty)(R:∀c,t≠.own c)(O:DE fa X a ga)(P:Gl X "isinstance")(hm:X.mg "isinstance"=none)(S:bootBuiltins "isinstance"=some (.builtin "isinstance"))(y:Gl X x)(z:X.mg x=none)(B:bootBuiltins x=some (.type (tyName t)))
 (hn:x≠"__name__") (u:(x==("__debug__":Str))=false)
 (he:starEach [a,.Name x p1] X.env=(false,eval a X.env)::starEach [.Name x p1] X.env):DE fa X (.Call (.Name "isinstance" p2) [a,.Name x p1] [] pos) (λZ M=>(ga Z M).bind λx M=>(cf M (gW t x)).bind λb M=>.ok (.bl b) M):=
 bG (jq (KU t R) P hm S (cm O (cm (GR y z B (v:=.ty (tyName t)) rfl hn u) dN `r) he) `d `d he `r) λσ H Q ⟨Y,Z,M,I,L,h⟩=>t1 I L h λx F v W E U J j r1 h1=>by
  obtain⟨b,e,q⟩:=pL h1;exact{E,F,x,v,b,rfl,j,r1,e,aR j (q.ext U) rfl}
def gT (fa:Fa)(K:Qa)(t:fX):TG:=λv z H Q=>∃u y M d h,bw fa K u H z y/\RelM fa K u H M/\Rep fa K u H d v/\bT t d y=some h/\∀j,bw fa K u H j h->Q j H
def tR (h:PG X tg g)(i:∀v y H Q,g' v y H Q->g v y H Q):PG X tg g':=λj s y H v u Q I r q=>h j s y H v u Q I r (i v y H Q q)
def vP (h:vg X tg g)(i:∀v y H Q,g' v y H Q->g v y H Q):vg X tg g':=λj s y H v u Q I r q=>h j s y H v u Q I r (i v y H Q q)
def HJ (u:X.N.Nodup)(hi:X.N[i]?=some x)(z:Loc X.env.scope x)(y:X.fn x=true\/X.env.scope.names.lookup x=some .local):PG X (.Name x pos) (gT fa X.K (.one i)):=
 tR (qB u hi z y) λv J H Q ⟨F,I,M,d,B,j,E,r,e,k⟩=>by
  have h:=Qr e;subst h;exact k _ (j.set r)
def KO (fa:Fa)(K:Qa)(l:List Nat):sm:=λz B H Q=>∃u y M v h,bw fa K u H B y/\RelM fa K u H M/\aL fa K u H v z/\cX l v y=some h/\∀j,bw fa K u H j h->Q j H
inductive i6 (X:Cx):List Nat->List Expr->Prop
 |nil:i6 X [] []
 |cons {i:Nat}{x:Str}{p:Pos}{l:List Nat}{ns:List Expr} (hi:X.N[i]?=some x) (hx:Loc X.env.scope x) (hf:X.fn x=true\/X.env.scope.names.lookup x=some .local) (r:i6 X l ns):i6 X (i::l) (.Name x p::ns)
set_option tactic.hygienic true in
def i6.each (h:i6 X l ns):(assignEach ns X.env).length=l.length/\(assignEach ns X.env).findIdx? (·.1)=none:=by
 induction h with
 |nil=>exact⟨rfl,rfl⟩
 | cons v y u r j =>
   rename_i i x p l ns;have e:assignEach (.Name x p::ns) X.env=(false,assign (.Name x p) X.env)::assignEach ns X.env:=rfl;rw[e];refine{by simp[j.1],?_}
   rw[List.findIdx?_cons];simp[j.2]
def uH (I:X.N.Nodup)(h:i6 X l ns):vg X ns (KO fa X.K l):=by
 induction h with
 | nil =>
   refine vP vO λB S H Q ⟨E,R,M,j,u,y,z,r,e,k⟩=>?_;cases j with
   | nil =>
     obtain rfl:B=[]:=r;have F:=Qr e;subst F;exact{rfl,k _ y}
   |cons=>cases e
 | cons L O J r P =>
   refine vP (oM (qB I L O J) P `r) λB S H Q ⟨E,R,M,j,u,y,z,r,e,k⟩=>?_
   cases j with
   |nil=>cases e
   | cons d j =>
     obtain⟨v,vr,rfl,r1,r2⟩:=r;exact{v,vr,rfl,E,_,M,j,u,y.set r1,z,r2,e,k}
def iK:∀{l:List Nat}{ds:List D}{Z j:Env},cX l ds Z=some j->ds.length=l.length
 |[],[],_,_,_=>rfl
 |_::_,[],_,_,h=>by cases h
 |[],_::_,_,_,h=>by cases h
 | _ :: l, _ :: ds, _, _, h => by
   have:=iK (ds:=ds) h;simp[this]
def Lv (E:X.calm=true)(B:X.N.Nodup)(h:i6 X l ns):PG X (.Tuple ns k pos) (gT fa X.K (.tup l)):=
 tR (tQ E (uH B h) h.each.1 h.each.2) λv O H Q ⟨J,L,M,d,j,y,z,r,e,k⟩=>by
  cases d with
  | tup u =>
    obtain⟨a,I,rfl,F,r⟩:=r;exact{a,I,rfl,F,by rw[r.length];exact iK e,J,L,M,u,j,y,z,r,e,k}
  |_=>cases e
set_option tactic.hygienic true in
def uZ {d:D}(h:bT (.two j l) d Z=some ρ1):∃e ds,d=.tup [e,.tup ds]/\cX l ds (Z.set j (some e))=some ρ1:=by
 unfold bT at h;split at h
 ·next e=>cases e
 ·next e=>cases e
 ·next e=>cases e;exact{_,_,rfl,h}
 ·cases h
 ·cases h
def Lu (E:X.calm=true)(B:X.N.Nodup){ns:List Expr}(hi:X.N[i]?=some x)(S:Loc X.env.scope x)(P:X.fn x=true\/X.env.scope.names.lookup x=some .local)(h:i6 X l ns):PG X (.Tuple [.Name x px,.Tuple ns k2 p2] k pos) (gT fa X.K (.two i l)):=
 tR (tQ E (oM (qB B hi S P) (oM (tQ E (uH B h) h.each.1 h.each.2) vO))) λv σ H Q ⟨μ,Z,M,d,y,L,O,r,e,k⟩=>by
  obtain⟨I,J,rfl,e⟩:=uZ e;obtain⟨a,vs,rfl,R,U,W,rfl,r0,v1,u,rfl,r1,r2⟩:=r;obtain rfl:u=[]:=r2;obtain⟨b,Y,rfl,j,F⟩:=r1;exact{a,_,rfl,R,rfl,U,_,rfl,.ref b,[],rfl,b,Y,rfl,j,by rw[F.length];exact iK e,μ,Z.set i (some I),M,J,y,L.set r0,O,F,e,λz h1=>{rfl,k z h1}}
end
section
variable{fa:Fa}{X:Cx}{a b d:Expr}{ga gb gd:Env->Mem->Res D}{pos p:Pos}{es:List Expr}{gs:Env->Mem->Res (List D)}{n:Nat}
def Lk (P:DE fa X a ga)(Q:PG X tg (gT fa X.K t))(hs:swapsWithSole [tg] a pos.line X.env=pure false)(R:swappedStores [tg] a X.env=pure none)(h1:(assignEach [tg] X.env).map (·.2)=[assign tg X.env]) :
 DS fa X (.Assign [tg] a pos) (λZ M=>(ga Z M).bind λx M=>(cf M (bT t x Z)).bind λj M=>.ok (.next j) M):=
 dM (pF P Q hs R h1) λD σ H ⟨Y,Z,M,L,O,h⟩=>t1 L O h λx J v I y S B u r1 h1=>by
  obtain⟨j,W,e,q⟩:=aG h1;cases z:bT t x Z with
  |none=>rw[z] at e;cases e
  | some U =>
    rw[z] at e;cases e;exact{y,Z,J,x,j,B,u,r1,z,λF E=>q F I y S E u}
def mq {z:Ends}{ad:Addr}(B:bw fa X.K μ H σ Z)(v:RelM fa X.K μ H M)(y:μ.pub k=some ad)(r:aL fa X.K μ H ds ws)
 (q:∀j u h,Ext μ H h u->bw fa X.K h u j Z->RelM fa X.K h u (M.set k ds)->z.nx j u):z.nx σ (upd H ad (.lst ws)):=
 q σ _ μ (Ext.write (vs:=ws) v y) (B.ext (Ext.write (vs:=ws) v y)) (v.write y r)
def Li (ha:DE fa X a ga)(hb:DE fa X b gb)(hd:DE fa X d gd){p2:Pos}
 (h0:∀v,assign (.Subscript a b p2) X.env v=(do
  let B <- holding [v] (eval a X.env)
  let L <- holding [v,B] (eval b X.env)
  standAt p2
  holding [v,B,L] (setItem B L v)
  release [v,B,L] [])) (hs:swapsWithSole [.Subscript a b p2] d pos.line X.env=pure false) (hw:swappedStores [.Subscript a b p2] d X.env=pure none) (h1:(assignEach [.Subscript a b p2] X.env).map (·.2)=[assign (.Subscript a b p2) X.env]) :
 DS fa X (.Assign [.Subscript a b p2] d pos) (λZ M=>(gd Z M).bind λz M=>(ga Z M).bind λx M=>(gb Z M).bind λy M=>match x,y with
  | .cell k, .int n => match M[k]? with
    | some ds => match cv ds.length n with
      |some j=>.ok (.next Z) (M.set k (ds.set j z))
      |none=>.bad
    |none=>.bad
  |_,_=>.bad):=
 dM (pF hd (Ab ha hb set_list h0) hs hw h1) λW σ H ⟨μ,Z,M,hE,hM,h⟩=>t1 hE hM h λz M1 v H1 μ1 x1 F J r1 h1=>t2 F J h1 λx y M2 vx vy H2 μ2 U I u rx ry h2=>by
  have O:∀k n,x=.cell k->y=.int n->Ek vx vy v H2 λH3=>W.nx σ H3:=λk n e1 e2=>by
   subst e1 e2;dsimp only at h2;cases e:M2[k]? with
   |none=>rw[e] at h2;exact h2.elim
   | some ds =>
     rw[e] at h2;dsimp only at h2;cases E:LD.cv ds.length n with
     |none=>rw[E] at h2;exact h2.elim
     | some j =>
       rw[E] at h2;obtain⟨ad,rfl,S⟩:=rx;obtain⟨ws,h4,R⟩:=u.at_ e S;have q:=h2;refine{ad,ws,n,j,rfl,ry,h4,by rw[R.length];exact E,mq I u S (R.set j (r1.ext U)) λQ Y P x' e' m'=>q Q Y P ((x1.trans U).trans x') e' m'}
  cases x with
  | cell k => cases y with
    |int n=>exact O k n rfl rfl
    |_=>exact h2.elim
  |_=>exact h2.elim
set_option tactic.hygienic true in
def Ll (ha:DE fa X a ga)(hd:DE fa X d gd){j u:Pos}(v:attributeBase a "append" X.env (eval a X.env)=eval a X.env)(y:(j.endLine==u.line)=true)(hs:starEach [d] X.env=[(false,eval d X.env)])
 (P:swapsWith (.Call (.Attribute a "append" j) [d] [] u) none pos.line X.env=pure false) :
 DS fa X (.Expr (.Call (.Attribute a "append" j) [d] [] u) pos) (λZ M=>(ga Z M).bind λx M=>(gd Z M).bind λz M=>match x with
  | .cell k => match M[k]? with
    |some ds=>if ds.length<sz then .ok (.next Z) (M.set k (ds++[z])) else .bad
    |none=>.bad
  |_=>.bad):=
 dM (nE (xy PySem.F.plainAttrs_list PySem.F.slot_list_append PySem.F.type_list_append mD ha (cm hd dN hs) v (by rw[hs];rfl) y hs `r) P) λD' σ H ⟨μ,Z,M,J,hM,h⟩=>by
  obtain⟨x,M1,e1,h1⟩:=aG h;obtain⟨z,M2,e2,h2⟩:=aG h1;cases x with
  | cell k =>
    dsimp only at h2;cases e:M2[k]? with
    |none=>rw[e] at h2;exact h2.elim
    | some ds =>
      rw[e] at h2;dsimp only at h2;split at h2
      ·next hz=>
       have q:=h2;refine{μ,Z,M,J,hM,?_};rw[e1];intro vx H1 U R B rx;obtain⟨ad,rfl,O⟩:=rx;obtain⟨ds1,Q,_,L,_⟩:=B.mu_lt O;refine{.inl {rfl,Q,dB.of L},U,Z,M1,J.ext R,B,?_};rw[e2];intro vz H2 μ2 I E rz;obtain⟨ws,h4,Y⟩:=E.at_ e (I.mu k ad O);refine{ad,ws,vz,rfl,rfl,h4,by rw[Y.length,<- dR];exact hz,?_}
       exact mq ((J.ext R).ext I) E (I.mu k ad O) (Y.append (.one rz)) λW H' S x' e' m'=>q W H' S ((R.trans I).trans x') e' m'
      ·exact h2.elim
  |_=>exact h2.elim
def Nd (F:DE fa X a ga)(hs:swapsWith a none pos.line X.env=pure false):DS fa X (.Expr a pos) (λZ M=>(ga Z M).bind λ_ M=>.ok (.next Z) M):=
 dM (nE F hs) λL J H ⟨P,Z,M,B,E,h⟩=>t1 B E h λx O v z y I j u r1 h1=>h1 J z y I j u
def Lh (v:DE fa X a ga):DS fa X (.Return (some a) pos) (λZ M=>(ga Z M).bind λx M=>.ok (.ret x) M):=
 dM (zV v) λz E H ⟨y,Z,M,j,u,h⟩=>by
  obtain⟨x,B,e,q⟩:=aG h;refine{y,Z,M,j,u,?_};rw[e];exact q
def Hv:DS fa X (.Return none pos) (λ_ M=>.ok (.ret .non) M):=dM GJ λu B H ⟨y,z,M,v,j,h⟩=>aR j h rfl
def Hw:DS fa X (.Pass pos) (λZ M=>.ok (.next Z) M):=dM GK λz y H ⟨v,Z,M,j,u,h⟩=>h y H v .refl j u
set_option tactic.hygienic true in
def ni.ext (x:Ext μ H μ' H')(q:ni fa X μ H D' fl M):ni fa X μ' H' D' fl M:=by
 cases fl with
 |next u=>exact λv j h y e m=>q v j h (x.trans y) e m
 |ret d=>exact a8.ext q x
 |exc z u=>exact XW.ext q x
def Af (x:Ext μ H μ' H')(h:ae r (ni fa X μ H D')):ae r (ni fa X μ' H' D'):=aI h λfl M q=>q.ext x
def Lj {st z:List Stmt}(I:DT fa X c gc)(L:nk fa X st gt)(J:nk fa X z gf):DS fa X (.If c st z pos) (λZ M=>(gc Z M).bind λk M=>if k then gt Z M else gf Z M):=
 dM (El I L J) λO R H ⟨Q,Z,M,E,F,h⟩=>vF E F h λk y P v B j u h1=>by
  cases k with
  |true=>exact{v,Z,y,j,u,Af B h1}
  |false=>exact{v,Z,y,j,u,Af B h1}
def wC:nk fa X [] (λZ M=>.ok (.next Z) M):=vN qz λz y H ⟨v,Z,M,j,u,h⟩=>h y H v .refl j u
set_option tactic.hygienic true in
def Di {st:Stmt}(h1:DS fa X st g)(h2:nk fa X ss g'):nk fa X (st::ss) (λZ M=>(g Z M).bind λfl M=>match fl with
 |.next Z=>g' Z M
 |fl=>.ok fl M):=
 vN (lu h1 h2) λL P H ⟨I,Z,M,B,E,h⟩=>by
  obtain⟨fl,z,e,q⟩:=aG h;refine{I,Z,M,B,E,?_};rw[e];cases fl with
  |next j=>exact λJ O y F u v=>{y,j,z,u,v,Af F q}
  |ret d=>exact q
  |exc x j=>exact q
end
def dD (fa:Fa)(K:Qa)(μ0:Mu)(H0:Hp)(w:Walk)(J:It):Prop:=
 ∀(h:Mu) (H:Hp) (M:Mem) (u:List D),ExtW μ0 H0 h H->RelM fa K h H M->w M=some u->(∀(i:Nat) (d:D),u[i]?=some d->J.go i H/\∀x j,J.yld i H x j->Ext h H h j/\RelM fa K h j M/\Rep fa K h j d x)/\∀i,u.length<=i->J.stop i H
def tI (fa:Fa)(K:Qa)(g:Env->Mem->Res Walk):TI:=λz H R=>∃u v M,bw fa K u H z v/\RelM fa K u H M/\ae (g v M) λw y=>∀J j h,Ext u H h j->RelM fa K h j y->dD fa K h j w J->R J j
abbrev DI (fa:Fa)(X:Cx)(tg h:Expr)(g:Env->Mem->Res Walk):Prop:=PI X tg h (tI fa X.K g)
def rh {K:Qa}(h:dD fa K μ0 H0 w J)(x:ExtW μ0 H0 μ1 H1):dD fa K μ1 H1 w J:=λv H M j y u e=>h v H M j (x.trans y) u e
section
variable{fa:Fa}{X:Cx}{tg a b d:Expr}{ga gb gd:Env->Mem->Res D}{pos p:Pos}{es:List Expr}{n:Nat}
def yM {ad:Addr}(h:Rep fa X.K μ0 H0 dd (.ref ad)):dD fa X.K μ0 H0 (λM=>fj M dd) (L6 X.K ad):=λP H M O x u e=>by
 obtain⟨B,j,E,s,r⟩:=bL u (Rep.extW x h) e;cases E;refine{λi d hd=>?_,λi F=>{j,s,by rw[r.length];exact F}}
 obtain⟨v,z,J⟩:=r.get hd;refine{⟨j,v,s,z⟩,λy L ⟨e,I⟩=>?_};subst e;have:=I j s;rw[z] at this;cases this;exact{.refl,u,J}
def BD {ad:Addr}(h:Rep fa X.K μ0 H0 (.tup ds) (.ref ad)):dD fa X.K μ0 H0 (λ_=>some ds) (L5 X.K ad):=λP H M B x F E=>by
 cases E;obtain⟨z,j,e,s,r⟩:=Rep.extW x h;cases e;refine{λi d hd=>?_,λi I=>{j,s,by rw[r.length];exact I}}
 obtain⟨v,u,L⟩:=r.get hd;refine{⟨j,v,s,u⟩,λy O ⟨e,J⟩=>?_};subst e;have:=J j s;rw[u] at this;cases this;exact{.refl,F,L}
def BE (lo:Int)(n:Nat):dD fa X.K μ0 H0 (λ_=>some ((List.range n).map λ(k:Nat)=>D.int (lo+(k:Int)))) (Fu lo n):=λz H M v x j e=>by
 cases e;refine{λi d hd=>?_,λi h=>(show n<=i by simpa using h)}
 rw[Qv] at hd;by_cases h:i<n
 ·rw[List.getElem?_range h] at hd;have e:=Qr hd;subst e;refine{h,λy u ⟨e1,e2⟩=>?_};subst e1 e2;exact{.refl,j,rfl}
 ·rw[List.getElem?_eq_none (by simpa using h)] at hd;cases hd
def bK (ga:Env->Mem->Res D):Env->Mem->Res Walk:=λj M=>(ga j M).bind λx M=>match x with
 |.lst h=>.ok (λ_=>some h) M
 |.tup h=>.ok (λ_=>some h) M
 |.frz h=>.ok (λ_=>some h) M
 |.cell k=>.ok (λM=>M[k]?) M
 |_=>.bad
def Lr (Y:DE fa X a ga):DI fa X tg a (bK ga):=λu s S H R I ⟨Q,Z,M,U,W,h⟩=>by
 obtain⟨x,L,e,q⟩:=aG h;have lst:(∀j B,RelM fa X.K j B L->∀v,Rep fa X.K j B x v->∃y,fj L x=some y)->(∀J B j,Ext Q H j B->RelM fa X.K j B L->dD fa X.K j B (λM=>fj M x) J->R J B)->
  wpAny (model X.prog X.w) X.A (eval a X.env) (λv s1=>wpAny (model X.prog X.w) X.A (pyIter v) (LZ X u S tg R) X.xe s1) X.xe s:=λhx q=>by
  refine GP Y u s S H R I {Q,Z,M,U,W,?_};rw[e];intro v F z P E r1;obtain⟨y,er⟩:=hx z F E v r1;obtain⟨ad,O,rfl,s1,r⟩:=bL E r1 er;exact{ad,rfl,⟨O,s1⟩,q _ F z P E (yM r1)}
 cases x with
 |lst y=>exact lst (λ_ _ _ _ _=>⟨y,rfl⟩) q
 |frz y=>exact lst (λ_ _ _ _ _=>⟨y,rfl⟩) q
 | tup y =>
   refine JK Y u s S H R I {Q,Z,M,U,W,?_};rw[e];intro v F z P E r1;obtain⟨ad,O,rfl,s1,r⟩:=id r1;exact{ad,rfl,⟨O,s1⟩,q _ F z P E (BD r1)}
 |cell k=>exact lst (λj B m' v ⟨ad,_,hk⟩=>let{y,_,e,_}:=m'.mu_lt hk;⟨y,e⟩) q
 |_=>exact q.elim
def dU (ga:Env->Mem->Res D):Env->Mem->Res Walk:=λh M=>(ga h M).bind λx M=>match x with
 |.int n=>if -(2^62)<=n/\n<2^62 then .ok (λ_=>some ((List.range n.toNat).map λ(k:Nat)=>D.int (k:Int))) M else .bad
 |_=>.bad
set_option tactic.hygienic true in
def HG (J:DE fa X a ga)(L:Gl X "range")(hm:X.mg "range"=none)(hs:starEach [a] X.env=[(false,eval a X.env)]):DI fa X tg (.Call (.Name "range" p) [a] [] pos) (dU ga):=λj s P H R I ⟨S,U,M,B,F,h⟩=>by
 refine Aa L hm (cm J dN hs) hs j s P H R I ?_;refine t1 B F h λx Q v z u O E y r1 h1=>?_;cases x with
 | int n =>
   dsimp only at h1;split at h1
   ·next c=>
    obtain rfl:v=.int n:=r1;refine{n,rfl,c.1,c.2,h1 _ z u O y ?_};have:=BE (fa:=fa) (X:=X) (μ0:=u) (H0:=z) 0 n.toNat;simpa using this
   ·exact h1.elim
 |_=>exact h1.elim
def iq (t:fX)(gb:Env->Mem->Res Fl):Fl->D->Mem->Res Fl:=λfl d M=>match fl with
 |.next j=>(cf M (bT t d j)).bind λh M=>gb h M
 |fl=>.ok fl M
noncomputable def Fl.out:Fl->Bool
 |.next _=>false
 |_=>true
set_option tactic.hygienic true in
def lJ {gb:Env->Mem->Res Fl}(ho:fl.out=true):∀(n i:Nat) (M:Mem),ae (gj (iq t gb) w n i fl M) P->P fl M
 |0,_,_,h=>h.elim
 | n + 1, i, M, h => by
   unfold gj at h;cases e:w M with
   |none=>rw[e] at h;exact h.elim
   | some j =>
     rw[e] at h;dsimp only at h;cases e2:j[i]? with
     |none=>rw[e2] at h;exact h
     | some v =>
       rw[e2] at h;cases fl with
       |next u=>cases ho
       |ret d=>exact lJ ho n (i+1) M h
       |exc x u=>exact lJ ho n (i+1) M h
def tL (fa:Fa)(X:Cx)(g:Env->Mem->Res Fl):TS:=λD h H=>(∀h H,D.nx h H->D.ct h H)/\tF fa X g D h H
abbrev vk (fa:Fa)(X:Cx)(st:List Stmt)(g:Env->Mem->Res Fl):Prop:=kM X st (tL fa X g)
def E8 {body:List Stmt}{gb:Env->Mem->Res Fl}(h:nk fa X body gb):vk fa X body gb:=λj s u H D I q=>h j s u H D I q.2
set_option tactic.hygienic true in
def A2 {gw:Env->Mem->Res Walk}{gb:Env->Mem->Res Fl}(hp:PassesOwn (model X.prog X.w) X.A X.env X.xe)(hc:X.calm=true)(hi:DI fa X tg a gw)(hg:PG X tg (gT fa X.K t))(hb:vk fa X body gb)
 (hs:∀x,foldedSetIterable a X.env x=pure x):DS fa X (.For tg a body [] pos) (λZ M=>(gw Z M).bind λw M=>cW (iq t gb) w (.next Z) M):=
 dM (JH hp hc hi hg hb hs) λD' σ H ⟨μ,Z,M,hE,hM,h⟩=>by
  obtain⟨w,M1,e,q⟩:=aG h;refine{μ,Z,M,hE,hM,?_};rw[e];intro J H1 I x1 hM1 wk;have hE1:=hE.ext x1;refine{λi m E F=>∃j u L,Ext I H1 j F/\bw fa X.K j F E u/\RelM fa X.K j F L/\ae (gj (iq t gb) w m i (.next u) L) (ni fa X μ H D'),
   {_,I,Z,M1,.refl,hE1,hM1,q},?_}
  rintro i m σ2 H2 ⟨B,S,M2,R,O,P,v⟩;cases m with
  |zero=>exact v.elim
  | succ m =>
    unfold gj at v;cases e2:w M2 with
    |none=>rw[e2] at v;exact v.elim
    | some ds =>
      rw[e2] at v;dsimp only at v;obtain⟨go,stop⟩:=wk B H2 M2 ds R.toExtW P e2;cases ed:ds[i]? with
      | none =>
        rw[ed] at v;exact .inl {stop i (List.getElem?_eq_none_iff.mp ed),v σ2 H2 B (x1.trans R) O P}
      | some d =>
        rw[ed] at v;obtain⟨g1,g2⟩:=go i d ed;refine .inr {g1,λE F=>∃j u L,Ext I H1 j F/\bw fa X.K j F E u/\RelM fa X.K j F L/\ae (gj (iq t gb) w m (i+1) (.next u) L) (ni fa X μ H D'),λE F z=>{m,`a,z},λy H3 hy=>?_}
        obtain⟨x3,Q,r3⟩:=g2 y H3 hy;obtain⟨fl,M4,e4,q4⟩:=aG v;obtain⟨U,M5,Y,e6⟩:=fg e4;cases eb:bT t d S with
        |none=>rw[eb] at Y;cases Y
        | some ρ5 =>
          rw[eb] at Y;cases Y;refine{B,S,_,d,U,O.ext x3,Q,r3,eb,λσ5 hE5=>{λ_ _ z=>z,B,U,_,hE5,Q,?_}};rw[e6];cases fl with
          |next W=>exact λσ6 H6 μ6 x6 hE6 hM6=>{μ6,W,M4,(R.trans x3).trans x6,hE6,hM6,q4}
          |ret d6=>exact(lJ rfl m (i+1) M4 q4).ext ((x1.trans R).trans x3)
          |exc x6 W=>exact(lJ rfl m (i+1) M4 q4).ext ((x1.trans R).trans x3)
end
abbrev FF:Qb->Qf->Prop:=λ_ _=>False
section
variable{prog:Q5}{w:Q4}{A:RL}{s:Qf}
def A9
 (J:compTurn ce k it acc env=(standAt p >>= λ_=>pyNext it >>= λr=>match r with
  |none=>pure (.done .next)
  |some v=>letOwnedTupleGo target it v >>= λ_=>assign target env v >>= λ_=>body >>= λ_=>again (.compLoop ce k it acc env)))
 (hd:(model prog w).den (.compLoop ce k it acc env)=(compTurn ce k it acc env).onRaise (λx=>do noteFrame x env;theTreesLotGoes x)/\A.under (.compLoop ce k it acc env)=A) (I:Nat->Qf->Prop)
 (turn:∀n s,I n s->wpAny (model prog w) A (pyNext it) (λr j=>match r with
  |none=>R (.ok .next) j
  |some v=>wpAny (model prog w) A (letOwnedTupleGo target it v) (λ_ y=>wpAny (model prog w) A (assign target env v) (λ_ z=>wpAny (model prog w) A body (λ_ B=>∃m,m<n/\I m B) FF z) FF y) FF j) FF s)
 (n:Nat) (h:I n s):codeAny (model prog w) A (.compLoop ce k it acc env) R s:=by
 refine codeAny_loop rfl I (λn s L=>?_) n h;rw[hd.1,hd.2];refine wpAny_noted ?_;rw[J];refine wpAny_noRaise ?_;refine tqa (wpAny_standAt (tqa (aW (turn n s L) λr j u=>?_)));cases r with
 |none=>exact tqb u
 | some v =>
   refine tqa (aW u λ_ y E=>?_);exact tqa (aW E λ_ z F=>tqa (aW F λ_ B H=>tqb ⟨rfl,H⟩))
def BY (y h j:Expr)(B:List Sk)(u:Scope)(pos:Pos)(z acc:Qb)(env:RV) :
 compTurn (.ListComp y [{h,j,[],0}] u pos) 0 z acc env=(standAt j.pos >>= λ_=>pyNext z >>= λr=>match r with
  |none=>pure (.done .next)
  |some v=>letOwnedTupleGo h z v >>= λ_=>assign h env v >>= λ_=>(eval y env >>= λx=>call (.builtin "list.append") [acc,x] >>= λ_=>pure ()) >>= λ_=>again (.compLoop (.ListComp y [{h,j,[],0}] u pos) 0 z acc env)):=`r
def turn_if (y h j c:Expr)(u:Scope)(pos:Pos)(z acc:Qb)(env:RV) :
 compTurn (.ListComp y [{h,j,[c],0}] u pos) 0 z acc env=(standAt j.pos >>= λ_=>pyNext z >>= λr=>match r with
  |none=>pure (.done .next)
  |some v=>letOwnedTupleGo h z v >>= λ_=>assign h env v >>= λ_=>(isTrue c env (eval c env) >>= λok=>if ok=true then(eval y env >>= λx=>call (.builtin "list.append") [acc,x] >>= λ_=>pure ()) else pure ()) >>= λ_=>again (.compLoop (.ListComp y [{h,j,[c],0}] u pos) 0 z acc env)):=by
 rw[compTurn_list];refine congrArg _ (funext λ_=>congrArg _ (funext λr=>?_));cases r with
 |none=>rfl
 | some v =>
   simp only[List.forIn_cons,List.forIn_nil,if_true,bind_assoc,pure_bind];refine congrArg _ (funext λ_=>congrArg _ (funext λ_=>congrArg _ (funext λok=>?_)));cases ok<;>simp
def BW (z h y t2 B:Expr)(u:Scope)(pos:Pos)(E acc:Qb)(env:RV) :
 compTurn (.ListComp z [{h,y,[],0},{t2,B,[],0}] u pos) 0 E acc env=(standAt y.pos >>= λ_=>pyNext E >>= λr=>match r with
  |none=>pure (.done .next)
  |some v=>letOwnedTupleGo h E v >>= λ_=>assign h env v >>= λ_=>(eval B env >>= λx=>standAt B.pos >>= λ_=>foldedSetIterable B env x >>= λx=>holding [x] (pyIter x) >>= λj=>runOwn (.compStart (.ListComp z [{h,y,[],0},{t2,B,[],0}] u pos) 1 j acc env) env >>= λ_=>pure ()) >>= λ_=>again (.compLoop (.ListComp z [{h,y,[],0},{t2,B,[],0}] u pos) 0 E acc env)):=by
 refine bind_congr λ_=>bind_congr λr=>?_;cases r with
 |none=>rfl
 |some v=>simp
def BX (y h u t2 B:Expr)(j:Scope)(pos:Pos)(z acc:Qb)(env:RV) :
 compTurn (.ListComp y [{h,u,[],0},{t2,B,[],0}] j pos) 1 z acc env=(standAt B.pos >>= λ_=>pyNext z >>= λr=>match r with
  |none=>pure (.done .next)
  |some v=>letOwnedTupleGo t2 z v >>= λ_=>assign t2 env v >>= λ_=>(eval y env >>= λx=>call (.builtin "list.append") [acc,x] >>= λ_=>pure ()) >>= λ_=>again (.compLoop (.ListComp y [{h,u,[],0},{t2,B,[],0}] j pos) 1 z acc env)):=by
 rfl
set_option tactic.hygienic true in
def lT (env:RV):∀(ns:List (Str×NameKind)) (h:List (Str×Addr)),(∀y∈ns,y.2=.free->∃c,env.cells.lookup y.1=some c)->(∀x c,h.lookup x=some c->env.cells.lookup x=some c)->
 ∃cl,(forIn ns h λ(y:Str×NameKind) (r:List (Str×Addr))=>if (y.2==NameKind.free)=true then cellOf env y.1 >>= λa=>pure (ForInStep.yield ((y.1,a)::r)) else pure (ForInStep.yield r):Sem _)=pure cl/\
  (∀x c,cl.lookup x=some c->env.cells.lookup x=some c)/\(∀x c,h.lookup x=some c->∃H,cl.lookup x=some H)/\∀y∈ns,y.2=.free->∃c,cl.lookup y.1=some c
 |[],h,_,h2=>{h,`s,h2,λx c e=>⟨c,e⟩,λy j=>nomatch j}
 | (n, k) :: ns, h, h1, h2 => by
   by_cases v:k=.free
   ·subst v;obtain⟨a,E⟩:=h1 (n,.free) QB rfl;have lk:∀x c,((n,a)::h).lookup x=some c->env.cells.lookup x=some c:=λx c e=>by
     rw[Rp] at e;split at e
     ·next q=>cases e;rw[eq_of_beq q];exact E
     ·exact h2 x c e
    obtain⟨cl,e,p1,p2,B⟩:=lT env ns ((n,a)::h) (λy j=>h1 y (Qu _ j)) lk;refine{cl,?_,p1,λx c q=>?_,λy j u=>?_}
    ·rw[List.forIn_cons];have J:cellOf env n=pure a:=by unfold cellOf;rw[E]
     simp only[beq_self_eq_true,if_true,J];exact e
    ·by_cases F:x=n
     ·exact p2 x a (by rw[Rp,F];simp)
     ·exact p2 x c (by rw[Rp,RU.mpr F];exact q)
    ·rcases QZ.mp j with z|z
     ·subst z;exact p2 n a (by simp[Rp])
     ·exact B y z u
   ·obtain⟨cl,e,p1,p2,B⟩:=lT env ns h (λy j=>h1 y (Qu _ j)) h2;refine{cl,?_,p1,p2,λy j u=>?_}
    ·rw[List.forIn_cons];have I:(k==NameKind.free)=false:=by simpa using v
     simp only[I,Bool.false_eq_true,if_false];exact e
    ·rcases QZ.mp j with z|z
     ·subst z;exact absurd u v
     ·exact B y z u
def p8 (h:∀y∈j.names,y.2=.free->∃c,env.cells.lookup y.1=some c) :
 ∃cl,closureFor j env=pure cl/\(∀x c,cl.lookup x=some c->env.cells.lookup x=some c)/\∀y∈j.names,y.2=.free->∃c,cl.lookup y.1=some c:=by
 obtain⟨cl,e,p1,_,u⟩:=lT env j.names [] h (λx c q=>nomatch q);exact{cl,by unfold closureFor;simp only[bind_pure];exact e,p1,u}
end
noncomputable def f9 (X:Cx)(own bn:List Str)(scope:Scope)(cl:List (Str×Addr))(C:Addr)(fp:List Addr)(s:Qf)(H:Hp):Cx:=
 {X with N:=own++bn,s₀:=s,H₀:=H,env:=compEnvC scope cl C X.env,outer:=X.stack,ex:=fp,fn:=λx=>scope.names.lookup x==some .cell,pn:=[],xe:=FF}
set_option tactic.hygienic true in
def mem_of_lookup {j:Type}:∀{l:List (Str×j)}{x:Str}{k:j},l.lookup x=some k->(x,k)∈l
 |[],_,_,h=>by cases h
 | (n, b) :: r, x, k, h => by
   rw[Rp] at h;split at h
   ·next q=>cases h;rw[eq_of_beq q];exact QB
   ·exact Qu _ (mem_of_lookup h)
set_option tactic.hygienic true in
def gM {env:RV}:∀{j:List (Str×NameKind)}{x:Str}{k:NameKind},
 (j.map λ(n,k)=>if (k==NameKind.free&&env.scope.kind==.function&&env.kindOf n==some .cell) then(n,NameKind.cell) else(n,k)).lookup x=some k->
 ∃k0,(x,k0)∈j/\j.lookup x=some k0/\(k=k0\/(k0=.free/\k=.cell))
 |[],_,_,h=>by cases h
 | (n, k0) :: r, x, k, h => by
   have y:=@gM env r x k;have h:List.lookup x ((if (k0==NameKind.free&&env.scope.kind==.function&&env.kindOf n==some .cell)=true then(n,NameKind.cell) else(n,k0))::_)=some k:=h;cases u:x==n with
   | true =>
     have e:=eq_of_beq u;subst e;refine{k0,QB,by simp[Rp],?_}
     split at h
     ·next c=>
      simp[Rp] at h;simp at c;exact .inr ⟨c.1.1,h.symm⟩
     ·simp[Rp] at h;exact .inl h.symm
   | false =>
     have v:List.lookup x (r.map λ(n,k)=>if (k==NameKind.free&&env.scope.kind==.function&&env.kindOf n==some .cell) then(n,NameKind.cell) else(n,k))=some k:=by
      split at h<;>simpa[Rp,u] using h
     obtain⟨k1,h1,h2,h3⟩:=y v;exact{k1,Qu _ h1,by simp[Rp,u];exact h2,h3}
def pJ {h j:Type}{R:h->j->Prop}:∀{l:List h}{r:List j}{i:Nat}{x:h},RX R l r->l[i]?=some x->∃y,r[i]?=some y/\R x y
 |_,_,_,_,.nil,e=>by simp at e
 |_,_,0,_,.cons p _,e=>by simp at e;subst e;exact{_,rfl,p}
 | _, _, i + 1, x, .cons _ t, e => by
   obtain⟨y,h1,h2⟩:=pJ t (by simpa using e)
   exact{y,by simpa using h1,h2}
structure fN (X:Cx) (own bn:List Str) (scope:Scope):Prop where
 kind:scope.kind=.function
 cel:∀y∈scope.names,y.2=.cell->scope.names.lookup y.1=some .cell
 loc:∀y∈scope.names,y.2=.local->scope.names.lookup y.1=some .local
 free:∀y∈scope.names,y.2=.free->X.env.kindOf y.1=some .cell\/X.env.kindOf y.1=some .free
 dis:RX (λb x=>(b=x/\scope.names.lookup x≠some .local/\scope.names.lookup x≠some .cell)\/scope.names.lookup b=none) bn X.N
def jA:∀(h:List (Str×NameKind)) (n:Nat) (acc:List (Str×Addr)),cellsFrom n h acc=cellsFrom n h []++acc
 |[],_,_=>rfl
 | (nm, k) :: r, n, acc => by
   unfold cellsFrom;split
   ·rw[jA r (n+1) ((nm,n)::acc),jA r (n+1) [(nm,n)],Rl];rfl
   ·exact jA r n acc
set_option tactic.hygienic true in
def uP:∀{j:List (Str×NameKind)}{n:Nat}{x:Str}{c:Addr},(x,c)∈cellsFrom n j []->(x,NameKind.cell)∈j
 |[],_,_,_,h=>nomatch h
 | (nm, k) :: r, n, x, c, h => by
   unfold cellsFrom at h;split at h
   ·next e=>
    rw[jA] at h;rcases QH.mp h with h|h
    ·exact Qu _ (uP h)
    ·cases Qs.mp h;rw[eq_of_beq e];exact QB
   ·exact Qu _ (uP h)
def p9:∀{j:List (Str×NameKind)}{n:Nat}{x:Str},(x,NameKind.cell)∈j->∃c,(x,c)∈cellsFrom n j []
 | (nm, k) :: r, n, x, h => by
   unfold cellsFrom;rcases QZ.mp h with h|h
   ·cases h;rw[if_pos (by rfl:(NameKind.cell==NameKind.cell)=true),jA]
    exact{n,QY _ (Qs.mpr rfl)}
   ·split
    ·obtain⟨c,u⟩:=p9 h;rw[jA];exact{c,Rh _ u}
    ·exact p9 h
def mH {j:Type}:∀{l:List (Str×j)}{x:Str}{b:j},(x,b)∈l->∃c,l.lookup x=some c
 | (n, u) :: r, x, b, h => by
   rw[Rp];cases e:x==n with
   |true=>exact{_,rfl}
   | false =>
     rcases QZ.mp h with z|z
     ·cases z;rw[beq_self_eq_true] at e;cases e
     ·exact mH z
def rT
 (h:Q (newEnv scope s.heap.objs.size globals (cellsFrom (s.heap.objs.size+1) scope.names cl) qual none .none (some env) builtinsNs) {s with heap:=pushCells (s.heap.push {cls:=.type "dict",data:=.dict #[]}) scope.names}) :
 wpAny M A (newFunctionEnv scope globals cl [] qual none .none (some env)) Q E s:=by
 simp only[newFunctionEnv,Option.isSome_some,if_true];refine tqa (wpAny_alloc ?_);refine tqa (wpAny_layCells _ (λv kind j=>by cases u:kind==NameKind.cell<;>simp[u]) _ _ _ _ ?_)
 rw[show({s with heap:=s.heap.push {cls:=.type "dict",data:=.dict #[]}}:Qf).heap.objs.size=s.heap.objs.size+1 from R6 ..]
 exact tqa (tqb (tqb h))
section
variable{X:Cx}{pins:List (Addr×Obj)}{σ:L2.St}{H:Hp}{s:Qf}{fp:List Addr}{scope:Scope}{cl:List (Str×Addr)}{own bn:List Str}
structure Cl (X:Cx) (scope:Scope) (cl:List (Str×Addr)) (n:Nat):Prop where
 sub:∀x c,cl.lookup x=some c->(scope.names.lookup x=some .cell/\n<c)\/(scope.names.lookup x≠some .cell/\X.env.cells.lookup x=some c)
 inj:∀x y c,cl.lookup x=some c->cl.lookup y=some c->scope.names.lookup x=some .cell->scope.names.lookup y=some .cell->x=y
 has:∀y∈scope.names,(y.2=.free\/y.2=.cell)->∃c,cl.lookup y.1=some c
def Fe (S:fN X own bn scope)(h1:∀x c,cl.lookup x=some c->X.env.cells.lookup x=some c)(h2:∀y∈scope.names,y.2=.free->∃c,cl.lookup y.1=some c)(h:Heap)(hn:h.objs.size=n+1) :
 Cl X scope (cellsFrom (n+1) scope.names cl) n/\∀x c,(cellsFrom (n+1) scope.names cl).lookup x=some c->scope.names.lookup x=some .cell->(pushCells h scope.names).IsCell c none:=by
 have ok:=cellsFrom_ok scope.names h (n+1) [] {λ_ _ hm=>(nomatch hm),List.Pairwise.nil} (by rw[hn];exact Qe _)
 rw[hn] at ok;rw[jA];have j:∀{x c},(cellsFrom (n+1) scope.names []++cl).lookup x=some c->scope.names.lookup x=some .cell->(x,c)∈cellsFrom (n+1) scope.names []:=λ{x c} e u=>by
  obtain⟨F,J⟩:=p9 (mem_of_lookup u);obtain⟨L,h2⟩:=mH J;rw[List.lookup_append,h2] at e;cases e;exact mem_of_lookup h2
 have B:∀{x c},(cellsFrom (n+1) scope.names []++cl).lookup x=some c->scope.names.lookup x≠some .cell->cl.lookup x=some c:=λ{x c} e u=>by
  rw[List.lookup_append] at e;cases z:(cellsFrom (n+1) scope.names []).lookup x with
  |none=>rw[z] at e;exact e
  |some F=>exact absurd (S.cel _ (uP (mem_of_lookup z)) rfl) u
 refine{{λx c e=>?_,λx y c e1 e2 u E=>?_,λy E v=>?_},λx c e u=>(ok.empty x c (j e u)).1}
 ·by_cases u:scope.names.lookup x=some .cell
  ·exact .inl {u,(ok.empty x c (j e u)).2}
  ·exact .inr {u,h1 x c (B e u)}
 ·exact name_of_addr ok.apart (j e1 u) (j e2 E)
 ·rcases v with v|v
  ·obtain⟨c,I⟩:=h2 y E v;rw[List.lookup_append];cases (cellsFrom (n+1) scope.names []).lookup y.1 with
   |none=>exact⟨c,I⟩
   |some F=>exact⟨F,rfl⟩
  ·obtain⟨c,I⟩:=p9 (by rw[<- v];exact E)
   obtain⟨L,e2⟩:=mH I;rw[List.lookup_append,e2];exact⟨L,rfl⟩
def HU (I:Inv X pins σ H s)(S:fN X own bn scope)(j:Cl X scope cl s.heap.objs.size)(v:∀b∈fp,fK X pins H b)(B:∀b∈fp,∃o,s.heap.get? b=some o) :
 (f9 X own bn scope cl s.heap.objs.size fp s H).Ok where
 mod:=I.ok.mod
 kind:=S.kind
 glob:=I.ok.glob
 blt:=I.ok.blt
 above:=Qe _
 inj:=λx y c h1 h2=>by
  have lt:=λz e=>Nat.not_lt.mpr (Sf (let{_,q}:=I.cell z c e;q.lt))
  rcases j.sub x c h1 with⟨a1,a2⟩|⟨a1,a2⟩<;>rcases j.sub y c h2 with⟨J,F⟩|⟨J,F⟩
  ·exact j.inj x y c h1 h2 a1 J
  ·exact absurd a2 (lt y F)
  ·exact absurd F (lt x a2)
  ·exact I.ok.inj x y c a2 F
 has:=λx h=>by
  have E:∀k,(relabel scope X.env).names.lookup x=some k->(k=.cell\/k=.free)->∃c,cl.lookup x=some c:=λk M L=>by
   obtain⟨P,h1,h2,h3⟩:=gM M;refine j.has _ h1 ?_;rcases h3 with e|⟨e,_⟩
   ·rcases L with z|z
    ·exact .inr (e.symm.trans z)
    ·exact .inl (e.symm.trans z)
   ·exact .inl e
  rcases h with h|h
  ·exact E _ h (.inl rfl)
  ·exact E _ h (.inr rfl)
 cab:=λx c h e=>by
  rcases j.sub x c e with⟨_,a2⟩|⟨a1,_⟩
  ·exact Sf a2
  ·exact absurd (eq_of_beq h) a1
 hd:=I.ok.hd
 frames:=I.ok.frames
 stk:=.inl rfl
 exf:=λb u=>{λe=>by
  obtain⟨o,ho⟩:=B b u;exact absurd (Qz ho) (by rw[e];exact Rz _),λx c e=>by
  rcases j.sub x c e with⟨_,a2⟩|⟨_,a2⟩
  ·obtain⟨o,ho⟩:=B b u;exact λz=>absurd (Qz ho) (by rw[<- z];exact Nat.lt_asymm a2)
  ·exact(v b u).2.2.2.2.1 x c a2}
 bs:=λb o e=>I.bs b o e
 bsz:=Qo I.ok.bsz I.sz
 noex:=λb o e u=>by
  rcases(v b u).2.2.2.1 with z|z
  ·exact I.ok.noex b o e z
  ·exact absurd (QE (Qz e) (Qo I.ok.bsz z)) (Rz _)
 exfs:=λb u O=>by
  rcases QZ.mp (I.stkSub b O) with e|e
  ·exact(v b u).2.1 e
  ·exact(v b u).2.2.1 e
 funs:=I.stack
 frf:=λb u=>I.stkFree b u
def uO (I:Inv X pins σ H s)(S:fN X own bn scope)(h:Cl X scope cl s.heap.objs.size)(R:∀b∈fp,fK X pins H b)(Q:∀b∈fp,∃o,s.heap.get? b=some o)
 (hn:h'.Ns s.heap.objs.size m) (F:∀b o,s.heap.get? b=some o->h'.get? b=some o) (O:∀x c,cl.lookup x=some c->scope.names.lookup x=some .cell->h'.IsCell c none) :
 Inv (f9 X own bn scope cl s.heap.objs.size fp s H) [] (List.replicate own.length none++σ) H {s with heap:=h',toks:=t'} where
 ok:=HU I S h R Q
 os:=rfl
 bare:=I.bare
 base:=Un.kept F
 loc:=by
  refine{m,hn,λi x v e1 e2 hv=>?_};have e1:(own++bn)[i]?=some x:=e1;have Y:own.length<=i:=by
   by_cases q:i<own.length
   ·rw[Qi (by simpa using q),Sj] at e2
    simp[q] at e2
   ·omega
  rw[QO Y] at e1;rw[QO (by simpa using Y)] at e2
  simp only[List.length_replicate] at e2;have M:X.N[i-own.length]?=some x/\scope.names.lookup x≠some .local/\scope.names.lookup x≠some .cell:=by
   rcases pJ S.dis e1 with⟨y,h1,⟨h2,h3⟩|h2⟩
   ·subst h2;exact⟨h1,h3⟩
   ·exfalso;have no:∀k,(relabel scope X.env).names.lookup x≠some k:=λk F=>by
     obtain⟨U,_,h3,_⟩:=gM F;rw[h2] at h3;cases h3
    rcases hv with z|z|z
    ·exact no _ z
    ·exact no _ z
    ·exact no _ z
  have W:∀k,(relabel scope X.env).names.lookup x=some k->(k=.local\/k=.cell\/k=.free)->∃c,(k=.cell\/k=.free)/\cl.lookup x=some c/\(X.env.kindOf x=some .cell\/X.env.kindOf x=some .free):=λk j L=>by
   obtain⟨U,h1,h2,h3⟩:=gM j;have nl:U≠.local:=λe=>M.2.1 (by rw[h2,e])
   have P:U=.free:=by
    rcases h3 with e|⟨e,_⟩
    ·rcases L with z|z|z
     ·exact absurd (e.symm.trans z) nl
     ·exact absurd (by rw[h2,e.symm.trans z]) M.2.2
     ·exact e.symm.trans z
    ·exact e
   obtain⟨c,hc⟩:=h.has _ h1 (.inl P);refine{c,?_,hc,S.free _ h1 P};rcases L with z|z|z
   ·rcases h3 with e|⟨_,e⟩
    ·rw[P] at e;rw[e] at z;cases z
    ·rw[e] at z;cases z
   ·exact .inl z
   ·exact .inr z
  have B:∀k,(relabel scope X.env).names.lookup x=some k->(k=.local\/k=.cell\/k=.free)->∃u,RelV v u/\Look (compEnvC scope cl s.heap.objs.size X.env) h' m x u:=λk j L=>by
   obtain⟨c,h1,h2,h3⟩:=W k j L;obtain⟨m0,_,hl⟩:=I.loc;obtain⟨u,r,l⟩:=hl _ x v M.1 e2 (.inr h3);refine{u,r,.inr {?_,c,h2,?_}}
   ·rcases h1 with z|z
    ·subst z;exact .inl j
    ·subst z;exact .inr j
   ·rcases l with⟨z,_⟩|⟨_,c',J,E⟩
    ·rcases h3 with q|q
     ·rw[z] at q;cases q
     ·rw[z] at q;cases q
    ·rcases h.sub x c h2 with⟨a1,_⟩|⟨_,a2⟩
     ·exact absurd a1 M.2.2
     rw[a2] at J;cases J;obtain⟨o,ho,hd⟩:=E;exact{o,F _ _ ho,hd}
  rcases hv with z|z|z
  ·exact B _ z (.inl rfl)
  ·exact B _ z (.inr (.inl rfl))
  ·exact B _ z (.inr (.inr rfl))
 cell:=λx c e=>by
  rcases h.sub x c e with⟨a1,_⟩|⟨_,a2⟩
  ·exact{none,O x c e a1}
  obtain⟨v,o,ho,hd⟩:=I.cell x c a2;exact{v,o,F _ _ ho,hd}
 free:=I.hok.fresh (Qe _)
 freeC:=λx c e=>(h.sub x c e).elim (λz=>I.hok.fresh (Sf z.2)) λz=>I.freeC x c z.2
 pin:=λp hp=>nomatch hp
 hok:=I.hok.kept F
 len:=by
  show(List.replicate own.length none++σ).length=(own++bn).length;have:=Paired.length S.dis;simp[I.len,this]
def comp_back (I:Inv X pins σ H s)(h:∀b∈fp,fK X pins H b)(j:Inv (f9 X own bn scope cl C fp s H) pins' σ' H' s'):Inv X pins σ H' s':=
 I.call' j.os j.base j.hok j.bare λb u=>{(h b u).2.2.2.1,(h b u).2.1,(h b u).2.2.2.2.1,(h b u).2.2.2.2.2}
def rX (I:Inv X pins σ H s)(u:H' s.heap.objs.size=none)(h:Inv X pins σ' H' s')(hs:RY s.heap.objs.size s'.heap h''):Inv X pins σ' H' {s' with heap:=h''}:=
 h.turned (λb o j e=>(hs.2 b j).trans e) u (Rj I.lt) (.inr I.sz) (λx c e z=>by
  obtain⟨v,q⟩:=I.cell x c e;exact absurd q.lt (by rw[z];exact Rz _)) λp y z=>absurd (Qz (I.pin p y).1) (by rw[z];exact Rz _)
end
structure fM (a:Addr) (μ:Mu) (H:Hp) (μ':Mu) (H':Hp):Prop extends ExtW μ H μ' H' where
 pr:μ'.priv=μ.priv
 pk:∀b∈μ.priv,b≠a->H' b=H b
def fM.refl:fM a μ H μ H:={.refl,rfl,λ_ _ _=>rfl}
def fM.trans (x:fM a μ H μ1 H1)(y:fM a μ1 H1 μ2 H2):fM a μ H μ2 H2:=
 {x.toExtW.trans y.toExtW,y.pr.trans x.pr,λb h n=>(y.pk b (by rw[x.pr];exact h) n).trans (x.pk b h n)}
def Ext.toD (x:Ext μ H μ' H'):fM a μ H μ' H':={x.toExtW,x.pr,λb h _=>x.pk b h}
noncomputable def slots:fX->List Nat
 |.one i=>[i]
 |.tup l=>l
 |.two i l=>i::l
def Clear (W:List Nat)(Z:Env):Prop:=∀i∈W,∀d,Z[i]?≠some (some d)
section
variable{fa:Fa}{K:Qa}{μ μ':Mu}{H H':Hp}{σ:L2.St}{Z ρ1:Env}{M:Mem}{a:Addr}
def bw.weak (h:bw fa K μ H σ ρ1)(hl:ρ1.length=Z.length)(w:∀(i:Nat) d,Z[i]?=some (some d)->ρ1[i]?=some (some d)):bw fa K μ H σ Z:=
 {h.len.trans hl,λi d e=>h.at' i d (w i d e)}
def k9:∀{l:List Nat}{ds:List D}{Z ρ1:Env},cX l ds Z=some ρ1->ρ1.length=Z.length/\∀i,i∉l->ρ1[i]?=Z[i]?
 |[],[],Z,ρ1,h=>by cases h;exact{rfl,λ_ _=>rfl}
 |_::_,[],_,_,h=>by cases h
 |[],_::_,_,_,h=>by cases h
 | j :: l, d :: ds, Z, ρ1, h => by
   obtain⟨h1,h2⟩:=k9 (ds:=ds) h;refine{by simpa using h1,λi u=>?_}
   rw[h2 i (λz=>u (Qu _ z)),Qj (λz=>u (by rw[z];exact QB))]
def r9 (h:bT t d Z=some ρ1):ρ1.length=Z.length/\∀i,i∉slots t->ρ1[i]?=Z[i]?:=by
 cases t with
 | one j =>
   cases h;exact{`s,λi u=>Qj (λz=>u (by rw[z];exact QB))}
 | tup l =>
   cases d with
   |tup v=>exact k9 h
   |_=>cases h
 | two j l =>
   obtain⟨e,v,rfl,h⟩:=uZ h;obtain⟨h1,h2⟩:=k9 h;refine{by simpa using h1,λi u=>?_}
   rw[h2 i (λz=>u (Qu _ z)),Qj (λz=>u (by rw[z];exact QB))]
def bw.unbind (h:bT t d Z=some ρ1)(c:Clear (slots t) Z)(r:bw fa K μ H σ ρ1):bw fa K μ H σ Z:=by
 obtain⟨h1,h2⟩:=r9 h;refine r.weak h1 λi d e=>?_;by_cases j:i∈slots t
 ·exact absurd e (c i j d)
 ·rw[h2 i j];exact e
def RelM.writeP (h:RelM fa K μ H M)(e:a∈μ.priv)(v:H a=some (.lst vs)):RelM fa K μ (upd H a (.lst ws)) M:=by
 have x:ExtW μ H μ (upd H a (.lst ws)):=ExtW.write v (.inr e);refine{λk B q=>?_,h.out,h.oout,h.inj,h.oinj,h.sep,λb y=>{?_,(h.pv b y).2}}
 ·rcases h.at' k B q with⟨b,u,h1,h2,h3⟩|⟨b,h1,h2,h3⟩
  ·have E:b≠a:=λz=>(h.pv a e).2 k (by rw[h1,z])
   exact .inl {b,u,h1,by rw[aE E];exact h2,h3.extW x}
  ·exact .inr {b,h1,h2,h3.extW x (aE (h3.nl v))}
 ·by_cases j:b=a
  ·subst j;exact⟨ws,cD⟩
  ·obtain⟨u,q⟩:=(h.pv b y).1;exact{u,by rw[aE j];exact q}
def fM.writeP (e:a∈μ.priv)(h:H a=some (.lst vs)):fM a μ H μ (upd H a (.lst ws)):=
 {ExtW.write h (.inr e),rfl,λb _ n=>by rw[aE n]}
end
abbrev PA:=Mu->Hp->List D->Prop
def yt (A:PA):Prop:=∀μ H μ' H' h,Ext μ H μ' H'->A μ H h->A μ' H' h
def LA (fa:Fa)(K:Qa)(a:Addr):PA:=λμ H h=>a∈μ.priv/\∃j,H a=some (.lst j)/\aL fa K μ H h j
def LA.stab {K:Qa}:yt (LA fa K a):=λ_ _ _ _ _ x ⟨h1,h,h2,h3⟩=>{by rw[x.pr];exact h1,h,by rw[x.pk _ h1];exact h2,h3.ext x}
def WB (fa:Fa)(K:Qa)(A:PA)(a:Addr)(μ:Mu)(H:Hp)(Z:Env)(Q:L2.St->Hp->Prop)(acc:List D)(M':Mem):Prop:=
 ∀h H' μ',fM a μ H μ' H'->bw fa K μ' H' h Z->RelM fa K μ' H' M'->A μ' H' acc->Q h H'
def WB.ext {K:Qa}(h:WB fa K A a μ H Z Q acc M')(x:fM a μ H μ1 H1):WB fa K A a μ1 H1 Z Q acc M':=
 λj H' μ' y e m h1=>h j H' μ' (x.trans y) e m h1
def DB (fa:Fa)(X:Cx)(A:PA)(a:Addr)(W:List Nat)(body:Sem Unit)(g:Env->List D->Mem->Res (List D)):Prop:=
 ∀(h:List (Addr×Obj)) (s:Qf) (σ:L2.St) (H:Hp) (Q:L2.St->Hp->Prop) (μ:Mu) (Z:Env) (M:Mem) (j:List D),Inv X h σ H s->bw fa X.K μ H σ Z->RelM fa X.K μ H M->Clear W Z->A μ H j->
  ae (g Z j M) (WB fa X.K A a μ H Z Q)->wpAny (model X.prog X.w) X.A body (λ_ v=>∃u H',Inv X h u H' v/\Q u H') X.xe s
def bg (ge:Env->Mem->Res D):Env->List D->Mem->Res (List D):=λZ h M=>(ge Z M).bind λx M=>if h.length<sz then .ok (h++[x]) M else .bad
def iQ (j:Env->Mem->Res Bool)(g:Env->List D->Mem->Res (List D)):Env->List D->Mem->Res (List D):=λZ h M=>(j Z M).bind λk M=>if k then g Z h M else .ok h M
def cP (t:fX)(g:Env->List D->Mem->Res (List D))(Z:Env):List D->D->Mem->Res (List D):=λh d M=>(cf M (bT t d Z)).bind λρ1 M=>g ρ1 h M
def uy (t:fX)(j:Env->Mem->Res Walk)(g:Env->List D->Mem->Res (List D)):Env->List D->Mem->Res (List D):=λZ h M=>(j Z M).bind λw M=>cW (cP t g Z) w h M
section
variable{fa:Fa}{X:Cx}{a:Addr}
set_option tactic.hygienic true in
def uK (he:DE fa X elt ge):DB fa X (LA fa X.K a) a [] (eval elt X.env >>= λx=>call (.builtin "list.append") [.ref a,x] >>= λ_=>pure ()) (bg ge):=by
 intro z s σ H Q μ Z M Y I P hM hc ⟨R,J,hH,hr⟩ h;obtain⟨x,W,e,q⟩:=aG h;split at q
 ·next hz=>
  refine tqa (aW (he z s σ H (λv y=>∃j,Ext μ H j y/\RelM fa X.K j y W/\Rep fa X.K j y x v) I {μ,Z,M,P,hM,?_}) λu s1 ⟨v,y,S,rv,j,F,O,r1⟩=>?_)
  ·rw[e];exact λv y j F O r1=>⟨j,F,O,r1⟩
  have B:y a=some (.lst J):=by rw[F.pk a R];exact hH
  have E:a∈j.priv:=by rw[F.pr];exact R
  have hl:J.length<sizeLine:=by rw[hr.length,<- dR];exact hz
  refine tqa (aW (mD z s1 σ y (.ref a) [v] (.ref a) [u] (λ_ L=>L=upd y a (.lst (J++[v]))) S rfl (.cons rv .nil) ⟨a,J,v,rfl,rfl,B,hl,rfl⟩) λ_ s2 ⟨_,L,U,_,e2⟩=>tqb {σ,L,U,?_});subst e2;have xd:fM a j y j (upd y a (.lst (J++[v]))):=fM.writeP E B;exact q σ _ j (F.toD.trans xd) ((P.ext F).extW xd.toExtW) (O.writeP E B) {E,_,cD,((hr.ext F).append (.one r1)).extW xd.toExtW}
 ·exact q.elim
def Nf (O:yt A)(U:DT fa X c gc)(S:DB fa X A a W body g) :
 DB fa X A a W (isTrue c X.env (eval c X.env) >>= λok=>if ok=true then body else pure ()) (iQ gc g):=by
 intro u s σ H Q μ Z M B I E R Y L h;obtain⟨k,J,e,q⟩:=aG h;refine tqa (aW (U u s σ H (λb y=>b=k/\∃j,Ext μ H j y/\RelM fa X.K j y J) I {μ,Z,M,E,R,?_}) λb s1 ⟨y,F,P,j,v,z⟩=>?_)
 ·rw[e];exact λy j v z=>⟨rfl,j,v,z⟩
 subst P;cases b with
 | true =>
   rw[if_pos rfl];exact S u s1 σ y Q j Z J B F (E.ext v) z Y (O _ _ _ _ _ v L) (aI q λ_ _ w=>w.ext v.toD)
 | false =>
   rw[if_neg QF];exact tqb {σ,y,F,q σ y j v.toD (E.ext v) z (O _ _ _ _ _ v L)}
def qV (sA:yt A)
 (heq:compTurn ce k (.ref it) (.ref a) X.env=(standAt p >>= λ_=>pyNext (.ref it) >>= λr=>match r with
  |none=>pure (.done .next)
  |some v=>letOwnedTupleGo tg (.ref it) v >>= λ_=>assign tg X.env v >>= λ_=>body >>= λ_=>again (.compLoop ce k (.ref it) (.ref a) X.env)))
 (hd:(model X.prog X.w).den (.compLoop ce k (.ref it) (.ref a) X.env)=(compTurn ce k (.ref it) (.ref a) X.env).onRaise (λx=>do noteFrame x X.env;theTreesLotGoes x)/\X.A.under (.compLoop ce k (.ref it) (.ref a) X.env)=X.A) (hx:X.xe=FF) (U:X.calm=true) (T:Turn X.prog X.w X.K tg J fp it tn) (hg:PG X tg (gT fa X.K t)) (S:DB fa X A a W body g) (hW:∀i∈W,i∉slots t)
 (I:Inv X pins σ H s) (st:tn 0 s.heap) (hf:∀b∈fp,fK X pins H b) (hE:bw fa X.K μ H σ Z) (hM:RelM fa X.K μ H M)
 (hcl:Clear (slots t++W) Z) (hA:A μ H acc) (wk:dD fa X.K μ H w J) (q:ae (cW (cP t g Z) w acc M) (WB fa X.K A a μ H Z Q)) :
 codeAny (model X.prog X.w) X.A (.compLoop ce k (.ref it) (.ref a) X.env) (λr Y=>r=.ok .next/\∃j H',Inv X pins j H' Y/\Q j H') s:=by
 have stat:∀{H':Hp},(∀b∈fp,H' b=none)->∀b∈fp,fK X pins H' b:=λhn b S=>{hn b S,(hf b S).2};have clt:=λi hi=>hcl i (Rh _ hi);have clW:∀d ρ1,bT t d Z=some ρ1->Clear W ρ1:=λd ρ1 e i hi d' z=>by
  rw[(r9 e).2 i (hW i hi)] at z;exact hcl i (QY _ hi) d' z
 let P:Nat->Nat->Qf->Prop:=λm i Y=>∃j H' μ' M' B,Inv X pins j H' Y/\tn i Y.heap/\(∀b∈fp,H' b=none)/\fM a μ H μ' H'/\bw fa X.K μ' H' j Z/\RelM fa X.K μ' H' M'/\A μ' H' B/\
  ae (gj (cP t g Z) w m i B M') (WB fa X.K A a μ H Z Q)
 have P0:∃m,P m 0 s:={_,σ,H,μ,M,acc,I,st,λb S=>(hf b S).1,.refl,hE,hM,hA,q};obtain⟨m0,P0⟩:=P0;have hturn:∀(n:Nat) (i:Nat) (s3:Qf),P n i s3->wpAny (model X.prog X.w) X.A (pyNext (.ref it)) (λr y=>match r with
  |none=>(∃j H',Inv X pins j H' y/\Q j H')
  |some v=>wpAny (model X.prog X.w) X.A (letOwnedTupleGo tg (.ref it) v) (λ_ F=>wpAny (model X.prog X.w) X.A (assign tg X.env v) (λ_ L=>wpAny (model X.prog X.w) X.A body (λ_ O=>∃m,m<n/\P m (i+1) O) FF L) FF F) FF y) FF s3:=by
  rintro n i s3 ⟨σ3,H3,E,M3,R,I3,st3,fr3,x3,hE3,hM3,hA3,q3⟩;have one:∀(d:D) (rest:List D->Mem->Res (List D)) (next:List D->Mem->Prop),J.go i H3->(∀x H',J.yld i H3 x H'->Ext E H3 E H'/\RelM fa X.K E H' M3/\Rep fa X.K E H' d x)->ae ((cP t g Z R d M3).bind rest) (WB fa X.K A a μ H Z Q)->
   (∀j H' μ' M' B Y,Inv X pins j H' Y->tn (i+1) Y.heap->(∀b∈fp,H' b=none)->fM a μ H μ' H'->bw fa X.K μ' H' j Z->RelM fa X.K μ' H' M'->A μ' H' B->ae (rest B M') (WB fa X.K A a μ H Z Q)->∃m,m<n/\P m (i+1) Y)->
   wpAny (model X.prog X.w) X.A (pyNext (.ref it)) (λr y=>match r with
    |none=>(∃j H',Inv X pins j H' y/\Q j H')
    |some v=>wpAny (model X.prog X.w) X.A (letOwnedTupleGo tg (.ref it) v) (λ_ F=>wpAny (model X.prog X.w) X.A (assign tg X.env v) (λ_ L=>wpAny (model X.prog X.w) X.A body (λ_ O=>∃m,m<n/\P m (i+1) O) FF L) FF F) FF y) FF s3:=by
   intro d rest next go yl qd fin
   refine aW (T.item X rfl rfl rfl U i pins s3 σ3 H3 FF I3 (stat fr3) st3 go) λr s4 ⟨u,hr4,h4⟩=>?_;subst hr4;refine aW h4 λ_ s5 ⟨x,H5,I5,r5,y5,st5,fr5⟩=>?_;obtain⟨x5,hM5,rd⟩:=yl x H5 y5;have I5':=I5.pinned (stat fr5) (T.obj _ _ st5);obtain⟨acc6,M6,e6,q6⟩:=aG qd;obtain⟨ρ1,M7,e7,e8⟩:=fg e6;cases eb:bT t d Z with
   |none=>rw[eb] at e7;cases e7
   | some ρ2 =>
     rw[eb] at e7;cases e7;have hg':=hg _ s5 σ3 H5 x u (λj H'=>H'=H5/\bw fa X.K E H5 j ρ1) I5' r5 {E,Z,_,d,ρ1,hE3.ext x5,hM5,rd,eb,λσ1 h1=>⟨rfl,h1⟩};rw[hx] at hg';refine aW hg' λ_ s6 ⟨σ6,H6,I6,eH,hE6⟩=>?_;subst eH;have hb':=S _ s6 σ6 H6 (λj H'=>∃μ',fM a E H6 μ' H'/\bw fa X.K μ' H' j ρ1/\RelM fa X.K μ' H' M6/\A μ' H' acc6) E ρ1 _ R I6 hE6 hM5 (clW d ρ1 eb) (sA _ _ _ _ _ x5 hA3) (by
      rw[e8];exact λj H' μ' z1 z2 z3 z4=>⟨μ',z1,z2,z3,z4⟩)
     rw[hx] at hb';refine aW hb' λ_ s7 ⟨σ7,H7,I7,μ7,x7,hE7,hM7,hA7⟩=>?_;refine fin σ7 H7 μ7 M6 acc6 s7 I7.unpinned (T.keep _ _ _ st5 λb S o e=>(I7.pin (b,o) (QY _ (QY _ (iU S e)))).1) (λb S=>?_) ((x3.trans x5.toD).trans x7) (hE7.unbind eb clt) hM7 hA7 q6;obtain⟨o,e,dd⟩:=T.obj _ _ st5 b S;exact(I7.pin (b,o) (QY _ (QY _ (iU S e)))).2.1
  have stop:J.stop i H3->ae (.ok R M3) (WB fa X.K A a μ H Z Q)->wpAny (model X.prog X.w) X.A (pyNext (.ref it)) (λr y=>match r with
   |none=>(∃j H',Inv X pins j H' y/\Q j H')
   |some v=>wpAny (model X.prog X.w) X.A (letOwnedTupleGo tg (.ref it) v) (λ_ F=>wpAny (model X.prog X.w) X.A (assign tg X.env v) (λ_ L=>wpAny (model X.prog X.w) X.A body (λ_ O=>∃m,m<n/\P m (i+1) O) FF L) FF F) FF y) FF s3:=λhs q=>by
   refine aW (T.done X rfl rfl rfl U i pins s3 σ3 H3 FF I3 (stat fr3) st3 hs) λr s4 ⟨hr4,I4⟩=>?_;subst hr4;exact{σ3,H3,I4,q σ3 H3 E x3 hE3 hM3 hA3}
  cases n with
  |zero=>exact q3.elim
  | succ n =>
    unfold gj at q3;cases e2:w M3 with
    |none=>rw[e2] at q3;exact q3.elim
    | some ds =>
      rw[e2] at q3;dsimp only at q3;obtain⟨go,stp⟩:=wk E H3 M3 ds x3.toExtW hM3 e2;cases ed:ds[i]? with
      | none =>
        rw[ed] at q3;exact stop (stp i (List.getElem?_eq_none_iff.mp ed)) q3
      | some d =>
        rw[ed] at q3;obtain⟨g1,g2⟩:=go i d ed;refine one d (gj (cP t g Z) w n (i+1)) (λ_ _=>True) g1 g2 q3 ?_;intro j H' μ' M' B Y z1 z2 z3 z4 z5 z6 z7 z8;exact{n,`a,j,H',μ',M',B,z1,z2,z3,z4,z5,z6,z7,z8}
 refine A9 heq hd (λn Y=>∃i,P n i Y) (λn s3 ⟨i,h3⟩=>?_) m0 {0,P0};refine aW (hturn n i s3 h3) λr s1 h=>?_;cases r with
 |none=>exact⟨rfl,h⟩
 |some v=>exact aW h λ_ s2 h=>aW h λ_ s3 h=>aW h λ_ s4 ⟨m,hm,h⟩=>{m,hm,i+1,h}
end
section
variable{prog:Q5}{w:Q4}{A:RL}{s:Qf}{R:Result->Qf->Prop}
def su {j t1 B t2 y:Expr}
 (E:codeAny (model prog w) A (.compLoop (.ListComp j [{t1,B,f1,0},{t2,y,f2,0}] scope pos) 1 it acc env) R s)
 (h:wpAny (model prog w) A (pyIter it) (λu v=>codeAny (model prog w) A (.compLoop (.ListComp j [{t1,B,f1,0},{t2,y,f2,0}] scope pos) 1 u acc env) R v)
  (notedBy (model prog w) A env λx v=>R (.error x) v) s) :
 codeAny (model prog w) A (.compStart (.ListComp j [{t1,B,f1,0},{t2,y,f2,0}] scope pos) 1 it acc env) R s:=by
 refine codeAny_of_tree ?_;refine wpAny_notedAt ?_;refine tqa (wpAny_askSetting (wpAny_ite ?_));split
 ·first
   |exact tqa (tqb (tqb (And.intro rfl E)))
   |exact tqb (And.intro rfl E)
 ·first
   |exact tqa (wpAny_rule (tqa (wpAny_standAt (tqa (wpAny_mono h (λu v z=>tqb (And.intro rfl z)) λ_ _ x=>x)))))
   |(refine tqa (wpAny_rule ?_);show wpAny _ _ (standAt y.pos >>= _) _ _ s;exact tqa (wpAny_standAt (tqa (wpAny_mono h (λu v z=>tqb (And.intro rfl z)) λ_ _ x=>x))))
end
section
variable{fa:Fa}{X:Cx}{a:Addr}
def Lw {y t1 W t2 B:Expr}(hx:X.xe=FF)(F:X.calm=true)(hi:DI fa X t2 B gw)(hg:PG X t2 (gT fa X.K t))(he:DE fa X y ge)
 (hs:∀x,foldedSetIterable B X.env x=pure x) :
 DB fa X (LA fa X.K a) a (slots t) (eval B X.env >>= λx=>standAt B.pos >>= λ_=>foldedSetIterable B X.env x >>= λx=>holding [x] (pyIter x) >>= λj=>runOwn (.compStart (.ListComp y [{t1,W,[],0},{t2,B,[],0}] scope pos) 1 j (.ref a) X.env) X.env >>= λ_=>pure ()) (uy t gw (bg ge)):=by
 intro E s σ H Q μ Z M acc I hE hM hc hA h;obtain⟨w,M1,e,q⟩:=aG h;refine tqa (aW (hi E s σ H (λJ U=>∃u,Ext μ H u U/\RelM fa X.K u U M1/\dD fa X.K u U w J) I {μ,Z,M,hE,hM,?_}) λv s1 h1=>?_)
 ·rw[e];exact λJ U u x1 m1 Y=>⟨u,x1,m1,Y⟩
 refine tqa (wpAny_standAt (tqa (wpAny_of_eq (hs v) (tqa (tqo (aW h1 λitv s2 h2=>?_))))));obtain⟨it,fp,tn,J,H2,ei,I2,T,P,f2,μ2,x2,m2,Y⟩:=h2;subst ei;have go:=qV LA.stab (BX y t1 W t2 B scope pos (.ref it) (.ref a) X.env) ⟨rfl,rfl⟩ hx F T hg (uK he) (λi hi=>nomatch hi) I2 P f2 (hE.ext x2) m2 (by simpa using hc) (LA.stab _ _ _ _ _ x2 hA) Y (aI q λ_ _ z=>z.ext x2.toD)
 refine tqa (wpAny_runOwn ?_);have L:codeAny (model X.prog X.w) (X.A.mark none) (.compLoop (.ListComp y [{t1,W,[],0},{t2,B,[],0}] scope pos) 1 (.ref it) (.ref a) X.env) (λr O=>match r with|.ok f=>wpAny (model X.prog X.w) X.A (pure ():Sem Unit) (λ_ O=>∃S H',Inv X E S H' O/\Q S H') X.xe O|.error e=>cameBackBy (model X.prog X.w) X.A X.env X.xe e O) s2:=
  codeAny_mono go λr O ⟨er,z⟩=>by subst er;exact tqb z
 exact su L (T.self _ 0 _ _ _ P L)
end
section
variable{fa:Fa}{K:Qa}{μ1 μ':Mu}{H1 H':Hp}{M1 M':Mem}{a:Addr}
noncomputable def Kh (μ:Mu)(a:Addr):Mu:={μ.pub,a::μ.priv,μ.ob}
def mP (h:RelM fa K μ1 H1 M1)(j:H1 a=none)(o:HO):ExtW μ1 H1 (Kh μ1 a) (upd H1 a o):=by
 have x:ExtW μ1 H1 μ1 (upd H1 a o):=(Ext.alloc h j).toExtW;refine{x.mu,x.tups,λb u e n=>{(x.lsts b u e n).1,λz=>?_},x.frzs,x.exts,x.obs};rcases z with z|z
 ·exact n (.inl z)
 ·rcases QZ.mp z with z|z
  ·subst z;rw[j] at e;cases e
  ·exact n (.inr z)
def zR (h:RelM fa K μ1 H1 M1)(j:H1 a=none)(vs:List V):RelM fa K (Kh μ1 a) (upd H1 a (.lst vs)) M1:=by
 have x:=mP h j (.lst vs);refine{λk v e=>(h.at' k v e).imp (λ⟨b,u,h1,h2,h3⟩=>{b,u,h1,by rw[aE (a5 h2 j)];exact h2,h3.extW x}) λ⟨b,h1,h2,h3⟩=>{b,h1,h2,h3.extW x (aE (h3.new j))},h.out,h.oout,h.inj,h.oinj,h.sep,λb y=>?_}
 ·rcases QZ.mp y with z|z
  ·subst z;exact{⟨vs,cD⟩,λk e=>by
    obtain⟨_,_,_,q,_⟩:=h.mu_lt e;rw[j] at q;cases q}
  ·obtain⟨⟨u,q⟩,n⟩:=h.pv b z;exact{{u,by rw[aE (a5 q j)];exact q},n}
set_option tactic.hygienic true in
def GI (h:RelM fa K μ1 H1 M1)(ha:H1 a=none)(x:fM a (Kh μ1 a) (upd H1 a (.lst [])) μ' H')(v:RelM fa K μ' H' M')(hH:H' a=some (.lst vs))(hr:aL fa K μ' H' acc vs)
 (q:ae (bf m acc M') (a8 fa K μ1 H1 Q)):Q (.ref a) H':=by
 have U:=λz=>h.pne ha z rfl;have E:=x.pr;have W:∀k,μ'.pub k≠some a:=(v.pv a (by rw[E];exact QB)).2
 have H:=mP h ha (.lst []);have xe:Ext μ1 H1 ⟨μ'.pub,μ1.priv,μ'.ob⟩ H':=by
  refine{{λk b e=>x.mu k b e,λb y e=>x.tups b y (H.tups b y e),λb y e n=>?_,λb ob u e=>x.frzs b ob u (H.frzs b ob u e),λb o i e=>x.exts b o i (H.exts b o i e),λk b e=>x.obs k b (H.obs k b e)},rfl,λb B=>?_}
  ·obtain⟨I,J⟩:=H.lsts b y e n;obtain⟨z3,z4⟩:=x.lsts b y I J;refine{z3,λz=>z4 ?_};rcases z with z|z
   ·exact .inl z
   ·exact .inr (by rw[E];exact Qu _ z)
  ·have nb:b≠a:=λe=>U (by rw[<- e];exact B)
   rw[x.pk b (Qu _ B) nb,aE nb]
 have xw:ExtW μ' H' ⟨μ'.pub,μ1.priv,μ'.ob⟩ H':={λ_ _ e=>e,λ_ _ e=>e,λb y e n=>{e,λz=>n (z.elim .inl λz=>.inr (by rw[E];exact Qu _ z))},λ_ _ _ e=>e,λ_ _ _ e=>e,λ_ _ e=>e}
 have me:RelM fa K ⟨μ'.pub,μ1.priv,μ'.ob⟩ H' M':={λk M e=>(v.at' k M e).imp (λ⟨b,y,h1,h2,h3⟩=>{b,y,h1,h2,h3.extW xw}) λ⟨b,h1,h2,h3⟩=>{b,h1,h2,h3.extW xw rfl},v.out,v.oout,v.inj,v.oinj,v.sep,λb B=>v.pv b (by rw[E];exact Qu _ B)}
 have re:=hr.extW xw;have S:¬ (⟨μ'.pub,μ1.priv,μ'.ob⟩:Mu).Mt a:=λz=>z.elim (λ⟨k,e⟩=>W k e) U;unfold bf at q;split at q
 ·cases m with
  | false =>
    exact q (.ref a) H' _ xe me {a,vs,rfl,⟨hH,S⟩,re}
  | true =>
    have pc:∀k b,(fQ ⟨μ'.pub,μ1.priv,μ'.ob⟩ M'.length a).pub k=some b->(k=M'.length/\b=a)\/(k≠M'.length/\μ'.pub k=some b):=λk b e=>by
     have e:(if k=M'.length then some a else μ'.pub k)=some b:=e;split at e
     ·next z=>cases e;exact .inl ⟨z,rfl⟩
     ·next z=>exact .inr ⟨z,e⟩
    have P:∀k b,μ'.pub k=some b->(fQ ⟨μ'.pub,μ1.priv,μ'.ob⟩ M'.length a).pub k=some b:=λk b e=>by
     show(if k=M'.length then some a else μ'.pub k)=some b;split
     ·next z=>rw[z,v.out _ (Qe _)] at e;cases e
     ·exact e
    have ac:(fQ ⟨μ'.pub,μ1.priv,μ'.ob⟩ M'.length a).pub M'.length=some a:=by
     show(if M'.length=M'.length then some a else _)=some a;rw[if_pos rfl]
    have nc:∀b,¬ μ'.Mt b->¬ (fQ ⟨μ'.pub,μ1.priv,μ'.ob⟩ M'.length a).Mt b:=λb n z=>by
     rcases z with⟨k,z⟩|z
     ·rcases pc k b z with⟨_,e⟩|⟨_,e⟩
      ·exact n (.inr (by rw[E,e];exact QB))
      ·exact n (.inl ⟨k,e⟩)
     ·exact n (.inr (by rw[E];exact Qu _ z))
    have xc:ExtW μ' H' (fQ ⟨μ'.pub,μ1.priv,μ'.ob⟩ M'.length a) H':={P,λ_ _ e=>e,λb y e n=>{e,nc b n},λ_ _ _ e=>e,λ_ _ _ e=>e,λ_ _ e=>e};have Y:Ext μ1 H1 (fQ ⟨μ'.pub,μ1.priv,μ'.ob⟩ M'.length a) H':=by
     refine{{λk b e=>P k b (x.mu k b e),xe.tups,λb y e n=>?_,xe.frzs,xe.exts,xe.obs},rfl,xe.pk};obtain⟨I,J⟩:=H.lsts b y e n;obtain⟨z3,z4⟩:=x.lsts b y I J;exact{z3,nc b z4}
    have R:RelM fa K (fQ ⟨μ'.pub,μ1.priv,μ'.ob⟩ M'.length a) H' (M'++[acc]):=by
     refine{λk M e=>?_,λk F=>?_,λk F=>v.oout k (by simp at F;omega),λj k b e1 e2=>?_,v.oinj,λk b z=>?_,λb B=>?_}
     ·by_cases F:k<M'.length
      ·rw[Qi F] at e;rcases v.at' k M e with⟨b,y,h1,h2,h3⟩|⟨b,h1,h2,h3⟩
       ·exact .inl {b,y,P k b h1,h2,h3.extW xc}
       ·exact .inr {b,h1,by show(if k=M'.length then some a else μ'.pub k)=none;rw[if_neg (QN F)];exact h2,h3.extW xc rfl}
      ·have O:k=M'.length:=by
        have:=(P9.mp e).1;simp at this;omega
       subst O;rw[QO (Qe _)] at e;simp at e;subst e;exact .inl {a,vs,ac,hH,hr.extW xc}
     ·simp at F;show(if k=M'.length then some a else μ'.pub k)=none;rw[if_neg `a]
      exact v.out k `a
     ·rcases pc j b e1 with⟨j1,L⟩|⟨j1,L⟩<;>rcases pc k b e2 with⟨k1,k2⟩|⟨k1,k2⟩
      ·omega
      ·exact absurd (L ▸ k2) (W k)
      ·exact absurd (k2 ▸ L) (W j)
      ·exact v.inj j k b L k2
     ·show μ'.ob (au k)=none;rcases pc k b z with⟨e,_⟩|⟨_,e⟩
      ·rw[e];exact v.oout _ (Qe _)
      ·exact v.sep k b e
     ·have B:=B;obtain⟨I,J⟩:=v.pv b (by rw[E];exact Qu _ B)
      refine{I,λk e=>?_};rcases pc k b e with⟨_,e⟩|⟨_,e⟩
      ·exact U (e ▸ B)
      ·exact J k e
    exact q (.ref a) H' _ Y R ⟨a,rfl,ac⟩
 ·exact q.elim
end
section
variable{fa:Fa}{X:Cx}
def ba (m:Bool)(n:Nat)(t:fX)(j:Env->Mem->Res Walk)(g:Env->List D->Mem->Res (List D)):Env->Mem->Res D:=λh M=>
 (j h M).bind λw M=>(cW (cP t g (List.replicate n none++h)) w [] M).bind (bf m)
def ql (X:Cx)(u B h:Expr)(y:List Expr)(rest:List Sk)(j:Scope)(pos:Pos)(body:Addr->RV->Sem Unit):Prop:=
 ∀(z a:Addr) (env:RV),compTurn (.ListComp u ({B,h,y,0}::rest) j pos) 0 (.ref z) (.ref a) env=(standAt h.pos >>= λ_=>pyNext (.ref z) >>= λr=>match r with
  |none=>pure (.done .next)
  |some v=>letOwnedTupleGo B (.ref z) v >>= λ_=>assign B env v >>= λ_=>body a env >>= λ_=>again (.compLoop (.ListComp u ({B,h,y,0}::rest) j pos) 0 (.ref z) (.ref a) env))
structure Block (fa:Fa) (X:Cx) (A:Addr->PA) (own bn:List Str) (scope:Scope) (tg:Expr) (t:fX) (W:List Nat) (body:Addr->RV->Sem Unit) (g:Env->List D->Mem->Res (List D)):Prop where
 pg:∀cl C fp s H,PG (f9 X own bn scope cl C fp s H) tg (gT fa X.K t)
 db:∀cl C fp s H a,DB fa (f9 X own bn scope cl C fp s H) (A a) a W (body a (compEnvC scope cl C X.env)) g
def rZ (h:∀i∈W,i<n):Clear W (List.replicate n none++Z):=λi j d e=>by
 rw[Qi (by simpa using h i j),Sj] at e
 simp[h i j] at e
def tK {K:Qa}(n:Nat)(h:bw fa K μ H σ Z):bw fa K μ H (List.replicate n none++σ) (List.replicate n none++Z):=by
 refine{by simp[h.len],λi d e=>?_}
 by_cases j:i<n
 ·rw[Qi (by simpa using j),Sj] at e
  simp[j] at e
 ·rw[QO `o] at e ⊢
  simp only[List.length_replicate] at e ⊢;exact h.at' _ d e
def pZ {rest:List Sk}
 (S:fN X own bn scope) (R:X.calm=true) (hi:DI fa X tg iter gw) (B:Block fa X (LA fa X.K) own bn scope tg t W body g) (hT:ql X elt tg iter ifs rest scope pos body) (hW:∀i∈W,i∉slots t) (hn:∀i∈slots t++W,i<own.length)
 (hs:∀x,foldedSetIterable iter X.env x=pure x)
 (I:Inv X pins σ H s) (hE:bw fa X.K μ H σ Z) (hM:RelM fa X.K μ H M) (h:ae (ba m own.length t gw g Z M) (a8 fa X.K μ H Q))
 (post:∀(a C:Addr) (s':Qf) (H':Hp),Inv X pins σ H' s'->Q (.ref a) H'->(∃m,s'.heap.Ns C m)->(∀σ2 E s2,Inv X pins σ2 E s2->(H' C=none->E C=none)->E C=none/\∀P,RY C s2.heap P->Inv X pins σ2 E {s2 with heap:=P})->H' C=none->(C≠X.env.locals/\∀x c,X.env.cells.lookup x=some c->c≠C)->compPost (model X.prog X.w) X.A X.xe use QQ (.ref a) C (.ok .next) s') :
 wpAny (model X.prog X.w) X.A (comprehension (.ListComp elt ({tg,iter,ifs,0}::rest) scope pos) scope X.env p0 (newList []) false (eval iter X.env) use) QQ X.xe s:=by
 obtain⟨w,M1,ew,q⟩:=aG h;obtain⟨acc,M2,ea,q2⟩:=aG q;obtain⟨cl,hcl,O,L⟩:=p8 λy hy hf=>I.ok.has y.1 (S.free y hy hf);refine wpAny_comprehension_free rfl hs hcl S.kind S.loc ?_;refine aW (hi pins s σ H (λJ H1=>∃μ1,Ext μ H μ1 H1/\RelM fa X.K μ1 H1 M1/\dD fa X.K μ1 H1 w J) I {μ,Z,M,hE,hM,?_}) λv s1 h1=>aW h1 λitv s2 h2=>?_
 ·rw[ew];exact λJ H1 μ1 x1 m1 wk=>⟨μ1,x1,m1,wk⟩
 obtain⟨it,fp,tn,J,E,ei,I2,T,st2,f2,μ2,x2,m2,wk⟩:=h2;subst ei;refine wpAny_newObj_type ?_;have ha:=I2.hok.fresh (Qe _);have I3:Inv X pins σ (upd E s2.heap.objs.size (.lst [])) {s2 with heap:=s2.heap.push {cls:=.type "list",dict:=none,data:=.seq ([]:List Qb).toArray}}:=
  I2.laid (λb o e=>Qd _ e) (Qe _) {Rv _,[],_,.nil,QA _ rfl}
 generalize hs3:({s2 with heap:=s2.heap.push {cls:=.type "list",dict:=none,data:=.seq ([]:List Qb).toArray}}:Qf)=s3 at I3 ⊢
 have k3:∀b o,s2.heap.get? b=some o->s3.heap.get? b=some o:=λb o e=>by rw[<- hs3];exact Qd _ e
 have fo2:=T.obj _ _ st2;have f3:∀b∈fp,fK X pins (upd E s2.heap.objs.size (.lst [])) b:=λb u=>by
  obtain⟨o,e,_⟩:=fo2 b u;exact{by rw[aE (QN (Qz e))];exact(f2 b u).1,(f2 b u).2}
 have fo3:∀b∈fp,∃o,s3.heap.get? b=some o:=λb u=>let{o,e,_}:=fo2 b u;{o,k3 b o e}
 obtain⟨CL,U⟩:=Fe S O L (s3.heap.push {cls:=.type "dict",data:=.dict #[]}) (R6 ..);generalize F:cellsFrom (s3.heap.objs.size+1) scope.names cl=cl' at CL U;refine rT ?_;rw[F];have j:(pushCells (s3.heap.push {cls:=.type "dict",data:=.dict #[]}) scope.names).Ns s3.heap.objs.size (λ_=>none):=(Heap.Ns.new s3.heap (.type "dict")).keeps (pushCells_keeps _ _);have k4:∀b o,s3.heap.get? b=some o->(pushCells (s3.heap.push {cls:=.type "dict",data:=.dict #[]}) scope.names).get? b=some o:=λb o e=>pushCells_keeps _ _ b o (Qd _ e);generalize pushCells (s3.heap.push {cls:=.type "dict",data:=.dict #[]}) scope.names=h₁ at j k4 U ⊢;clear hcl F O L cl
 rename List (Str×Addr)=>cl
 have I4:=uO (t':=s3.toks) I3 S CL f3 fo3 j k4 U;have Y:=I4.ok;have f4:∀b∈fp,fK (f9 X own bn scope cl s3.heap.objs.size fp s3 (upd E s2.heap.objs.size (.lst []))) [] (upd E s2.heap.objs.size (.lst [])) b:=λb u=>
  {(f3 b u).1,(Y.exf b u).1,Y.exfs b u,.inl u,(Y.exf b u).2,λp hp=>nomatch hp}
 have st4:=T.keep _ _ _ st2 λb u o e=>k4 b o (k3 b o e);have x3:=mP m2 ha (.lst []);have go:=qV LA.stab (X:=f9 X own bn scope cl s3.heap.objs.size fp s3 (upd E s2.heap.objs.size (.lst []))) (acc:=[]) (hT it s2.heap.objs.size _) ⟨rfl,rfl⟩ rfl R T (B.pg _ _ _ _ _) (B.db _ _ _ _ _ _) hW I4 st4 f4
  (tK own.length ((hE.ext x2).extW x3)) (zR m2 ha []) (rZ hn) {QB,_,cD,rfl} (rh wk x3) (by
   rw[ea];rintro σ' H' μ' z1 z2 z3 ⟨_,vs',z4,z5⟩;exact GI m2 ha z1 z3 z4 z5 (kr q2 x2))
 have go':codeAny (model X.prog X.w) X.A (.compLoop (.ListComp elt ({tg,iter,ifs,0}::rest) scope pos) 0 (.ref it) (.ref s2.heap.objs.size) (compEnvC scope cl s3.heap.objs.size X.env)) (compPost (model X.prog X.w) X.A X.xe use QQ (.ref s2.heap.objs.size) s3.heap.objs.size) {s3 with heap:=h₁}:=
  codeAny_mono go λr s' ⟨er,σ',H',I',z⟩=>by
   subst er;refine post _ _ s' H' (comp_back I3 f3 I') z (let{m,hn,_}:=I'.loc;⟨m,hn⟩) (λσ2 E s2' I2' hf=>{hf I'.free,λP hs''=>rX I3 (hf I'.free) I2' hs''}) I'.free {Rj I3.lt,λx c e z=>by
    obtain⟨v,q⟩:=I3.cell x c e;exact absurd q.lt (by rw[z];exact Rz _)}
 exact codeAny_compStart_list go' (T.self _ 0 _ _ _ st4 go')
def LF (m:Bool){v z j:Expr}{rest:List Sk}
 (S:fN X own bn scope) (u:X.calm=true) (hi:DI fa X z j gw) (B:Block fa X (LA fa X.K) own bn scope z t W body g) (R:ql X v z j ifs rest scope pos body) (U:∀i∈W,i∉slots t) (hn:∀i∈slots t++W,i<own.length)
 (hs:∀x,foldedSetIterable j X.env x=pure x):DE fa X (.ListComp v ({z,j,ifs,0}::rest) scope pos) (ba m own.length t gw g):=by
 intro F s σ H Q I ⟨μ,Z,M,O,P,h⟩;rw[eval_ListComp];refine pZ S u hi B R U hn hs I O P h ?_;intro a C Y H' J q ⟨m,hn⟩ y hf _;exact{m,hn,λL E=>{.ref a,H',(y σ H' Y J id).2 L E,rfl,q}}
def xZ (m:Bool){y:Str}{rest:List Sk}
 (S:fN X own bn scope) (j:X.calm=true) (hi:DI fa X tg iter gw) (B:Block fa X (LA fa X.K) own bn scope tg t W body g) (hT:ql X elt tg iter ifs rest scope pos body) (hW:∀i∈W,i∉slots t) (hn:∀i∈slots t++W,i<own.length)
 (hs:∀x,foldedSetIterable iter X.env x=pure x) (hN:X.N.Nodup) (hy:X.N[i]?=some y) (hl:X.env.scope.names.lookup y=some .local)
 (J:swapsWith (.ListComp elt ({tg,iter,ifs,0}::rest) scope pos) (some (.Name y py)) spos.line X.env=pure true) :
 DS fa X (.Assign [.Name y py] (.ListComp elt ({tg,iter,ifs,0}::rest) scope pos) spos) (λZ M=>(ba m own.length t gw g Z M).bind λx M=>(cf M (bT (.one i) x Z)).bind λL M=>.ok (.next L) M):=by
 intro P s σ H D' I ⟨μ,Z,M,O,hM,h⟩;obtain⟨x,M1,ex,q⟩:=aG h;rw[exec_Assign_Name_used _ _ _ _ J];refine tqa (wpAny_standAt (tqa ?_));refine tqa (aW (pZ S j hi B hT hW hn hs I O hM (by
  rw[ex];exact λv H' μ' Q m1 r1=>q _ H' μ' Q ((O.ext Q).set r1) m1) ?_) λ_ s' hq=>tqb (tqb hq))
 intro a C s' H' R q ⟨m,hn⟩ u hf ⟨nL,nC⟩;refine wpAny_assign_Name (rB R hN hy (.inl hl) (v:=.ref a) rfl (λs2 U ⟨b,hb,E⟩=>?_) (.inr hl));have nb:C≠b:=by
  rcases E with z|z
  ·rw[z];exact nL
  ·exact Rf (nC y b z)
 exact{m,hn.sameBut hb nb,λY F=>{_,H',(u _ H' s2 U id).2 Y F,q}}
end
section
variable{X:Cx}{pins:List (Addr×Obj)}{σ:L2.St}{H:Hp}{s:Qf}{h':Heap}{t':Nat}{ch:List Addr}
def vu (I:Inv X pins σ H s)(j:∀b∈ch,fK X pins H b)(k:∀b o,b∉ch->s.heap.get? b=some o->h'.get? b=some o):Inv X pins σ H {s with heap:=h',toks:=t'}:=by
 have y:∀b u,H b=some u->b∉ch:=λb u e z=>by rw[(j b z).1] at e;cases e
 refine I.step (λb B=>{(j b B).2.2.2.1,(j b B).2.1,(j b B).2.2.2.2.1,(j b B).2.2.2.2.2}) (λb o _ _ h e _=>k b o h e) (λb o _ _ h e _=>{o.slots,k b o h e}) (λ_ _ _ _ n=>n)
  (λb o h e=>{o,k b o h e}) (λ_ _ e=>e) (λ_ _ _ e=>e) (λb ps e=>{#[],by rw[e];simp}) (λm hm=>?_) (λb u e=>?_) I.bare
 ·obtain⟨o,F,E,ho,r⟩:=hm;exact{o,F,E,k _ o (λz=>(j _ z).2.1 rfl) ho,r}
 ·refine(I.hok b u e).stay (λc v h q=>k c v ?_ q) (λ_ q=>q) λ_ _ q=>q;rcases h with z|z
  ·rw[z];exact y b u e
  ·exact y c _ z
def rj (I:Inv X pins σ H s)(y:∀b∈ch,fK X pins H b)(k:∀b o,b∉ch->s.heap.get? b=some o->h'.get? b=some o)(E:s.heap.objs.size<=T)(new:cV X.prog X.w (upd H T o) h' T o) :
 Inv X pins σ (upd H T o) {s with heap:=h',toks:=t'}:=by
 have hn:=I.hok.fresh E;have B:∀b u,H b=some u->b∉ch:=λb u e z=>by rw[(y b z).1] at e;cases e
 refine I.step (λb h=>{(y b h).2.2.2.1,(y b h).2.1,(y b h).2.2.2.2.1,(y b h).2.2.2.2.2}) (λb o _ _ j e _=>k b o j e) (λb o _ _ j e _=>{o.slots,k b o j e})
  (λb o _ e n=>by rw[aE (QN (QE (Qz e) E))];exact n)
  (λb o j e=>{o,k b o j e}) (λb xs e=>by rw[aE (a5 e hn)];exact e) (λb ob u e=>by rw[aE (a5 e hn)];exact e) (λb ps e=>{#[],by rw[aE (a5 e hn),e];simp}) (λm hm=>?_) (λb u e=>?_) I.bare
 ·obtain⟨o,J,F,ho,r⟩:=hm;exact{o,J,F,k _ o (λz=>(y _ z).2.1 rfl) ho,r}
 ·by_cases h:b=T
  ·subst h;rw[cD] at e;cases e;exact new
  ·rw[aE h] at e;refine(I.hok b u e).stay (λc v j q=>k c v ?_ q) (λc q=>by rw[aE (a5 q hn)];exact q) λc xs q=>by rw[aE (a5 q hn)];exact q
   rcases j with z|z
   ·rw[z];exact B b u e
   ·exact B c _ z
end
section
variable{fa:Fa}{X:Cx}{a:Expr}{ga:Env->Mem->Res D}{pos p:Pos}
def mT:∀(ds:List D) (k i:Nat),(fy k ds)[i]?=(ds[i]?).map λd=>.tup [.int ((k+i:Nat):Int),d]
 |[],_,_=>by simp[fy]
 |d::ds,k,0=>by simp[fy]
 | d :: ds, k, i + 1 => by
   have:=mT ds (k+1) i;simp only[fy,List.getElem?_cons_succ,this]
   congr 1
   funext d
   congr 3
   omega
def mS:∀(ds:List D) (k:Nat),(fy k ds).length=ds.length
 |[],_=>rfl
 |d::ds,k=>by simp[fy,mS ds]
end
def cb:Bool->Heap->Addr->Array Qb->Prop
 |true,h,a,j=>h.IsList a j
 |false,h,a,j=>h.IsTuple a j
def fi:Bool->Heap->Addr->Addr->Nat->Prop
 |true,h,j,a,i=>h.IsListIter j a i
 |false,h,j,a,i=>h.IsTupleIter j a i
def cb.extBut (x:cb b h a its)(hs:Heap.ExtBut c h h')(n:a≠c):cb b h' a its:=by
 cases b<;>(obtain⟨o,ho,r⟩:=x;exact{o,hs a o n ho,r})
def fi.extBut (x:fi b h it a i)(hs:Heap.ExtBut c h h')(n:it≠c):fi b h' it a i:=by
 cases b<;>(obtain⟨o,ho,r⟩:=x;exact{o,hs it o n ho,r})
def cb.at (x:cb b h a its)(k:∀o,h.get? a=some o->h'.get? a=some o):cb b h' a its:=by
 cases b<;>(obtain⟨o,ho,r⟩:=x;exact{o,k o ho,r})
def fi.at (x:fi b h it a i)(k:∀o,h.get? it=some o->h'.get? it=some o):fi b h' it a i:=by
 cases b<;>(obtain⟨o,ho,r⟩:=x;exact{o,k o ho,r})
def fi.obj (x:fi b h it a i):∃o,h.get? it=some o/\∀v,o.data≠.cell v:=by
 cases b<;>(obtain⟨o,ho,c,d⟩:=x;exact{o,ho,λv z=>by rw[d] at z;cases z})
section
variable{prog:Q5}{w:Q4}{A:RL}{E:Qb->Qf->Prop}{s:Qf}
def va {a b:Nat}(h:a≠b):@Ne Addr a b:=h
def Iy {T:Addr}{j:Array Qb}{k:Nat}{x:Qb}{Q:Unit->Qf->Prop}(u:s.heap.get? T=some {cls:=.type "tuple",data:=.seq j})(hz:j.size<=64)
 (h:∀h',h'.get? T=some {cls:=.type "tuple",data:=.seq (j.setIfInBounds k x)}->RY T s.heap h'->Q () {s with heap:=h'}) :
 wpAny (model prog w) A (updateSeq T (·.setIfInBounds k x)) Q E s:=by
 refine wpAny_updateSeq u rfl (h _ ?_ (RD ..)) (Qo hz `d) (by rw[Array.size_setIfInBounds];exact Qo hz `d)
 rw[Ra _ u rfl];simp[Obj.mapSeq]
def iT {b:Bool}{v a:Addr}{i:Nat}{j:Array Qb}{Q:Qb->Qf->Prop}(hh:A.handled=none)(h:fi b s.heap v a i)(hl:cb b s.heap a j)
 (H:∀x h',j[i]?=some x->fi b h' v a (i+1)->RY v s.heap h'->Q x {s with heap:=h'})
 (B:j[i]?=none->∀h' e,Heap.ExtBut v s.heap h'->(∃o,h'.get? e=some o/\o.cls=.type "StopIteration")->E (.ref e) {s with heap:=h'}):wpAny (model prog w) A (Builtin.SmallTypes.nextOf (.ref v)) Q E s:=by
 cases b with
 | true => cases u : j[i]? with
   |some x=>exact wpAny_nextOf_list_item h hl u λh'=>H x h' u
   |none=>exact wpAny_nextOf_list_end hh h hl u (B u)
 | false =>
   obtain⟨o,ho,I,hd⟩:=id h;obtain⟨J,z,_,nl,y⟩:=hl;refine tqa (wpAny_callSpecial?_slot h.typeIs F.slot_tuple_iterator_next
    (wpAny_call_entry F.slot_tuple_iterator_next h.typeIs F.entry_tuple_iterator_next ?_ (F.args_tuple_iterator_next_1 _)))
   show wpAny _ _ (field (.ref v) 0 >>= _) _ _ s;refine tqa (tqf ho hd rfl ?_);show wpAny _ _ (if (Value.ref a==Value.none)=true then _ else _) _ _ s;rw[if_neg (show ¬ ((Value.ref a==Value.none)=true) from QF)];refine tqa (tqf ho hd rfl ?_);refine tqa (wpAny_seqItems z y ?_);cases u:j[i]? with
   | some x =>
     simp only[RO,u];refine tqa (wpAny_setField ho hd `s (tqb {x,rfl,tqb (H x _ u ?_ (RD ..))}))
     exact{_,Ra _ ho (Su (RS hd _)),(Obj.cls_mapFields ..).trans I,by
      rw[RS hd];simp[rawInt]}
   | none =>
     simp only[RO,u];refine tqa (wpAny_rule (tqa (wpAny_setField ho hd `s ?_)))
     refine tqa ?_;refine tqa (wpAny_newObj_type ?_ (by size_fits))
     refine tqa (wpAny_of_eq (by first|rfl|(simp only[firstArgMember];rfl)) ?_)
     refine wpAny_newObj_type ?_ (by size_fits)
     refine tqa (wpAny_handled ?_);first|rw[show A.in1.handled=none from hh]|rw[hh]
     refine tqa (tqb (wpAny_throw ?_));exact B u _ _ (((RD ..).extBut.push _).push _) {_,QA _ rfl,rfl}
noncomputable abbrev jj (us:Array Qb):Obj:={cls:=.type "tuple",data:=.seq us}
noncomputable def qv (n k j:Nat):List Qb:=(List.range' k j).map λk=>Value.ref (n+k)
def yo (n m:Nat)(h h':Heap):Prop:=∀(c:Nat) o,(c<n\/c=n+m\/n+m+2<c)->h.get? c=some o->h'.get? c=some o
def yw (n i k:Nat)(l:List (Bool×Nat))(h:Heap):Prop:=∀(j:Nat) b a,l[j]?=some (b,a)->fi b h (n+j) a (if j<k then i+1 else i)
def LY (n:Nat)(l:List (Bool×Nat))(xs:Nat->Array Qb)(h:Heap):Prop:=∀(j:Nat) b a,l[j]?=some (b,a)->a<n/\cb b h a (xs j)
abbrev qk (h:Heap)(n m:Nat)(v:Qb):Prop:=IsZip h (n+m+2) (n+m) (n+m+1) v
def PC (n m i k:Nat)(l:List (Bool×Nat))(xs:Nat->Array Qb)(v h:Heap):Prop:=qk h n m .ellipsis/\(∃u:Array Qb,u.size=m/\(∀j<k,u[j]?=(xs j)[i]?)/\h.get? (n+m+1)=some (jj u))/\yw n i k l h/\LY n l xs h/\yo n m v h/\h.objs.size=v.objs.size
def Ex {M:Model}{u:Type}{f:Qb×Nat->u->Sem (ForInStep u)}{b:u}{Q:u->Qf->Prop}(n m:Nat)(I:Nat->Qf->Prop)
 (hs:∀k s,k<m->I k s->wpAny M A (f (.ref (n+k),k) b) (λr v=>r=.yield b/\I (k+1) v) E s) (y:∀s,I m s->Q b s):∀(j k:Nat) (s:Qf),k+j=m->I k s->wpAny M A (forIn ((qv n k j).zipIdx k) b f) Q E s
 |0,k,s,e,h=>tqb (y s (e ▸ h))
 | j + 1, k, s, e, h => by
   show wpAny M A (forIn ((Value.ref (n+k),k)::(qv n (k+1) j).zipIdx (k+1)) b f) Q E s;rw[List.forIn_cons];refine tqa (aW (hs k s `a h) ?_)
   rintro _ v ⟨rfl,z⟩;exact Ex n m I hs y j (k+1) v `a z
def sQ {n m i:Nat}{l:List (Bool×Nat)}{xs:Nat->Array Qb}{us:Array Qb}{Q:Qb->Qf->Prop}(hh:A.handled=none)(hl:l.length=m+1)(h64:m<64)
 (hz:qk s.heap n (m+1) .none) (hTI:s.heap.get? (n+(m+1))=some (jj (qv n 0 (m+1)).toArray)) (hTO:s.heap.get? (n+(m+1)+1)=some (jj us)) (S:us.size=m+1) (hi:yw n i 0 l s.heap) (F:LY n l xs s.heap)
 (hQ:∀h' us,us.size=m+1->(∀k<m+1,us[k]?=(xs k)[i]?)->qk h' n (m+1) (rawInt s.heap.objs.size)->h'.get? (n+(m+1)+1)=some (jj us)->yw n (i+1) 0 l h'->h'.get? s.heap.objs.size=some (jj us)->yo n (m+1) s.heap h'->Q (.ref s.heap.objs.size) {s with heap:=h'})
 (hE:∀h' e k,k<m+1->(xs k)[i]?=none->yo n (m+1) s.heap h'->(∃o,h'.get? e=some o/\o.cls=.type "StopIteration")->E (.ref e) {s with heap:=h'}) :
 wpAny (model prog w) A (Builtin.«zip.__next__» {[.ref (n+(m+1)+2)],[]}) (λfin s'=>∃v,fin=.done (.ret v)/\Q v s') E s:=by
 show wpAny _ _ (field (.ref (n+(m+1)+2)) 2 >>= _) _ _ _;refine tqa (tqf hz rfl rfl ?_);refine tqa (tqf hz rfl rfl ?_);refine tqa (wpAny_seqItems hTI rfl ?_);refine tqa ?_;refine tqa (tqf hz rfl rfl (tqb ?_));refine tqa (wpAny_rule ?_);refine tqa (tqf hz rfl rfl ?_);refine tqa (wpAny_setField_rec hz `s λh0 hz0 R=>?_)
 have u0:∀(c:Nat) o,c≠n+(m+1)+2->s.heap.get? c=some o->h0.get? c=some o:=λc o ne=>R.extBut c o ne;have mm:∀{j b a},l[j]?=some (b,a)->j<m+1:=λe=>hl ▸ (P9.mp e).1;refine tqa (Ex n (m+1) (λk s'=>∃h,s'={s with heap:=h}/\PC n (m+1) i k l xs s.heap h) ?_ ?_ (m+1) 0 _ (Nat.zero_add _) {h0,rfl,hz0,{us,S,λ_ z=>absurd z (Ry _),u0 _ _ `a hTO},λj b a e=>(hi j b a e).at λo=>u0 _ o (by have:=mm e;omega),λj b a e=>{(F j b a e).1,(F j b a e).2.at λo=>u0 _ o (by have:=(F j b a e).1;omega)},λc o J=>u0 c o `a,R.1})
 ·rintro k _ hk ⟨h,rfl,hz,⟨us,S,hx,hT⟩,hi,F,kp,sz⟩;obtain⟨⟨b,a⟩,e⟩:∃p,l[k]?=some p:={_,Qq `a}
  have it:=hi k b a e;rw[if_neg (Rz k)] at it;refine tqa (wpAny_onRaise ?_);refine tqa (iT hh it (F k b a e).2 (λx h1 ex j1 u=>tqb ?_) λen h1 e1 u ⟨oe,I,P⟩=>?_)
  ·have M:=u.extBut _ _ (va `a) hT
   refine tqa (wpAny_seqItems M rfl ?_);refine tqa (Iy M `a λh2 hT2 B=>?_)
   have H:∀(c:Nat) o,c≠n+k->c≠n+(m+1)+1->h.get? c=some o->h2.get? c=some o:=λc o x y z=>B.extBut c o y (u.extBut c o x z);refine tqa (wpAny_letGo (tqb {rfl,h2,rfl,H _ _ `a `a hz,{_,(Array.size_setIfInBounds ..).trans S,λj hj=>?_,hT2},λj b' a' L=>?_,λj b a e=>{(F j b a e).1,(F j b a e).2.at λo=>H _ o (by have:=(F j b a e).1;omega) (by have:=(F j b a e).1;omega)},λc o J x=>H c o `a `a (kp c o J x),by rw[B.1,u.1,sz]}))
   ·by_cases jk:j=k
    ·subst jk;rw[Array.getElem?_setIfInBounds_self_of_lt `a,ex]
    ·rw[Array.getElem?_setIfInBounds_ne (Rf jk),hx j `a]
   ·by_cases jk:j=k
    ·subst jk;cases e.symm.trans L;rw[if_pos (Nat.lt_succ_self _)];exact j1.at λo=>B.extBut _ o (va `a)
    ·have q:=hi j b' a' L;have:=mm L;rw[show(if j<k+1 then i+1 else i)=if j<k then i+1 else i by split<;>split<;>omega]
     exact q.at λo=>H _ o `a `a
  ·have U:=u _ _ (va `a) hz
   have hez:e1≠n+(m+1)+2:=λx=>by subst x;rw[U] at I;cases I;simp at P
   exact wpAny_setField_rec U `s λh2 _ B=>hE h2 e1 k hk en (λc o J x=>B.extBut _ _ (va `a) (u _ _ (va `a) (kp c o J x))) {oe,B.extBut _ _ hez I,P}
 ·rintro _ ⟨h4,rfl,W,⟨us,S,hx,hT⟩,hi,F,kp,sz4⟩;refine tqa (wpAny_seqItems hT rfl ?_);refine tqa (wpAny_newTuple (hsz:=Qo (show us.toList.length<=64 by rw[Si];omega) `d) ?_)
  have Y:=Qz W;refine tqa ?_;have hz6:qk (h4.push (jj us)) n (m+1) .ellipsis:=Qd _ W;refine tqa (wpAny_setField_rec hz6 `s λh7 hz7 hs7=>?_)
  refine wpAny_setField_rec hz7 `s λh8 X hs8=>?_
  have H:∀(c:Nat) o,c≠n+(m+1)+2->(h4.push (jj us)).get? c=some o->h8.get? c=some o:=λc o c1 e=>hs8.extBut _ _ c1 (hs7.extBut _ _ c1 e);refine tqb {_,rfl,?_};have O:=H h4.objs.size _ (Rj Y) (QA _ rfl);rw[sz4] at O X ⊢;refine hQ h8 us S hx X (H _ _ `a (Qd _ hT)) (λj b a e=>?_) O λc o J e=>H c o `a (Qd _ (kp c o J e))
  have q:=hi j b a e;rw[if_pos (mm e)] at q;exact q.at λo L=>H _ o (by have:=mm e;omega) (Qd _ L)
end
def iI (K:Qa)(H:Hp):Bool->Addr->List V->Prop
 |true,a,xs=>dB K H a xs
 |false,a,xs=>dG K H a xs
noncomputable def ix:D->Bool
 |.tup _=>false
 |_=>true
noncomputable def gm:D->Bool
 |.tup _=>true
 |.lst _=>true
 |.frz _=>true
 |.cell _=>true
 |_=>false
def ny {X:Cx}{u:List (Addr×Obj)}{v:L2.St}{H:Hp}{s:Qf}{b:Bool}{a:Addr}{xs:List V}(I:Inv X u v H s)(h:iI X.K H b a xs):∃j:List Qb,Vals xs j/\cb b s.heap a j.toArray:=by
 cases b with
 |true=>obtain⟨j,r,p,_⟩:=I.list h;exact⟨j,r,p.isList⟩
 |false=>obtain⟨j,r,p,_⟩:=I.tuple h;exact⟨j,r,p⟩
def lh {X:Cx}{j:List (Addr×Obj)}{u:L2.St}{H:Hp}{s:Qf}{b:Bool}{a:Addr}{xs ys:List V}(I:Inv X j u H s)(h:iI X.K H b a xs)(h':iI X.K H b a ys):xs=ys:=by
 cases b with
 |true=>exact I.list_inj h h'
 |false=>exact I.tuple_inj h h'
def lg {fa:Fa}{X:Cx}{μ:Mu}{H:Hp}{M:Mem}{d:D}{a:Addr}{ds:List D}(v:RelM fa X.K μ H M)(h:Rep fa X.K μ H d (.ref a))(e:cE M d=some ds):∃vs,iI X.K H (ix d) a vs/\aL fa X.K μ H ds vs:=by
 cases d with
 |tup xs=>cases e;obtain⟨u,vs,e,s,r⟩:=h;cases e;exact⟨vs,s,r⟩
 |lst xs=>obtain⟨u,vs,j,s,r⟩:=bL v h (e);cases j;exact⟨vs,s,r⟩
 |frz xs=>obtain⟨u,vs,j,s,r⟩:=bL v h (e);cases j;exact⟨vs,s,r⟩
 |cell k=>obtain⟨u,vs,j,s,r⟩:=bL v h (e);cases j;exact⟨vs,s,r⟩
 |_=>cases e
def oH {fa:Fa}{X:Cx}{y:List (Addr×Obj)}{O:L2.St}{μ:Mu}{H:Hp}{s:Qf}{M:Mem}{d:D}{v:V}(I:Inv X y O H s)(F:RelM fa X.K μ H M)(h:Rep fa X.K μ H d v)(e:gm d=true):∃(a:Nat) (j:Array Qb),v=.ref a/\cb (ix d) s.heap a j:=by
 have u:∀B,cE M d=some B->∃(a:Nat) (j:Array Qb),v=.ref a/\cb (ix d) s.heap a j:=λB z=>by
  obtain⟨a,L,rfl,_,_⟩:=jn F h z;obtain⟨L,s1,_⟩:=lg F h z;obtain⟨j,_,p⟩:=ny I s1;exact⟨a,j.toArray,rfl,p⟩
 cases d with
 |tup xs=>exact u xs rfl
 |lst xs=>exact u xs rfl
 |frz xs=>exact u xs rfl
 | cell k =>
   obtain⟨a,e,J⟩:=id h;obtain⟨B,_,z,_⟩:=F.mu_lt J;exact u B z
 |_=>cases e
def cb.lt {b:Bool}{h:Heap}{a:Addr}{j:Array Qb}(x:cb b h a j):a<h.objs.size:=by
 cases b<;>(obtain⟨o,ho,r⟩:=x;exact Qz ho)
def cb.push {b:Bool}{h:Heap}{a:Addr}{j:Array Qb}(x:cb b h a j)(ob:Obj):cb b (h.push ob) a j:=by
 cases b<;>(obtain⟨o,ho,r⟩:=x;exact{o,Qd _ ho,r})
noncomputable def fR (b:Bool)(a:Addr):Obj:={cls:=.type (if b then "list_iterator" else "tuple_iterator"),data:=.fields #[.ref a,.int 0 0]}
def fi.new {b:Bool}{h:Heap}{j a:Addr}(e:h.get? j=some (fR b a)):fi b h j a 0:=by
 cases b<;>exact{_,e,rfl,rfl}
def pD {prog:Q5}{w:Q4}{A:RL}{E:Qb->Qf->Prop}{s:Qf}{b:Bool}{a:Addr}{j:Array Qb}{Q:Qb->Qf->Prop}(h:cb b s.heap a j)(u:Q (.ref s.heap.objs.size) {s with heap:=s.heap.push (fR b a)}):wpAny (model prog w) A (pyIter (.ref a)) Q E s:=by
 cases b with
 |true=>exact wpAny_pyIter_list h u
 |false=>exact wpAny_pyIter_tuple h u
abbrev jH:=List (Bool×Nat)
def L4 (K:Qa)(l:jH):It:=
 {λi H => ∀ (j : Nat) b a, l[j]? = some (b, a) -> ∃ xs x, iI K H b a xs /\ xs[i]? = some x,
  λi H v u=>∃p h,H p=none/\v=.ref p/\u=upd H p (.tup h)/\h.length=l.length/\∀(j:Nat) b a,l[j]?=some (b,a)->∀xs,iI K H b a xs->h[j]?=xs[i]?,
  λi H=>(∀(j:Nat) b a,l[j]?=some (b,a)->∃xs,iI K H b a xs)/\∃(j:Nat) (b:Bool) (a:Nat) (xs:List V),l[j]?=some (b,a)/\iI K H b a xs/\xs.length<=i}
def yn (n m:Nat)(l:jH)(i:Nat)(h:Heap):Prop:=qk h n (m+1) .none/\h.get? (n+(m+1))=some (jj (qv n 0 (m+1)).toArray)/\(∃j:Array Qb,j.size=m+1/\h.get? (n+(m+1)+1)=some (jj j))/\yw n i 0 l h
noncomputable def Ig (n m:Nat):List Addr:=List.range' n (m+4)
def dZ {n m b:Nat}:b∈Ig n m↔n<=b/\b<n+(m+4):=List.mem_range'_1
def Eg {X:Cx}{u:List (Addr×Obj)}{F:L2.St}{H:Hp}{s:Qf}{l:jH}(I:Inv X u F H s)(h:∀(j:Nat) b a,l[j]?=some (b,a)->∃xs,iI X.K H b a xs) :
 ∃(vs:Nat->List V) (ws:Nat->List Qb),∀(j:Nat) b a,l[j]?=some (b,a)->iI X.K H b a (vs j)/\Vals (vs j) (ws j)/\cb b s.heap a (ws j).toArray:=by
 obtain⟨f,B⟩:=Classical.skolem.mp λj:Nat=>show ∃p:List V×List Qb,∀b a,l[j]?=some (b,a)->iI X.K H b a p.1/\Vals p.1 p.2/\cb b s.heap a p.2.toArray from by
  cases e:l[j]? with
  |none=>exact{([],[]),λ_ _ z=>by cases z}
  | some p =>
    obtain⟨xs,y⟩:=h j p.1 p.2 e;obtain⟨v,r,q⟩:=ny I y;exact{(xs,v),λL J z=>by cases z;exact⟨y,r,q⟩}
 exact{λj=>(f j).1,λj=>(f j).2,B}
def DZ:∀{us:List Qb}{R:Nat->V->Prop},(∀(k:Nat) w,us[k]?=some w->∃y,RelV y w/\R k y)->∃ys,Vals ys us/\∀(k:Nat) y,ys[k]?=some y->R k y
 |[],R,_=>{[],.nil,λ_ _ z=>by simp at z}
 | w :: r, R, h => by
   obtain⟨y,e,q⟩:=h 0 w rfl;obtain⟨ys,v,t⟩:=DZ λk w e=>h (k+1) w e;exact{y::ys,.cons e v,λk z e=>match k,e with
    |0,e=>by cases e;exact q
    |k+1,e=>t k z e}
def BV {P:Q5}{w:Q4}{K:Qa}{O:List Expr}{kk:Nat}{pos:Pos}(n m:Nat)(l:jH)(hl:l.length=m+1)(R:m<64)(hn:∀(j:Nat) b a,l[j]?=some (b,a)->a<n) :
 Turn P w K (.Tuple O kk pos) (L4 K l) (Ig n m) (n+(m+1)+2) (λi h=>yn n m l i h) where
 mem:=dZ.mpr `a
 obj:=λi h ⟨h1,h2,⟨us,_,h3⟩,J⟩ (b:Nat) y=>by
  replace y:=dZ.mp y;by_cases c:b<n+(m+1)
  ·obtain⟨j,rfl⟩:∃j,b=n+j:={b-n,`a}
   exact(J j _ _ (Qq `a)).obj
  ·rcases(show b=n+(m+1)\/b=n+(m+1)+1\/b=n+(m+1)+2 by omega) with rfl|rfl|rfl
   ·exact{_,h2,λv z=>by cases z}
   ·exact{_,h3,λv z=>by cases z}
   ·exact{_,h1,λv z=>by cases z}
 keep:=λi h h' ⟨h1,h2,⟨us,B,h3⟩,J⟩ k=>{k _ (dZ.mpr `a) _ h1,k _ (dZ.mpr `a) _ h2,{us,B,k _ (dZ.mpr `a) _ h3},λj b a e=>(J j b a e).at (k _ (dZ.mpr (by have:=(P9.mp e).1;omega)))}
 item:=by
  intro X hP U hK hc i Y s σ H E I hf {h1,h2,⟨us,B,h3⟩,J} hg;subst hP U hK;obtain⟨vs,ws,M⟩:=Eg I λj b a e=>(hg j b a e).imp λ_ ⟨_,h,_⟩=>h;have it:∀k,k<m+1->∃x w b a,l[k]?=some (b,a)/\(vs k)[i]?=some x/\(ws k)[i]?=some w/\RelV x w:=λk u=>by
   have e:l[k]?=some (l[k]'(`a)):=Qq _
   obtain⟨xs,x,L,ex⟩:=hg k _ _ e;obtain⟨q1,q2,_⟩:=M k _ _ e;rw[lh I L q1] at ex;obtain⟨w,U,r⟩:=q2.get ex;exact{x,w,_,_,e,ex,U,r}
  have S:s.TypeIs (.ref (n+(m+1)+2)) "zip":={_,h1,rfl};unfold pyNext;refine tqa (wpAny_attempt (wpAny_callSpecial?_slot S F.slot_zip_next
   (wpAny_call_entry F.slot_zip_next S F.entry_zip_next
    (sQ (I.ok.hd hc) hl R h1 h2 h3 B J (λj b a e=>{hn j b a e,(M j b a e).2.2}) (λh4 us B L z1 z2 g hTT u=>tqb {_,rfl,?_}) λh' e k u en _ _=>?_) (F.args_zip_next_1 _))))
  ·have zlt:n+(m+1)+2<s.heap.objs.size:=Qz h1;refine wpAny_letOwnedTupleGo_zip z1 λh5 hz5 hs5=>?_;have up:∀(c:Nat) o,c≠n+(m+1)+2->h4.get? c=some o->h5.get? c=some o:=λc o=>hs5.extBut c o;obtain⟨ys,vy,ty⟩:=DZ (us:=us.toList) λk w e=>by
    have u:k<m+1:=by have:=(P9.mp e).1;rw[Si] at this;omega
    obtain⟨x,w',_,_,_,ex,ew,r⟩:=it k u;have q:=L k u;rw[Array.getElem?_toList] at e;simp only[List.getElem?_toArray] at q;rw[e,ew] at q;cases q;exact⟨x,r,ex⟩
   have ly:ys.length=m+1:=by rw[vy.length,Si,B]
   refine{.ref s.heap.objs.size,upd H s.heap.objs.size (.tup ys),rj (s:=s) I hf (λ(b:Nat) o y q=>up b o (λz=>y (dZ.mpr `a)) (u b o (by rw[dZ] at y;omega) q)) (Qe _) {by rw[ly];exact Qo (show m+1<=64 by omega) `d,us.toList,vy,{_,up _ _ (Rj zlt) hTT,rfl,_,rfl}},rfl,
    {_,ys,I.hok.fresh (Qe _),rfl,rfl,ly.trans hl.symm,λj b a e xs L=>?_},{hz5,up _ _ `a (u _ _ `a h2),{us,B,up _ _ `a z2},λj b a e=>(g j b a e).at λo=>up _ o (by have:=(P9.mp e).1;omega)},λ(b:Nat) y=>?_}
   ·have hj:j<ys.length:=by have:=(P9.mp e).1;omega
    have e1:=Qq hj;rw[lh I L (M j b a e).1,ty j _ e1,e1]
   ·rw[dZ] at y;rw[aE (QN (by omega:(b:Nat)<s.heap.objs.size))];exact(hf b (dZ.mpr y)).1
  ·obtain⟨_,_,_,_,_,_,ew,_⟩:=it k u;simp only[List.getElem?_toArray] at en;rw[ew] at en;cases en
 done:=by
  intro X hP U hK hc i Y s σ H E I hf {h1,h2,⟨us,B,h3⟩,J} ⟨hs,k,b,a,xs,ek,hq,le⟩;subst hP U hK;obtain⟨vs,ws,M⟩:=Eg I hs;have S:s.TypeIs (.ref (n+(m+1)+2)) "zip":={_,h1,rfl};unfold pyNext;refine tqa (wpAny_attempt (wpAny_callSpecial?_slot S F.slot_zip_next
   (wpAny_call_entry F.slot_zip_next S F.entry_zip_next
    (sQ (I.ok.hd hc) hl R h1 h2 h3 B J (λj b a e=>{hn j b a e,(M j b a e).2.2}) (λh4 us B L _ _ _ _ _=>?_) λh' e k _ _ u he=>?_) (F.args_zip_next_1 _))))
  ·exfalso;have u:=(P9.mp ek).1;have q:=L k `a
   obtain⟨q1,q2,_⟩:=M k b a ek;rw[RW `a] at q
   simp only[List.getElem?_toArray] at q;rw[List.getElem?_eq_none (by rw[<- q2.length,lh I q1 hq];exact le)] at q
   cases q
  ·obtain⟨o,ho,hcl⟩:=he;refine tqa (wpAny_isInstance ⟨o,ho,hcl⟩ isSubtype_stop ?_);exact tqb {rfl,vu I hf λ(b:Nat) o y q=>u b o (by rw[dZ] at y;omega) q}
 self:=λ_ _ _ _ _ st h=>wpAny_pyIter_zip st.1 h
def ir (h:Heap):jH->Heap
 |[]=>h
 |p::r=>ir (h.push (fR p.1 p.2)) r
def sC (h:Heap):jH->List Qb
 |[]=>[]
 |p::r=>.ref h.objs.size::sC (h.push (fR p.1 p.2)) r
def pE:∀{h:Heap}{l:jH},(ir h l).objs.size=h.objs.size+l.length
 |_,[]=>rfl
 |h,p::r=>by show(ir _ r).objs.size=_;rw[pE,R6,RB];omega
def mz:∀{l:jH}{h:Heap}{c:Nat}{o:Obj},h.get? c=some o->(ir h l).get? c=some o
 |[],_,_,_,e=>e
 |_::r,_,_,_,e=>mz (l:=r) (Qd _ e)
def rG:∀{l:jH}{h:Heap}{j:Nat}{p:Bool×Nat},l[j]?=some p->(ir h l).get? (h.objs.size+j)=some (fR p.1 p.2)
 |_::r,h,0,_,e=>by cases e;exact mz (l:=r) (QA _ rfl)
 | q :: r, h, j + 1, _, e => by
   have:=rG (h:=h.push (fR q.1 q.2)) (j:=j) e;rw[R6,Sq,Nat.add_comm 1] at this;exact this
def tN:∀{l:jH}{h:Heap}{n k:Nat},h.objs.size=n+k->sC h l=qv n k l.length
 |[],_,_,_,_=>rfl
 | p :: r, h, n, k, e => by
   have:=tN (l:=r) (h:=h.push (fR p.1 p.2)) (k:=k+1) (by rw[R6,e];rfl)
   show Value.ref h.objs.size::sC _ r=Value.ref (n+k)::qv n (k+1) r.length;rw[this,e]
abbrev DG (h:Heap)(l:jH):Heap:=(ir h l).push (jj (sC h l).toArray)
abbrev yB (h:Heap)(l:jH):Heap:=(DG h l).push (jj (l.map λ_=>Value.none).toArray)
abbrev sT (h:Heap)(l:jH):Heap:=(yB h l).push {cls:=.type "zip",data:=.fields #[.none,.bool false,.bool false,.ref (ir h l).objs.size,.ref (DG h l).objs.size]}
def Fw (h:Heap){l:jH}{m:Nat}(hl:l.length=m+1):(yB h l).objs.size=h.objs.size+(m+1)+2/\yn h.objs.size m l 0 (sT h l)/\∀c o,h.get? c=some o->(sT h l).get? c=some o:=by
 have u:(ir h l).objs.size=h.objs.size+(m+1):=by rw[pE,hl]
 have s1:(DG h l).objs.size=h.objs.size+(m+1)+1:=by rw[R6,u]
 have s2:(yB h l).objs.size=h.objs.size+(m+1)+2:=by rw[R6,s1]
 have B:∀{c:Nat}{o},(ir h l).get? c=some o->(sT h l).get? c=some o:=λe=>Qd _ (Qd _ (Qd _ e));have v:(sT h l).get? (ir h l).objs.size=some _:=Qd _ (Qd _ (QA _ rfl));have y:(sT h l).get? (DG h l).objs.size=some _:=Qd _ (QA _ rfl);have z:(sT h l).get? (yB h l).objs.size=some _:=QA _ rfl;rw[u,tN (Nat.add_zero _).symm,hl] at v;rw[s1] at y;rw[s2,s1,u] at z;exact{s2,{z,v,{_,by simp[hl],y},λj b a e=>fi.new (B (rG e))},λc o e=>B (mz e)}
def xH (b0:Bool)(a0:Nat)(b1:Bool)(a1:Nat)(xs0 xs1:Array Qb) :
 Meets (Builtin.«zip.__new__» {[.type "zip",.ref a0,.ref a1],[]}) (λ_ R s=>cb b0 s.heap a0 xs0/\cb b1 s.heap a1 xs1/\
  R (.ok (.ret (.ref (yB s.heap [(b0,a0),(b1,a1)]).objs.size))) {s with heap:=sT s.heap [(b0,a0),(b1,a1)]}):=
 .of_wp λprog w A R s h=>by
  obtain⟨y,g,d,tk,os⟩:=s;obtain⟨z,B,h⟩:=h;have j:=sub_zip;have u:=z;have v:cb b1 (Shared.heap {y.push (fR b0 a0),g,d,tk,os}) a1 xs1:=(B).push _;wp_walk using pD u,pD v
  exact{_,rfl,h}
section
variable{prog:Q5}{w:Q4}{A:RL}{E:Qb->Qf->Prop}{s:Qf}{a0 a1 a2:Nat}{b0 b1 b2:Bool}{xs0 xs1 xs2:Array Qb}{Q:Qb->Qf->Prop}
def Bd (j:cb b0 s.heap a0 xs0)(u:cb b1 s.heap a1 xs1)(h:∀h',yn s.heap.objs.size 1 [(b0,a0),(b1,a1)] 0 h'->(∀c o,s.heap.get? c=some o->h'.get? c=some o)->Q (.ref (s.heap.objs.size+2+2)) {s with heap:=h'}) :
 wpAny (model prog w) A (call (.type "zip") [.ref a0,.ref a1]) Q E s:=by
 obtain⟨z,y,x⟩:=Fw s.heap (l:=[(b0,a0),(b1,a1)]) rfl;refine callType_new F.called_zip `d (F.typeCall_zip_2 _ _) (F.newCall_zip_2 _ _) (λobj=>F.args_object_init_3 obj _ _) F.entry_zip_new (xH b0 a0 b1 a1 xs0 xs1) {j,u,?_}
 show _/\_;rw[z];exact{{_,y.1,rfl},h _ y x}
end
def xb (d0 d1:D):Walk:=λM=>(cE M d0).bind λh=>(cE M d1).map λj=>eZ h j
def nP (j u:Env->Mem->Res D):Env->Mem->Res Walk:=λh M=>(j h M).bind λd0 M=>(u h M).bind λd1 M=>if gm d0&&gm d1 then .ok (xb d0 d1) M else .bad
def sS:∀(j u:List D) (i:Nat) (d:D),(eZ j u)[i]?=some d↔∃h e1,j[i]?=some h/\u[i]?=some e1/\d=.tup [h,e1]
 |v::t0,y::t1,0,d=>by simp[eZ,eq_comm]
 | v :: t0, y :: t1, i + 1, d => by
   have:=sS t0 t1 i d;simpa[eZ] using this
 |[],_,i,d=>by simp[eZ]
 |_::_,[],i,d=>by simp[eZ]
def sR:∀(j u:List D) (i:Nat),(eZ j u).length<=i->j.length<=i\/u.length<=i
 |v::t0,y::t1,0,h=>by simp[eZ] at h
 | v :: t0, y :: t1, i + 1, h => by
   have:=sR t0 t1 i (by simpa[eZ] using h)
   simpa using this
 |[],_,i,h=>`s
 |_::_,[],i,h=>`s
def Ej {fa:Fa}{K:Qa}{μ:Mu}{H:Hp}:∀{es:List D}{ws:List V},es.length=ws.length->(∀(j:Nat) e w,es[j]?=some e->ws[j]?=some w->Rep fa K μ H e w)->aL fa K μ H es ws
 |[],[],_,_=>rfl
 |e::es,w::ws,hl,h=>{w,ws,rfl,h 0 e w rfl rfl,Ej (by simpa using hl) λj e w=>h (j+1) e w}
def BC {fa:Fa}{X:Cx}{μ0:Mu}{H0:Hp}{l:jH}{w:Walk} (hw:∀μ H M ds,ExtW μ0 H0 μ H->RelM fa X.K μ H M->w M=some ds->∃ys:List (List D),ys.length=l.length/\(∀(j:Nat) y b a,ys[j]?=some y->l[j]?=some (b,a)->∃vs,iI X.K H b a vs/\aL fa X.K μ H y vs)/\
 (∀(i:Nat) d,ds[i]?=some d->∃es,d=.tup es/\es.map some=ys.map (·[i]?))/\∀i,ds.length<=i->∃y∈ys,y.length<=i):dD fa X.K μ0 H0 w (L4 X.K l):=λμ H M ds x L e=>by
 obtain⟨ys,hl,B,hd,Y⟩:=hw μ H M ds x L e;have at_:∀(j:Nat) b a,l[j]?=some (b,a)->∃y vs,ys[j]?=some y/\iI X.K H b a vs/\aL fa X.K μ H y vs:=λj b a e=>by
  have hj:=(P9.mp e).1;have u:=Qq (l:=ys) (i:=j) `a
  obtain⟨vs,q,r⟩:=B j _ b a u e;exact{_,vs,u,q,r}
 refine{λi d O=>?_,λi O=>{λj b a e=>?_,?_}}
 ·obtain⟨es,rfl,F⟩:=hd i d O;have J:∀{j:Nat}{y:List D},ys[j]?=some y->es[j]?.map some=some y[i]?:=λ{j y} u=>by
   have:=congrArg (·[j]?) F;simpa[u] using this
  have le:es.length=l.length:=by have:=congrArg List.length F;simpa[hl] using this
  have S:∀(j:Nat) b a,l[j]?=some (b,a)->∃vs e v,es[j]?=some e/\iI X.K H b a vs/\vs[i]?=some v/\Rep fa X.K μ H e v:=λj b a e=>by
   obtain⟨y,vs,u,q,r⟩:=at_ j b a e;have z:=J u;cases h:es[j]? with
   |none=>rw[h] at z;cases z
   | some e =>
     rw[h] at z;obtain⟨v,B,R⟩:=r.get (Qr z).symm;exact⟨vs,e,v,rfl,q,B,R⟩
  refine{λj b a e=>?_,λy H' ⟨p,zs,P,u,U,lz,t⟩=>?_}
  ·obtain⟨vs,_,v,_,q,B,_⟩:=S j b a e;exact⟨vs,v,q,B⟩
  subst U u;refine{Ext.alloc L P,L.alloc P,p,zs,rfl,.inl (.inl cD),Ej (le.trans lz.symm) λj e w F W=>?_};have I:=Qq (l:=l) (i:=j) (by have:=(P9.mp F).1;omega)
  obtain⟨vs,e',v,h1,q,B,R⟩:=S j _ _ I;have z:=t j _ _ I vs q;rw[W,B] at z;rw[F] at h1;cases z;cases h1;exact R.ext (Ext.alloc L P)
 ·obtain⟨_,vs,_,q,_⟩:=at_ j b a e;exact⟨vs,q⟩
 ·obtain⟨y,hy,ly⟩:=Y i O;obtain⟨j,J⟩:=List.getElem?_of_mem hy;have I:=Qq (l:=l) (i:=j) (by have:=(P9.mp J).1;omega)
  obtain⟨vs,q,r⟩:=B j y _ _ J I;exact{j,_,_,vs,I,q,by rw[r.length];exact ly}
section
variable{fa:Fa}{X:Cx}{μ0:Mu}{H0:Hp}{d0 d1 d2:D}{a0 a1 a2:Nat}(r0:Rep fa X.K μ0 H0 d0 (.ref a0))(r1:Rep fa X.K μ0 H0 d1 (.ref a1))(r2:Rep fa X.K μ0 H0 d2 (.ref a2))
include r0 r1
theorem yL:dD fa X.K μ0 H0 (xb d0 d1) (L4 X.K [(ix d0,a0),(ix d1,a1)]):=BC λR H M O x F e=>by
 obtain⟨v,L,e⟩:=Q8.mp e;obtain⟨B,s1,rfl⟩:=Qk.mp e;refine{[v,B],rfl,λj y b a u h=>?_,λi d hd=>?_,λi J=>?_}
 ·match j,u,h with
  |0,u,h=>cases u;cases h;exact lg F (Rep.extW x r0) L
  |1,u,h=>cases u;cases h;exact lg F (Rep.extW x r1) s1
 ·obtain⟨P,e1,I,h1,rfl⟩:=(sS v B i d).mp hd;exact{_,rfl,by simp[I,h1]}
 ·rcases sR v B i J with z|z<;>exact{_,`s,z}
include r2
end
set_option tactic.hygienic true in
def HF {fa:Fa}{X:Cx}{B:List Expr}{kk:Nat}{tp p pos:Pos}{Y e1:Expr}{g0 g1:Env->Mem->Res D}(h0:DE fa X Y g0)(h1:DE fa X e1 g1)(hg:Gl X "zip")(hm:X.mg "zip"=none)
 (F:starEach [Y,e1] X.env=[(false,eval Y X.env),(false,eval e1 X.env)]) (v:starEach [e1] X.env=[(false,eval e1 X.env)]):DI fa X (.Tuple B kk tp) (.Call (.Name "zip" p) [Y,e1] [] pos) (nP g0 g1):=by
 intro O s σ H R I ⟨μ,Z,M,hE,hM,h⟩;obtain⟨d0,M0,c0,t0⟩:=aG h;obtain⟨d1,M1,c1,t1⟩:=aG t0;split at t1
 ·next J=>
  simp only[Qg] at J;obtain⟨hq0,hq1⟩:=J;refine Call_ (gV I hg hm boot_zip (RR (aW (cm h0 (cm h1 dN v) (by rw[F,v]) pos O s σ H (λvs y=>∃U W u,vs=[U,W]/\Ext μ H u y/\RelM fa X.K u y M1/\Rep fa X.K u y d0 U/\Rep fa X.K u y d1 W) I ?_) λus s1 ⟨vs,y,z,r1,U,W,u,ev,x1,L,P,S⟩=>?_) (by rw[F,v]) (by rw[v];rfl)))
  ·refine{μ,Z,M,hE,hM,?_};rw[c0];intro U y u x1 L r0;refine{u,Z,M0,(hE.ext x1),L,?_};rw[c1];intro W H2 μ2 x2 m2 r1;exact{U,W,μ2,rfl,(x1.trans x2),m2,(r0.ext x2),r1}
  subst ev;obtain⟨a0,its0,rfl,z0⟩:=oH z L P hq0;obtain⟨a1,its1,rfl,z1⟩:=oH z L S hq1;cases r1 with
  | cons y0 r1 =>
    cases r1 with
    | cons y1 r1 =>
      cases r1;obtain rfl:=y0;obtain rfl:=y1;refine Bd z0 z1 λh1 za hk=>?_;have I2:=z.kept (t':=s1.toks) hk;refine wpAny_pyIter_zip za.1 ?_;refine{s1.heap.objs.size+2+2,Ig s1.heap.objs.size 1,_,_,y,rfl,I2,BV s1.heap.objs.size 1 [(ix d0,a0),(ix d1,a1)] rfl `d (λj b a e=>match j,e with
       |0,e=>by cases e;exact z0.lt
       |1,e=>by cases e;exact z1.lt),za,λb hb=>?_,t1 _ y u x1 L (yL P S)}
      have hb:=(dZ.mp hb).1;exact z.fpOk hb (z.hok.fresh hb)
 ·exact t1.elim
noncomputable def xY (h:Addr):Obj:={cls:=.type "enumerate",data:=.fields #[.none,.bool false,.ref h,rawInt 0,.none,.none]}
set_option tactic.hygienic true in
def Ar (l:Addr)(us:Array Qb)(n:Nat)(dct:Option Addr)(sl:Array (Option Qb)) :
 Meets (Builtin.«enumerate.__new__» {[.type "enumerate",.ref l],[]}) (λ_ R s=>s.heap.get? l=some {.type "tuple",dct,.seq us n,sl}/\
  R (.ok (.ret (.ref (s.heap.push (fR false l)).objs.size))) {s with heap:=(s.heap.push (fR false l)).push (xY s.heap.objs.size)}):=
 .of_wp λprog w A R s h=>by
  obtain⟨v,g,d,tk,os⟩:=s;obtain⟨j,h⟩:=h;have q:=sub_enumerate;have u:Heap.IsTuple (Shared.heap ⟨v,g,d,tk,os⟩) l us:={_,j,rfl,n,rfl};wp_walk using QP j
  refine wpAny_stack_any λ_=>tqb ?_;split
  ·rename_i c _ _ _ _ _;cases (c==Value.type "enumerate")<;>
   ·wp_walk using QP j,wpAny_pyIter_tuple u
    exact{_,rfl,h}
  ·wp_walk using QP j,wpAny_pyIter_tuple u
   exact{_,rfl,h}
section
variable{prog:Q5}{w:Q4}{A:RL}{E:Qb->Qf->Prop}{s:Qf}
def Dr (j:cb b s.heap l us)
 (h:∀h',IsEnum h' (s.heap.objs.size+1) s.heap.objs.size 0 .none->fi b h' s.heap.objs.size l 0->(∀c o,s.heap.get? c=some o->h'.get? c=some o)->Q (.ref (s.heap.objs.size+1)) {s with heap:=h'}):wpAny (model prog w) A (call (.type "enumerate") [.ref l]) Q E s:=by
 cases b with
 |true=>exact call_enumerate_list j λh' e i _ k=>h h' e i k
 | false =>
   obtain⟨⟨c,dct,B,sl⟩,z,y,n,hd⟩:=j;cases y;cases hd;refine callType_new F.called_enumerate `d (F.typeCall_enumerate_1 _) (F.newCall_enumerate_1 _) (λo=>F.args_object_init_2 o _) F.entry_enumerate_new (Ar l us n dct sl) {z,?_}
   have v:(s.heap.push (fR false l)).objs.size=s.heap.objs.size+1:=R6 ..;rw[v];have u:IsEnum ((s.heap.push (fR false l)).push (xY s.heap.objs.size)) (s.heap.objs.size+1) s.heap.objs.size 0 .none:=by
    have:=QA (s.heap.push (fR false l)) (o:=xY s.heap.objs.size) rfl;rw[v] at this;exact this
   exact{{_,u,rfl},h _ u (fi.new (Qd _ (QA _ rfl))) λc o x=>Qd _ (Qd _ x)}
def Ln (hh:A.handled=none)(y:l≠it)(us:Array Qb):Draws prog w A it [it,l] us.size (λi v=>us[i]?=some v) (λi h=>fi b h it l i/\cb b h l us) where
 live:=λ_ _ st=>let{o,ho,_}:=st.1.obj;⟨o,ho⟩
 frame:=λ_ _ _ st H=>{st.1.at λo e=>H it `s o e,st.2.at λo e=>H l `s o e}
 item:=λi s Q E L st J=>iT hh st.1 st.2 (λx F u B j=>J _ F s.toks u {B,st.2.extBut j.extBut y} j) λz=>by rw[RW L] at z;cases z
 done:=λs Q E st I=>iT hh st.1 st.2 (λx F u=>by rw[Array.getElem?_eq_none (Qe _)] at u;cases u) λ_=>I
def Lm (hh:A.handled=none)(y:us[i]?=none):Draws prog w A it [it,l] i (λ_ _=>True) (λk h=>k=i/\fi b h it l i/\cb b h l us) where
 live:=λ_ _ st=>let{o,ho,_}:=st.2.1.obj;⟨o,ho⟩
 frame:=λ_ _ _ st j=>{st.1,st.2.1.at λo e=>j it `s o e,st.2.2.at λo e=>j l `s o e}
 item:=λk s Q E v st B=>absurd st.1 (QN v)
 done:=λs Q E st u=>iT hh st.2.1 st.2.2 (λx z e=>by rw[y] at e;cases e) λ_=>u
end
noncomputable def Om (K:Qa)(b:Bool)(a:Addr):It:=
 {λi H=>∃xs x,iI K H b a xs/\xs[i]?=some x,λi H v h=>∃p x,H p=none/\v=.ref p/\h=upd H p (.tup [.int i,x])/\∀xs,iI K H b a xs->xs[i]?=some x,λi H=>∃xs,iI K H b a xs/\xs.length<=i}
def zj {K:Qa}(b:Bool)(a L e:Addr)(M:e≠L)(hna:a≠L)(hea:e≠a) :
 Turn P w K (.Tuple elts kk pos) (Om K b a) [e,L] e (λi h=>(∃old,IsEnum h e L (i:Nat) old)/\fi b h L a i) where
 mem:=`s
 obj:=λi h ⟨⟨old,y⟩,hi⟩ c j=>by
  rcases QZ.mp j with z|z
  ·subst z;exact{_,y,λv z=>by cases z}
  ·have e:c=L:=by simpa using z
   subst e;exact hi.obj
 keep:=λi h h' ⟨⟨old,y⟩,st⟩ k=>{{old,k e `s _ y},st.at λo e=>k L `s o e}
 item:=by
  intro X hP hw hK hc i S s σ H E I Y st hg;subst hP hw hK;obtain⟨xs,x,hq,hx⟩:=hg;obtain⟨⟨old,y⟩,B⟩:=st;obtain⟨J,rv,p⟩:=ny I hq;obtain⟨u,hu,ru⟩:=rv.get hx;have hi:i<J.toArray.size:=by have:=(P9.mp hu).1;simpa using this
  refine wpAny_pyNext_enum_itemD (Ln (A:=X.A.in1) (I.ok.hd hc) hna J.toArray) y ⟨B,p⟩ hi M (by simp[M,hea]) λU h1 tk F ho R hT hsz hk=>{_,rfl,?_}
  have eu:U=u:=by
   have F:J[i]?=some U:=by simpa using F
   rw[hu] at F;exact(Qr F).symm
  subst eu;have hT0:=I.hok.fresh (Qe _);have Q:=Qz y;refine wpAny_letOwnedTupleGo_enum ho λh2 he2 O=>?_;have hT2:h2.get? s.heap.objs.size=some {cls:=.type "tuple",data:=.seq #[.int i tk,U]}:=(O.2 _ (Rj Q)).trans hT;refine{.ref s.heap.objs.size,upd H s.heap.objs.size (.tup [.int i,x]),rj (s:=s) I Y (λc o j q=>(O.2 c (λz=>j (by simp[z]))).trans (hk c o (λz=>j (by simp[z])) (λz=>j (by simp[z])) q)) (Qe _) {?_,[.int i tk,U],.cons {_,rfl} (.cons ru .nil),{_,hT2,rfl,_,rfl}},rfl,
   {_,x,hT0,rfl,rfl,λys hy=>by rw[lh I hy hq];exact hx},{⟨U,he2⟩,R.1.extBut O.extBut (Rf M)},λc j=>?_}
  ·show 2<=sizeLine;decide
  ·have:c<s.heap.objs.size:=by
    rcases QZ.mp j with z|z
    ·subst z;exact Q
    ·have e:c=L:=by simpa using z
     subst e;obtain⟨o,e,_⟩:=B.obj;exact Qz e
   rw[aE (QN this)];exact(Y c j).1
 done:=by
  intro X hP hw hK hc i S s σ H E I Y st hg;subst hP hw hK;obtain⟨xs,hq,hx⟩:=hg;obtain⟨⟨old,y⟩,B⟩:=st;obtain⟨J,rv,p⟩:=ny I hq;have hl:=rv.length;exact wpAny_pyNext_enum_endD (Lm (A:=X.A.in1) (I.ok.hd hc) `o) y ⟨rfl,B,p⟩ λh' eb=>{rfl,vu I Y λc o j q=>eb c o (λz=>j (by simp[z])) q}
 self:=λ_ _ _ _ _ ⟨⟨old,y⟩,_⟩ h=>wpAny_pyIter_enum y h
section
variable{fa:Fa}{X:Cx}{a:Expr}{ga:Env->Mem->Res D}{pos p:Pos}
def yN {ad:Addr}(h:Rep fa X.K μ0 H0 dd (.ref ad)):dD fa X.K μ0 H0 (λM=>(cE M dd).map (fy 0)) (Om X.K (ix dd) ad):=λY H M W x j e=>by
 dsimp only at e;cases u:cE M dd with
 |none=>rw[u] at e;cases e
 | some I =>
   rw[u] at e;have e:=Qr e;subst e;obtain⟨F,s,r⟩:=lg j (Rep.extW x h) u;refine{λi d hd=>?_,λi P=>{F,s,by rw[r.length,<- mS I 0];exact P}}
   rw[mT] at hd;cases e1:I[i]? with
   |none=>rw[e1] at hd;cases hd
   | some U =>
     rw[e1] at hd;have hd:=Qr hd;subst hd;obtain⟨v,J,R⟩:=r.get e1;refine{⟨F,v,s,J⟩,λy S ⟨q,z,B,O,L,Q⟩=>?_};have:=Q F s;rw[J] at this;cases this;subst L O;refine{Ext.alloc j B,j.alloc B,q,[.int i,v],rfl,.inl (.inl cD),.int i,[v],rfl,?_,v,[],rfl,R.ext (Ext.alloc j B),rfl};show V.int i=V.int ((0+i:Nat):Int);rw[Nat.zero_add]
def gY (ga:Env->Mem->Res D):Env->Mem->Res Walk:=λh M=>(ga h M).bind λx M=>if gm x=true then .ok (λM=>(cE M x).map (fy 0)) M else .bad
def HI {B:List Expr}(ha:DE fa X a ga)(hg:Gl X "enumerate")(hm:X.mg "enumerate"=none)(hs:starEach [a] X.env=[(false,eval a X.env)]):DI fa X (.Tuple B kk tp) (.Call (.Name "enumerate" p) [a] [] pos) (gY ga):=by
 intro F s σ H R I ⟨μ,Z,M,hE,hM,h⟩;obtain⟨x,M1,e,q⟩:=aG h;cases Q:gm x with
 |false=>rw[Q] at q;exact q.elim
 |true=>
 rw[Q] at q;refine Call_ (gV I hg hm boot_enumerate (RR (aW (cm ha dN hs pos F s σ H (λY u=>∃v j,Y=[v]/\Ext μ H j u/\RelM fa X.K j u M1/\Rep fa X.K j u x v) I {μ,Z,M,hE,hM,?_}) λus s1 ⟨Y,u,J,r1,v,j,ev,S,O,W⟩=>?_) hs rfl))
 ·rw[e];exact λv u j S O r1=>⟨v,j,rfl,S,O,r1⟩
 subst ev;obtain⟨ad,its,rfl,p1⟩:=oH J O W Q;cases r1 with
 | cons r1 rr =>
   cases rr;obtain rfl:=r1;have y:=p1.lt;refine Dr p1 λh1 U P hk=>?_;have I2:=J.kept (t':=s1.toks) hk;refine wpAny_pyIter_enum U ?_;refine{s1.heap.objs.size+1,[s1.heap.objs.size+1,s1.heap.objs.size],_,_,u,rfl,I2,zj (ix x) ad s1.heap.objs.size (s1.heap.objs.size+1) (Nat.succ_ne_self _) (QN y) (Rj (RN y)),{{.none,U},P},λb L=>?_,q _ u j S O (yN W)};have L:s1.heap.objs.size<=b:=by
    rcases QZ.mp L with z|z
    ·subst z;exact Nat.le_succ _
    ·have e:b=s1.heap.objs.size:=by simpa using z
     subst e;exact Qe _
   exact J.fpOk L (J.hok.fresh L)
end
abbrev GE:=Env->Mem->Res D
abbrev GT:=Env->Mem->Res Bool
abbrev GA:=Env->Mem->Res (List D)
abbrev GW:=Env->Mem->Res Walk
abbrev GS:=Env->Mem->Res Fl
abbrev GB:=Env->List D->Mem->Res (List D)
abbrev Call:=Nat->List D->Mem->Res D
def aa (i:Nat):GE:=λh M=>cf M (h[i]?.getD none)
noncomputable def gC (d:D):GE:=λ_ M=>.ok d M
def ai (m:Bool)(o:oE)(a b:GE):GE:=λh M=>(a h M).bind λx M=>(b h M).bind λy M=>fY m o x y M
def ax (o:jI)(a b:GE):GE:=λh M=>(a h M).bind λx M=>(b h M).bind λy M=>(cf M (bE o x y M)).bind λb M=>.ok (.bl b) M
def qK (o j:jI)(a b c:GE):GE:=λh M=>(a h M).bind λx M=>(b h M).bind λy M=>(cf M (bE o x y M)).bind λk M=>
 if k then(c h M).bind λz M=>(cf M (bE j y z M)).bind λb M=>.ok (.bl b) M else .ok (.bl false) M
def bW (a:GE):GE:=λh M=>(a h M).bind λx M=>match x with|.int i=>.ok (.int (-i)) M|_=>.bad
def eU (a b:GE):GE:=λh M=>(a h M).bind λx M=>match x with|.bl true=>b h M|.bl false=>.ok (.bl false) M|_=>.bad
def uw (a b:GE):GE:=λh M=>(a h M).bind λx M=>match x with|.bl true=>.ok (.bl true) M|.bl false=>b h M|_=>.bad
def KN (a:GE):GE:=λh M=>(a h M).bind λx M=>match x with|.bl k=>.ok (.bl (!k)) M|_=>.bad
def fC (t:GT)(a b:GE):GE:=λh M=>(t h M).bind λk M=>if k then a h M else b h M
def ao (a b:GE):GE:=λh M=>(a h M).bind λx M=>(b h M).bind λy M=>cf M (bV x y M)
def b5 (m hl hh:Bool)(a lo hi:GE):GE:=λj M=>(a j M).bind λx M=>(lo j M).bind λl M=>(hi j M).bind λh M=>if cJ hl l&&cJ hh h then gK m x l h M else .bad
noncomputable def a9:GA:=λ_ M=>.ok [] M
def aX (a:GE)(s:GA):GA:=λh M=>(a h M).bind λx M=>(s h M).bind λxs M=>.ok (x::xs) M
def aM (s:GA):GE:=λh M=>(s h M).bind lE
def a7 (m:Bool)(s:GA):GE:=λh M=>(s h M).bind (bf m)
def ah (f:Nat)(c:Call)(s:GA):GE:=λj M=>(s j M).bind λh M=>c f h M
def mO (i:Nat)(c:Call)(s:GA):GE:=λh M=>match h[i]?.getD none with|some (.fn f)=>(s h M).bind λj M=>c f j M|_=>.bad
def aJ (f:xa)(s:GA):GE:=λj M=>(s j M).bind λh M=>gA f h M
def d9 (t:Ty)(a:GE):GE:=λh M=>(a h M).bind λx M=>(cf M (gW t x)).bind λb M=>.ok (.bl b) M
def ak (a:GE):GT:=λh M=>(a h M).bind λx M=>cf M (jZ M x)
def eQ (a b:GT):GT:=λh M=>(a h M).bind λk M=>if k then b h M else .ok false M
def eL (a b:GT):GT:=λh M=>(a h M).bind λk M=>if k then .ok true M else b h M
def cq (a:GT):GT:=λh M=>(a h M).bind λk M=>.ok (!k) M
def aw (t:fX)(a:GE):GS:=λj M=>(a j M).bind λx M=>(cf M (bT t x j)).bind λh M=>.ok (.next h) M
def eI (a b d:GE):GS:=λh M=>(d h M).bind λz M=>(a h M).bind λx M=>(b h M).bind λy M=>match x,y with
 | .cell k, .int n => match M[k]? with
   | some u => match cv u.length n with
     |some j=>.ok (.next h) (M.set k (u.set j z))
     |none=>.bad
   |none=>.bad
 |_,_=>.bad
def e9 (a d:GE):GS:=λh M=>(a h M).bind λx M=>(d h M).bind λz M=>match x with
 | .cell k => match M[k]? with
   |some j=>if j.length<sz then .ok (.next h) (M.set k (j++[z])) else .bad
   |none=>.bad
 |_=>.bad
def sEx (a:GE):GS:=λh M=>(a h M).bind λ_ M=>.ok (.next h) M
def aP (a:GE):GS:=λh M=>(a h M).bind λx M=>.ok (.ret x) M
noncomputable def Eh:GS:=λ_ M=>.ok (.ret .non) M
def Ei:GS:=λh M=>.ok (.next h) M
def OG:GS:=λ_ _=>.bad
def aT (c:GT)(a b:GS):GS:=λh M=>(c h M).bind λk M=>if k then a h M else b h M
def cu (t:fX)(w:GW)(b:GS):GS:=λh M=>(w h M).bind λw M=>cW (iq t b) w (.next h) M
def aF:GS:=λh M=>.ok (.next h) M
noncomputable def aY (a b:GS):GS:=λh M=>(a h M).bind λfl M=>match fl with
 |.next h=>b h M
 |fl=>.ok fl M
noncomputable def notStar:Expr->Bool
 |.Starred _ _=>false
 |_=>true
def bp (h:notStar a=true):starEach (a::es) env=(false,eval a env)::starEach es env:=by
 cases a<;>first|rfl|cases h
def dJ:∀{es:List Expr},es.all notStar=true->(backTo pos (starEach es env)).any (·.1)=false
 |[],_=>rfl
 | a :: es, h => by
   simp only[Rw,Qg] at h;have j:=dJ (pos:=pos) (env:=env) h.2;rw[bp h.1];simpa[backTo] using j
section
variable{fa:Fa}{X:Cx}{a b d:Expr}{ga gb gd:GE}{ta tb:GT}{pos p:Pos}{es:List Expr}{gs:GA}{n:Nat}
def Js {i:Int}(h:Gl X x)(hm:X.mg x=some (.int i t))(hd:(x==("__debug__":Str))=false):DE fa X (.Name x pos) (gC (.int i)):=je (v:=.int i) (ko h hm ⟨t,rfl⟩ hd) λ_ _=>rfl
end
structure Df where
 params:Nat
 slots:Nat
 body:Call->GS
noncomputable def Pm:Fl->Mem->Res D
 |.ret d,M=>.ok d M
 |.next _,M=>.ok .non M
 |.exc x _,M=>.err x M
def Pk:Res Fl->Res D
 |.ok fl M=>Pm fl M
 |_=>.bad
def gx (c:Call)(d:Df)(ds:List D)(M:Mem):Res D:=if ds.length=d.params then Pk (d.body c (ds.map some++List.replicate (d.slots-ds.length) none) M) else .bad
def ag (P:Nat->Option Df):Nat->Call
 |0,_,_,_=>.bad
 | n + 1, f, h, M => match P f with
   |none=>.bad
   |some d=>gx (ag P n) d h M
structure yy (K:Qa) (x qual:Str) (st:Stmt) (f:Addr) (fd:FuncData):Prop where
 ex:∃(oc:Qb) (od:Option Addr) (dV kV doc pm:Qb) (an:Option Addr) (cdv ct:Qb) (osl:Array (Option Qb)),
  fd=PySem.W.fnOf x qual (fq st) (c7 st) (bj st) dV kV doc pm an cdv ct/\K.lookup f=some {oc,od,.func fd,osl}/\PySem.W.codeIn K cdv qual=true
 kp:PySem.W.keepIn K (.ref f)=true
def w6.toD {K:Qa}{st:Stmt}(F:w6 K x qual st f fd):yy K x qual st f fd:=let⟨oc,od,kV,j,pm,v,h,ct,u,r⟩:=F.ex;{{oc,od,.none,kV,j,pm,v,h,ct,u,r},F.kp}
structure yA (fa:Fa) (P:Q5) (w:Q4) (K:Qa) (mg:Str->Option Qb) (base:Heap) (f:Nat) (d:Df):Prop where
 ex:∃(ad:Addr) (fd:FuncData) (ps N:List Str) (st:Stmt) (x qual:Str),fa f=some ad/\yy K x qual st ad fd/\Binds K fd ps []/\((fa (500+f)).isSome=true->Binds K fd ps [.none])/\jh N ps (bj st)/\d.params=ps.length/\d.slots=N.length/\
  ∀(call:Call) (n:Nat) (cdv:Qb) (A:RL) (outer:List RV) (s:Qf) (H:Hp) (E:XK),(∀f,hI fa P w K mg base n f (call f))->dr (2*n+5) (A.deeper (envOfC qual (bj st) s.heap.objs.size ad cdv))->
   nk fa (gz (iS P w) P w K mg base N qual (bj st) ad cdv A outer s H E) (c7 st) (d.body call)
def zv {K:Qa}(h:aL fa K μ H ds vs):bw fa K μ H (L2.start N vs) (ds.map some++List.replicate (N.length-ds.length) none):=by
 have hl:=h.length;refine{by unfold L2.start;simp[hl],λi d e=>?_}
 by_cases j:i<ds.length
 ·rw[Qi (by simpa using j),Qv] at e
  cases e1:ds[i]? with
  |none=>rw[e1] at e;cases e
  | some z =>
    rw[e1] at e;cases e;obtain⟨v,u,y⟩:=h.get e1;refine{v,?_,y};unfold L2.start;rw[Qi `o,Qv,u]
    rfl
 ·rw[QO `o,Sj] at e
  split at e<;>cases e
def wy {K:Qa}{st:Stmt}(F:yy K x qual st f fd)(S:jh N ps (bj st))(len:∀vs H Q E,sp vs H Q E->vs.length=ps.length)
 (j:∀(h:Qb) (A:RL) (outer:List RV) (s:Qf) (H:Hp) (vs:List V) (Q:VK) (E:XK),dr k (A.deeper (envOfC qual (bj st) s.heap.objs.size f h))->sp vs H Q E->
  ∃t,kM (gz (iS P w) P w K mg base N qual (bj st) f h A outer s H E) (c7 st) t/\t {nx:=λ_ y=>Q .non y,rt:=Q} (start N vs) H):md P w K mg base (iS P w) (k+1) f fd ps sp:=by
 obtain⟨oc,od,dV,kV,z,pm,I,h,ct,B,rfl,lk,u⟩:=F.ex;exact MW lk u S len λA outer s H vs Q E hr v=>j h A outer s H vs Q E hr v
set_option tactic.hygienic true in
def r8 {K:Qa}
 (hs:d.slots=N.length) (L:RelM fa K μ H M) (hr:aL fa K μ H ds vs) (h:fW (gx c d ds M) (a8 fa K μ H Q) (Fo fa K μ H E)):tF fa (gz (iS P w) P w K mg base N qual scope f cd A outer s H E) (d.body c) {nx:=λ_ u=>Q .non u,rt:=Q} (start N vs) H:=by
 unfold gx at h;split at h
 ·refine{μ,_,M,zv hr,L,?_};rw[<- hs];cases e1:d.body c (ds.map some++List.replicate (d.slots-ds.length) none) M with
  | ok fl U =>
    rw[e1] at h;cases fl with
    | next z =>
      have v:=h;exact λB u j S Y R=>v .non u j S R rfl
    |ret d=>exact h
    | exc x z =>
      have v:=h;exact λF B u j s' a C J c p I y _ m ex O hn fl=>CP I fl (v C J c p u j y m ex O hn)
  |err=>rw[e1] at h;exact h.elim
  |bad=>rw[e1] at h;exact h.elim
 ·exact h.elim
def uV {P:Q5}{w:Q4}{K:Qa}(h:∀f d,Pg f=some d->yA fa P w K mg base f d):∀(n f:Nat),hI fa P w K mg base n f (ag Pg n f)
 |0,f=>.inl λ_ _=>rfl
 | n + 1, f => by
   have U:=uV h n;cases e:Pg f with
   |none=>exact .inl λj M=>by show(match Pg f with|none=>Res.bad|some d=>gx (ag Pg n) d j M)=Res.bad;rw[e]
   | some d =>
     have eq:∀j M,ag Pg (n+1) f j M=gx (ag Pg n) d j M:=λj M=>by show(match Pg f with|none=>Res.bad|some d=>gx (ag Pg n) d j M)=_;rw[e]
     obtain⟨ad,J,ps,N,st,x,I,h1,F,O,z,S,R,hs,u⟩:=(h f d e).ex;refine .inr {ad,J,ps,h1,F.kp,O,λj M hl=>?_,?_,z}
     ·rw[eq];unfold gx;rw[if_neg (by rw[R];exact hl)]
     ·refine wy F S (λY H Q E v=>v.1) λy A outer s H Y Q E hr v=>{_,u (ag Pg n) n y A outer s H E U hr,?_};obtain⟨hl,μ,M,j,L,hr,B⟩:=v;rw[eq] at B;exact r8 hs L hr B
def pw (P:R3)(e:Rx)(h:Str×Addr):Prop:=∃t,e={PyData.keyHash P h.1,.str h.1 t,.ref h.2}
structure fV (K:Qa) (P:R3) (a:Addr) (kvs:List (Str×Addr)):Prop where
 ex:∃(es:Array Rx) (n:Nat),K.lookup a=some {cls:=.type "dict",data:=.dict es n}/\RX (pw P) es.toList kvs
 nd:(kvs.map (·.1)).Nodup
 ns:(a==sysModules)=false
def wd (kvs:List (Str×Addr)):List (Key×Qb):=kvs.map λh=>(Sum.inr h.1,.ref h.2)
def uI:∀{es:List Rx}{kvs:List (Str×Addr)},RX (pw P) es kvs->∀e∈es,∃x t,e.key=.str x t/\e.hash=PyData.keyHash P x
 |_,_,.nil,e,h=>nomatch h
 | _, _, .cons r t, e, h => by
   rcases QZ.mp h with z|z
   ·subst z;obtain⟨t,rfl⟩:=r;exact{_,t,rfl,rfl}
   ·exact uI t e z
def pY:∀{es:List Rx}{kvs:List (Str×Addr)},RX (pw w.params) es kvs->Pairs (kA prog w) es (wd kvs)
 |_,_,.nil=>.nil
 | e :: es, h :: kvs, .cons r t => by
   obtain⟨u,rfl⟩:=r;exact Pairs.cons (jQ h.1 u) rfl (pY t)
def ui (I:Inv X pins σ H s)(h:fV X.K X.w.params a kvs):s.heap.DictOf (kA X.prog X.w) a (wd kvs):=by
 obtain⟨j,n,lk,pr⟩:=h.ex;refine{_,j,n,I.kIn _ _ lk,⟨rfl,rfl,rfl⟩,rfl,λe u=>?_,pY pr,?_}
 ·obtain⟨x,t,e1,e2⟩:=uI pr e (by simpa using u)
  exact{Sum.inr x,by rw[e1];exact jQ x t,e2}
 ·have e:(wd kvs).map (·.1)=(kvs.map (·.1)).map Sum.inr:=by unfold wd;simp
  rw[e];exact List.Pairwise.map _ (λa b (n:a≠b) z=>n (Sum.inr.inj z)) h.nd
def AD (kvs:List (Str×Addr))(k:Str):valueAt (wd kvs) (Sum.inr k:Key)=(kvs.lookup k).map Value.ref:=by
 induction kvs with
 |nil=>rfl
 | cons j r h =>
   unfold valueAt wd at h ⊢;rw[Q9,List.find?_cons,Rp];by_cases e:j.1=k
   ·subst e;simp
   ·have e2:decide ((Sum.inr j.1:Key)=Sum.inr k)=false:=decide_eq_false λz=>e (Sum.inr.inj z);have u:=RU.mpr (Rf e);rw[e2,u];exact h
def eP (fa:Fa)(kvs:List (Str×Addr))(fs:List (Str×Nat)):Prop:=RX (λ(p:Str×Addr) (q:Str×Nat)=>p.1=q.1/\fa q.2=some p.2) kvs fs
def eP.look:∀{kvs:List (Str×Addr)}{fs:List (Str×Nat)},eP fa kvs fs->(fs.lookup k=none/\kvs.lookup k=none)\/∃f ad,fs.lookup k=some f/\kvs.lookup k=some ad/\fa f=some ad
 |_,_,.nil=>.inl ⟨rfl,rfl⟩
 | (x, a) :: r, (y, f) :: t, .cons ⟨e1, e2⟩ q => by
   subst e1;rw[Rp,Rp];cases e:k==x with
   |true=>exact .inr ⟨f,a,rfl,rfl,e2⟩
   |false=>exact eP.look q
def lO (fs:List (Str×Nat))(i:GE):GE:=λh M=>(i h M).bind λd M=>match d with
 |.str k=>cf M ((fs.lookup k).map D.fn)
 |_=>.bad
def iV (fs:List (Str×Nat))(i:GE):GE:=λh M=>(i h M).bind λd M=>match d with
 |.str k=>.ok (.bl (!(fs.lookup k).isSome)) M
 |_=>.bad
section
variable{fa:Fa}{X:Cx}{a b:Expr}{ga gb:GE}{pos p:Pos}{ad:Addr}{kvs:List (Str×Addr)}{fs:List (Str×Nat)}{x:Str}
def C5 (hd:fV X.K X.w.params ad kvs):jW X (λx y H Q=>∃k v,x=.ref ad/\y=.str k/\kvs.lookup k=some v/\Q (.ref v) H):=by
 intro z j E s R H x y v u Q I O P h hs;obtain⟨k,c,rfl,rfl,M,q⟩:=h;cases O;obtain⟨t,rfl⟩:=P;have B:=ui I hd;have J:s.TypeIs (.ref ad) "dict":=let{o,_,_,ho,{L,_},_}:=B;⟨o,ho,L⟩
 refine tail_any J PySem.F.slot_dict_getitem.lookup (wpAny_getItem_of (k:=(Sum.inr k:Key)) (jQ k t) B.mapOf (v:=.ref c) ?_ ?_) hs
 ·rw[AD,M];rfl
 ·exact{.ref c,H,I.tok _,rfl,q}
def tV (hd:fV X.K X.w.params ad kvs):bM X (compareOp .NotIn) (λx y H Q=>∃k,x=.str k/\y=.ref ad/\Q (.bl (!(kvs.lookup k).isSome)) H):=by
 intro j s F H x y v u Q I B E h;obtain⟨k,rfl,rfl,q⟩:=h;obtain⟨t,rfl⟩:=B;cases E;have z:=ui I hd;refine wpAny_notIn_of (k:=(Sum.inr k:Key)) (jQ k t) hd.ns z.mapOf ?_;rw[AD,RM];exact{.bl _,H,I.tok _,rfl,q}
def Ju (hd:fV X.K X.w.params ad kvs)(ho:eP fa kvs fs)(L:Gl X x)(hm:X.mg x=some (.ref ad))(u:(x==("__debug__":Str))=false)(J:DE fa X b gb)(hs:jg b):DE fa X (.Subscript (.Name x p) b pos) (lO fs gb):=
 bG (xx (C5 hd) (ko (v:=.ref ad) L hm rfl u) J hs) λU H Q ⟨R,S,M,E,I,h⟩=>t1 E I h λd P v z y O F j r1 h1=>by
  cases d with
  | str k =>
    obtain⟨d,e,q⟩:=ku h1;rcases ho.look with⟨e1,_⟩|⟨f,c,e1,e2,B⟩
    ·rw[e1] at e;cases e
    ·rw[e1] at e;cases e;exact{k,c,rfl,r1,e2,q (.ref c) z y O j {c,rfl,.inl B}}
  |_=>exact h1.elim
def CD {d:D}{P:D->Mem->Prop}(h:ae (match d with|.str k=>Res.ok (.bl (!(fs.lookup k).isSome)) M1|_=>.bad) P):∃k,d=.str k/\P (.bl (!(fs.lookup k).isSome)) M1:=by
 cases d with
 |str k=>exact⟨k,rfl,h⟩
 |_=>exact h.elim
def Dl (ho:eP fa kvs fs)(k:Str):(kvs.lookup k).isSome=(fs.lookup k).isSome:=by
 rcases ho.look with⟨e1,e2⟩|⟨f,c,e1,e2,_⟩<;>rw[e1,e2]<;>rfl
def AV (ho:eP fa kvs fs)(z:L2.St)(H:Hp)(Q:VK)(h:tE fa X.K (iV fs ga) z H Q):zr (λx y H Q=>∃k,x=.str k/\y=.ref ad/\Q (.bl (!(kvs.lookup k).isSome)) H) (tE fa X.K ga) (tC (.ref ad)) z H Q:=by
 obtain⟨O,P,M,E,I,h⟩:=h;refine t1 E I h λd L v B u J F j r1 h1=>?_;obtain⟨k,rfl,q⟩:=CD h1;refine{k,r1,rfl,?_};rw[Dl ho];exact q (.bl _) B u J j rfl
def Jt (hd:fV X.K X.w.params ad kvs)(ho:eP fa kvs fs)(z:Gl X x)(hm:X.mg x=some (.ref ad))(j:(x==("__debug__":Str))=false)(y:DE fa X a ga)(u:behindInMarks .NotIn (.Name x p)=false):DE fa X (.Compare a [.NotIn] [.Name x p] pos) (iV fs ga):=
 bG (qC (tV hd) y (ko (v:=.ref ad) z hm rfl j) u) λB H Q h=>AV ho B H Q h
def JB (hd:fV X.K X.w.params ad kvs)(ho:eP fa kvs fs)(J:Gl X x)(hm:X.mg x=some (.ref ad))(j:(x==("__debug__":Str))=false)(I:DE fa X a ga)(u:behindInMarks .NotIn (.Name x p)=false):DT fa X (.Compare a [.NotIn] [.Name x p] pos) (ak (iV fs ga)):=
 km (qy (tV hd) I (ko (v:=.ref ad) J hm rfl j) u) λW H Q h=>by
  refine AV ho W H _ ?_;obtain⟨S,U,M,E,F,h⟩:=h;obtain⟨z,M3,e,q⟩:=aG h;refine{S,U,M,E,F,?_};rw[e];have L:∃k,z=.bl k:=by
   obtain⟨d,Y,e1,e2⟩:=fg e;cases d<;>first|(cases e2;exact{_,rfl})|cases e2
  obtain⟨k,rfl⟩:=L;intro v B y R O P;obtain rfl:v=.bl k:=P;exact{k,rfl,q B y R O}
def mM (m:Bool)(a:GE):GE:=λh M=>(a h M).bind λx M=>match x with
 |.int n=>if -(2^62)<=n/\n<2^20 then bf m ((List.range n.toNat).map λ(k:Nat)=>D.int (k:Int)) M else .bad
 |_=>.bad
def xS:∀(n:Nat) (y:List Qb),y.length=n->(∀(i:Nat) (v:Qb),y[i]?=some v->∃t,v=.int (i:Int) t)->Vals ((List.range n).map λ(k:Nat)=>V.int (k:Int)) y:=by
 intro n y hl h;have z:∀(k:Nat) (y:List Qb),(∀(i:Nat) (v:Qb),y[i]?=some v->∃t,v=.int ((k+i:Nat):Int) t)->Vals ((List.range y.length).map λj=>V.int ((k+j:Nat):Int)) y:=by
  intro k y;induction y generalizing k with
  |nil=>intro _;exact .nil
  | cons v r B =>
    intro h;rw[RB,List.range_succ_eq_map,Q9,Q1];refine .cons (h 0 v rfl) ?_;have:=B (k+1) λi u e=>by
     have:=h (i+1) u (by simpa using e)
     rw[show k+1+i=k+(i+1) by omega];exact this
    refine cast (congrArg (λf=>Vals ((List.range r.length).map f) r) ?_) this
    funext j
    congr 2
    omega
 have:=z 0 y λi v e=>by rw[Nat.zero_add];exact h i v e
 rw[hl] at this;simpa using this
def Gw (m:Bool)(hc:X.calm=true)(ha:DE fa X a ga)(L:Gl X "list")(P:X.mg "list"=none)(hg:Gl X "range")(hm:X.mg "range"=none)(hs:starEach [a] X.env=[(false,eval a X.env)])
 (F:starEach [.Call (.Name "range" p2) [a] [] pos2] X.env=[(false,eval (.Call (.Name "range" p2) [a] [] pos2) X.env)]) :
 DE fa X (.Call (.Name "list" p1) [.Call (.Name "range" p2) [a] [] pos2] [] pos) (mM m ga):=by
 intro y s σ H Q I ⟨μ,Z,M,hE,hM,h⟩;obtain⟨x,M1,e,q⟩:=aG h;have U:∀n,x=.int n->ae (if -(2^62)<=n/\n<2^20 then bf m ((List.range n.toNat).map λ(k:Nat)=>D.int (k:Int)) M1 else .bad) (a8 fa X.K μ H Q)->
  wpAny (model X.prog X.w) X.A (eval (.Call (.Name "list" p1) [.Call (.Name "range" p2) [a] [] pos2] [] pos) X.env) (EP X y σ Q) X.xe s:=λn en J=>by
  subst en;by_cases c:-(2^62)<=n/\n<2^20
  ·rw[if_pos c] at J;refine Call_ (gV I L P (by decide +kernel:bootBuiltins "list"=some (.type "list")) (RR ?_ F rfl))
   rw[F];refine Calls.spliced_cons ?_;refine Call_ (gV I hg hm boot_range (RR (aW (cm ha dN hs pos2 y s σ H (λvs E=>∃j,vs=[.int n]/\Ext μ H j E/\RelM fa X.K j E M1) I {μ,Z,M,hE,hM,?_}) λus s1 ⟨vs,E,I1,r1,j,ev,Y,W⟩=>?_) hs rfl))
   ·rw[e];intro v E j Y W r1;obtain rfl:v=.int n:=r1;exact⟨j,rfl,Y,W⟩
   subst ev;cases r1 with
   | cons r rr =>
     cases rr;obtain⟨t,rfl⟩:=r;refine call_range_1 ?_;refine Calls.spliced_nil ?_;refine call_list_range (n:=n.toNat) (I.ok.hd hc) (IsRange.new ..) (small_one `a `a `a `a) (by rw[rangeSize_one];split<;>omega) `a λh' tk B c' kp eS S=>?_
     obtain⟨R,O⟩:=S;have I2:Inv X y σ E {s1 with heap:=s1.heap.push {cls:=.type "range",data:=.fields #[.int 0 s1.toks,.int n t,.int 1 (s1.toks+1)]},toks:=s1.toks+1+1}:=I1.kept λb o e=>Qd _ e
     have hv:=xS n.toNat B.toList (by simpa using R) λi v e=>by
      obtain⟨u,z⟩:=O i v (by simpa using e)
      exact{u,by rw[z];simp}
     have rl:aL fa X.K j E ((List.range n.toNat).map λ(k:Nat)=>D.int (k:Int)) ((List.range n.toNat).map λ(k:Nat)=>V.int (k:Int)):=by
      have:=aL.ints (fa:=fa) (K:=X.K) (μ:=j) (H:=E) ((List.range n.toNat).map λ(k:Nat)=>(k:Int));simpa[Q1,Function.comp_def] using this
     obtain⟨c1,k1⟩:=gu W rl (kr J Y);refine{.ref _,_,I2.laid (o:=.lst ((List.range n.toNat).map λ(k:Nat)=>V.int (k:Int))) kp (Qe _) {?_,B.toList,c',hv,by simpa using eS},rfl,k1 _ (I2.hok.fresh (Qe _))}
     rw[rl.length,<- dR];exact c1
  ·rw[if_neg c] at J;exact J.elim
 cases x with
 |int n=>exact U n rfl q
 |_=>exact q.elim
end
noncomputable def qW (bn N:List Str)(sc scope:Scope):Bool:=
 scope.names.all (λy=>(y.2 != .cell||scope.names.lookup y.1==some .cell)&&(y.2 != .local||scope.names.lookup y.1==some .local)&&(y.2 != .free||sc.names.lookup y.1==some .cell||sc.names.lookup y.1==some .free)) &&
 bn.length==N.length&&(bn.zip N).all λp=>(p.1==p.2&&(scope.names.lookup p.2 != some .local&&scope.names.lookup p.2 != some .cell))||scope.names.lookup p.1==none
def pI {j v:Type}{R:j->v->Prop}:∀{l:List j}{r:List v},l.length=r.length->(∀p∈l.zip r,R p.1 p.2)->RX R l r
 |[],[],_,_=>.nil
 |a::l,b::r,h,g=>.cons (g (a,b) QB) (pI (by simpa using h) λp z=>g p (Qu _ z))
 |[],_::_,h,_=>by cases h
 |_::_,[],h,_=>by cases h
def Ba (z:scope.kind=.function)(hs:X.env.scope=sc)(v:X.N=N)(h:qW bn N sc scope=true):fN X own bn scope:=by
 unfold qW at h;rw[Qg,Qg,Qt,Qt] at h;obtain⟨⟨h1,hl⟩,h2⟩:=h;refine{z,λy j e=>?_,λy j e=>?_,λy j e=>?_,?_}
 ·have:=h1 y j;rw[e] at this;simpa using this
 ·have:=h1 y j;simp only[Qg] at this;rw[e] at this;simpa using this
 ·have:=h1 y j;simp only[Qg] at this;rw[e] at this;show X.env.scope.names.lookup y.1=_\/X.env.scope.names.lookup y.1=_;rw[hs];simpa using this
 ·rw[v];refine pI (by simpa using hl) λp B=>?_
  have:=h2 p B;simp only[RJ,Qg,beq_iff_eq,bne_iff_ne] at this;exact this
section
variable{fa:Fa}{X:Cx}{elt tg iter c t2 i2:Expr}{scope:Scope}{pos:Pos}{own bn:List Str}{t u:fX}{gw gw2:GW}{ge:GE}{gc:GT}
def kW {l:List Nat}(h:l.all (· < n)=true):∀i∈l,i<n:=λi j=>by
 have:=Qt.mp h i j;simpa using this
def zJ {l W:List Nat}(h:W.all (λi=>!l.contains i)=true):∀i∈W,i∉l:=λi j z=>by
 have:=Qt.mp h i j;simp[z] at this
variable{i:Nat}{y:Str}{py spos:Pos}
def Gx {i:Int}(j:Gl X x)(hm:∃t,X.mg x=some (.int i t))(hd:(x==("__debug__":Str))=false):DE fa X (.Name x pos) (gC (.int i)):=let{_,h}:=hm;Js j h hd
def GC (h:∃ad j,X.mg x=some (.ref ad)/\fV X.K X.w.params ad j/\eP fa j fs)(B:Gl X x)(v:(x==("__debug__":Str))=false)(z:DE fa X b gb)(hs:jg b):DE fa X (.Subscript (.Name x p) b pos) (lO fs gb):=
 let{_,_,h1,h2,h3}:=h;Ju h2 h3 B h1 v z hs
def Gy (h:∃ad j,X.mg x=some (.ref ad)/\fV X.K X.w.params ad j/\eP fa j fs)(E:Gl X x)(v:(x==("__debug__":Str))=false)(B:DE fa X a ga)(z:behindInMarks .NotIn (.Name x p)=false):DE fa X (.Compare a [.NotIn] [.Name x p] pos) (iV fs ga):=
 let{_,_,h1,h2,h3}:=h;Jt h2 h3 E h1 v B z
def GF (h:∃ad j,X.mg x=some (.ref ad)/\fV X.K X.w.params ad j/\eP fa j fs)(E:Gl X x)(v:(x==("__debug__":Str))=false)(B:DE fa X a ga)(z:behindInMarks .NotIn (.Name x p)=false):DT fa X (.Compare a [.NotIn] [.Name x p] pos) (ak (iV fs ga)):=
 let{_,_,h1,h2,h3}:=h;JB h2 h3 E h1 v B z
def Gv (h:dr (n+4) X.A):Rm X:=by have:=h.un;show X.A.units+100<cLine;omega
end
section
variable{fa:Fa}{X:Cx}{a st:Expr}{ga:GE}{pos p2:Pos}
def Jp (m:Bool)(x:D)(M:Mem):Res D:=match x with
 |.tup xs=>.ok (.tup xs.reverse) M
 | x => match fj M x with
   |some xs=>bf m xs.reverse M
   |none=>.bad
def ux (a:GE):GE:=λh M=>(a h M).bind λx M=>match x with
 |.int i=>.ok (.int i) M
 |.bl k=>.ok (.int (if k then 1 else 0)) M
 |_=>.bad
def Jr (J:DE fa X a ga)(L:Gl X "int")(hm:X.mg "int"=none)(he:starEach [a] X.env=(false,eval a X.env)::starEach [] X.env):DE fa X (.Call (.Name "int" p) [a] [] pos) (ux ga):=
 bG (mB Bf L hm `k (cm J dN he) `d `d he `r) λS H Q ⟨P,R,M,B,I,h⟩=>t1 B I h λx O v y u z F j r1 h1=>by
  cases x with
  |int i=>obtain rfl:v=.int i:=r1;exact .inl {i,rfl,h1 _ y u z j rfl}
  |bl k=>obtain rfl:v=.bl k:=r1;exact .inr {k,rfl,h1 _ y u z j rfl}
  |_=>exact h1.elim
end
def mm {fa:Fa}{mg:Str->Option Qb}(e:fa i=some f)(m:mg x=some (.ref f)):∀ad,fa i=some ad->mg x=some (.ref ad):=λad h=>by rw[e] at h;cases h;exact m
def NQ {j:Type}{p:List j->Prop}(h:∀a,p [a])(us:List j)(hl:us.length=1):p us:=by
 obtain⟨a,rfl⟩:=List.length_eq_one_iff.mp hl;exact h a
def NP {j:Type}{p:List j->Prop}(h:∀a b,p [a,b]):∀(us:List j) (hl:us.length=2),p us
 |[a,b],_=>h a b
def us3 {j:Type}{p:List j->Prop}(h:∀a b c,p [a,b,c]):∀(us:List j) (hl:us.length=3),p us
 |[a,b,c],_=>h a b c
def us4 {j:Type}{p:List j->Prop}(h:∀a b c d,p [a,b,c,d]):∀(us:List j) (hl:us.length=4),p us
 |[a,b,c,d],_=>h a b c d
def AJ:RX (pw P) [] []:=.nil
def gD (h:RX (pw P) es kvs):RX (pw P) ({PyData.keyHash P x,.str x t,.ref a}::es) ((x,a)::kvs):=.cons ⟨t,rfl⟩ h
def Ee (K:Qa):Sp:=λj H Q _=>∃(a:Addr) (ns:List Int),j=[.ref a]/\dB K H a (ns.map V.int)/\yu H/\ns.length<=63/\∀h,Q (.bl true) h
def Ks {K:Qa}{ad:Addr}{st:Stmt}(h:∀f d,Pg f=some d->yA fa P w K mg base f d)
 (hl:∀ns:List Int,ns.length<=63->∃M,ag Pg (n+1) f [.frz (ns.map D.int)] []=.ok (.bl true) M) (e:Pg f=some d) (F:w6 K x qual st ad fd) (S:jh N [y] (bj st)) (hs:d.slots=N.length)
 (u:∀(call:Call) (n:Nat) (j:Qb) (A:RL) (outer:List RV) (s:Qf) (H:Hp) (E:XK),(∀f,hI fa P w K mg base n f (call f))->dr (2*n+5) (A.deeper (envOfC qual (bj st) s.heap.objs.size ad j))->
  nk fa (gz (iS P w) P w K mg base N qual (bj st) ad j A outer s H E) (c7 st) (d.body call)):md P w K mg base (iS P w) (2*n+5+1) ad fd [y] (Ee K):=by
 have eq:∀I M,ag Pg (n+1) f I M=gx (ag Pg n) d I M:=λI M=>by show(match Pg f with|none=>Res.bad|some d=>gx (ag Pg n) d I M)=_;rw[e]
 refine wy (w6.toD F) S (λU H Q E B=>?_) λj A outer s H U Q E hr B=>{_,u (ag Pg n) n j A outer s H E (uV h n) hr,?_}
 ·obtain⟨a,ns,rfl,_⟩:=B;rfl
 ·obtain⟨a,ns,rfl,R,O,hn,q⟩:=B;obtain⟨Y,J⟩:=hl ns hn;rw[eq] at J;have rp:aL fa K {λ_=>none,[],λ_=>none} H [.frz (ns.map D.int)] [.ref a]:=by
   refine{.ref a,[],rfl,{a,ns.map V.int,rfl,?_,aL.ints ns},rfl};rcases R with(z|⟨o,z⟩)|z
   ·rcases O a with y|⟨o,xs,y⟩
    ·rw[y] at z;cases z
    ·rw[y] at z;cases z
   ·exact .inl ⟨o,z⟩
   ·exact .inr z
  refine r8 (μ:={λ_=>none,[],λ_=>none}) (M:=[]) hs {λk I z=>by simp at z,λ_ _=>rfl,λ_ _=>rfl,(λ_ _ _ z=>nomatch z),(λ_ _ _ z=>nomatch z),(λ_ _ z=>nomatch z),(λ_ z=>nomatch z)} rp ?_
  rw[J];intro v L X _ _ r;obtain rfl:v=.bl true:=r;exact q L
def v7 {K:Qa}{ad:Addr}(X:K.In h)(G:h.Ns mainGlobals mg)(a:PySem.W.nsIn K mainGlobals x=some (some (.ref ad)))
 (l:K.lookup ad=some {cls:=.type "dict",data:=.dict es n}) (he:RX (pw P) es.toList j) (nd:(j.map (·.1)).Nodup) (ns:(ad==sysModules)=false) (dk:eP fa j fs):∃ad j,mg x=some (.ref ad)/\fV K P ad j/\eP fa j fs:=
 {ad,j,R0 X G a,{⟨es,n,l,he⟩,nd,ns},dk}
end LD
namespace LD
open PySem PySem.Spec PySem.Calls PyProof.Rows PySem.W
section
variable{prog:Q5}{w:Q4}{A:RL}{E:Qb->Qf->Prop}{s:Qf}{K:Frag}{x C:Addr}{ox:Obj}{od:Option Obj}{name:Str}
noncomputable def Il (K:Frag)(C:Addr):Bool:=findIn K (.ref C) "__getattribute__"==some (some (.builtin "BaseException.__getattribute__"))&&findIn K (.ref C) "__getattr__"==some none&&mroIn K C (.type "BaseException")==some true&&mroIn K C (.type "object")==some true &&
 findIn K (.ref C) "__class__"==some (some (.builtin "object.__class__"))&&specialIn K (.builtin "object.__class__") "__get__"==some (some (.builtin "getset_descriptor.__get__"))&&takesIn K (.builtin "object.__class__")==some true
end
end LD
namespace LD
open PySem PySem.Spec PyProof.Rows L2
noncomputable def bO (f:Nat)(c:Call)(s:GA):GE:=λj M=>match s j M with
 |.ok h M=>c f h M
 |_=>.bad
noncomputable def sU (k:D->Mem->Res Fl)(Z:Env):Res D->Res Fl
 |.ok d M=>k d M
 |.err x M=>.ok (.exc x Z) M
 |.bad=>.bad
def hZ (a:GE):GS:=λh M=>sU (λ_ M=>.ok (.next h) M) h (a h M)
def eO (t:fX)(a:GE):GS:=λh M=>sU (λx M=>(cf M (bT t x h)).bind λj M=>.ok (.next j) M) h (a h M)
def xr (a:GE):GS:=λh M=>sU (λx M=>.ok (.ret x) M) h (a h M)
noncomputable def xV (t:GT)(a b:GE):GE:=λh M=>match t h M with
 |.ok k M=>if k then a h M else b h M
 |_=>.bad
noncomputable def f6 (c:Nat)(s:GA):GS:=λh M=>match s h M with
 |.ok j M=>if j.length<=sz then .ok (.exc (.exc c none) h) M else .bad
 |_=>.bad
def NV (fa:Fa)(X:Cx)(g:GE):TE:=λv H Q=>∃h j M,bw fa X.K h H v j/\RelM fa X.K h H M/\fW (g j M) (a8 fa X.K h H Q) (λx u=>XW fa X h H x j u)
abbrev DX (fa:Fa)(X:Cx)(e:Expr)(g:GE):Prop:=PE X e (NV fa X g)
section
variable{fa:Fa}{X:Cx}{a b:Expr}{ga gb:GE}{ta:GT}{pos p:Pos}{es:List Expr}{gs:GA}{n:Nat}
def x_call (f:Nat){call:Call}(C:∀f,hI fa X.prog X.w X.K X.mg X.base n f (call f))(hr:dr (2*n+4) X.A)(hex:X.ex=[])(hg:Gl X x)(hm:∀ad,fa f=some ad->X.mg x=some (.ref ad))(hs:DA fa X (a::es) gs)
 (hdb:(x==("__debug__":Str))=false) (he:notStar a=true) (hpl:es.all notStar=true):DX fa X (.Call (.Name x p) (a::es) [] pos) (bO f call gs):=by
 intro B s σ H Q I ⟨μ,Z,M,hE,hM,h⟩;unfold bO at h;cases eg:gs Z M with
 |err=>rw[eg] at h;exact h.elim
 |bad=>rw[eg] at h;exact h.elim
 | ok E R =>
   rw[eg] at h;have h:fW (call f E R) (a8 fa X.K μ H Q) (λx P=>XW fa X μ H x Z P):=h;rcases C f with hb|⟨ad,fd,ps,h1,h2,h3,h4,F,_⟩
   ·rw[hb] at h;exact h.elim
   ·have hl:E.length=ps.length:=by
     by_cases hl:E.length=ps.length
     ·exact hl
     ·rw[h4 E R hl] at h;exact h.elim
    refine wpAny_Call_Name_kw (kB I hg (hm ad h1) ?_ hdb);refine PySem.W.callWith_K I.ok.mod.kin h2 (aW (hs pos B s σ H (λU z=>∃j,Ext μ H j z/\RelM fa X.K j z R/\aL fa X.K j z E U) I {μ,Z,M,hE,hM,by rw[eg];exact λU z j Y m1 r1=>⟨j,Y,m1,r1⟩}) λus s1 ⟨U,z,O,r,j,Y,m1,r1⟩=>{O.kIn,?_}) (bp he) (dJ hpl)
    have hsp:Ef fa X.K ps.length (call f) U z Q λCv dx J=>∃y P v C' c p,Cv=.ref C'/\Ext j z v J/\RelM fa X.K v J P/\y=.exc c p/\fa (gg c)=some C'/\vc J c dx p/\XW fa X μ H y Z P:=by
     refine{by rw[r1.length];exact hl,j,R,E,m1,r1,?_}
     cases S:call f E R with
     |ok d M2=>rw[S] at h;exact a8.ext h Y
     |err y M2=>rw[S] at h;exact λC dx c p J v y' m ex hc hn=>{_,M2,v,C,c,p,rfl,y',m,ex,hc,hn,h}
     |bad=>rw[S] at h;exact h.elim
    have hl2:us.length=ps.length:=by rw[<- r.length,r1.length];exact hl
    have hb:=h3 s1 us O.kIn (by simpa using hl2)
    rw[Q7] at hb;refine wpAny_call (codeAny_mono (F.run X.A X.stack s1 z {us,[]} us U Q _ hr O.env0 hb r hsp) λr' s' L=>?_);cases r' with
    | error e =>
      unfold CR at L;obtain⟨a',C',dx,J,rfl,I',fl,y,P,v,C2,c,p,S,ye,m',ey,hc,hn,hw⟩:=rN O hex L;cases S;exact hw B σ J v s' a' C' dx c p I' (Y.trans ye) ((hE.ext Y).ext ye) m' ey hc hn fl
    | ok fl =>
      cases fl with
      |ret u=>exact O.after L
      |next=>exact False.elim L
      |brk=>exact False.elim L
      |cont=>exact False.elim L
def FC (f:Nat){call:Call}(C:∀f,hI fa X.prog X.w X.K X.mg X.base n f (call f))(hr:dr (2*n+4) X.A)(hex:X.ex=[])(hg:Gl X x)(hm:∀ad,fa f=some ad->X.mg x=some (.ref ad))(hdf:(fa (500+f)).isSome=true)(hs:DE fa X a ga)
 (hdb:(x==("__debug__":Str))=false) (he:notStar a=true):DX fa X (.Call (.Name x p) [a] [] pos) (bO f call (aX ga (aX (gC .non) a9))):=by
 intro E s σ H Q I ⟨μ,Z,M,hE,hM,h⟩;unfold bO at h;cases eg:ga Z M with
 |err=>unfold aX at h;rw[eg] at h;exact h.elim
 |bad=>unfold aX at h;rw[eg] at h;exact h.elim
 | ok L S =>
   unfold aX at h;rw[eg] at h;have h:fW (call f [L,.non] S) (a8 fa X.K μ H Q) (λx R=>XW fa X μ H x Z R):=h;rcases C f with hb|⟨ad,fd,ps,h1,h2,h3,h4,F,hbd⟩
   ·rw[hb] at h;exact h.elim
   ·have hl:2=ps.length:=by
     by_cases hl:2=ps.length
     ·exact hl
     ·rw[h4 [L,.non] S hl] at h;exact h.elim
    refine wpAny_Call_Name_kw (kB I hg (hm ad h1) ?_ hdb);refine PySem.W.callWith_K I.ok.mod.kin h2 (aW (cm hs dN (bp he) pos E s σ H (λvs B=>∃v j,vs=[v]/\Ext μ H j B/\RelM fa X.K j B S/\Rep fa X.K j B L v) I {μ,Z,M,hE,hM,by rw[eg];exact λv B j x1 m1 r1=>⟨v,j,rfl,x1,m1,r1⟩}) λus s1 ⟨vs,B,P,r,v0,j,ev,x1,m1,r0⟩=>{P.kIn,?_}) (bp he) (dJ rfl)
    subst ev;have r1:aL fa X.K j B [L,.non] [v0,.non]:={v0,[.non],rfl,r0,.non,[],rfl,rfl,rfl};have hsp:Ef fa X.K ps.length (call f) [v0,.non] B Q λCv dx J=>∃y R z C' c p,Cv=.ref C'/\Ext j B z J/\RelM fa X.K z J R/\y=.exc c p/\fa (gg c)=some C'/\vc J c dx p/\XW fa X μ H y Z R:=by
     refine{hl,j,S,[L,.non],m1,r1,?_};cases U:call f [L,.non] S with
     |ok d M2=>rw[U] at h;exact a8.ext h x1
     |err y M2=>rw[U] at h;exact λC dx c p J z y' m ex hc hn=>{_,M2,z,C,c,p,rfl,y',m,ex,hc,hn,h}
     |bad=>rw[U] at h;exact h.elim
    have Y:=r.length.symm;have hb:=hbd hdf s1 us P.kIn (by rw[QD,Y];exact hl)
    obtain⟨u0,rfl⟩:∃u0,us=[u0]:=List.length_eq_one_iff.mp Y;have r2:Vals [v0,.non] [u0,.none]:=by cases r with|cons a _=>exact .cons a (.cons rfl .nil)
    refine wpAny_call (codeAny_mono (F.run X.A X.stack s1 B {[u0],[]} [u0,.none] [v0,.non] Q _ hr P.env0 hb r2 hsp) λr' s' O=>?_);cases r' with
    | error e =>
      unfold CR at O;obtain⟨a',C',dx,J,rfl,I',fl,y,R,z,C2,c,p,U,ye,m',ey,hc,hn,hw⟩:=rN P hex O;cases U;exact hw E σ J z s' a' C' dx c p I' (x1.trans ye) ((hE.ext x1).ext ye) m' ey hc hn fl
    | ok fl =>
      cases fl with
      |ret u=>exact P.after O
      |next=>exact False.elim O
      |brk=>exact False.elim O
      |cont=>exact False.elim O
def Mc (S:DT fa X c ta)(P:DX fa X a ga)(R:DX fa X b gb):DX fa X (.IfExp c a b pos) (xV ta ga gb):=
 bG (tS S P R) λW H Q ⟨B,j,M,F,O,h⟩=>by
  unfold xV at h;cases u:ta j M with
  |err=>rw[u] at h;exact h.elim
  |bad=>rw[u] at h;exact h.elim
  | ok k v =>
    rw[u] at h;refine{B,j,M,F,O,?_};rw[u];intro I E z U;have go:∀g:GE,fW (g j v) (a8 fa X.K B H Q) (λx J=>XW fa X B H x j J)->NV fa X g W I Q:=λg q=>by
     refine{E,j,v,F.ext z,U,?_};cases e:g j v with
     |ok d L=>rw[e] at q;exact a8.ext q z
     |err y L=>rw[e] at q;exact XW.ext q z
     |bad=>rw[e] at q;exact q
    cases k with
    |true=>exact go ga h
    |false=>exact go gb h
def Mo (I:DX fa X a ga)(hs:swapsWith a none pos.line X.env=pure false):DS fa X (.Expr a pos) (hZ ga):=
 dM (nE I hs) λP O H ⟨L,z,M,u,F,h⟩=>{L,z,M,u,F,by
  unfold hZ at h;cases e:ga z M with
  |ok d E=>rw[e] at h;exact λv B j y J r1=>h O B j y (u.ext y) J
  |err x E=>rw[e] at h;exact h
  |bad=>rw[e] at h;exact h.elim}
def Ji (R:DX fa X a ga)(S:PG X tg (gT fa X.K t))(hs:swapsWithSole [tg] a pos.line X.env=pure false)(U:swappedStores [tg] a X.env=pure none)(h1:(assignEach [tg] X.env).map (·.2)=[assign tg X.env]) :
 DS fa X (.Assign [tg] a pos) (eO t ga):=
 dM (pF R S hs U h1) λD σ H ⟨W,y,M,I,Q,h⟩=>{W,y,M,I,Q,by
  unfold eO at h;cases e:ga y M with
  | ok d P =>
    rw[e] at h;obtain⟨E,M2,u,q⟩:=aG h;cases z:bT t d y with
    |none=>rw[z] at u;cases u
    | some Y =>
      rw[z] at u;cases u;exact λv O j L J r1=>{j,y,_,d,E,I.ext L,J,r1,z,λF B=>q F O j L B J}
  |err x P=>rw[e] at h;exact h
  |bad=>rw[e] at h;exact h.elim}
def Jf (z:DX fa X a ga):DS fa X (.Return (some a) pos) (xr ga):=
 dM (zV z) λE F H ⟨B,j,M,v,y,h⟩=>{B,j,M,v,y,by
  unfold xr at h;cases e:ga j M with
  |ok d u=>rw[e] at h;exact h
  |err x u=>rw[e] at h;exact h
  |bad=>rw[e] at h;exact h.elim}
end
noncomputable abbrev Bg:List Qb:=[.type "ValueError",.type "Exception",.type "BaseException",.type "object"]
noncomputable def Jd (K:Qa)(C:Addr)(f:ClassData->Addr->List Qb->String->Bool):Bool:=match K.lookup C with
 | some {.type "type", _, .cls h, sl} => (match h.mro, sl.toList with
   |.ref j::bm,[_,_,_,_,some (.builtin n),_]=>f h j bm n
   |_,_=>false)
 |_=>false
set_option tactic.hygienic true in
def Jc {K:Qa}(X:K.In h)(q:Jd K C f=true) :
 ∃u N nm q bs hdct sn sub ab col dd k0 k1 k2 k3 k5 dl n j,f {nm,bs,.ref j::u,N,q,hdct,sn,sub,ab,col,dl} j u n=true/\h.get? C=some {.type "type",dd,.cls {nm,bs,.ref j::u,N,q,hdct,sn,sub,ab,col,dl},#[k0,k1,k2,k3,some (.builtin n),k5]}:=by
 unfold Jd at q;split at q
 ·rename_i dd y sl ho;split at q
  ·rename_i j u k0 k1 k2 k3 n k5 hm hs;obtain⟨nm,bs,B,ns,qn,hd,sn,sub,ab,col,z⟩:=y;subst hm;have v:sl=#[k0,k1,k2,k3,some (.builtin n),k5]:=by
    obtain⟨l⟩:=sl;simp only at hs;rw[hs]
   subst v;exact{_,_,_,_,_,_,_,_,_,_,_,_,_,_,_,_,_,_,_,q,X _ _ ho}
  ·cases q
 ·cases q
def De {K:Qa}(X:K.In h)(q:PySem.W.excIn K C bmB newId=true) :
 ∃j N nm q bs hdct sn sub ab col dd k0 k1 k2 k3 k5 v,h.get? C=some (excClassObj nm q C N bs j hdct sn sub ab col dd k0 k1 k2 k3 k5 newId)/\h.Ns N v/\v "__init__"=none/\OwnTail h bmB j:=by
 obtain⟨j,ns,nm,qn,bs,hd,sn,sub,ab,col,dd,k0,k1,k2,k3,k5,dl,n,z,q,ho⟩:=Jc X q;simp only[Qg,beq_iff_eq,Sg] at q;obtain⟨⟨⟨⟨⟨rfl,rfl⟩,rfl⟩,y⟩,hok⟩,u⟩:=q;exact{j,ns,nm,qn,bs,hd,sn,sub,ab,col,dd,k0,k1,k2,k3,k5,_,ho,.of_isNs (PySem.W.isNs_of_in X hok),PySem.W.nsMap_none_of_in X hok u,PySem.W.tail_of_in X y}
def Ah (x:cV P w H h a o):∃ob,h.get? a=some ob:=by
 cases o with
 |lst xs=>obtain⟨_,_,_,_,e⟩:=x;exact{_,e}
 |tup xs=>obtain⟨_,_,_,ob,e,_⟩:=x;exact{_,e}
 |dK j=>obtain⟨_,_,_,_,o,_,_,e,_⟩:=x;exact{_,e}
 |dT j=>obtain⟨_,_,_,_,o,_,_,e,_⟩:=x;exact{_,e}
 |set S n=>obtain⟨o,_,_,_,e,_⟩:=x;exact{_,e}
 |ins C v fs=>obtain⟨_,_,_,e,_⟩:=x;exact{_,e}
 |own y=>exact x
 |xd fs=>obtain⟨_,⟨_,_,_,e,_⟩,_⟩:=x;exact{_,e}
 |rng lo z=>obtain⟨_,_,_,e⟩:=x;exact{_,e}
 |frz ob u=>obtain⟨e,_⟩:=x;exact{_,e}
 |tbl ps=>exact{_,x}
 |met f y=>exact{_,x}
 |ext B=>obtain⟨_,e,_⟩:=x;exact e
 |dn es=>obtain⟨_,_,o,e,_⟩:=x;exact⟨o,e⟩
def C7 (I:Inv X pins σ H s)(h:X.ex=[])(hn:s.heap.get? e=none):yv X e/\H e=none:=by
 refine{{?_,λp v z=>?_},?_}
 ·cases q:X.s₀.heap.get? e with
  |none=>rfl
  | some o =>
    obtain⟨y,j⟩:=I.base.there e o q (by rw[h];simp)
    rw[hn] at j;cases j
 ·have:=(I.pin p (Rh _ v)).1;rw[z,hn] at this;cases this
 ·cases q:H e with
  |none=>rfl
  | some u =>
    obtain⟨ob,z⟩:=Ah (I.hok e u q);rw[hn] at z;cases z
section
variable{fa:Fa}{X:Cx}{a b:Expr}{ga gb:GE}{ta:GT}{pos p:Pos}{es:List Expr}{gs:GA}{n:Nat}
set_option tactic.hygienic true in
def Gq (c:Nat){x:Str}(hx:∃C,X.mg x=some (.ref C)/\fa (gg c)=some C/\PySem.W.excIn X.K C Bg "ValueError.__new__"=true)(L:X.ex=[])(hg:Gl X x)(hc:X.calm=true)(hs:DA fa X (a::es) gs)
 (J:(x==("__debug__":Str))=false) (he:notStar a=true) (S:es.all notStar=true):DS fa X (.Raise (some (.Call (.Name x np) (a::es) [] cpos)) none pos) (f6 c gs):=by
 intro u s σ H D' I ⟨μ,Z,M,hE,hM,h⟩;obtain⟨C,Q,O,P⟩:=hx;obtain⟨bm,N,nm,q,bs,hdct,sn,sub,ab,col,dd,k0,k1,k2,k3,k5,mN,hC,hN,R,T⟩:=De I.ok.mod.kin P;unfold f6 at h;cases z:gs Z M with
 |err=>rw[z] at h;exact h.elim
 |bad=>rw[z] at h;exact h.elim
 | ok ds M1 =>
   rw[z] at h;dsimp only at h;split at h
   ·next hz=>
    refine wpAny_Raise_call_subT (nm:=nm) (q:=q) (N:=N) (bs:=bs) (hdct:=hdct) (sn:=sn) (sub:=sub) (ab:=ab) (col:=col) (dd:=dd) (k0:=k0) (k1:=k1) (k2:=k2) (k3:=k3) (k5:=k5) PySem.F.excBase_ValueError (T.hasType `k) (I.ok.hd hc) (dJ (by simp[he,S])) R (kB I hg Q {rfl,?_} J)
    have ar:=aW (hs cpos u s σ H (λvs v=>∃j,Ext μ H j v/\RelM fa X.K j v M1/\aL fa X.K j v ds vs) I {μ,Z,M,hE,hM,by rw[z];exact λvs v j E U r1=>⟨j,E,U,r1⟩}) (Q':=λY s2=>([]:List (Str×Qb))=[]/\Y.length<=sizeLine/\s2.heap.get? C=some (excClassObj nm q C N bs bm hdct sn sub ab col dd k0 k1 k2 k3 k5 "ValueError.__new__")/\s2.heap.Ns N mN/\OwnTail s2.heap Bg bm/\∀B e,Heap.MadeExcOf s2.heap B e (.ref C) Y->X.xe (.ref e) {s2 with heap:=B}) λY s1 ⟨vs,v,y,r,j,E,U,r1⟩=>by
     refine{rfl,?_,y.bk _ _ hC,hN.keeps y.bk,T.keeps y.bk,λB e hm=>?_}
     ·rw[<- r.length,r1.length,<- dR];exact hz
     ·obtain⟨t,ht,_,_⟩:=hm.there;obtain⟨n1,n2⟩:=C7 y L hm.new;exact h u σ v j {s1 with heap:=B} e C none c none (y.kept hm.keeps) E (hE.ext E) U rfl O rfl {n1,n2,_,_,ht,rfl,rfl,rfl,.inl rfl}
    rw[bp he] at ar ⊢;exact PySem.Calls.evalArgs_plain ar
   ·exact h.elim
end
structure LV (fa:Fa) (K:Qa):Prop where
 g:∀c C,fa (gg c)=some C->Il K C=true/\PySem.W.mroIn K C (.type "ValueError")=some true/\PySem.W.isIn K (.ref C) C=true
 d:∀c C D,fa (gg c)=some C->fa 999=some D->PySem.W.isIn K (.ref C) D=true/\PySem.W.mroIn K C (.ref D)=some true/\PySem.W.mroIn K D (.type "BaseException")=some true/\PySem.W.typeIn K (.ref D)=some (.type "type")
 n:∀c C c' C',fa (gg c)=some C->fa (gg c')=some C'->c'≠c->PySem.W.kin_not K C C'=true
noncomputable def Io (K:Qa)(cl:List (Nat×Addr))(D:Addr):Bool:=PySem.W.mroIn K D (.type "BaseException")==some true&&PySem.W.typeIn K (.ref D)==some (.type "type") &&
 cl.all λq=>Il K q.2&&PySem.W.mroIn K q.2 (.type "ValueError")==some true&&PySem.W.isIn K (.ref q.2) q.2&&PySem.W.isIn K (.ref q.2) D&&PySem.W.mroIn K q.2 (.ref D)==some true&&cl.all λr=>r.1==q.1||PySem.W.kin_not K q.2 r.2
noncomputable def wz (l cl:List (Nat×Addr))(D:Addr):Fa:=λi=>if i<999 then l.lookup i else if i=999 then some D else cl.lookup (i-1000)
set_option tactic.hygienic true in
def lookup_mem:∀{l:List (Nat×Addr)}{c:Nat}{C:Addr},l.lookup c=some C->(c,C)∈l
 |[],_,_,h=>by cases h
 | (a, b) :: r, c, C, h => by
   rw[Rp] at h;split at h
   ·next e=>cases h;rw[eq_of_beq e];exact QB
   ·exact Qu _ (lookup_mem h)
def nR {D:Addr}(h:wz l cl D (gg c)=some C):(c,C)∈cl:=by
 unfold wz gg at h;rw[if_neg `a,if_neg `a,Rk] at h
 exact lookup_mem h
def Im {K:Qa}{D:Addr}(h:Io K cl D=true):LV (wz l cl D) K:=by
 unfold Io at h;simp only[Qg,beq_iff_eq,Qt,RJ] at h;obtain⟨⟨h1,h2⟩,h3⟩:=h;refine{λc C e=>?_,λc C y e u=>?_,λc C B v e u n=>?_}
 ·obtain⟨⟨⟨⟨⟨a1,a2⟩,a3⟩,a4⟩,j⟩,a6⟩:=h3 _ (nR e);exact⟨a1,a2,a3⟩
 ·obtain⟨⟨⟨⟨⟨a1,a2⟩,a3⟩,a4⟩,j⟩,a6⟩:=h3 _ (nR e);cases u;exact⟨a4,j,h1,h2⟩
 ·obtain⟨⟨⟨⟨⟨a1,a2⟩,a3⟩,a4⟩,j⟩,a6⟩:=h3 _ (nR e);exact(a6 _ (nR u)).elim (λz=>absurd z n) id
def fit (z:Str)(i:Int)(y:Str):Prop:=i.natAbs.log2<1920/\(z++(toString i:Str)).length<=sizeLine/\(z++(toString i:Str)++y).length<=sizeLine
section
variable{X:Cx}{a:Expr}{ta:TE}{pos p1 p2 p3:Pos}{j j2:Nat}{z y:Str}
def tF3 (z y:Str)(ta:TE):TE:=λB H Q=>z.length<=sizeLine/\ta B H λv u=>∃i,v=.int i/\fit z i y/\Q (.str (z++(toString i:Str)++y)) u
def Bq (z:Str):Str.empty++z=z:=by
 cases z with
 |mk c=>show Str.mk (#[]++c)=_;simp
def MA (P:PE X a ta):PE X (.JoinedStr [.Constant (.str z) j p1,.FormattedValue a (-1) none p2,.Constant (.str y) j2 p3] pos) (tF3 z y ta):=by
 intro B s S H Q I ⟨R,h⟩;refine JoinedStr_many (joinParts_cons (Calls.Constant_str ?_));show(Str.empty++z).length<=sizeLine/\_;rw[Bq];refine{R,joinParts_cons (FormattedValue_plain (aW (P B _ S H _ (I.tok _) h) λu s1 ⟨v,J,L,r1,i,M,⟨f1,O,F⟩,q⟩=>?_))};subst M;obtain⟨t,rfl⟩:=r1;refine formatField_int_small f1 {O,joinParts_cons (Calls.Constant_str {F,joinParts_nil ?_ F})};exact{.str _,J,L.tok _,{_,rfl},q}
end
def LW (C:Addr)(v:Option Addr)(a:Addr)(h:Heap):Prop:=∃o u B,h.get? a=some o/\o.cls=.ref C/\o.dict=v/\o.data=.fields u/\u[0]?=some (.ref B)/\u[1]?=some .none
def KY (K:Qa)(C:Addr)(fI:Addr):Bool:=Jd K C λcd C' bm n=>C'==C&&n=="ValueError.__new__"&&!cd.hasDel&&PySem.W.tailIn K Bg bm&&PySem.W.nsOkIn K cd.ns&&PySem.W.nsIn K cd.ns "__init__"==some (some (.ref fI))
def spI (C:Addr)(fld:Str):Sp:=λh H Q _=>∃e i,h=[.ref e,.int i]/\H e=some (.ext (LW C none e))/\i.natAbs<2^64/\∀d,H d=none->d≠e->Q .non (upd (upd H d (.xd [(fld,.int i)])) e (.ext (LW C (some d) e)))
def len_app (a b:Str):(a++b).length=a.length+b.length:=by
 show(Str.append a b).length=_;unfold Str.append Str.length;simp
def KQ {i:Int}(hz:z.length<=1000)(u:y.length<=1000)(hi:i.natAbs<2^64):fit z i y:=by
 have h1:i.natAbs.log2<1920:=by
  by_cases h:i.natAbs=0
  ·rw[h];decide
  ·exact QE ((Nat.log2_lt h).mpr hi) `a
 have h2:=PyProof.Rows.int_text_len_1921 h1;have hs:sizeLine=16777216:=dR.symm;refine{h1,?_,?_}
 ·rw[len_app];omega
 ·rw[len_app,len_app];omega
def Bu (fa:Fa)(P:Q5)(w:Q4)(K:Qa)(mg:Str->Option Qb)(base:Heap)(c:Nat)(x:Str):Prop:=
 ∃C h j y u,mg x=some (.ref C)/\fa (gg c)=some C/\KY K C h=true/\PySem.W.keepIn K (.ref C)=true/\K.lookup h=some u/\u.cls=.type "function"/\Binds K j ["self",y] []/\md P w K mg base (iS P w) 1 h j ["self",y] (spI C (BA c))
def vK (c:Nat)(a:GE):GS:=λh M=>match a h M with
 |.ok (.int i) M=>if i.natAbs<2^64 then .ok (.exc (.exc c (some i)) h) M else .bad
 |_=>.bad
section
variable{fa:Fa}{X:Cx}{a b:Expr}{ga gb:GE}{ta:GT}{pos p np cpos:Pos}{es:List Expr}{gs:GA}{n:Nat}{x:Str}
def Fn (fa:Fa)(K:Qa)(f:Str):Prop:=∀c C,fa (gg c)=some C->BA c=f->PySem.W.hasDictIn K C=true/\PySem.W.findIn K (.ref C) f=some none
end
def inC (s:Stmt):Stmt:=match s with
 |.ClassDef _ _ _ (b::_) _ _ _ _ _ _ _=>b
 |_=>s
def uz (z y:Str)(a:GE):GE:=λh M=>(a h M).bind λd M=>match d with
 |.int i=>if z.length<=1000/\y.length<=1000/\i.natAbs<2^64 then .ok (.str (z++(toString i:Str)++y)) M else .bad
 |_=>.bad
set_option tactic.hygienic true in
def OH (O:DE fa X a ga):DE fa X (.JoinedStr [.Constant (.str z) j p1,.FormattedValue a (-1) none p2,.Constant (.str y) j2 p3] pos) (uz z y ga):=
 bG (MA O) λW H Q ⟨B,U,M,J,L,h⟩=>by
  obtain⟨R,F,I,h1⟩:=aG h;cases R with
  | int i =>
    have h1:ae (if z.length<=1000/\y.length<=1000/\i.natAbs<2^64 then .ok (.str (z++(toString i:Str)++y)) F else .bad) (a8 fa X.K B H Q):=h1;split at h1
    ·next hm=>
     refine{Qo hm.1 (by rw[<- dR];decide),B,U,M,J,L,?_}
     rw[I];intro v E u S P r1;obtain rfl:v=.int i:=r1;exact{i,rfl,KQ hm.1 hm.2.1 hm.2.2,h1 (.str _) E u S P rfl}
    ·exact h1.elim
  |_=>exact h1.elim
def Fp (fa:Fa)(K:Qa)(mg:Str->Option Qb)(x1 x2:Str)(k1 k2:Nat):Prop:=∃h j,mg x1=some (.ref h)/\mg x2=some (.ref j)/\∀c C,c=k1\/c=k2->fa (gg c)=some C->PySem.W.exmAny K (.ref C) [.ref h,.ref j]=some true
def L1 (fa:Fa)(K:Qa):Prop:=∀c C,fa (jN c)=some C->lP c≠[]->w9 K C/\∀f∈lP c,L3 K C f
def qm (fa:Fa)(K:Qa)(m:Str)(c f:Nat):Prop:=∃C,fa (jN c)=some C/\w9 K C/\(∀ad,fa f=some ad->Meth K C m ad)/\m∉lP c/\lP c≠[]
noncomputable def nM (μ:Mu)(k:Nat)(p:Addr):Mu:={μ.pub,μ.priv,λj=>if j=au k then some p else μ.ob j}
section
variable{fa:Fa}{K:Qa}{μ:Mu}{H:Hp}{M:Mem}
def RelM.ob_ins (h:RelM fa K μ H M)(e:μ.ob (au k)=some a):∃o,H a=some o:=by
 by_cases j:k<M.length
 ·rcases h.at' k M[k] (by simp[j]) with⟨b,u,h1,_⟩|⟨b,h1,h2,h3⟩
  ·rw[h.sep _ _ h1] at e;cases e
  ·rw[e] at h1;cases h1;exact let{o,z,_}:=h3.hold;⟨o,z⟩
 ·rw[h.oout k (Nat.le_of_not_lt j)] at e;cases e
end
end LD
namespace LD
open PySem
section
variable{prog:Q5}{w:Q4}{A:RL}{E:Qb->Qf->Prop}{s:Qf}
abbrev TK (prog:Q5)(w:Q4)(h:Heap)(ks:List Int)(a:Addr):Prop:=IsTupleKey (intKind prog w) h ks a
inductive iJ (prog:Q5) (w:Q4) (h:Heap):List (List Int)->List Qb->Prop
 |nil:iJ prog w h [] []
 |cons {ks:List Int}{a:Addr}{kss:List (List Int)}{vs:List Qb}:TK prog w h ks a->iJ prog w h kss vs->iJ prog w h (ks::kss) (.ref a::vs)
def NK (prog:Q5)(w:Q4)(h:Heap)(j:List (List Int))(a:Addr):Prop:=∃o items n,h.get? a=some o/\o.cls=.type "tuple"/\o.data=.seq items n/\iJ prog w h j items.toList
def iJ.inj:∀{x y:List (List Int)}{vs:List Qb},iJ prog w h x vs->iJ prog w h y vs->x=y
 |_,_,_,.nil,.nil=>rfl
 |_,_,_,.cons a r,.cons b t=>by rw[a.inj b,iJ.inj r t]
def NK.typeIs (x:NK prog w s.heap kss a):s.TypeIs (.ref a) "tuple":=let{o,_,_,ho,h,_}:=x;⟨o,ho,h⟩
def NK.inj (z:NK prog w h x a)(B:NK prog w h y a):x=y:=by
 obtain⟨o,i,n,h1,_,h2,h3⟩:=z;obtain⟨I,F,H,j,_,u,v⟩:=B;rw[h1] at j;cases j;rw[h2] at u;cases u;exact h3.inj v
def iJ.keeps (ho:h.get? d=some o)(hd:o.data=.dict es ep)(hs:RY d h h'):∀{j:List (List Int)}{vs:List Qb},iJ prog w h j vs->iJ prog w h' j vs
 |_,_,.nil=>.nil
 |_,_,.cons a r=>.cons (a.keeps ho hd hs) (iJ.keeps ho hd hs r)
def NK.keeps (x:NK prog w h kss a)(ho:h.get? d=some o)(hd:o.data=.dict es ep)(hs:RY d h h'):NK prog w h' kss a:=by
 obtain⟨u,i,n,h1,h2,h3,h4⟩:=x;refine{u,i,n,(hs.2 a λz=>?_).trans h1,h2,h3,h4.keeps ho hd hs};rw[z,ho] at h1;cases h1;rw[hd] at h3;cases h3
noncomputable def t5 (prog:Q5)(w:Q4)(h:List (List Int)):Int:=reduceHash (Builtin.Tuple.tupleHashOf (h.map (tupleKeyHash (intKind prog w))))
noncomputable def nK (h:List (List Int)):Nat:=(h.map λks=>ks.length+1).sum+1
def G2 (L:A.units+2<cLine)(H:NK prog w s.heap kss a)(h:Q (t5 prog w kss) {s with toks:=s.toks+nK kss}):wpAny (model prog w) A (pyHash (.ref a)) Q E s:=by
 have y:=H.typeIs;obtain⟨o,items,n,ho,_,hd,I⟩:=H;first|unfold pyHashByItsType|skip
 first|refine tqa (wpAny_cRoomFor_or (.inr `a) ?_)|skip
 refine tqa (wpAny_specialOf y F.slot_tuple_hash.lookup ?_);rw[if_neg (by rw[beq_builtin_none];exact QF)]
 refine tqa (wpAny_specialOf y F.slot_tuple_hash.lookup ?_);refine tqa (wpAny_callSpecialIfBoundUnlessNone?_slot y F.slot_tuple_hash (wpAny_call_entry F.slot_tuple_hash y F.entry_tuple_hash ?_ (F.args_tuple_hash_1 _)));show wpAny _ _ (Builtin.Tuple.tupleItemsOf (.ref a) >>= _) _ _ s;refine tqa (wpAny_tupleItemsOf ho hd ?_);refine tqa ?_;rw[<- Array.forIn_toList];refine wpAny_forIn_list _ (λrest (b:Array Int) B=>∃done left,kss=done++left/\iJ prog w s.heap left rest/\b.toList=done.map (tupleKeyHash (intKind prog w))/\B={s with toks:=s.toks+(done.map λks=>ks.length+1).sum}) _ ?_ ?_ _ _ {[],kss,rfl,I,rfl,rfl}
 ·rintro x rest b B ⟨done,left,rfl,hl,z,rfl⟩;cases hl with
  | @cons k c u _ h1 j =>
    refine tqa (wpAny_pyHash_tuple ?_ h1 ?_)
    ·show A.units+1<cLine;omega
    ·first
      |exact tqb {done++[k],u,`s,j,by simp[z],by simp[Sq]}
      |exact tqa (tqb (tqb {done++[k],u,`s,j,by simp[z],by simp[Sq]}))
 ·rintro b B ⟨done,left,rfl,hl,z,rfl⟩;cases hl;rw[Q7] at h;show wpAny _ _ (retInt (Builtin.Tuple.tupleHashOf b.toList)) _ _ _;rw[z];refine wpAny_ret_mkInt ?_;generalize J:Builtin.Tuple.tupleHashOf (done.map (tupleKeyHash (intKind prog w)))=v;show wpAny _ _ (if (decide (-(2:Int)^63<=v)&&decide (v<2^63))=true then _ else _) Q E _;unfold t5 reduceHash at h;rw[J] at h;by_cases hr:(decide (-(2:Int)^63<=v)&&decide (v<2^63))=true
  ·rw[if_pos hr];rw[if_pos hr] at h;exact tqb (by simpa[nK,Sq] using h)
  ·rw[if_neg hr];rw[if_neg hr] at h;exact tqa (wpAny_rule (tqb (by simpa[nK,Sq] using h)))
def xE (hu:A.units<cLine)(hx:NK prog w s.heap x a)(hy:NK prog w s.heap y b)(h:P (.done (.ret (.bool (decide (x=y))))) s) :
 wpAny (model prog w) A (Builtin.«tuple.__eq__» {[.ref a,.ref b],[]}) P E s:=by
 have Q:=hy.typeIs;obtain⟨oa,xs,na,Y,_,R,U⟩:=hx;obtain⟨ob,ys,nb,hob,_,S,W⟩:=hy;show wpAny _ _ (isInstance (.ref b) (.type "tuple") >>= _) _ _ s;refine tqa (wpAny_isInstance Q isSubtype_tuple_tuple ?_);refine tqa (wpAny_tupleItemsOf Y R (tqa (wpAny_tupleItemsOf hob S (tqa ?_))));refine wpAny_forIn_list _ (λrest r L=>r.1=none/\L=s/\∃M O z B,rest=List.zip z B/\iJ prog w s.heap M z/\iJ prog w s.heap O B/\decide (M=O)=decide (x=y)/\(z.length==B.length)=(xs.size==ys.size)) _ ?_ ?_ _ _ {rfl,rfl,x,y,xs.toList,ys.toList,rfl,U,W,rfl,`s}
 ·rintro⟨u,v⟩ rest r L ⟨hr,rfl,M,O,z,B,J,I,H,j,F⟩;cases I with
  |nil=>simp at J
  | @cons k1 u' x2 xs2 h1 hx2 =>
    cases H with
    |nil=>simp at J
    | @cons k2 v' y2 ys2 h2 hy2 =>
      obtain⟨⟨rfl,rfl⟩,rfl⟩:=J;refine tqa (wpAny_eqBool_tuple hu h1 h2 ?_);by_cases X:k1=k2
      ·subst X;rw[decide_eq_true rfl];refine tqb {rfl,rfl,x2,y2,xs2,ys2,rfl,hx2,hy2,?_,by simpa using F}
       rw[<- j];by_cases hxy:x2=y2<;>simp[hxy]
      ·rw[decide_eq_false X];rw[show decide (x=y)=false by rw[<- j];simp[X]] at h
       exact tqa (tqb (tqb (tqb h)))
 ·rintro⟨r1,r2⟩ L ⟨hr,rfl,M,O,z,B,J,I,H,j,F⟩;subst hr;refine tqb ?_;show P (.done (.ret (.bool (xs.size==ys.size)))) L;rw[<- F,show(z.length==B.length)=decide (x=y) from ?_]
  ·exact h
  ·rw[<- j];cases I with
   |nil=>cases H<;>simp
   | cons _ _ => cases H with
     |nil=>simp
     |cons _ _=>simp at J
def MI (z:A.units+2<cLine)(u:NK prog w s.heap x a)(v:NK prog w s.heap y b)(h:Q (decide (x=y)) s):wpAny (model prog w) A (eqBool (.ref a) (.ref b)) Q E s:=by
 unfold eqBool;try with_reducible refine tqo ?_
 by_cases j:(Value.ref a==Value.ref b)=true
 ·rw[if_pos j];obtain rfl:a=b:=by have:=eq_of_beq j;injection this
  obtain rfl:=u.inj v;exact tqa (wpAny_rule (tqb (by simpa using h)))
 ·rw[if_neg j];refine tqa (wpAny_richCompare_same_room u.typeIs v.typeIs F.slot_tuple_eq (wpAny_call_entry F.slot_tuple_eq u.typeIs F.entry_tuple_eq (xE ?_ u v {_,rfl,(λe=>nomatch e),tqp h}) (F.args_tuple_eq_2 _ _)) `a)
  show A.units+1<cLine;omega
def B2 (d:Nat)(H:TK prog w s.heap ks a)(h:Q true s):wpAny (model prog w) A (eqIsQuiet (d+1) (.ref a)) Q E s:=by
 have B:=H.typeIs;obtain⟨o,items,n,ho,_,hd,I⟩:=H;unfold eqIsQuiet;refine tqa (wpAny_specialOf B F.slot_tuple_eq.lookup ?_);refine tqa (wpAny_isInstance B isSubtype_tuple_tuple ?_);refine tqa (wpAny_seqItems ho hd (tqa ?_));rw[<- Array.forIn_toList];refine wpAny_forIn_list _ (λrest r z=>r.1=none/\z=s/\∀v∈rest,carriedByValue v=true) _ ?_ ?_ _ _ ⟨rfl,rfl,I.byValue⟩
 ·rintro v rest r z ⟨hr,rfl,j⟩;rw[eqIsQuiet_byValue _ (j v QB)];refine tqa (tqb ?_);exact tqb {rfl,rfl,λu y=>j u (Qu _ y)}
 ·rintro⟨r1,r2⟩ z ⟨hr,rfl,_⟩;subst hr;exact tqb h
def CH (B:NK prog w s.heap kss a)(h:Q true s):wpAny (model prog w) A (eqIsQuiet 8 (.ref a)) Q E s:=by
 have z:=B.typeIs;obtain⟨o,items,n,ho,_,hd,H⟩:=B;unfold eqIsQuiet;refine tqa (wpAny_specialOf z F.slot_tuple_eq.lookup ?_);refine tqa (wpAny_isInstance z isSubtype_tuple_tuple ?_);refine tqa (wpAny_seqItems ho hd (tqa ?_));rw[<- Array.forIn_toList];refine wpAny_forIn_list _ (λrest r y=>r.1=none/\y=s/\∃ks,iJ prog w s.heap ks rest) _ ?_ ?_ _ _ ⟨rfl,rfl,kss,H⟩
 ·rintro v rest r y ⟨hr,rfl,ks,hl⟩;cases hl with
  | @cons k c u _ h1 j =>
    refine tqa (B2 6 h1 ?_);exact tqb ⟨rfl,rfl,u,j⟩
 ·rintro⟨r1,r2⟩ y ⟨hr,rfl,_⟩;subst hr;exact tqb h
end
def J8 (prog:Q5)(w:Q4):HeapKind prog w (List (List Int)) where
 is:=NK prog w
 hash:=t5 prog w
 draws:=nK
 room:=λA=>A.units+2<cLine
 inj:=λv y=>v.inj y
 keeps:=λx ho hd hs=>x.keeps ho hd hs
 pyHash:=λu j h=>G2 u j h
 eqBool:=λu v y h=>MI u v y h
 quiet:=λj h=>CH j h
end LD
namespace LD
open PySem PySem.Spec PyProof.Rows
section
variable{prog:Q5}{w:Q4}{K:Type}[DecidableEq K]{knd:HeapKind prog w K}{A:RL}{E:Qb->Qf->Prop}{s:Qf}
def i8 (knd:HeapKind prog w K)(h:Heap)(d:Addr)(xs:List (K×Addr×Qb)):Prop:=
 ∃o j,h.get? d=some o/\o.ExactDict/\o.data=.dict j xs.length/\j.toList=xs.map (entryOfKey knd)/\(∀x∈xs,knd.is h x.1 x.2.1)/\(xs.map (·.1)).Nodup
def i8.of (x:i8 knd h d xs):h.DictOfH knd d xs:=let⟨o,j,r⟩:=x;{o,j,_,r}
def lS (O:knd.room A)(h:knd.is s.heap k a)(hm:i8 knd s.heap d xs)
 (J:∀h',i8 knd h' d (storedH xs k a v)->RY d s.heap h'->Q () {s with heap:=h',toks:=s.toks+knd.draws k})
 (hsz:xs.length<=sizeLine) :
 wpAny (model prog w) A (dictSet d (.ref a) v) Q E s:=by
 obtain⟨o,P,ho,L,hd,H,z,hn⟩:=hm;unfold dictSet;try with_reducible refine tqo ?_
 refine tqa (knd.pyHash O h ?_);unfold dictSetHashed;try with_reducible refine tqo ?_
 refine tqa (wpAny_dictFind_heap O h ho hd H z hn ?_ ?_)
 ·intro B;have F:=not_mem_keys_of_get B;have e:=storedH_new (atKey_none_of_get B);refine tqa (wpAny_rule (wpAny_updateDictKeys (hz:=by have e:=size_of_entries H;omega) ho hd (J _ {_,_,Ra _ ho (Obj.isFreed_of_dict (Obj.data_mapDictKeys hd _)),
   L.mapDictKeys _,(Obj.data_mapDictKeys hd _).trans (by rw[e,QD];rfl),?_,?_,?_} (RD ..))))
  ·rw[e];simp[H,entryOfKey]
  ·rw[e];intro x u;rcases QH.mp u with u|u
   ·exact knd.keeps (z x u) ho hd (RD ..)
   ·simp only[Qs] at u;subst u;exact knd.keeps h ho hd (RD ..)
  ·rw[e];rw[QG,R4];refine{hn,`s,?_}
   intro x u y I;simp only[Q9,List.map_nil,Qs] at I;subst I;exact λe=>F (e ▸ u)
 ·intro j p M;have e:=storedH_old (atKey_of_get hn M);refine tqa (wpAny_rule (tqa (wpAny_updateDict ho hd (wpAny_point (J _ {_,_,Ra _ ho (Obj.isFreed_of_dict (Obj.data_mapDict hd _)),
   L.mapDict _,(Obj.data_mapDict hd _).trans (by rw[e,P8]),?_,?_,?_} (RD ..))))))
  ·rw[e];have:=modify_map_putAt (entryOfKey knd) (λe:Rx=>{e with val:=v}) k v (λ_ _=>rfl) hn M
   rw[<- H] at this;obtain⟨l⟩:=P;simpa using this
  ·rw[e];intro x u;obtain⟨y,I,rfl⟩:=Qh.mp u;unfold putAt;split<;>exact knd.keeps (z y I) ho hd (RD ..)
  ·rw[e];rw[keys_map_putAt];exact hn
def xq (B:knd.room A.in1)(h:knd.is s.heap k a)(hm:i8 knd s.heap d xs)
 (z:∀h',i8 knd h' d (storedH xs k a v)->RY d s.heap h'->Q () {s with heap:=h',toks:=s.toks+knd.draws k})
 (hsz:xs.length<=sizeLine) :
 wpAny (model prog w) A (setItem (.ref d) (.ref a) v) Q E s:=by
 have j:=hm.of.typeIs;unfold setItem;try with_reducible refine tqo ?_
 refine tqa (wpAny_sequenceKey j `d ?_)
 refine tqa (wpAny_callSpecial?_slot j slot_dict_setitem
  (wpAny_call_entry slot_dict_setitem j entry_dict_setitem ?_ (args_dict_setitem _ _ _)))
 refine tqa (wpAny_notOrdered_dict j ?_);show wpAny _ _ (dictSet d (.ref a) v >>= _) _ _ s;exact tqa (lS (hsz:=hsz) B h hm λh' u y=>tqb {.none,rfl,tqb (z h' u y)})
end
end LD
namespace LD
open PySem PySem.Spec PyProof.Rows L2
def kg (c:GT)(b:GS):Nat->Env->Mem->Res Fl
 |0,_,_=>.bad
 | n + 1, h, M => (c h M).bind λk M => if k then(b h M).bind λfl M => (match fl with
   |.next h=>kg c b n h M
   |fl=>.ok fl M) else .ok (.next h) M
def gL (c:GT)(b:GS):GS:=λh M=>kg c b 100000 h M
section
variable{fa:Fa}{X:Cx}{c:Expr}{body:List Stmt}{gc:GT}{gb:GS}{pos:Pos}
set_option tactic.hygienic true in
def Gp (hp:PassesOwn (model X.prog X.w) X.A X.env X.xe)(hc:DT fa X c gc)(hb:nk fa X body gb):DS fa X (.While c body [] pos) (gL gc gb):=
 dM (Ct hp hc hb) λD' σ H ⟨L,Z,M,hE,hM,h⟩=>by
  refine{λm v y=>∃j u B,Ext L H j y/\bw fa X.K j y v u/\RelM fa X.K j y B/\ae (kg gc gb m u B) (ni fa X L H D'),{100000,L,Z,M,.refl,hE,hM,h},?_};rintro m σ2 H2 ⟨μ2,P,M2,R,E,U,q2⟩;cases m with
  |zero=>exact q2.elim
  | succ m =>
    obtain⟨k,M3,e3,q3⟩:=aG q2;refine{μ2,P,M2,E,U,?_};rw[e3];intro H3 O J I;have F:=E.ext J;cases k with
    |false=>exact q3 σ2 H3 O (R.trans J) F I
    | true =>
      obtain⟨fl,M4,e4,Y⟩:=aG q3;refine{λv y=>∃j u B,Ext L H j y/\bw fa X.K j y v u/\RelM fa X.K j y B/\ae (kg gc gb m u B) (ni fa X L H D'),λv y z=>{m,Nat.lt_succ_self m,z},O,P,M3,F,I,?_};rw[e4];cases fl with
      |next Q=>exact λσ6 H6 μ6 x6 S W=>{μ6,Q,M4,(R.trans J).trans x6,S,W,Y}
      |ret d6=>exact a8.ext Y (R.trans J)
      |exc x6 Q=>exact XW.ext Y (R.trans J)
end
def wm {K:Qa}:∀{ds:List D}{vs:List V}{us:List Qb}{ks:List Int},aL fa K μ H ds vs->Vals vs us->intsOf ds=some ks->ItemsAre (intKind prog w) ks us
 | [], vs, us, ks, h, r, e => by
   obtain rfl:vs=[]:=h;cases r;cases e;exact .nil
 | .int i :: ds, vs, us, ks, h, r, e => by
   obtain⟨v,vr,rfl,p,q⟩:=h;cases r with
   | cons r1 r2 =>
     obtain⟨k,j,e⟩:=Qk.mp e;subst e;obtain rfl:v=.int i:=p;obtain⟨t,rfl⟩:=r1;exact .cons (by simp[intKind,Value.isInt]) (wm q r2 j)
 |.non::_,_,_,_,_,_,e=>by cases e
 |.bl _::_,_,_,_,_,_,e=>by cases e
 |.str _::_,_,_,_,_,_,e=>by cases e
 |.tup _::_,_,_,_,_,_,e=>by cases e
 |.lst _::_,_,_,_,_,_,e=>by cases e
 |.frz _::_,_,_,_,_,_,e=>by cases e
 |.cell _::_,_,_,_,_,_,e=>by cases e
 |.fn _::_,_,_,_,_,_,e=>by cases e
 |.exc _ _::_,_,_,_,_,_,e=>by cases e
section
variable{fa:Fa}{X:Cx}{pins:List (Addr×Obj)}{σ:L2.St}{H:Hp}{s:Qf}{μ:Mu}
def zl (I:Inv X pins σ H s)(r:Rep fa X.K μ H (.tup ds) (.ref b)):∃vs h o n,aL fa X.K μ H ds vs/\Vals vs h/\s.heap.get? b=some o/\o.cls=.type "tuple"/\o.data=.seq h.toArray n:=by
 obtain⟨a,vs,e,j,u⟩:=r;cases e;obtain⟨h,v,p,_⟩:=I.tuple j;obtain⟨o,h1,h2,n,h3⟩:=p;exact⟨vs,h,o,n,u,v,h1,h2,h3⟩
def wh (I:Inv X pins σ H s)(r:Rep fa X.K μ H d (.ref b))(e:mJ d=some ks):TK X.prog X.w s.heap ks b:=by
 cases d with
 | tup v =>
   obtain⟨y,h,o,n,j,u,h1,h2,h3⟩:=zl I r;exact{o,h.toArray,n,h1,h2,h3,by simpa using wm j u e}
 |_=>cases e
def uf (I:Inv X pins σ H s):∀{ds:List D}{vs:List V}{us:List Qb}{j:List (List Int)},aL fa X.K μ H ds vs->Vals vs us->jP ds=some j->iJ X.prog X.w s.heap j us
 | [], vs, us, j, h, r, e => by
   obtain rfl:vs=[]:=h;cases r;cases e;exact .nil
 | d :: ds, vs, us, j, h, r, e => by
   obtain⟨v,vr,rfl,p,q⟩:=h;cases r with
   | cons r1 r2 =>
     obtain⟨k,y,e⟩:=Q8.mp e;obtain⟨E,u,e⟩:=Qk.mp e;subst e;cases d with
     | tup z =>
       obtain⟨a,J,rfl,B,F⟩:=id p;obtain rfl:=(r1);exact .cons (wh I p y) (uf I q r2 u)
     |_=>cases y
def Hf (I:Inv X pins σ H s)(r:Rep fa X.K μ H d (.ref b))(e:qI d=some kss):NK X.prog X.w s.heap kss b:=by
 cases d with
 | tup v =>
   obtain⟨y,h,o,n,j,u,h1,h2,h3⟩:=zl I r;exact{o,h.toArray,n,h1,h2,h3,by simpa using uf I j u e}
 |_=>cases e
end
def uq:∀{a b:List D}{x y:List Int},intsOf a=some x->intsOf b=some y->dE a b=decide (x=y)/\(x=y->a=b)
 |[],[],_,_,e,f=>by cases e;cases f;exact{rfl,λ_=>rfl}
 | [], .int j :: b, _, _, e, f => by
   obtain⟨_,_,rfl⟩:=Qk.mp f;cases e;exact{by simp[dE],λz=>by cases z}
 | .int i :: a, [], _, _, e, f => by
   obtain⟨_,_,rfl⟩:=Qk.mp e;cases f;exact{by simp[dE],λz=>by cases z}
 | .int i :: a, .int j :: b, _, _, e, f => by
   obtain⟨x,e1,rfl⟩:=Qk.mp e;obtain⟨y,f1,rfl⟩:=Qk.mp f;obtain⟨h1,h2⟩:=uq e1 f1;refine{?_,λz=>?_}
   ·show(i==j&&dE a b)=_;rw[h1];by_cases z:i=j<;>simp[z]
   ·cases z;rw[h2 rfl]
 |.non::_,_,_,_,e,_=>by cases e
 |.bl _::_,_,_,_,e,_=>by cases e
 |.str _::_,_,_,_,e,_=>by cases e
 |.tup _::_,_,_,_,e,_=>by cases e
 |.lst _::_,_,_,_,e,_=>by cases e
 |.frz _::_,_,_,_,e,_=>by cases e
 |.cell _::_,_,_,_,e,_=>by cases e
 |.fn _::_,_,_,_,e,_=>by cases e
 |.exc _ _::_,_,_,_,e,_=>by cases e
 |_,.non::_,_,_,_,e=>by cases e
 |_,.bl _::_,_,_,_,e=>by cases e
 |_,.str _::_,_,_,_,e=>by cases e
 |_,.tup _::_,_,_,_,e=>by cases e
 |_,.lst _::_,_,_,_,e=>by cases e
 |_,.frz _::_,_,_,_,e=>by cases e
 |_,.cell _::_,_,_,_,e=>by cases e
 |_,.fn _::_,_,_,_,e=>by cases e
 |_,.exc _ _::_,_,_,_,e=>by cases e
def oS (e:mJ d=some x):∃ds,d=.tup ds/\intsOf ds=some x:=by
 cases d with
 |tup ds=>exact⟨ds,rfl,e⟩
 |_=>cases e
def uh (e:mJ a=some x)(f:mJ b=some y):bJ a b=decide (x=y)/\(x=y->a=b):=by
 obtain⟨h,rfl,e⟩:=oS e;obtain⟨bs,rfl,f⟩:=oS f;obtain⟨h1,h2⟩:=uq e f;exact{h1,λz=>by rw[h2 z]}
def rK:∀{a b:List D}{x y:List (List Int)},jP a=some x->jP b=some y->dE a b=decide (x=y)/\(x=y->a=b)
 |[],[],_,_,e,f=>by cases e;cases f;exact{rfl,λ_=>rfl}
 | [], d :: b, _, _, e, f => by
   obtain⟨_,_,f⟩:=Q8.mp f;obtain⟨_,_,rfl⟩:=Qk.mp f;cases e;exact{by simp[dE],λz=>by cases z}
 | d :: a, [], _, _, e, f => by
   obtain⟨_,_,e⟩:=Q8.mp e;obtain⟨_,_,rfl⟩:=Qk.mp e;cases f;exact{by simp[dE],λz=>by cases z}
 | d :: a, j :: b, _, _, e, f => by
   obtain⟨k,u,e⟩:=Q8.mp e;obtain⟨x,e1,rfl⟩:=Qk.mp e;obtain⟨E,h,f⟩:=Q8.mp f;obtain⟨y,f1,rfl⟩:=Qk.mp f;obtain⟨v,B⟩:=uh u h;obtain⟨h1,h2⟩:=rK e1 f1;refine{?_,λz=>?_}
   ·show(bJ d j&&dE a b)=_;rw[h1,v];by_cases z:k=E<;>simp[z]
   ·cases z;rw[h2 rfl,B rfl]
def C0 (e:qI a=some x)(f:qI b=some y):bJ a b=decide (x=y)/\(x=y->a=b):=by
 cases a with
 | tup h =>
   cases b with
   | tup bs =>
     obtain⟨h1,h2⟩:=rK e f;exact{h1,λz=>by rw[h2 z]}
   |_=>cases f
 |_=>cases e
structure KD (X:Cx) (c:Int) where
 K:Type
 dq:DecidableEq K
 knd:HeapKind X.prog X.w K
 dec:D->Option K
 hash:∀d,nO c d=(dec d).map knd.hash
 is:∀{fa:Fa}{μ:Mu}{H:Hp}{pins:List (Addr×Obj)}{σ:L2.St}{s:Qf}{d:D}{b:Addr}{k:K},Inv X pins σ H s->Rep fa X.K μ H d (.ref b)->dec d=some k->knd.is s.heap k b
 beq:∀{a b:D}{x y:K},dec a=some x->dec b=some y->bJ a b=decide (x=y)/\(x=y->a=b)
 ref:∀{fa:Fa}{μ:Mu}{H:Hp}{d:D}{v:V}{k:K},Rep fa X.K μ H d v->dec d=some k->∃b,v=.ref b
 room:Rm X->knd.room X.A.in1
 room0:Rm X->knd.room X.A
def KD.f (X:Cx):KD X 77 where
 K:=List Int
 dq:=inferInstance
 knd:=tupleKind (intKind X.prog X.w)
 dec:=mJ
 hash:=λd=>by unfold nO;rw[if_pos rfl];rfl
 is:=λI r e=>wh I r e
 beq:=λe f=>uh e f
 ref:=λr e=>by
  obtain⟨j,rfl,_⟩:=oS e;obtain⟨a,_,rfl,_⟩:=r;exact⟨a,rfl⟩
 room:=λh=>by show X.A.units+1<cLine;unfold Rm at h;omega
 room0:=λh=>by show X.A.units<cLine;unfold Rm at h;omega
def KD.n (X:Cx):KD X 78 where
 K:=List (List Int)
 dq:=inferInstance
 knd:=J8 X.prog X.w
 dec:=qI
 hash:=λd=>by unfold nO;rw[if_neg `d,if_pos rfl];rfl
 is:=λI r e=>Hf I r e
 beq:=λe f=>C0 e f
 ref:=λ{fa μ H d v k} r e=>by
  cases d with
  | tup j =>
    obtain⟨a,_,rfl,_⟩:=r;exact⟨a,rfl⟩
  |_=>cases e
 room:=λh=>by show X.A.units+1+2<cLine;unfold Rm at h;omega
 room0:=λh=>by show X.A.units+2<cLine;unfold Rm at h;omega
noncomputable instance kdq {X:Cx}{c:Int} (kd:KD X c):DecidableEq kd.K:=kd.dq
noncomputable def iE (p:D×D):D:=.tup [p.1,p.2]
section
variable{fa:Fa}{X:Cx}{pins:List (Addr×Obj)}{σ:L2.St}{H:Hp}{s:Qf}{μ:Mu}{c:Int}{kd:KD X c}{kvs:List (D×D)}
abbrev DP (fa:Fa)(X:Cx)(μ:Mu)(H:Hp){c:Int}(kd:KD X c):List (D×D)->List (kd.K×Addr×Qb)->Prop:=RX λp x=>kd.dec p.1=some x.1/\Rep fa X.K μ H p.1 (.ref x.2.1)/\∃v,RelV v x.2.2/\Rep fa X.K μ H p.2 v
def KD.xs (kd:KD X c):∀{kvs:List (D×D)}{es:List Rx},RX (nj fa X.K μ H c) kvs es->∃xs,es=xs.map (entryOfKey kd.knd)/\DP fa X μ H kd kvs xs
 |_,_,.nil=>{[],rfl,.nil}
 | _, _, .cons ⟨b, v, e1, e2, h, j, u⟩ r => by
   obtain⟨xs,rfl,q⟩:=KD.xs kd r;rw[kd.hash] at e2;obtain⟨k,z,y⟩:=Qk.mp e2;refine{(k,b,_)::xs,?_,.cons ⟨z,h,v,j,u⟩ q};rw[Q9]
   congr 1
   unfold entryOfKey;rw[y,<- e1]
def KD.back {xs:List (kd.K×Addr×Qb)}:∀{kvs:List (D×D)},DP fa X μ H kd kvs xs->RX (nj fa X.K μ H c) kvs (xs.map (entryOfKey kd.knd)):=by
 intro kvs h;induction h with
 |nil=>exact .nil
 |cons r _ j=>exact .cons (let⟨h1,h2,v,h3,h4⟩:=r;{_,v,rfl,by rw[kd.hash,h1];rfl,h2,h3,h4}) j
def DP.mem (h:DP fa X μ H kd kvs xs)(m:x∈xs):∃p∈kvs,kd.dec p.1=some x.1/\Rep fa X.K μ H p.1 (.ref x.2.1):=by
 induction h with
 |nil=>cases m
 | cons r _ u =>
   rcases QZ.mp m with rfl|m
   ·exact{_,QB,r.1,r.2.1}
   ·obtain⟨p,j,q⟩:=u m;exact{p,Qu _ j,q}
def DP.nodup (h:DP fa X μ H kd kvs xs)(n:(kvs.map (·.1)).Nodup):(xs.map (·.1)).Nodup:=by
 induction h with
 |nil=>exact List.nodup_nil
 | @cons p x ps B r t u =>
   rw[Q9,Rn] at n ⊢;refine{λm=>n.1 ?_,u n.2};obtain⟨y,z,j⟩:=Qh.mp m;obtain⟨q,v,e1,_⟩:=DP.mem t z;have:=(kd.beq r.1 e1).2 j.symm;rw[this];exact Qh.mpr ⟨q,v,rfl⟩
def KD.dict {xs:List (kd.K×Addr×Qb)}(I:Inv X pins σ H s)(e:H a=some (.dn (xs.map (entryOfKey kd.knd))))(h:DP fa X μ H kd kvs xs)(n:(kvs.map (·.1)).Nodup):(a==sysModules)=false/\xs.length<=sizeLine/\i8 kd.knd s.heap a xs:=by
 obtain⟨z,y,o,h1,h2,h3⟩:=(I.hok a _ e);refine{y,by simpa using z,o,_,h1,h2,by rw[h3,P8],`s,λx j=>?_,h.nodup n}
 obtain⟨p,_,e1,e2⟩:=h.mem j;exact kd.is I e2 e1
def DP.look (h:DP fa X μ H kd kvs xs)(y:kd.dec k=some kk):(cw (kvs.map iE) k=none/\atKey xs kk=none)\/∃d b v u,cw (kvs.map iE) k=some d/\atKey xs kk=some (b,u)/\RelV v u/\Rep fa X.K μ H d v:=by
 induction h with
 |nil=>exact .inl ⟨rfl,rfl⟩
 | @cons p x ps B r t j =>
   obtain⟨h1,h2,v,h3,h4⟩:=r;have b:=(kd.beq h1 y).1;unfold cw atKey at j ⊢;rw[Q9,List.find?_cons,List.find?_cons];rw[show bJ (b9 (iE p)) k=decide (x.1=kk) from b];by_cases z:x.1=kk
   ·rw[decide_eq_true z];exact .inr ⟨p.2,x.2.1,v,x.2.2,rfl,rfl,h3,h4⟩
   ·rw[decide_eq_false z];exact j
def j0 (kvs:List (D×D))(k d:D):List (D×D):=if (cw (kvs.map iE) k).isSome then kvs.map (λp=>if bJ p.1 k then(p.1,d) else p) else kvs++[(k,d)]
def JE (kvs:List (D×D))(k d:D):(j0 kvs k d).map iE=putD (kvs.map iE) k d:=by
 unfold j0 putD;split
 ·rw[Q1,Q1];refine RC λp _=>?_;show iE (if bJ p.1 k then(p.1,d) else p)=if bJ p.1 k then _ else _;split<;>rfl
 ·rw[QG];rfl
def zU (kvs:List (D×D))(k d:D):(j0 kvs k d).map (·.1)=if (cw (kvs.map iE) k).isSome then kvs.map (·.1) else kvs.map (·.1)++[k]:=by
 unfold j0;split
 ·rw[Q1];refine RC λp _=>?_;show(if bJ p.1 k then(p.1,d) else p).1=p.1;split<;>rfl
 ·rw[QG];rfl
set_option tactic.hygienic true in
def DP.put (h:DP fa X μ H kd kvs xs)(j:kd.dec k=some kk)(F:Rep fa X.K μ H k (.ref b))(y:RelV v u)(rd:Rep fa X.K μ H d v):DP fa X μ H kd (j0 kvs k d) (storedH xs kk b u):=by
 have e:(cw (kvs.map iE) k).isSome=(atKey xs kk).isSome:=by
  rcases h.look j with⟨h1,h2⟩|⟨_,_,_,_,h1,h2,_⟩<;>rw[h1,h2]<;>rfl
 unfold j0 storedH;rw[e];split
 ·next hs=>
  clear e hs;induction h with
  |nil=>exact .nil
  | @cons p x ps I r t E =>
    refine .cons ?_ E;have B:=(kd.beq r.1 j).1;unfold putAt;dsimp only;rw[B];by_cases z:x.1=kk
    ·rw[decide_eq_true z,if_pos z,if_pos rfl];exact⟨r.1,r.2.1,v,y,rd⟩
    ·rw[decide_eq_false z,if_neg z,if_neg QF];exact r
 ·exact Paired.snoc h ⟨j,F,v,y,rd⟩
set_option tactic.hygienic true in
def DP.keys (h:DP fa X μ H kd kvs xs)(n:(kvs.map (·.1)).Nodup)(j:kd.dec k=some kk):((j0 kvs k d).map (·.1)).Nodup:=by
 rw[zU];split
 ·exact n
 ·next z=>
  refine List.nodup_append.mpr {n,`s,λa v b y q=>z ?_}
  obtain rfl:=Qs.mp y;subst q;obtain⟨p,B,u⟩:=Qh.mp v;rw[cw,RM,List.find?_isSome];refine{iE p,Qh.mpr ⟨p,B,rfl⟩,?_};show bJ p.1 a=true;rw[u,(kd.beq j j).1];exact decide_eq_true rfl
end
def b6 (a b:GE):GE:=λh M=>(a h M).bind λx M=>(b h M).bind λk M=>match x with
 |.fn o=>cf M (getD M o k)
 |_=>.bad
def iL (n:Bool)(a b:GE):GE:=λh M=>(a h M).bind λk M=>(b h M).bind λx M=>match x with
 | .fn o => (match inD M o k with
   |some r=>.ok (.bl (n != r)) M
   |none=>.bad)
 |_=>.bad
def eM (a b d:GE):GS:=λh M=>(d h M).bind λz M=>(a h M).bind λx M=>(b h M).bind λk M=>match x with
 | .fn o => (match bB M o with
   |some q=>if isKey q.1 k=true/\q.2.length<1000000 then .ok (.next h) (M.set (o-5000) (.int q.1::putD q.2 k z)) else .bad
   |none=>.bad)
 |_=>.bad
noncomputable def nQ (c:Int):GE:=λ_ M=>.ok (.fn (au M.length)) (M++[[.int c]])
structure eY (fa:Fa):Prop where
 of:∀o,5000<=o->fa o=none
 n77:fa (jN 77)=none
 n78:fa (jN 78)=none
section
variable{fa:Fa}{K:Qa}{μ:Mu}{H:Hp}{M:Mem}
def Ext.dic (h:RelM fa K μ H M)(v:H a=some (.dn es)):Ext μ H μ (upd H a (.dn es')):=by
 have ne:∀{b o},H b=some o->(∀es,o≠.dn es)->b≠a:=λg n z=>by rw[z,v] at g;cases g;exact n _ rfl
 refine{{λ_ _ q=>q,λb j g=>?_,λb j g n=>{by rw[aE (ne g (λ_ z=>by cases z))];exact g,n},λb ob u g=>by rw[aE (ne g (λ_ z=>by cases z))];exact g,λb o i g=>?_,λ_ _ q=>q},rfl,λb y=>?_}
 ·rcases g with g|⟨ob,g⟩
  ·exact .inl (by rw[aE (ne g (λ_ z=>by cases z))];exact g)
  ·exact .inr {ob,by rw[aE (ne g (λ_ z=>by cases z))];exact g}
 ·rw[aE (ne g (λ_ z=>by rcases i with⟨_,i⟩|⟨_,i⟩<;>(rw[i] at z;cases z)))];exact g
 ·obtain⟨⟨j,g⟩,_⟩:=h.pv b y;rw[aE (ne g (λ_ z=>by cases z))]
def RelM.dicW (h:RelM fa K μ H M)(e:M[k]?=some ds)(v:μ.ob (au k)=some a)(I:H a=some (.dn es))(new:jF fa K μ (upd H a (.dn es')) a y):RelM fa K μ (upd H a (.dn es')) (M.set k y):=by
 have x:Ext μ H μ (upd H a (.dn es')):=Ext.dic h I;refine{λj B q=>?_,λj u=>h.out j (by simpa using u),λj u=>h.oout j (by simpa using u),h.inj,h.oinj,h.sep,λb E=>{let{⟨F,g⟩,_}:=h.pv b E;{F,by rw[x.pk b E];exact g},(h.pv b E).2}}
 by_cases u:j=k
 ·subst u;rw[QI (P9.mp e).1] at q;cases q;refine .inr {a,v,?_,new};cases z:μ.pub j with
  |none=>rfl
  |some b=>rw[h.sep j b z] at v;cases v
 ·rw[Qj (Rf u)] at q;rcases h.at' j B q with⟨b,F,h1,h2,h3⟩|⟨b,h1,h2,h3⟩
  ·exact .inl {b,F,h1,by rw[aE (λz=>by rw[z,I] at h2;cases h2)];exact h2,h3.ext x}
  ·exact .inr {b,h1,h2,h3.extW x.toExtW (aE λz=>u (h.oinj _ _ a (z ▸ h1) v))}
set_option tactic.hygienic true in
def Ext.dicNew (h:RelM fa K μ H M)(u:H x=none):Ext μ H (nM μ M.length x) (upd H x (.dn [])):=by
 have e:Ext μ H μ (upd H x (.dn [])):=Ext.alloc h u;refine{{e.mu,e.tups,λb v g n=>{(e.lsts b v g n).1,n},e.frzs,e.exts,λj b z=>?_},rfl,e.pk};show(if j=au M.length then some x else μ.ob j)=some b;split
 ·next q=>rw[q,h.oout _ (Qe _)] at z;cases z
 ·exact z
set_option tactic.hygienic true in
def RelM.dicNew {c:Int}(h:RelM fa K μ H M)(v:H x=none)(L:c=77\/c=78):RelM fa K (nM μ M.length x) (upd H x (.dn [])) (M++[[.int c]]):=by
 have X:=Ext.dicNew h v;have old:∀{b o},H b=some o->(upd H x (.dn [])) b=some o:=λg=>by rw[aE (a5 g v)];exact g
 have pc:∀{k b},(nM μ M.length x).ob (au k)=some b->(k=M.length/\b=x)\/μ.ob (au k)=some b:=λ{k b} z=>by
  have z:(if au k=au M.length then some x else μ.ob (au k))=some b:=z;split at z
  ·next q=>cases z;exact .inl {Nat.add_left_cancel q,rfl}
  ·exact .inr z
 refine{λk J q=>?_,λk u=>h.out k (by simp at u;omega),λk u=>?_,h.inj,λj k b e1 e2=>?_,λk b z=>?_,λb F=>{?_,(h.pv b F).2}}
 ·by_cases u:k<M.length
  ·rw[Qi u] at q;rcases h.at' k J q with⟨b,E,h1,h2,h3⟩|⟨b,h1,h2,h3⟩
   ·exact .inl {b,E,h1,old h2,h3.ext X}
   ·exact .inr {b,X.obs _ _ h1,h2,h3.extW X.toExtW (by obtain⟨o,e,_⟩:=h3.hold;rw[old e,e])}
  ·have B:k=M.length:=by
    have:=(P9.mp q).1;simp at this;omega
   subst B;rw[QO (Qe _)] at q;simp at q;subst q;exact .inr {x,by show(if au M.length=au M.length then some x else _)=some x;rw[if_pos rfl],h.out _ (Qe _),.inr {c,[],[],cD,L,rfl,.nil,List.nodup_nil}}
 ·show(if au k=au M.length then some x else μ.ob (au k))=none;simp at u;rw[if_neg (λz=>by have:=Nat.add_left_cancel z;omega)]
  exact h.oout k `a
 ·rcases pc e1 with⟨a1,a2⟩|a1<;>rcases pc e2 with⟨y,I⟩|y
  ·omega
  ·subst a2;obtain⟨_,z⟩:=h.ob_ins y;rw[v] at z;cases z
  ·subst I;obtain⟨_,z⟩:=h.ob_ins a1;rw[v] at z;cases z
  ·exact h.oinj j k b a1 y
 ·show(if au k=au M.length then some x else μ.ob (au k))=none;have z:μ.pub k=some b:=z;rw[if_neg (λq=>by rw[Nat.add_left_cancel q,h.out _ (Qe _)] at z;cases z)]
  exact h.sep k b z
 ·obtain⟨⟨E,g⟩,_⟩:=h.pv b F;exact{E,old g}
end
section
variable{fa:Fa}{X:Cx}{pins:List (Addr×Obj)}{σ:L2.St}{H:Hp}{s:Qf}{μ:Mu}{M:Mem}
set_option tactic.hygienic true in
def lK {c:Int}(h:isKey c d=true)(kd:KD X c):∃kk,kd.dec d=some kk:=by
 have e:(nO c d).isSome=true:=by
  unfold isKey at h;unfold nO;split at h
  ·next z=>rw[if_pos z,RM];exact h
  ·next z=>
   rw[if_neg z];split at h
   ·next y=>rw[if_pos y,RM];exact h
   ·cases h
 rw[kd.hash,RM] at e;exact Sh.mp e
def MO {c:Int}(X:Cx)(h:c=77\/c=78):Nonempty (KD X c):=by
 rcases h with rfl|rfl
 ·exact{KD.f X}
 ·exact{KD.n X}
set_option tactic.hygienic true in
def kG (hd:eY fa)(I:Inv X pins σ H s)(L:RelM fa X.K μ H M)(r:Rep fa X.K μ H (.fn o) v)(e:bB M o=some q) :
 ∃(a:Addr) (kd:KD X q.1) (h:List (D×D)) (xs:List (kd.K×Addr×Qb)),v=.ref a/\5000<=o/\μ.ob o=some a/\M[o-5000]?=some (.int q.1::q.2)/\H a=some (.dn (xs.map (entryOfKey kd.knd)))/\(q.1=77\/q.1=78)/\q.2=h.map iE/\DP fa X μ H kd h xs/\(h.map (·.1)).Nodup:=by
 unfold bB at e;split at e
 ·next ho=>
  split at e
  ·next c Q B=>
   split at e
   ·next z=>
    cases e;obtain⟨a,rfl,j⟩:=r;rcases j with j|⟨_,j⟩
    ·rw[hd.of o ho] at j;cases j
    have E:au (o-5000)=o:=Nat.add_sub_cancel' ho;rcases L.at' _ _ B with⟨b,R,h1,_⟩|⟨b,h1,h2,⟨n,C,P,fs,y,h3,h4,F,u,J⟩|⟨O,y,h,h3,h4,F,u,J⟩⟩
    ·have:=L.sep _ _ h1;rw[E,j] at this;cases this
    ·have u:=(List.cons.inj u).1;have u:=D.int.inj u;rcases z with rfl|rfl
     ·have:n=77:=`a
      rw[this,hd.n77] at h3;cases h3
     ·have:n=78:=`a
      rw[this,hd.n78] at h3;cases h3
    ·rw[E,j] at h1;cases h1;obtain⟨e1,e2⟩:=List.cons.inj F;cases D.int.inj e1;obtain⟨kd⟩:=MO X z;obtain⟨xs,rfl,dp⟩:=kd.xs u;exact⟨a,kd,h,xs,rfl,ho,j,B,h3,z,e2,dp,J⟩
   ·cases e
  ·cases e
 ·cases e
def rDG (fa:Fa)(K:Qa):R2:=λx y H Q=>∃μ M o h d,RelM fa K μ H M/\Rep fa K μ H (.fn o) x/\Rep fa K μ H h y/\getD M o h=some d/\a8 fa K μ H Q d M
set_option tactic.hygienic true in
def MQ (hu:Rm X)(hd:eY fa):jW X (rDG fa X.K):=by
 intro E B pins s σ H x y v u Q I rx ry h hs;obtain⟨μ,M,o,dy,d,P,r1,r2,e,q⟩:=h;obtain⟨qq,e1,e2⟩:=Q8.mp e;split at e2
 ·next Y=>
  obtain⟨a,J,kvs,xs,rfl,ho,ha,em,W,hc,U,dp,nd⟩:=kG hd I P r1 e1;obtain⟨kk,L⟩:=lK Y J;obtain⟨b,rfl⟩:=J.ref r2 L;obtain⟨ys,hz,O⟩:=KD.dict I W dp nd;obtain rfl:v=Value.ref a:=rx;obtain rfl:u=Value.ref b:=ry;rw[U] at e2;rcases dp.look L with⟨z,_⟩|⟨d',b',v',u',z,g,ru,rd⟩
  ·rw[z] at e2;cases e2
  ·rw[z] at e2;cases e2;have R:=O.of.typeIs;have h2:wpAny (model X.prog X.w) X.A (getItem (.ref a) (.ref b)) (EP X pins σ Q) X.xe s:=wpAny_getItem_heap (J.room hu) (J.is I r2 L) O.of g {v',H,I.tok _,ru,aR P q rd};refine tqa ?_;rw[getitemInPython_of_ne R.not_modules];refine tqa (wpAny_specialOf R PySem.F.slot_dict_getitem.lookup ?_);have j:wpAny (model X.prog X.w) X.A (subscripted B false (.ref a) (.ref b)) (λr S=>wpAny (model X.prog X.w) X.A (letTemporaryGo E (.ref a) r >>= λ_=>pure r) (EP X pins σ Q) X.xe S) X.xe s:=by
    rw[hs];exact wpAny_operating (wpAny_mono h2 (λr S h3=>tqa (wpAny_letTemporaryGo (tqb h3))) λ_ _ x=>x)
   first
    |exact tqb (tqa j)
    |exact tqa (tqb (tqa j))
    |exact tqa j
 ·cases e2
def rDI (fa:Fa)(K:Qa)(n:Bool):R2:=λx y H Q=>∃μ M o h b,RelM fa K μ H M/\Rep fa K μ H h x/\Rep fa K μ H (.fn o) y/\inD M o h=some b/\Q (.bl (n != b)) H
set_option tactic.hygienic true in
def Ff (F:Rm X)(hd:eY fa)(n:Bool):bM X (compareOp (if n then .NotIn else .In)) (rDI fa X.K n):=by
 intro pins s σ H x y v u Q I U W h;obtain⟨μ,M,o,L,b,R,r1,r2,e,q⟩:=h;obtain⟨qq,e1,e2⟩:=Q8.mp e;split at e2
 ·next S=>
  obtain⟨a,j,B,xs,rfl,ho,ha,Y,P,hc,O,dp,nd⟩:=kG hd I R r2 e1;obtain⟨kk,z⟩:=lK S j;obtain⟨c,rfl⟩:=j.ref r1 z;obtain⟨J,hz,E⟩:=KD.dict I P dp nd;obtain rfl:v=Value.ref c:=U;obtain rfl:u=Value.ref a:=W;rw[O] at e2;cases e2;have eq:(cw (B.map iE) L).isSome=(atKey xs kk).isSome:=by
   rcases dp.look z with⟨h1,h2⟩|⟨_,_,_,_,h1,h2,_⟩<;>rw[h1,h2]<;>rfl
  rw[eq] at q;cases n with
  |false=>exact wpAny_in_heap (j.room F) (j.is I r1 z) J E.of {.bl _,H,I.tok _,rfl,by simpa using q}
  |true=>exact wpAny_notIn_heap (j.room F) (j.is I r1 z) J E.of {.bl _,H,I.tok _,rfl,by simpa using q}
 ·cases e2
def rDS (fa:Fa)(K:Qa):yr:=λx y v H Q=>∃μ M o j d q,RelM fa K μ H M/\Rep fa K μ H (.fn o) x/\Rep fa K μ H j y/\Rep fa K μ H d v/\bB M o=some q/\isKey q.1 j=true/\q.2.length<1000000/\∀h,Ext μ H μ h->RelM fa K μ h (M.set (o-5000) (.int q.1::putD q.2 j d))->Q h
def qT (hd:eY fa)(I:Inv X pins σ H s)(P:RelM fa X.K μ H M)(r1:Rep fa X.K μ H (.fn o) x)(r2:Rep fa X.K μ H dy y)(ry:RelV y iv)(rv:RelV v u)(r3:Rep fa X.K μ H d v)(e1:bB M o=some q)(hk:isKey q.1 dy=true)(hl:q.2.length<1000000) :
 ∃(a b:Addr) (kd:KD X q.1) (kk:kd.K) (xs:List (kd.K×Addr×Qb)),x=.ref a/\iv=.ref b/\kd.knd.is s.heap kk b/\xs.length<=sizeLine/\i8 kd.knd s.heap a xs/\∀h' t,i8 kd.knd h' a (storedH xs kk b u)->RY a s.heap h'->∃L,Inv X pins σ L {s with heap:=h',toks:=t}/\Ext μ H μ L/\RelM fa X.K μ L (M.set (o-5000) (.int q.1::putD q.2 dy d)):=by
 obtain⟨a,kd,h,xs,rfl,ho,ha,W,J,hc,E,dp,nd⟩:=kG hd I P r1 e1;obtain⟨kk,F⟩:=lK hk kd;obtain⟨b,rfl⟩:=kd.ref r2 F;obtain⟨ys,hz,R⟩:=KD.dict I J dp nd;obtain rfl:iv=Value.ref b:=ry;have j:=dp.put F r2 rv r3;refine{a,b,kd,kk,xs,rfl,rfl,kd.is I r2 F,hz,R,λh' t O hs=>?_};obtain⟨Q,es',h1,h2,h3,h4,_,_⟩:=O;have lx:(storedH xs kk b u).length<=sizeLine:=by
  have l1:=Paired.length j;have l2:(j0 h dy d).length<=h.length+1:=by
   unfold j0;split<;>simp
  have l3:h.length<1000000:=by rw[E,P8] at hl;exact hl
  rw[<- l1,sizeLine_eq];omega
 have Y:au (o-5000)=o:=Nat.add_sub_cancel' ho;have x:=Ext.dic (es':=(storedH xs kk b u).map (entryOfKey kd.knd)) P J;refine{upd H a (.dn ((storedH xs kk b u).map (entryOfKey kd.knd))),I.write (by rw[J];exact True.intro) (.inl rfl) (λb q hb z=>(hs.2 b hb).trans z) ⟨Q,h1⟩ {by simpa using lx,ys,Q,h1,h2,?_},x,?_}
 ·have B:=congrArg List.length h4;rw[P8] at B;rw[h3,<- h4,B]
 ·refine P.dicW W (by rw[Y];exact ha) J (.inr {q.1,_,j0 h dy d,cD,hc,?_,RX.mapP (KD.back j) λp e ⟨b,v,e1,e2,E,S,U⟩=>{b,v,e1,e2,E.ext x,S,U.ext x},dp.keys nd F})
  rw[E,<- JE];rfl
def Gn (R:Rm X)(hd:eY fa):Dz X (rDS fa X.K):=by
 intro pins s σ H x y v Y iv u Q I rx ry rv h;obtain⟨μ,M,o,dy,d,q,L,r1,r2,r3,e1,P,hl,k⟩:=h;obtain⟨a,b,U,kk,xs,rfl,rfl,O,S,F,z⟩:=qT hd I L r1 r2 ry rv r3 e1 P hl;obtain rfl:Y=Value.ref a:=rx;refine xq (hsz:=S) (U.room R) O F λJ j hs=>?_;obtain⟨B,E,x',W⟩:=z J _ j hs;exact{B,E,k B x' W}
end
section
variable{fa:Fa}{X:Cx}{a b d:Expr}{ga gb gd:GE}{pos:Pos}
def LC (O:Rm X)(hd:eY fa)(J:DE fa X a ga)(L:DE fa X b gb)(hs:jg b):DE fa X (.Subscript a b pos) (b6 ga gb):=
 bG (xx (MQ O hd) J L hs) λW H Q ⟨S,U,M,E,I,h⟩=>t2 E I h λx y B v u R z P F j r1 r2 h2=>by
  cases x with
  | fn o =>
    obtain⟨d,e,q⟩:=ku h2;exact{z,B,o,y,d,j,r1,r2,e,a8.ext q P}
  |_=>exact h2.elim
def wI {x y:D}(h:ae (match y with|.fn o=>(match inD M o x with|some r=>Res.ok (D.bl (n != r)) M|none=>.bad)|_=>.bad) k):∃o r,y=.fn o/\inD M o x=some r/\k (.bl (n != r)) M:=by
 cases y with
 | fn o =>
   dsimp only at h;cases e:inD M o x with
   |none=>rw[e] at h;exact h.elim
   |some r=>rw[e] at h;exact⟨o,r,rfl,e,h⟩
 |_=>exact h.elim
def Nr (n:Bool)(O:Rm X)(hd:eY fa)(J:DE fa X a ga)(L:DE fa X b gb)(hm:behindInMarks (if n then .NotIn else .In) b=false):DE fa X (.Compare a [if n then .NotIn else .In] [b] pos) (iL n ga gb):=
 bG (qC (Ff O hd n) J L hm) λW H Q ⟨S,U,M,E,I,h⟩=>t2 E I h λx y B v u R z P F j r1 r2 h2=>by
  obtain⟨o,r,rfl,e,q⟩:=wI h2;exact{z,B,o,x,r,j,r1,r2,e,aR j (q.ext P) rfl}
def Le (n:Bool)(W:Rm X)(hd:eY fa)(S:DE fa X a ga)(U:DE fa X b gb)(hm:behindInMarks (if n then .NotIn else .In) b=false):DT fa X (.Compare a [if n then .NotIn else .In] [b] pos) (ak (iL n ga gb)):=
 km (qy (Ff W hd n) S U hm) λσ H Q ⟨μ,Z,M,O,R,h⟩=>by
  obtain⟨z,I,e,q⟩:=aG h;have L:ae (iL n ga gb Z M) (λd M=>d=z/\M=I):=by rw[e];exact⟨rfl,rfl⟩
  refine t2 O R L λx y F v u E B Y P j r1 r2 h2=>?_;obtain⟨o,r,rfl,e1,e2,J⟩:=wI h2;subst e2 J;exact{B,F,o,x,r,j,r1,r2,e1,n != r,rfl,q E B Y j}
set_option tactic.hygienic true in
def Jh (hu:Rm X)(hk:eY fa)(W:DE fa X a ga)(Y:DE fa X b gb)(hd:DE fa X d gd)
 (R:∀v,assign (.Subscript a b p2) X.env v=(do
  let u <- holding [v] (eval a X.env)
  let J <- holding [v,u] (eval b X.env)
  standAt p2
  holding [v,u,J] (setItem u J v)
  release [v,u,J] [])) (hs:swapsWithSole [.Subscript a b p2] d pos.line X.env=pure false) (hw:swappedStores [.Subscript a b p2] d X.env=pure none) :
 DS fa X (.Assign [.Subscript a b p2] d pos) (eM ga gb gd):=
 dM (pF hd (Ab W Y (Gn hu hk) R) hs hw) λD' σ H ⟨μ,Z,M,S,U,h⟩=>t1 S U h λz M1 v H1 μ1 x1 B F r1 h1=>t2 B F h1 λx y L vx vy H2 j P E I rx ry h2=>by
  cases x with
  | fn o =>
    dsimp only at h2;cases e:bB L o with
    |none=>rw[e] at h2;exact h2.elim
    | some q =>
      rw[e] at h2;dsimp only at h2;split at h2
      ·next c=>
       have w:=h2;exact{j,L,o,y,z,q,I,rx,ry,r1.ext P,e,c.1,c.2,λQ O m'=>w σ Q j ((x1.trans P).trans O) (E.ext O) m'}
      ·exact h2.elim
  |_=>exact h2.elim
def Lz (c:Int)(z:c=77\/c=78)(hd:eY fa):DE fa X (.Dict [] [] pos) (nQ c):=by
 intro v s J H Q I ⟨B,F,M,E,j,h⟩;have y:sysModules<s.heap.objs.size:=Nat.lt_trans `d (I.mod.glob.keeps I.bk).lt
 have u:=I.hok.fresh (Qe _);refine wpAny_Dict_empty {.ref s.heap.objs.size,_,I.laid (o:=.dn []) (λ_ _ q=>Qd _ q) (Qe _) {Rv _,RU.mpr (Rf (QN y)),_,QA _ rfl,⟨rfl,rfl,rfl⟩,rfl},rfl,?_};refine h _ _ (nM B M.length s.heap.objs.size) (Ext.dicNew j u) (j.dicNew u z) {_,rfl,.inr {hd.of _ (R9 _ _),?_}};show(if au M.length=au M.length then some s.heap.objs.size else _)=_;rw[if_pos rfl]
end
def ub (hd:(d==sysModules)=false) :
 MeetsIn prog w (Builtin.«dict.__len__» {[.ref d],[]}) (λ_ R s=>∃o es u,s.heap.get? d=some o/\o.data=.dict es u/\R (.ok (.ret (.int es.size s.toks))) {s with toks:=s.toks+1}):=
 .of_wp λA R s ⟨o,es,u,ho,j,h⟩=>by
  show wpAny _ _ (dictSize d >>= _) _ _ s;refine tqa (tqa (wpAny_dictEntries ho j (tqb ?_)));refine tqa (wpAny_pendingCount_other hd (wpAny_ret_mkInt ?_));rw[Nat.add_zero];exact h
def Kr (hd:(d==sysModules)=false)(ho:s.heap.get? d=some o)(y:o.cls=.type "dict")(j:o.data=.dict es ep)(v:es.size<2^62)
 (h:∀t t',Q (.int es.size t) {s with toks:=t'}):wpAny (model prog w) A (call (.builtin "len") [.ref d]) Q E s:=by
 have u:s.TypeIs (.ref d) "dict":=⟨o,ho,y⟩;refine Calls.call_function_entry kind_len plain_len entry_len (args_len1 _) ?_;refine tqa (tqb ?_);refine tqa (wpAny_callSpecial?_slot u F.slot_dict_len (call_meetsIn F.slot_dict_len u F.entry_dict_len (F.args_dict_len_1 _) (ub hd) {o,es,ep,ho,j,?_}));refine tqa (tqo (tqb (tqa (wpAny_letGo ?_))));rw[if_neg `a]
 rw[if_neg `a]
 exact tqa (wpAny_mkInt (tqb {_,rfl,h _ _}))
def gZ (a:GE):GE:=λh M=>(a h M).bind λx M=>match x with
 | .fn o => (match bB M o with
   |some q=>.ok (.int q.2.length) M
   |none=>.bad)
 |_=>.bad
section
variable{fa:Fa}{X:Cx}{a:Expr}{ga:GE}{p pos:Pos}
def KW (hd:eY fa):cy X (.builtin "len") (λxs H Q=>∃μ M o q v,xs=[v]/\RelM fa X.K μ H M/\Rep fa X.K μ H (.fn o) v/\bB M o=some q/\Q (.int q.2.length) H):=by
 intro j s σ H xs us Q I r h;obtain⟨μ,M,o,q,v,rfl,F,P,e,k⟩:=h;obtain⟨b,J,L,R,rfl,ho,U,S,E,W,u,dp,nd⟩:=kG hd I F P e;cases r with
 | cons r O =>
   cases O;obtain rfl:=(r);obtain⟨z,y,ob,h1,h2,h3⟩:=(I.hok b _ E);have B:(R.map (entryOfKey J.knd)).toArray.size=q.2.length:=by
    rw[u,Qy,P8,P8];exact(Paired.length dp).symm
   refine Kr y h1 h2.1 h3 ?_ λt Y=>{.int q.2.length,H,I.tok _,{t,by rw[B]},k}
   rw[Qy];rw[sizeLine_eq] at z;omega
def LB (hd:eY fa)(I:Gl X "len")(hm:X.mg "len"=none)(F:DE fa X a ga)(he:notStar a=true):DE fa X (.Call (.Name "len" p) [a] [] pos) (gZ ga):=
 bG (jq (KW hd) I hm PySem.boot_len (cm F dN (by rw[bp he])) `d `d (by rw[bp he]) `r) λR H Q ⟨O,P,M,z,E,h⟩=>t1 z E h λx y v L u J B j r1 h1=>by
  cases x with
  | fn o =>
    dsimp only at h1;cases e:bB y o with
    |none=>rw[e] at h1;exact h1.elim
    |some q=>rw[e] at h1;exact{u,y,o,q,v,rfl,j,r1,e,aR j (a8.ext h1 J) rfl}
  |_=>exact h1.elim
end
def jS (u y:GE):Env->List D->Mem->Res (List D):=λj h M=>(u j M).bind λk M=>(y j M).bind λv M=>match h with
 | [.fn o] => (match bB M o with
   |some q=>if isKey q.1 k=true/\q.2.length<1000000 then .ok h (M.set (o-5000) (.int q.1::putD q.2 k v)) else .bad
   |none=>.bad)
 |_=>.bad
def kF (c:Int)(n:Nat)(t:fX)(u:GW)(g:GB):GE:=λj M=>(u j M).bind λw M=>(cW (cP t g (List.replicate n none++j)) w [.fn (au M.length)] (M++[[.int c]])).bind λh M=>match h with
 |[d]=>.ok d M
 |_=>.bad
def w8 (a:Addr):PA:=λj _ h=>∃o,h=[.fn o]/\5000<=o/\j.ob o=some a
def w8.stab:yt (w8 a):=λ_ _ _ _ _ x ⟨o,h1,h2,h3⟩=>{o,h1,h2,x.obs _ _ h3}
def BZ (B y h j:Expr)(u:Scope)(pos:Pos)(z:Qb)(d:Addr)(env:RV) :
 compTurn (.DictComp B y [{h,j,[],0}] u pos) 0 z (.ref d) env=(standAt j.pos >>= λ_=>pyNext z >>= λr=>match r with
  |none=>pure (.done .next)
  |some v=>letOwnedTupleGo h z v >>= λ_=>assign h env v >>= λ_=>(eval B env >>= λE=>holding [E] (eval y env) >>= λF=>standAt {B.pos with endLine:=y.pos.endLine,endCol:=y.pos.endCol} >>= λ_=>holding [E,F] (dictSet d E F)) >>= λ_=>again (.compLoop (.DictComp B y [{h,j,[],0}] u pos) 0 z (.ref d) env)):=`r
section
variable{fa:Fa}{X:Cx}{a:Addr}
set_option tactic.hygienic true in
def HK (hu:Rm X)(hd:eY fa)(hk:DE fa X kx gk)(hv:DE fa X vx gv):DB fa X (w8 a) a [] (eval kx X.env >>= λY=>holding [Y] (eval vx X.env) >>= λvv=>standAt {kx.pos with endLine:=vx.pos.endLine,endCol:=vx.pos.endCol} >>= λ_=>holding [Y,vv] (dictSet a Y vv)) (jS gk gv):=by
 rintro z s O H Q μ Z M _ I U hM hc ⟨o,rfl,ho,W⟩ h;obtain⟨k,M1,e,h⟩:=aG h;obtain⟨v,M2,e2,h⟩:=aG h;dsimp only at h;cases R:bB M2 o with
 |none=>rw[R] at h;exact h.elim
 | some q =>
   rw[R] at h;dsimp only at h;split at h
   ·next c=>
    refine tqa (aW (hk z s O H (λv y=>∃j,Ext μ H j y/\RelM fa X.K j y M1/\Rep fa X.K j y k v) I {μ,Z,M,U,hM,?_}) λuk s1 ⟨wk,y,I1,rk,j,B,E,r1⟩=>?_)
    ·rw[e];exact λv y j B E r1=>⟨j,B,E,r1⟩
    refine tqa (tqo (aW (hv z s1 O y (λw J=>∃u,Ext j y u J/\RelM fa X.K u J M2/\Rep fa X.K u J v w) I1 {j,Z,M1,U.ext B,E,?_}) λuv s2 ⟨wv,J,I2,rv,u,L,m2,r2⟩=>?_))
    ·rw[e2];exact λv y j B E r1=>⟨j,B,E,r1⟩
    have F:=L.obs _ _ (B.obs _ _ W);obtain⟨a',b,kd,kk,xs,ea,rfl,hi,hz,dd,S⟩:=qT hd I2 m2 {a,rfl,.inr {hd.of _ ho,F}} (r1.ext L) rk rv r2 R c.1 c.2;cases ea;refine tqa (wpAny_standAt (tqo (lS (hsz:=hz) (kd.room0 hu) hi dd λh' P hs=>?_)));obtain⟨H',I',x',m'⟩:=S h' _ P hs;exact{O,H',I',h O H' u ((B.trans L).trans x').toD (((U.ext B).ext L).ext x') m' {o,rfl,ho,x'.obs _ _ F}}
   ·exact h.elim
def vp {c:Int}{rest:List Sk}(hc:c=77\/c=78)(hd:eY fa)
 (S:fN X own bn scope) (Y:X.calm=true) (hi:DI fa X tg iter gw) (B:Block fa X w8 own bn scope tg t W body g) (hT:∀(it a:Addr) (env:RV),compTurn (.DictComp kx vx ({tg,iter,ifs,0}::rest) scope pos) 0 (.ref it) (.ref a) env=(standAt iter.pos >>= λ_=>pyNext (.ref it) >>= λr=>match r with
  |none=>pure (.done .next)
  |some v=>letOwnedTupleGo tg (.ref it) v >>= λ_=>assign tg env v >>= λ_=>body a env >>= λ_=>again (.compLoop (.DictComp kx vx ({tg,iter,ifs,0}::rest) scope pos) 0 (.ref it) (.ref a) env))) (hW:∀i∈W,i∉slots t) (hn:∀i∈slots t++W,i<own.length)
 (hs:∀x,foldedSetIterable iter X.env x=pure x)
 (I:Inv X pins σ H s) (hE:bw fa X.K μ H σ Z) (hM:RelM fa X.K μ H M) (h:ae (kF c own.length t gw g Z M) (a8 fa X.K μ H Q))
 (post:∀(a C:Addr) (s':Qf) (E:Hp),Inv X pins σ E s'->Q (.ref a) E->(∃m,s'.heap.Ns C m)->(∀σ2 F s2,Inv X pins σ2 F s2->(E C=none->F C=none)->F C=none/\∀U,RY C s2.heap U->Inv X pins σ2 F {s2 with heap:=U})->E C=none->(C≠X.env.locals/\∀x c,X.env.cells.lookup x=some c->c≠C)->compPost (model X.prog X.w) X.A X.xe use QQ (.ref a) C (.ok .next) s') :
 wpAny (model X.prog X.w) X.A (comprehension (.DictComp kx vx ({tg,iter,ifs,0}::rest) scope pos) scope X.env p0 newDict false (eval iter X.env) use) QQ X.xe s:=by
 obtain⟨w,M1,ew,q⟩:=aG h;obtain⟨acc,M2,ea,q2⟩:=aG q;obtain⟨cl,hcl,R,P⟩:=p8 λy hy hf=>I.ok.has y.1 (S.free y hy hf);refine wpAny_comprehension_free rfl hs hcl S.kind S.loc ?_;refine aW (hi pins s σ H (λJ H1=>∃L,Ext μ H L H1/\RelM fa X.K L H1 M1/\dD fa X.K L H1 w J) I {μ,Z,M,hE,hM,?_}) λv s1 h1=>aW h1 λitv s2 h2=>?_
 ·rw[ew];exact λJ H1 L x1 m1 wk=>⟨L,x1,m1,wk⟩
 obtain⟨it,fp,tn,J,F,ei,I2,T,st2,f2,μ2,x2,m2,wk⟩:=h2;subst ei;refine tqa (wpAny_alloc (tqb ?_));have j:sysModules<s2.heap.objs.size:=Nat.lt_trans `d (I2.mod.glob.keeps I2.bk).lt
 have ha:=I2.hok.fresh (Qe _);have I3:Inv X pins σ (upd F s2.heap.objs.size (.dn [])) {s2 with heap:=s2.heap.push {cls:=.type "dict",data:=.dict #[]}}:=
  I2.laid (λb o e=>Qd _ e) (Qe _) {Rv _,RU.mpr (Rf (QN j)),_,QA _ rfl,⟨rfl,rfl,rfl⟩,rfl}
 generalize hs3:({s2 with heap:=s2.heap.push {cls:=.type "dict",data:=.dict #[]}}:Qf)=s3 at I3 ⊢
 have k3:∀b o,s2.heap.get? b=some o->s3.heap.get? b=some o:=λb o e=>by rw[<- hs3];exact Qd _ e
 have fo2:=T.obj _ _ st2;have f3:∀b∈fp,fK X pins (upd F s2.heap.objs.size (.dn [])) b:=λb j=>by
  obtain⟨o,e,_⟩:=fo2 b j;exact{by rw[aE (QN (Qz e))];exact(f2 b j).1,(f2 b j).2}
 have fo3:∀b∈fp,∃o,s3.heap.get? b=some o:=λb j=>let{o,e,_}:=fo2 b j;{o,k3 b o e}
 obtain⟨CL,hce⟩:=Fe S R P (s3.heap.push {cls:=.type "dict",data:=.dict #[]}) (R6 ..);generalize O:cellsFrom (s3.heap.objs.size+1) scope.names cl=cl' at CL hce;refine rT ?_;rw[O];have u:(pushCells (s3.heap.push {cls:=.type "dict",data:=.dict #[]}) scope.names).Ns s3.heap.objs.size (λ_=>none):=(Heap.Ns.new s3.heap (.type "dict")).keeps (pushCells_keeps _ _);have k4:∀b o,s3.heap.get? b=some o->(pushCells (s3.heap.push {cls:=.type "dict",data:=.dict #[]}) scope.names).get? b=some o:=λb o e=>pushCells_keeps _ _ b o (Qd _ e);generalize pushCells (s3.heap.push {cls:=.type "dict",data:=.dict #[]}) scope.names=h₁ at u k4 hce ⊢;clear hcl O R P cl
 rename List (Str×Addr)=>cl
 have I4:=uO (t':=s3.toks) I3 S CL f3 fo3 u k4 hce;have ok4:=I4.ok;have f4:∀b∈fp,fK (f9 X own bn scope cl s3.heap.objs.size fp s3 (upd F s2.heap.objs.size (.dn []))) [] (upd F s2.heap.objs.size (.dn [])) b:=λb j=>
  {(f3 b j).1,(ok4.exf b j).1,ok4.exfs b j,.inl j,(ok4.exf b j).2,λp hp=>nomatch hp}
 have st4:=T.keep _ _ _ st2 λb j o e=>k4 b o (k3 b o e);have x3:=Ext.dicNew m2 ha;have m3:=m2.dicNew ha hc;have go:=qV w8.stab (X:=f9 X own bn scope cl s3.heap.objs.size fp s3 (upd F s2.heap.objs.size (.dn []))) (acc:=[.fn (au M1.length)]) (Q:=λ_ E=>Q (.ref s2.heap.objs.size) E) (hT it s2.heap.objs.size _) ⟨rfl,rfl⟩ rfl Y T (B.pg _ _ _ _ _) (B.db _ _ _ _ _ _) hW I4 st4 f4
  (tK own.length ((hE.ext x2).ext x3)) m3 (rZ hn) {_,rfl,R9 _ _,if_pos rfl} (rh wk x3.toExtW) (by
   rw[ea];rintro σ' E μ' z1 z2 z3 ⟨o,rfl,ho,hob⟩;have z:Ext _ _ μ' E:={z1.toExtW,z1.pr,λb j=>z1.pk b j λe=>by
    obtain⟨⟨vs,q⟩,_⟩:=m2.pv b j;rw[e,ha] at q;cases q}
   exact q2 (.ref s2.heap.objs.size) E μ' ((x2.trans x3).trans z) z3 {_,rfl,.inr {hd.of _ ho,hob}})
 have go':codeAny (model X.prog X.w) X.A (.compLoop (.DictComp kx vx ({tg,iter,ifs,0}::rest) scope pos) 0 (.ref it) (.ref s2.heap.objs.size) (compEnvC scope cl s3.heap.objs.size X.env)) (compPost (model X.prog X.w) X.A X.xe use QQ (.ref s2.heap.objs.size) s3.heap.objs.size) {s3 with heap:=h₁}:=
  codeAny_mono go λr s' ⟨er,σ',E,I',z⟩=>by
   subst er;refine post _ _ s' E (comp_back I3 f3 I') z (let{m,hn,_}:=I'.loc;⟨m,hn⟩) (λσ2 F s2' I2' hf=>{hf I'.free,λU hs''=>rX I3 (hf I'.free) I2' hs''}) I'.free {Rj I3.lt,λx c e z=>by
    obtain⟨v,q⟩:=I3.cell x c e;exact absurd q.lt (by rw[z];exact Rz _)}
 exact codeAny_compStart_dict go' (T.self _ 0 _ _ _ st4 go')
def HN {c:Int}{z y E j:Expr}{pos:Pos}(hc:c=77\/c=78)(hd:eY fa)
 (S:fN X own bn scope) (u:X.calm=true) (hi:DI fa X E j gw) (B:Block fa X w8 own bn scope E t [] (λa env=>eval z env >>= λJ=>holding [J] (eval y env) >>= λP=>standAt {z.pos with endLine:=y.pos.endLine,endCol:=y.pos.endCol} >>= λ_=>holding [J,P] (dictSet a J P)) (jS gk gv)) (hn:∀i∈slots t++[],i<own.length)
 (hs:∀x,foldedSetIterable j X.env x=pure x):DE fa X (.DictComp z y [{E,j,[],0}] scope pos) (kF c own.length t gw (jS gk gv)):=by
 intro O s σ H Q I ⟨μ,Z,M,W,Y,h⟩;refine vp hc hd S u hi B (λit a env=>BZ z y E j scope pos (.ref it) a env) (λ_ h=>nomatch h) hn hs I W Y h ?_;intro a C s' L R q ⟨m,hn⟩ v hf _;exact{m,hn,λU F=>{.ref a,L,(v σ L s' R id).2 U F,rfl,q}}
end
def Dv (hh:A.in1.handled=none)(P:p≠I)(U:Nat->Bool)(G:Heap->Prop)(H:∀h h',G h->(∀b o,b∉[I]->h.get? b=some o->h'.get? b=some o)->G h')
 (S:∀i v (s:Qf) (Q:Bool->Qf->Prop) (E:Qb->Qf->Prop),items[i]?=some v->G s.heap->(∀t,Q (U i) {s with toks:=t})->wpAny (model prog w) A.in1 (truthy v) Q E s):∀(k i:Nat) (s:Qf),items.size-i=k->i<=items.size->(s.heap.IsListIter I p i/\s.heap.IsList p items)->G s.heap->
 (∀h' tk,G h'->R (.ok (.ret (.bool (((List.range items.size).drop i).any U)))) {s with heap:=h',toks:=tk})->codeAny (model prog w) A (.builtin "any.loop" {[.ref I],[]}) R s:=by
 have W:=Walks.list (prog:=prog) (w:=w) hh I p P items;intro k;induction k with
 | zero =>
   intro i s hk hi y g J;have O:i=items.size:=`a
   subst O;refine codeAny_builtin F.entry_any_loop ?_;rw[R7 F.plain_any_loop _];refine tqa (W.done s _ _ y λh' tk j=>?_);refine tqa (wpAny_rule (tqb ?_));have:=J h' tk (H _ _ g j);rw[List.drop_of_length_le `s] at this
   exact this
 | succ k ih =>
   intro i s hk hi y g J;have u:i<items.size:=`a
   have hd:(List.range items.size).drop i=i::(List.range items.size).drop (i+1):=by
    rw[List.drop_eq_getElem_cons (by simpa using u)];simp
   refine codeAny_builtin F.entry_any_loop ?_;rw[R7 F.plain_any_loop _];refine tqa (W.item i s _ _ u y λv h' tk hP z j=>?_);refine tqa (tqo (S i v _ _ _ hP (H _ _ g j) λt=>?_));refine tqa (wpAny_letGo ?_);cases Y:U i with
   | false =>
     refine tqb {plainId_quiet F.plain_any_loop _,ih (i+1) _ `a u z (H _ _ g j) λM B L=>?_}
     have:=J M B L;rw[hd,List.any_cons,Y,Bool.false_or] at this;exact this
   | true =>
     refine tqa (wpAny_rule (tqb ?_));have:=J h' t (H _ _ g j);rw[hd,List.any_cons,Y,Bool.true_or] at this;exact this
def range_any (bs:List Bool):((List.range bs.length).any λi=>(bs[i]?).getD false)=bs.any id:=by
 rw[Rb,RK,RK];constructor
 ·rintro⟨i,_,e⟩;cases z:bs[i]? with
  |none=>rw[z] at e;cases e
  |some b=>rw[z] at e;exact{b,QC z,e}
 ·rintro⟨b,j,e⟩;obtain⟨i,h⟩:=List.getElem?_of_mem j;exact{i,RH.mpr (P9.mp h).1,by rw[h];exact e}
def oF (M:Mem):D->Option Bool
 |.bl b=>some b
 |d=>(fj M d).map λxs=>!xs.isEmpty
def B1 (h:oF M d=some b):d=.bl b\/∃xs,fj M d=some xs/\b=!xs.isEmpty:=by
 cases d with
 |bl c=>cases h;exact .inl rfl
 | _ =>
   simp only[oF] at h;obtain⟨xs,e1,e2⟩:=Qk.mp h;exact .inr ⟨xs,e1,e2.symm⟩
def jK (M:Mem):List D->Option (List Bool)
 |[]=>some []
 |d::r=>(oF M d).bind λb=>(jK M r).map (b::·)
def sX:∀{ds:List D}{bs:List Bool},jK M ds=some bs->bs.length=ds.length/\∀(i:Nat) d,ds[i]?=some d->∃b,bs[i]?=some b/\oF M d=some b
 |[],_,h=>by cases h;exact{rfl,λ_ _ e=>by simp at e}
 | d :: ds, _, h => by
   obtain⟨b,e,h⟩:=Q8.mp h;obtain⟨bs,e2,rfl⟩:=Qk.mp h;obtain⟨h1,h2⟩:=sX e2;refine{by simp[h1],λi j z=>?_}
   cases i with
   |zero=>cases z;exact⟨b,rfl,e⟩
   |succ i=>exact h2 i j z
def qL (a:GE):GE:=λj M=>(a j M).bind λx M=>match fj M x with
 | some h => (match jK M h with
   |some bs=>.ok (.bl (bs.any id)) M
   |none=>.bad)
 |none=>.bad
section
variable{fa:Fa}{X:Cx}{a:Expr}{ga:GE}{p pos:Pos}
def M9:cy X (.builtin "any") (λxs H Q=>∃μ M ds bs p vs,xs=[.ref p]/\X.calm=true/\RelM fa X.K μ H M/\dB X.K H p vs/\aL fa X.K μ H ds vs/\jK M ds=some bs/\Q (.bl (bs.any id)) H):=by
 intro y s σ H xs us Q I r h;obtain⟨μ,M,ds,bs,p,vs,rfl,hc,hM,hq,rl,eb,q⟩:=h;obtain⟨u,rfl,rx⟩:=vals1 r;cases rx;obtain⟨j,U,R,hz⟩:=I.list hq;obtain⟨hl,hb⟩:=sX eb;have P:=R.lt;refine call_function_tree F.kind_any F.plain_any F.entry_any (F.args_any1 _) ?_;refine tqa (tqb ?_);refine tqa (wpAny_pyIter_list R.isList ?_);refine tqb {plainId_quiet F.plain_any_loop _,Dv (I.ok.hd hc) (QN P) (λi=>(bs[i]?).getD false) (λh=>∀b o,s.heap.get? b=some o->h.get? b=some o) (λh h' g k b o e=>k b o (λz=>by rw[Qs.mp z] at e;exact absurd (Qz e) (Rz _)) (g b o e)) ?_ j.toArray.size 0 _ rfl (Rv _) {{_,QA _ rfl,rfl,rfl},R.isList.push _} (λb o e=>Qd _ e) λh' tk g=>?_}
 ·intro i v s' Q' E' e g O;have e:j[i]?=some v:=by simpa using e
  have hi:i<vs.length:=by rw[U.length];exact(P9.mp e).1
  obtain⟨d,ed,rd⟩:=rl.getV (Qq hi);obtain⟨u,Y,E⟩:=U.get (Qq hi);rw[e] at Y;cases Y;obtain⟨b,e1,e2⟩:=hb i d ed;rw[e1] at O;have list:∀xs,fj M d=some xs->b=!xs.isEmpty->wpAny (model X.prog X.w) X.A.in1 (truthy v) Q' E' s':=λxs J L=>by
   obtain⟨a,ws,ev,hw,W⟩:=bL hM rd J;rw[ev] at E;obtain rfl:=(E);have I':Inv X y σ H {s with heap:=s'.heap,toks:=s.toks}:=I.kept g
   obtain⟨its',B,S,hz'⟩:=I'.list hw;have hlen:=B.length;have hs:=sizeLine_eq;refine wpAny_truthy_list S.isList (by simp only[Qy];omega) ?_
   rw[lL B,show ws.isEmpty=xs.isEmpty by rw[Rb,List.isEmpty_iff_length_eq_zero,List.isEmpty_iff_length_eq_zero,W.length],<- L]
   exact O _
  rcases B1 e2 with rfl|⟨xs,J,L⟩
  ·rw[show vs[i]=V.bl b from rd] at E;obtain rfl:=(E);exact tqp (O _)
  ·exact list xs J L
 ·rw[List.drop_zero,Qy,<- U.length,rl.length,<- hl,range_any];exact{.bl _,H,I.kept g,rfl,q}
def Nx (J:X.calm=true)(L:Gl X "any")(hm:X.mg "any"=none)(I:DE fa X a ga)(he:notStar a=true):DE fa X (.Call (.Name "any" p) [a] [] pos) (qL ga):=
 bG (jq (M9) L hm `k (cm I dN (by rw[bp he])) `d `d (by rw[bp he]) `r) λY H Q ⟨U,W,M,B,F,h⟩=>t1 B F h λx u v S y R E j r1 h1=>by
  cases e:fj u x with
  |none=>rw[e] at h1;exact h1.elim
  | some z =>
    rw[e] at h1;dsimp only at h1;cases e2:jK u z with
    |none=>rw[e2] at h1;exact h1.elim
    | some bs =>
      rw[e2] at h1;obtain⟨a,P,rfl,O,r⟩:=bL j r1 e;exact{y,u,z,bs,a,P,rfl,J,j,O,r,e2,aR j (a8.ext h1 R) rfl}
end
def wx (c:Int)(gk gv:GE):GE:=λj M=>(gk j (M++[[.int c]])).bind λk u=>(gv j u).bind λv h=>match bB h (au M.length) with
 |some q=>if isKey q.1 k=true/\q.2.length<1000000 then .ok (.fn (au M.length)) (h.set (au M.length-5000) (.int q.1::putD q.2 k v)) else .bad
 |none=>.bad
section
variable{fa:Fa}{X:Cx}{kx vx:Expr}{gk gv:GE}{pos:Pos}
set_option tactic.hygienic true in
def HM (c:Int)(hc:c=77\/c=78)(hu:Rm X)(hd:eY fa)(hk:DE fa X kx gk)(hv:DE fa X vx gv):DE fa X (.Dict [some kx] [vx] pos) (wx c gk gv):=by
 intro u s W H Q I ⟨μ,Z,M,hE,hM,h⟩;obtain⟨k,M1,e1,h⟩:=aG h;obtain⟨v,M2,e2,h⟩:=aG h;cases L:bB M2 (au M.length) with
 |none=>rw[L] at h;exact h.elim
 | some q =>
   rw[L] at h;dsimp only at h;split at h
   ·next cc=>
    have hb:sysModules<s.heap.objs.size:=Nat.lt_trans `d (I.mod.glob.keeps I.bk).lt
    have ha:=I.hok.fresh (Qe _);have I0:Inv X u W (upd H s.heap.objs.size (.dn [])) {s with heap:=s.heap.push {cls:=.type "dict",data:=.dict #[]}}:=
     I.laid (λb o e=>Qd _ e) (Qe _) {Rv _,RU.mpr (Rf (QN hb)),_,QA _ rfl,⟨rfl,rfl,rfl⟩,rfl}
    have S:=Ext.dicNew hM ha;have m0:=hM.dicNew ha hc;have P:(nM μ M.length s.heap.objs.size).ob (au M.length)=some s.heap.objs.size:=if_pos rfl;refine wpAny_Dict_any rfl rfl `s (Qp rfl) ?_
    refine tqa (aW (hk u _ W _ (λv z=>∃j,Ext (nM μ M.length s.heap.objs.size) (upd H s.heap.objs.size (.dn [])) j z/\RelM fa X.K j z M1/\Rep fa X.K j z k v) I0 {_,Z,_,hE.ext S,m0,?_}) λuk s1 ⟨wk,z,I1,rk,j,B,n1,r1⟩=>?_)
    ·rw[e1];exact λv z j B R r1=>⟨j,B,R,r1⟩
    refine tqa (tqo (tqa (aW (hv u s1 W z (λw F=>∃y,Ext j z y F/\RelM fa X.K y F M2/\Rep fa X.K y F v w) I1 {j,Z,M1,(hE.ext S).ext B,n1,?_}) λuv s2 ⟨wv,F,I2,rv,y,U,m2,r2⟩=>?_)))
    ·rw[e2];exact λv z j B R r1=>⟨j,B,R,r1⟩
    refine tqa (wpAny_standAt (tqb ?_));refine tqa (tqo (tqb (tqb ?_)));have E:=U.obs _ _ (B.obs _ _ P);obtain⟨a',b,kd,kk,xs,ea,rfl,hi,hz,dd,O⟩:=qT hd I2 m2 {_,rfl,.inr {hd.of _ (R9 _ _),E}} (r1.ext U) rk rv r2 L cc.1 cc.2;cases ea;unfold storeAll;rw[List.forIn_cons];refine tqa (tqa (lS (hsz:=hz) (kd.room0 hu) hi dd λh' J hs=>tqb ?_));obtain⟨Y,I',x',m'⟩:=O h' _ J hs;refine tqb {.ref s.heap.objs.size,Y,I',rfl,h _ Y y (((S.trans B).trans U).trans x') m' {_,rfl,.inr {hd.of _ (R9 _ _),x'.obs _ _ E}}}
   ·exact h.elim
end
section
variable{prog:Q5}{w:Q4}{A:RL}{E:Qb->Qf->Prop}{s:Qf}{it d:Addr}{i ep:Nat}{od:Obj}{es:Array Rx}{e:Rx}{Q:Option Qb->Qf->Prop}{QV:Qb->Qf->Prop}
def AI (hd:(d==sysModules)=false)(ho:s.heap.get? d=some od)(v:od.ExactDict)(h:od.data=.dict es ep)
 (u:QV (.ref s.heap.objs.size) {s with heap:=s.heap.push {cls:=.type "dict_keyiterator",data:=.fields #[.ref d,.int 0 0,.int es.size 0,.int ep 0]}}) :
 wpAny (model prog w) A (pyIter (.ref d)) QV E s:=by
 have j:s.TypeIs (.ref d) "dict":=⟨od,ho,v.1⟩;refine wpAny_pyIter_slot j F.slot_dict_iter (wpAny_call_entry F.slot_dict_iter j F.entry_dict_iter ?_ (F.args_dict_iter_1 _));refine tqa ?_;refine tqa (wpAny_notOrdered_dict j ?_);refine tqb ?_;show wpAny _ _ (Builtin.Dict.showsAll d >>= _) _ _ s;unfold Builtin.Dict.showsAll;rw[if_neg (by rw[hd];exact QF)]
 refine tqa (tqb ?_);refine tqa (wpAny_dictEntries ho h ?_);refine tqa (wpAny_dictEpoch ho h ?_);refine tqa (wpAny_newObj_type (tqb {_,rfl,"dict_keyiterator",_,{_,QA _ rfl,rfl},F.slot_dict_keyiterator_next.lookup,?_}));simpa[rawInt] using u
def ug (h:s.heap.IsKeyIter it d i es.size ep)(v:s.heap.get? d=some od)(u:od.data=.dict es ep)(B:es[i]?=some e)
 (y:∀h',h'.IsKeyIter it d (i+1) es.size ep->RY it s.heap h'->Q (some e.key) {s with heap:=h'}):wpAny (model prog w) A (pyNext (.ref it)) Q E s:=by
 obtain⟨o,ho,z,hd⟩:=id h;refine tqa (wpAny_attempt (wpAny_callSpecial?_slot h.typeIs Ss
  (wpAny_call_entry Ss h.typeIs F.entry_dict_keyiterator_next ?_ (F.args_dict_keyiterator_next_1 _))))
 refine tqa (tqb ?_);refine tqa ?_;refine tqa ?_;first|refine tqa (wpAny_typeNameOfWhole_keyiter h.typeIs (tqb ?_))|refine tqa (wpAny_typeNameOf_keyiter h.typeIs (tqb ?_))
 refine tqa (wpAny_fieldsOf ho hd ?_);show wpAny _ _ (if (Value.ref d==Value.none)=true then _ else _) _ _ s;rw[if_neg (show ¬ ((Value.ref d==Value.none)=true) from QF)];refine tqa (tqb ?_);refine tqa (wpAny_dictEntries v u ?_);rw[if_neg `s]
 refine tqa (tqb ?_);refine tqa (wpAny_dictEpoch v u ?_);rw[if_neg `s]
 refine tqb ?_;simp only[show ¬ ((i:Int)<0) from by omega,if_false,RO,B]
 refine tqa ?_;first|refine tqa (wpAny_typeNameOfWhole_keyiter h.typeIs (tqb ?_))|refine tqa (wpAny_typeNameOf_keyiter h.typeIs (tqb ?_))
 refine tqa (wpAny_isOneOf_keyiter h.typeIs ?_);show wpAny _ _ (setField (.ref it) 1 (rawInt ((i:Int)+1)) >>= _) _ _ s;refine tqa (wpAny_setField ho hd `s ?_)
 have j:(s.heap.update it (Obj.mapFields (·.setIfInBounds 1 (rawInt ((i:Int)+1))))).IsKeyIter it d (i+1) es.size ep:=
  {_,Ra _ ho (Su (RS hd _)),(Obj.cls_mapFields ..).trans z,by rw[RS hd];simp[rawInt]}
 refine tqa (tqo ?_);refine tqa (wpAny_isOneOf_keyiter j.typeIs ?_);exact tqb (tqb {_,rfl,tqb (y _ j (RD ..))})
def wg (hh:A.handled=none)(h:s.heap.IsKeyIter it d i es.size ep)(u:s.heap.get? d=some od)(j:od.data=.dict es ep)(v:es.size<=i)
 (z:∀h',Heap.ExtBut it s.heap h'->Q none {s with heap:=h'}):wpAny (model prog w) A (pyNext (.ref it)) Q E s:=by
 obtain⟨o,ho,B,hd⟩:=id h;refine tqa (wpAny_attempt (wpAny_callSpecial?_slot h.typeIs Ss
  (wpAny_call_entry Ss h.typeIs F.entry_dict_keyiterator_next ?_ (F.args_dict_keyiterator_next_1 _))))
 refine tqa (tqb ?_);refine tqa ?_;refine tqa ?_;first|refine tqa (wpAny_typeNameOfWhole_keyiter h.typeIs (tqb ?_))|refine tqa (wpAny_typeNameOf_keyiter h.typeIs (tqb ?_))
 refine tqa (wpAny_fieldsOf ho hd ?_);have y:Builtin.Dict_items.ownsTuple "dict_keyiterator"=false:=`d
 show wpAny _ _ (if (Value.ref d==Value.none)=true then _ else _) _ _ s;rw[if_neg (show ¬ ((Value.ref d==Value.none)=true) from QF)];refine tqa (tqb ?_);refine tqa (wpAny_dictEntries u j ?_);rw[if_neg `s]
 refine tqa (tqb ?_);refine tqa (wpAny_dictEpoch u j ?_);rw[if_neg `s]
 refine tqb ?_;simp only[show ¬ ((i:Int)<0) from by omega,if_false,RO,Array.getElem?_eq_none v]
 refine tqa ?_;first|refine tqa (wpAny_typeNameOfWhole_keyiter h.typeIs (tqb ?_))|refine tqa (wpAny_typeNameOf_keyiter h.typeIs (tqb ?_))
 show wpAny _ _ (setField (.ref it) 0 .none >>= _) _ _ s;refine tqa (wpAny_setField ho hd `s ?_)
 refine tqa ?_;refine tqa (wpAny_newObj_type ?_ (by size_fits))
 refine tqa (wpAny_of_eq (by first|rfl|(simp only[firstArgMember];rfl)) ?_)
 refine wpAny_newObj_type ?_ (by size_fits)
 refine tqa (wpAny_handled ?_);rw[show A.in1.handled=none from hh];refine tqa (tqb (wpAny_throw ?_));refine tqa (wpAny_isInstance {_,QA _ rfl,rfl} isSubtype_stop ?_);exact tqb (z _ (((RD ..).extBut.push _).push _))
end
noncomputable def L7 (a:Addr)(n:Nat)(f:Rx->Qb):It:=
 {λi H=>∃h e x,H a=some (.dn h)/\h.length=n/\h[i]?=some e/\RelV x (f e),λi H x j=>j=H/\∀h e,H a=some (.dn h)->h[i]?=some e->RelV x (f e),λi H=>∃h,H a=some (.dn h)/\h.length=n/\n<=i}
def zi {K:Qa}(a u:Addr)(n:Nat):Turn P w K tg (L7 a n (·.key)) [u] u (λi h=>h.IsKeyIter u a i n n) where
 mem:=`s
 obj:=λi h st b j=>by
  have e:b=u:=by simpa using j
  subst e;obtain⟨o,e,c,d⟩:=st;exact{o,e,λv z=>by rw[d] at z;cases z}
 keep:=λi h h' st k=>st.at λo e=>k u `s o e
 item:=by
  intro X Y hw U hc i B s σ H E I L st hg;subst Y hw U;obtain⟨es,e,x,J,rfl,he,rx⟩:=hg;obtain⟨z,y,o,h1,h2,h3⟩:=(I.hok a _ J);obtain⟨O,f1,f2,Q,R,S⟩:=L u `s
  refine ug (by simpa using st) h1 h3 (by simpa using he) λh' F sb=>?_
  have I1:=I.turned (t':=s.toks) (λb o j e=>(sb.2 b j).trans e) O f1 Q R S;obtain⟨o',e',c',d'⟩:=id F;exact{e.key,rfl,sI e' c' d' `d {x,H,I1,rx,{rfl,λes' e2 q1 q2=>by rw[J] at q1;cases q1;rw[he] at q2;cases q2;exact rx},by simpa using F,λb j=>(L b j).1}}
 done:=by
  intro X Y hw U hc i B s σ H E I L st hg;subst Y hw U;obtain⟨es,J,rfl,hl⟩:=hg;obtain⟨z,y,o,h1,h2,h3⟩:=(I.hok a _ J);obtain⟨O,f1,f2,Q,R,S⟩:=L u `s
  exact wg (I.ok.hd hc) (by simpa using st) h1 h3 (by simpa using hl) λh' eb=>{rfl,I.turned (λb o j e=>eb b o j e) O f1 Q R S}
 self:=λ_ _ _ _ _ st h=>wpAny_pyIter_keyiter st h
def dW (o n:Nat)(f:D->D):Walk:=λM=>match bB M o with
 |some q=>if q.2.length=n then some (q.2.map f) else none
 |none=>none
def di (f:D->D)(ga:GE):GW:=λh M=>(ga h M).bind λx M=>match x with
 | .fn o => (match bB M o with
   |some q=>.ok (dW o q.2.length f) M
   |none=>.bad)
 |_=>.bad
def RX.get {j u:Type}{F:j->u->Prop}:∀{l:List j}{r:List u}{i:Nat}{a:j},RX F l r->l[i]?=some a->∃b,r[i]?=some b/\F a b
 |_,_,0,_,.cons h t,e=>by cases e;exact{_,rfl,h}
 |_,_,i+1,_,.cons h t,e=>RX.get t (i:=i) e
section
variable{fa:Fa}{X:Cx}{K:Qa}{μ:Mu}{H:Hp}{M:Mem}
set_option tactic.hygienic true in
def nW (hd:eY fa)(z:RelM fa K μ H M)(B:μ.ob o=some a)(e:bB M o=some q):∃(es:List Rx) (h:List (D×D)),H a=some (.dn es)/\q.2=h.map iE/\RX (nj fa K μ H q.1) h es:=by
 unfold bB at e;split at e
 ·next ho=>
  split at e
  ·next c es E=>
   split at e
   ·next I=>
    cases e;have v:au (o-5000)=o:=Nat.add_sub_cancel' ho;rcases z.at' _ _ E with⟨b,O,h1,_⟩|⟨b,h1,h2,⟨n,C,L,fs,u,h3,h4,y,j,F⟩|⟨J,u,h,h3,h4,y,j,F⟩⟩
    ·have:=z.sep _ _ h1;rw[v,B] at this;cases this
    ·have j:=(List.cons.inj j).1;have j:=D.int.inj j;rcases I with rfl|rfl
     ·have:n=77:=`a
      rw[this,hd.n77] at h3;cases h3
     ·have:n=78:=`a
      rw[this,hd.n78] at h3;cases h3
    ·rw[v,B] at h1;cases h1;obtain⟨e1,e2⟩:=List.cons.inj y;cases D.int.inj e1;exact⟨u,h,h3,e2,j⟩
   ·cases e
  ·cases e
 ·cases e
set_option tactic.hygienic true in
def BF (hd:eY fa)(R:∀{μ:Mu}{H:Hp}{c:Int}{p:D×D}{e:Rx},nj fa K μ H c p e->∃v,RelV v (g e)/\Rep fa K μ H (f (iE p)) v)(Q:μ.ob o=some a):dD fa K μ H (dW o n f) (L7 a n g):=λU W P ds x z e=>by
 unfold dW at e;cases eq:bB P o with
 |none=>rw[eq] at e;cases e
 | some q =>
   rw[eq] at e;dsimp only at e;split at e
   ·next hl=>
    cases e;obtain⟨E,J,I,u,pr⟩:=nW hd z (x.obs _ _ Q) eq;have j:E.length=n:=by rw[<- hl,u,P8];exact(Paired.length pr).symm
    refine{λi d h=>?_,λi h=>{E,I,j,by rw[P8,hl] at h;exact h}}
    rw[Qv,u,Qv] at h;cases F:J[i]? with
    |none=>rw[F] at h;cases h
    | some p =>
      rw[F] at h;cases h;obtain⟨L,B,r⟩:=RX.get pr F;obtain⟨v,O,rd⟩:=R r;refine{⟨E,L,v,I,j,B,O⟩,λy Y ⟨e2,S⟩=>?_};subst e2;rw[(S E L I B).inj O];exact{.refl,z,rd}
   ·cases e
def Hq {c:Int}(h:nj fa K μ H c p e):∃v,RelV v e.key/\Rep fa K μ H (b9 (iE p)) v:=let{b,_,h1,_,h2,_}:=h;{.ref b,h1,h2}
variable{a tg:Expr}{ga:GE}{apos cpos:Pos}
abbrev L8 (fa:Fa)(X:Cx)(f:D->D)(h:List (Addr×Obj))(y:L2.St)(R:It->Hp->Prop)(v:Qb)(s1:Qf):Prop:=∃(b:Addr) (u:List Rx) (j:Hp),v=.ref b/\Inv X h y j s1/\j b=some (.dn u)/\∀g,(∀{μ:Mu}{H:Hp}{c:Int}{p:D×D}{e:Rx},nj fa X.K μ H c p e->∃v,RelV v (g e)/\Rep fa X.K μ H (f (iE p)) v)->R (L7 b u.length g) j
def HE (hd:eY fa)(q:ae (match x with|.fn o=>(match bB M1 o with|some q=>Res.ok (dW o q.2.length f) M1|none=>.bad)|_=>.bad) λw M'=>∀J z j,Ext μ H j z->RelM fa X.K j z M'->dD fa X.K j z w J->R J z)(F:Inv X pins σ H1 s1)(S:RelV v u)(x1:Ext μ H μ1 H1)(E:RelM fa X.K μ1 H1 M1)(r1:Rep fa X.K μ1 H1 x v):L8 fa X f pins σ R u s1:=by
 cases x with
 | fn o =>
   dsimp only at q;cases y:bB M1 o with
   |none=>rw[y] at q;exact q.elim
   | some Q =>
     rw[y] at q;obtain⟨b,rfl,h⟩:=r1;have ho:5000<=o:=by
      unfold bB at y;split at y
      ·assumption
      ·cases y
     rcases h with h|⟨_,h⟩
     ·rw[hd.of o ho] at h;cases h
     obtain⟨B,P,L,I,pr⟩:=nW hd E h y;have hl:B.length=Q.2.length:=by rw[I,P8];exact(Paired.length pr).symm
     exact{b,B,H1,S,F,L,λg O=>q _ H1 μ1 x1 E (hl ▸ BF hd O h)}
 |_=>exact q.elim
def Dm (hd:eY fa)(O:DE fa X a ga)(I:Inv X pins σ H s)(h:tI fa X.K (di f ga) σ H R):wpAny (model X.prog X.w) X.A (eval a X.env) (L8 fa X f pins σ R) X.xe s:=by
 obtain⟨μ,Q,M,J,L,h⟩:=h;obtain⟨x,F,e,q⟩:=aG h;refine aW (O pins s σ H (λv y=>∃j,Ext μ H j y/\RelM fa X.K j y F/\Rep fa X.K j y x v) I {μ,Q,M,J,L,?_}) λu s1 ⟨v,y,E,P,j,B,z,r1⟩=>HE hd q E P B z r1;rw[e];exact λv y j B z r1=>⟨j,B,z,r1⟩
def HH (hd:eY fa)(L:DE fa X a ga):DI fa X tg a (di b9 ga):=λu s P H R I h=>by
 refine aW (Dm hd L I h) λv s1 ⟨b,E,B,F,j,J,q⟩=>?_;subst F;obtain⟨z,y,o,h1,h2,h3⟩:=(j.hok b _ J);refine AI y h1 h2 h3 ?_;refine{s1.heap.objs.size,[s1.heap.objs.size],_,_,B,rfl,j.kept λb o e=>Qd _ e,zi b _ E.length,{_,QA _ rfl,rfl,rfl},λb O=>?_,q _ Hq};have e:b=s1.heap.objs.size:=by simpa using O
 subst e;exact j.fpOk (Qe _) (j.hok.fresh (Qe _))
end
section
variable{fa:Fa}{X:Cx}{a tg iter:Expr}{ga:GE}{gw:GW}{apos cpos:Pos}
def nA (a d:GE):GS:=λh M=>(a h M).bind λx M=>match x with
 | .cell k => sU (λz M => match M[k]? with
   |some j=>if j.length<sz then .ok (.next h) (M.set k (j++[z])) else .bad
   |none=>.bad) h (d h M)
 |_=>.bad
set_option tactic.hygienic true in
def Hx (ha:DE fa X a ga)(hd:DX fa X d gd)(j:attributeBase a "append" X.env (eval a X.env)=eval a X.env)(u:(apos.endLine==cpos.line)=true)(hs:starEach [d] X.env=[(false,eval d X.env)])
 (S:swapsWith (.Call (.Attribute a "append" apos) [d] [] cpos) none pos.line X.env=pure false) :
 DS fa X (.Expr (.Call (.Attribute a "append" apos) [d] [] cpos) pos) (nA ga gd):=
 dM (nE (xy PySem.F.plainAttrs_list PySem.F.slot_list_append PySem.F.type_list_append mD ha (cm hd dN hs) j (by rw[hs];rfl) u hs `r) S) λD' σ H ⟨μ,L,M,P,hM,h⟩=>by
  obtain⟨x,M1,e1,h1⟩:=aG h;cases x with
  | cell k =>
    refine{μ,L,M,P,hM,?_};rw[e1];intro vx H1 Y I v rx;obtain⟨ad,rfl,R⟩:=rx;obtain⟨ds1,U,_,Q,_⟩:=v.mu_lt R;refine{.inl {rfl,U,dB.of Q},Y,L,M1,P.ext I,v,?_};cases e2:gd L M1 with
    |bad=>rw[e2] at h1;exact h1.elim
    | err y E =>
      rw[e2] at h1;exact XW.ext h1 I
    | ok z E =>
      rw[e2] at h1;have h2:ae (match E[k]? with|some O=>if O.length<sz then Res.ok (Fl.next L) (E.set k (O++[z])) else .bad|none=>.bad) (ni fa X μ H D'):=h1
      cases e:E[k]? with
      |none=>rw[e] at h2;exact h2.elim
      | some O =>
        rw[e] at h2;dsimp only at h2;split at h2
        ·next hz=>
         have q:=h2;intro vz H2 μ2 J B rz;obtain⟨ws,h4,h5⟩:=B.at_ e (J.mu k ad R);refine{ad,ws,vz,rfl,rfl,h4,by rw[h5.length,<- dR];exact hz,?_}
         exact mq ((P.ext I).ext J) B (J.mu k ad R) (h5.append (.one rz)) λσ' H' W x' e' m'=>q σ' H' W ((I.trans J).trans x') e' m'
        ·exact h2.elim
  |_=>exact h1.elim
end
def fm (a b c:GE):GE:=λh M=>(a h M).bind λx M=>match x with
 | .fn o => if (bB M o).isSome = true then(b h M).bind λy M => (c h M).bind λz M => (match bB M o with
   |some q=>if isKey q.1 y=true then .ok ((cw q.2 y).getD z) M else .bad
   |none=>.bad) else .bad
 |_=>.bad
section
variable{fa:Fa}{X:Cx}{a b c:Expr}{ga gb gc:GE}
def Kk (Y:Rm X)(hd:eY fa):Ol X "dict.get" (λx vs H Q=>∃μ M o q y z L O,RelM fa X.K μ H M/\Rep fa X.K μ H (.fn o) x/\vs=[L,O]/\Rep fa X.K μ H y L/\Rep fa X.K μ H z O/\bB M o=some q/\isKey q.1 y=true/\a8 fa X.K μ H Q ((cw q.2 y).getD z) M):=by
 intro R s σ H x vs v us Q I rx u h;obtain⟨μ,M,o,q,y,z,L,O,J,r1,rfl,r2,r3,e1,W,B⟩:=h;obtain⟨a,j,kvs,xs,rfl,ho,ha,em,U,hc,S,dp,nd⟩:=kG hd I J r1 e1;obtain⟨kk,E⟩:=lK W j;obtain⟨b,rfl⟩:=j.ref r2 E;obtain⟨ys,hz,P⟩:=KD.dict I U dp nd;obtain rfl:v=Value.ref a:=rx;cases u with
 |cons ry u=>
 cases u with
 |cons rz u=>
 cases u;obtain rfl:=ry;rw[S] at B;refine call_meetsIn PySem.F.slot_dict_get P.of.typeIs PySem.F.entry_dict_get (PySem.F.args_dict_get_3 _ _ _) (meetsH_dict_get_default j.knd a b ys _) {j.room Y,kk,xs,j.is I r2 E,P.of,?_};rcases dp.look E with⟨l,g⟩|⟨d',b',v',u',l,g,ru,rd⟩
 ·rw[l] at B;rw[g];exact{_,H,I.tok _,rz,aR J B r3}
 ·rw[l] at B;rw[g];exact{_,H,I.tok _,ru,aR J B rd}
set_option tactic.hygienic true in
def Nt (hu:Rm X)(hd:eY fa)(ha:DE fa X a ga)(hb:DE fa X b gb)(hc:DE fa X c gc)(B:attributeBase a "get" X.env (eval a X.env)=eval a X.env)(E:(apos.endLine==cpos.line)=true)(hs:starEach [b,c] X.env=[(false,eval b X.env),(false,eval c X.env)])(j:starEach [c] X.env=[(false,eval c X.env)]):DE fa X (.Call (.Attribute a "get" apos) [b,c] [] cpos) (fm ga gb gc):=
 bG (xy PySem.F.plainAttrs_dict PySem.F.slot_dict_get PySem.F.type_dict_get (Kk hu hd) ha (cm hb (cm hc dN j) (by rw[hs,j])) B (by rw[hs];rfl) E (by rw[hs,j]) (by rw[j];rfl)) λσ H Q ⟨μ,Z,M,P,hM,h⟩=>by
  obtain⟨x,M1,e1,h1⟩:=aG h;cases x with
  | fn o =>
    dsimp only at h1;split at h1
    ·next hz=>
     obtain⟨q0,L⟩:=Sh.mp hz;obtain⟨y,M2,e2,h2⟩:=aG h1;obtain⟨z,M3,e3,h3⟩:=aG h2;refine{μ,Z,M,P,hM,?_};rw[e1];intro v H1 J U I r1;have ho:5000<=o:=by
      unfold bB at L;split at L
      ·assumption
      ·cases L
     obtain⟨p,rfl,u⟩:=id r1;have u:J.ob o=some p:=by
      rcases u with u|⟨_,u⟩
      ·rw[hd.of o ho] at u;cases u
      ·exact u
     obtain⟨es,_,hH,_⟩:=nW hd I u L;refine{.inr (.inr (.inl {rfl,.inr (.inr ⟨es,hH⟩)})),J,Z,M1,P.ext U,I,?_};rw[e2];intro y' H2 μ2 W R r2;refine{μ2,Z,M2,(P.ext U).ext W,R,?_};rw[e3];intro z' H3 μ3 Y S r3;cases O:bB M3 o with
     |none=>rw[O] at h3;exact h3.elim
     | some q =>
       rw[O] at h3;dsimp only at h3;split at h3
       ·next hk=>exact{μ3,M3,o,q,y,z,_,z',S,(r1.ext W).ext Y,rfl,r2.ext Y,r3,O,hk,a8.ext (a8.ext (a8.ext h3 U) W) Y}
       ·exact h3.elim
    ·exact h1.elim
  |_=>exact h1.elim
end
noncomputable def jO:List Int->List Int->Bool
 |[],[]=>false
 |[],_::_=>true
 |_::_,[]=>false
 |a::x,b::y=>if (a==b)=true then jO x y else decide (a<b)
def rg (A:RL)(s:Qf)(x y:Qb)(k:Bool):Prop:=∀(prog:Q5) (w:Q4) (E:Qb->Qf->Prop) (Q:Qb->Qf->Prop),Q (.bool k) s->wpAny (model prog w) A (richCompare .Lt x y) Q E s
def ints_get (h:So us is)(i:Nat)(hi:i<us.length):∃a t,us[i]?=some (.int a t)/\is.drop i=a::is.drop (i+1):=by
 induction h generalizing i with
 |nil=>exact absurd hi (Ry _)
 | cons a t _ j =>
   cases i with
   |zero=>exact⟨a,t,rfl,rfl⟩
   |succ i=>exact j i (Nat.lt_of_succ_lt_succ hi)
def Hb (l b:Addr)(us vs:List Qb)(is j:List Int)(n n2:Nat)(dd B:Option Addr)(sl F:Array (Option Qb))(H:So us is)(E:So vs j):∀(k i:Nat),us.length-i=k->i<=us.length->i<=vs.length->
 Meets (Builtin.«list.__eq__.loop» {[.ref l,.ref b,rawInt i,rawInt 0],[]}) (λ_ R s=>s.heap.get? l=some {.type "list",dd,.seq us.toArray n,sl}/\s.heap.get? b=some {.type "list",B,.seq vs.toArray n2,F}/\R (.ok (.ret (.bool (jO (is.drop i) (j.drop i))))) s):=by
 intro k;induction k with
 | zero =>
   intro i O h1 h2 prog w A R s h;obtain⟨P,g,d,tk,os⟩:=s;obtain⟨hl,v,h⟩:=h;wp_walk using QP hl,QP v
   have e1:us.toArray[((i:Nat):Int).toNat]?=none:=by simp;omega
   rw[e1];wp_walk using QP hl,QP v
   have S:=E.length;rw[List.drop_of_length_le (show is.length<=i by rw[<- H.length];omega)] at h
   refine cast (congrArg (λz=>R (.ok (.ret (.bool z))) _) ?_) h;cases e:j.drop i with
   | nil =>
     have:=List.drop_eq_nil_iff.mp e;simp[jO];omega
   | cons c r =>
     have:i<j.length:=by
      rcases RP i j.length with z|z
      ·exact z
      ·rw[List.drop_of_length_le z] at e;cases e
     simp[jO];omega
 | succ k Q =>
   intro i O h1 h2 prog w A R s h;obtain⟨P,g,d,tk,os⟩:=s;obtain⟨hl,v,h⟩:=h;obtain⟨a,t,L,I⟩:=ints_get H i `a
   wp_walk using QP hl,QP v
   have e1:us.toArray[((i:Nat):Int).toNat]?=some (.int a t):=by simpa using L
   rw[I] at h;rcases RP i vs.length with z|z
   ·obtain⟨c,u,M,J⟩:=ints_get E i z;have e2:vs.toArray[((i:Nat):Int).toNat]?=some (.int c u):=by simpa using M
    rw[e1,e2];rw[J] at h;refine tqa (PySem.SeqAt.EqAt.int_int a t c u prog w _ _ ?_);cases y:(a==c) with
    | true =>
      rw[show jO (a::is.drop (i+1)) (c::j.drop (i+1))=jO (is.drop (i+1)) (j.drop (i+1)) from if_pos y] at h;wp_walk
      rw[show((i:Int)+1)=((i+1:Nat):Int) from rfl];exact{plainId_quiet MeetsSeq3.plain_eq_loop _,codeAny_builtin MeetsSeq3.entry_eq_loop (by
       rw[R7 MeetsSeq3.plain_eq_loop _];exact Q (i+1) `a `a z prog w A R _ ⟨hl,v,h⟩)}
    | false =>
      rw[show jO (a::is.drop (i+1)) (c::j.drop (i+1))=decide (a<c) from if_neg (by rw[y];exact QF)] at h
      wp_walk using QP hl,QP v
      rw[e1,e2];refine tqa (wpAny_lt_int ?_);exact tqb h
   ·have e2:vs.toArray[((i:Nat):Int).toNat]?=none:=by simp;omega
    rw[e1,e2];wp_walk using QP hl,QP v
    rw[List.drop_of_length_le (show j.length<=i by rw[<- E.length];omega)] at h
    refine cast (congrArg (λz=>R (.ok (.ret (.bool z))) _) ?_) h;simp[jO];omega
def rg.lists (hl:s.heap.IsList l us.toArray)(L:s.heap.IsList b vs.toArray)(O:So us is)(P:So vs js)(hr:A.units<cLine):rg A s (.ref l) (.ref b) (jO is js):=λprog w E Q h=>by
 obtain⟨⟨cls,J,I,sl⟩,ho,M,n,hd⟩:=id hl;obtain⟨⟨H,j,y,v⟩,u,z,n2,B⟩:=id L;cases M;cases hd;cases z;cases B;have S:Meets (Builtin.«list.__lt__» {[.ref l,.ref b],[]}) (λ_ R s=>s.heap.get? l=some {.type "list",J,.seq us.toArray n,sl}/\s.heap.get? b=some {.type "list",j,.seq vs.toArray n2,v}/\R (.ok (.ret (.bool (jO is js)))) s):=by
  intro prog w A R s h;obtain⟨W,g,d,tk,os⟩:=s;obtain⟨h1,h2,h⟩:=h;have U:=AutoSeq1.sub_list_list;wp_walk using QP h1,QP h2
  exact{plainId_quiet MeetsSeq3.plain_eq_loop _,codeAny_builtin MeetsSeq3.entry_eq_loop (by
   rw[R7 MeetsSeq3.plain_eq_loop _];exact Hb l b us vs is js n n2 J j sl v O P _ 0 rfl (Rv _) (Rv _) prog w A R _ ⟨h1,h2,h⟩)}
 exact richCompare_meets_room {_,ho,rfl} {_,u,rfl} F.slot_list_lt F.entry_list_lt (F.args_list_lt_2 _ _) S {ho,u,show Value.bool (jO is js)≠Value.notImplemented/\Q (.bool (jO is js)) s from{(λx=>nomatch x),h}} hr
def C8 (h:So us is)(h':So us js):is=js:=by
 induction h generalizing js with
 |nil=>cases h';rfl
 |cons a t _ j=>cases h' with|cons _ _ r=>rw[j r]
def rO (h:So us is)(u:j<us.length):∃t,us[j]=.int (is.getD j 0) t:=by
 induction h generalizing j with
 |nil=>exact absurd u (Ry _)
 | cons a t _ v =>
   cases j with
   |zero=>exact⟨t,rfl⟩
   |succ j=>exact v (Nat.lt_of_succ_lt_succ u)
def wX:∀(is u:List Int),is.length=u.length->((List.range is.length).all λj=>is.getD j 0==u.getD j 0)=(is==u)
 |[],[],_=>rfl
 | a :: is, b :: u, h => by
   rw[RB,List.range_succ_eq_map,Rw,List.all_map];have:=wX is u (Nat.succ.inj h);show((a==b)&&_)=((a==b)&&(is==u));rw[<- this];rfl
def EqAt.intLists (hl:s.heap.IsList l us.toArray)(h:s.heap.IsList b vs.toArray)(u:So us is)(v:So vs js)(hr:A.units<cLine):PySem.SeqAt.EqAt A s (.ref l) (.ref b) (is==js):=by
 by_cases e:l=b
 ·subst e;obtain⟨o,e1,_,n,d1⟩:=hl;obtain⟨M,e2,_,L,B⟩:=h;rw[e1] at e2;cases e2;rw[d1] at B;have:=(Data.seq.inj B).1;have:us=vs:=by simpa using this
  subst this;rw[C8 u v,beq_self_eq_true];exact PySem.SeqAt.EqAt.same _
 ·refine PySem.SeqAt.EqAt.of_refs e ?_;have l1:=u.length;have l2:=v.length;by_cases z:us.length=vs.length
  ·have r:=PySem.SeqAt.RcAt.lists hl h (by simpa using z) hr λj h1 h2=>by
    obtain⟨t,F⟩:=rO u (by simpa using h1)
    obtain⟨E,H⟩:=rO v (by simpa using h2)
    have I:us.toArray[j]=.int (is.getD j 0) t:=by simpa using F
    have J:vs.toArray[j]=.int (js.getD j 0) E:=by simpa using H
    rw[I,J];exact PySem.SeqAt.EqAt.int_int _ t _ E
   rw[show us.toArray.size=is.length by simp[l1],wX is js `a] at r
   exact r
  ·have r:=PySem.SeqAt.RcAt.lists_lengths hl h (by simpa using z) hr
   rw[show(is==js)=false from RU.mpr λy=>z (by rw[l1,l2,y])]
   exact r
def mF (a:Int)(is:List Int)(b:Int)(h:List Int):Bool:=if (a==b)=true then(if (is==h)=true then false else jO is h) else decide (a<b)
def rg.pairs {a c:Int}(P:s.heap.IsTuple p #[.int a t,.ref l])(hq:s.heap.IsTuple q #[.int c u,.ref b])(hl:s.heap.IsList l us.toArray)(Y:s.heap.IsList b vs.toArray)(S:So us is)(U:So vs js)(hr:A.units<cLine)(I:A.in1.units<cLine):rg A s (.ref p) (.ref q) (mF a is c js):=λprog w E Q h=>by
 obtain⟨⟨cls,X,M,sl⟩,ho,hc,n,hd⟩:=id P;obtain⟨⟨L,z,y,J⟩,v,B,n2,H⟩:=id hq;cases hc;cases hd;cases B;cases H;have ml:Meets (Builtin.«tuple.__lt__» {[.ref p,.ref q],[]}) (λA R s=>s.heap.get? p=some {.type "tuple",X,.seq #[.int a t,.ref l] n,sl}/\s.heap.get? q=some {.type "tuple",z,.seq #[.int c u,.ref b] n2,J}/\s.heap.IsList l us.toArray/\s.heap.IsList b vs.toArray/\A.in1.units<cLine/\R (.ok (.ret (.bool (mF a is c js)))) s):=.of_wp λprog w A R s h=>by
  obtain⟨P,g,d,tk,os⟩:=s;obtain⟨h1,h2,k1,k2,W,h⟩:=h;have f2:=AutoSeq1.sub_tuple_tuple;wp_walk using QP h1,QP h2
  refine PySem.SeqAt.EqAt.int_int a t c u prog w _ _ ?_;cases j:(a==c) with
  | false =>
    rw[show mF a is c js=decide (a<c) from if_neg (by rw[j];exact QF)] at h
    exact tqa (wpAny_rule (tqa (wpAny_lt_int (tqa (tqb (tqb (tqb (tqb {_,rfl,h}))))))))
  | true =>
    rw[show mF a is c js=(if (is==js)=true then false else jO is js) from if_pos j] at h;refine tqb (tqa (tqa (EqAt.intLists k1 k2 S U W prog w _ _ ?_)));cases O:(is==js) with
    | false =>
      rw[O,if_neg QF] at h;exact tqa (wpAny_rule (tqa (rg.lists k1 k2 S U W prog w _ _ (tqa (tqb (tqb (tqb (tqb {_,rfl,h}))))))))
    | true =>
      rw[O,if_pos rfl] at h;exact tqb (tqb (tqb {_,rfl,h}))
 exact richCompare_meets_room {_,ho,rfl} {_,v,rfl} F.slot_tuple_lt F.entry_tuple_lt (F.args_tuple_lt_2 _ _) ml {ho,v,hl,Y,I,show Value.bool (mF a is c js)≠Value.notImplemented/\Q (.bool (mF a is c js)) s from{(λx=>nomatch x),h}} hr
section
variable{prog:Q5}{w:Q4}{A:RL}{I p S:Addr}{items:Array Qb}{R:Result->Qf->Prop}{kw:List (Str×Qb)}
def nJ:(toString "min"++toString ".loop":String)="min.loop":=`d
def l7 (I S:Addr)(h h':Heap):Prop:=∀(b:Addr) o,b≠I->b≠S->h.get? b=some o->h'.get? b=some o
def CM (hh:A.in1.handled=none)(hne:p≠I)(P:S≠I)(hSp:S≠p)(Y:Nat->Nat->Bool)(G:Heap->Prop)(hG:∀h h',G h->l7 I S h h'->G h')
 (hcmp:∀i j vi vj (s:Qf) (Q:Qb->Qf->Prop) (E:Qb->Qf->Prop),items[i]?=some vi->items[j]?=some vj->G s.heap->Q (.bool (Y i j)) s->wpAny (model prog w) A.in1 (richCompare .Lt vi vj) Q E s) :
 ∀(k j:Nat) (s:Qf) (L:Qb) (c:Nat),items.size-(j+1)=k->j+1<=items.size->s.heap.IsListIter I p (j+1)->s.heap.IsList p items->items[argBest Y j]?=some L->s.heap.get? S=some {.type "list",none,.seq #[L,L] c,#[]}->G s.heap->
 (∀v h' tk,items[argBest Y (items.size-1)]?=some v->l7 I S s.heap h'->R (.ok (.ret v)) {s with heap:=h',toks:=tk})->codeAny (model prog w) A (.builtin "min.loop" {[.ref I,.none,.ref S],kw}) R s:=by
 have W:=Walks.list (prog:=prog) (w:=w) hh I p hne items;intro k;induction k with
 | zero =>
   intro j s L c hk hj hi hl hb hS g hR;have hin:j+1=items.size:=`a
   refine codeAny_builtin F.entry_min_loop ?_;rw[R7 Sm _];refine tqa (wpAny_seqItems hS rfl ?_);refine tqa (wpAny_tryCatch (W.done s _ _ {hin ▸ hi,hl} λh' tk z=>?_));have y:=z S _ (by simpa using P) hS
   refine tqa (wpAny_updateSeq y rfl (tqa (wpAny_letGo (tqb ?_))));exact hR L _ tk (by rw[<- hin];exact hb) λb o n1 n2 e=>(Q0 _ _ (Rf n2)).trans (z b o (by simpa using n1) e)
 | succ k ih =>
   intro j s L c hk hj hi hl hb hS g hR;have U:j+1<items.size:=`a
   refine codeAny_builtin F.entry_min_loop ?_;rw[R7 Sm _];refine tqa (wpAny_seqItems hS rfl ?_);refine tqa (wpAny_tryCatch (W.item (j+1) s _ _ U ⟨hi,hl⟩ λv h' tk hP u z=>?_));have y:=z S _ (by simpa using P) hS
   have J:l7 I S s.heap h':=λb o n1 _ e=>z b o (by simpa using n1) e
   show wpAny _ A.in1 (tryCatch (holding [v,v] (richCompare .Lt v L >>= _)) _ >>= _) _ _ _;refine tqa (wpAny_tryCatch (tqo (tqa (hcmp (j+1) (argBest Y j) v L _ _ _ hP hb (hG _ _ g J) ?_))));refine tqa (tqo (tqp ?_));refine tqa (wpAny_letGo (tqb ?_));cases hbb:Y (j+1) (argBest Y j) with
   | true =>
     refine tqa (wpAny_updateSeq y rfl (tqa (wpAny_letGo ?_)));rw[nJ];have st2:l7 I S s.heap (h'.update S (Obj.mapSeq λ_=>#[v,v])):=λb o n1 n2 e=>(Q0 _ _ (Rf n2)).trans (J b o n1 n2 e);refine tqb {plainId_quiet Sm _,ih (j+1) _ v _ `a U (u.1.at λo e=>(Q0 _ _ P).trans e) (u.2.at λo e=>(Q0 _ _ hSp).trans e) (by simp only[argBest,hbb,if_true];exact hP) (Ra _ y rfl) (hG _ _ g st2) λv' M H O B=>?_}
     exact hR v' M H O λb o n1 n2 e=>B b o n1 n2 (st2 b o n1 n2 e)
   | false =>
     refine tqa (wpAny_letGo ?_);rw[nJ];refine tqb {plainId_quiet Sm _,ih (j+1) _ L c `a U u.1 u.2 (by simp only[argBest,hbb,Bool.false_eq_true,if_false];exact hb) y (hG _ _ g J) λv' M H O B=>?_}
     exact hR v' M H O λb o n1 n2 e=>B b o n1 n2 (J b o n1 n2 e)
def Aq (hh:A.in1.handled=none)(M:p≠I)(z:S≠I)(H:S≠p)(U:Nat->Nat->Bool)(G:Heap->Prop)(hG:∀h h',G h->l7 I S h h'->G h')
 (J:∀i j vi vj (s:Qf) (Q:Qb->Qf->Prop) (E:Qb->Qf->Prop),items[i]?=some vi->items[j]?=some vj->G s.heap->Q (.bool (U i j)) s->wpAny (model prog w) A.in1 (richCompare .Lt vi vj) Q E s)
 (hi:s.heap.IsListIter I p 0) (hl:s.heap.IsList p items) (hS:s.heap.get? S=some {.type "list",none,.seq #[] c,#[]}) (g:G s.heap)
 (hR:∀v h' tk,(items.size=0/\v=dv\/items[argBest U (items.size-1)]?=some v)->l7 I S s.heap h'->R (.ok (.ret v)) {s with heap:=h',toks:=tk}):codeAny (model prog w) A (.builtin "min.loop" {[.ref I,.none,.ref S],[(kn,dv)]}) R s:=by
 have W:=Walks.list (prog:=prog) (w:=w) hh I p M items;refine codeAny_builtin F.entry_min_loop ?_;rw[R7 Sm _];refine tqa (wpAny_seqItems hS rfl ?_);rcases Nat.eq_zero_or_pos items.size with hz|hn
 ·refine tqa (wpAny_tryCatch (W.done s _ _ {hz ▸ hi,hl} λh' tk u=>?_));refine tqa (wpAny_rule (tqb ?_));exact hR dv h' tk (.inl ⟨hz,rfl⟩) λb o n1 _ e=>u b o (by simpa using n1) e
 ·refine tqa (wpAny_tryCatch (W.item 0 s _ _ hn ⟨hi,hl⟩ λv h' tk hP y u=>?_));have B:=u S _ (by simpa using z) hS
  have O:l7 I S s.heap (h'.update S (Obj.mapSeq λ_=>#[v,v])):=λb o n1 n2 e=>(Q0 _ _ (Rf n2)).trans (u b o (by simpa using n1) e)
  show wpAny _ A.in1 (updateSeq S (λ_=>#[v,v]) >>= _) _ _ _;refine tqa (wpAny_updateSeq B rfl ?_);rw[nJ];refine tqb {plainId_quiet Sm _,CM hh M z H U G hG J _ 0 _ v _ rfl hn (y.1.at λo e=>(Q0 _ _ z).trans e) (y.2.at λo e=>(Q0 _ _ H).trans e) hP (Ra _ B rfl) (hG _ _ g O) λv' Y P hP' L=>?_};exact hR v' Y P (.inr hP') λb o n1 n2 e=>L b o n1 n2 (O b o n1 n2 e)
end
def Bp (a v:Qb):argsOk "min" {[a],[(Str.ofString "default",v)]}:=by unfold argsOk;kernel_rfl
def Be (hh:A.in1.handled=none)(hl:s.heap.IsList p items)(H:p<s.heap.objs.size)(y:Nat->Nat->Bool)
 (u:∀i j L M (z:Qf) (Q:Qb->Qf->Prop) (E:Qb->Qf->Prop),items[i]?=some L->items[j]?=some M->(∀b o,s.heap.get? b=some o->z.heap.get? b=some o)->Q (.bool (y i j)) z->wpAny (model prog w) A.in1 (richCompare .Lt L M) Q E z)
 (O:∀v h' tk,(items.size=0/\v=dv\/items[argBest y (items.size-1)]?=some v)->(∀b o,s.heap.get? b=some o->h'.get? b=some o)->Q v {s with heap:=h',toks:=tk}):wpAny (model prog w) A (call (.builtin "min") [.ref p] [(Str.ofString "default",dv)]) Q E s:=by
 refine kmk_tree F.kind_min F.plain_min F.entry_min (Bp _ _) ?_;refine tqa (wpAny_of_eq (rfl) ?_);refine tqa (tqb ?_);refine tqa (wpAny_pyIter_list hl ?_);refine tqa (wpAny_newObj_type ?_);rw[nJ];have lt:∀{b:Addr}{o:Obj},s.heap.get? b=some o->b≠s.heap.objs.size/\b≠s.heap.objs.size+1:=λe=>{QN (Qz e),QN (RN (Qz e))};have J:(s.heap.push {cls:=.type "list_iterator",data:=.fields #[.ref p,.int 0 0]}).objs.size=s.heap.objs.size+1:=R6 ..;refine tqb {plainId_quiet Sm _,?_};rw[J];have B:∀{b:Addr}{o:Obj},s.heap.get? b=some o->((s.heap.push {cls:=.type "list_iterator",data:=.fields #[.ref p,.int 0 0]}).push {cls:=.type "list",data:=.seq #[]}).get? b=some o:=λe=>Qd _ (Qd _ e);refine Aq hh (QN H) (Nat.succ_ne_self _) (Rj (RN H)) y (λh=>∀b o,s.heap.get? b=some o->h.get? b=some o) (λh h' g st b o e=>st b o (lt e).1 (lt e).2 (g b o e)) u (c:=0) {_,Qd _ (QA _ rfl),rfl,rfl} (hl.at λo e=>B e) ?_ (λb o e=>B e) λv h' tk P st=>O v h' tk P λb o e=>st b o (lt e).1 (lt e).2 (B e);have:=QA (s.heap.push {cls:=.type "list_iterator",data:=.fields #[.ref p,.int 0 0]}) (o:={cls:=.type "list",data:=.seq #[]}) rfl;rw[J] at this;exact this
def rH (M:Mem):D->Option (Int×List Int)
 |.tup [.int q,r]=>((fj M r).bind intsOf).map λis=>(q,is)
 |_=>none
def qA (M:Mem):List D->Option (List (Int×List Int))
 |[]=>some []
 |d::ds=>(rH M d).bind λk=>(qA M ds).map (k::·)
def mG (ks:List (Int×List Int))(i j:Nat):Bool:=mF (ks.getD i (0,[])).1 (ks.getD i (0,[])).2 (ks.getD j (0,[])).1 (ks.getD j (0,[])).2
def lN (a:GE):GE:=λj M=>(a j M).bind λx M=>match fj M x with
 | some h => (match qA M h with
   |some ks=>.ok (h.getD (argBest (mG ks) (h.length-1)) .non) M
   |none=>.bad)
 |none=>.bad
def zX:∀{ds:List D}{ks:List (Int×List Int)},qA M ds=some ks->∀(i:Nat) (d:D),ds[i]?=some d->rH M d=some (ks.getD i (0,[]))
 |[],_,_,_,_,h=>by simp at h
 | d :: ds, ks, e, i, j, h => by
   obtain⟨k,e1,e2⟩:=Q8.mp e;obtain⟨v,u,rfl⟩:=Qk.mp e2;cases i with
   |zero=>cases h;exact e1
   |succ i=>exact zX u i j h
set_option tactic.hygienic true in
def JJ (e:rH M d=some k):∃r ds,d=.tup [.int k.1,r]/\fj M r=some ds/\intsOf ds=some k.2:=by
 unfold rH at e;split at e
 ·next q r=>
  obtain⟨is,e1,rfl⟩:=Qk.mp e;obtain⟨ds,e2,h⟩:=Q8.mp e1;exact⟨r,ds,rfl,e2,h⟩
 ·cases e
section
variable{fa:Fa}{X:Cx}{a:Expr}{ga:GE}{pos p kp cp:Pos}{ci:Nat}
def Jq (hu:Rm X)(hc:X.calm=true)(hg:Gl X "min")(hm:X.mg "min"=none)(ha:DE fa X a ga)(hs:starEach [a] X.env=[(false,eval a X.env)]):DE fa X (.Call (.Name "min" p) [a] [{some "default",.Constant .none ci cp,kp}] pos) (lN ga):=by
 intro E s σ H Q I ⟨μ,Z,M,hE,hM,h⟩;obtain⟨x,M1,e,q⟩:=aG h;have hA:=cm ha dN hs pos E s σ H (λvs H1=>∃v y,vs=[v]/\Ext μ H y H1/\RelM fa X.K y H1 M1/\Rep fa X.K y H1 x v) I {μ,Z,M,hE,hM,by rw[e];exact λv H1 y x1 m1 r1=>⟨v,y,rfl,x1,m1,r1⟩}
 refine wpAny_Call_Name_kw (gV I hg hm boot_min ?_);refine callWith_kw (aW hA λus s1 ⟨vs,H1,I1,r1,v,y,ev,x1,m1,rv⟩=>?_) (by rw[hs];rfl) (by rw[hs];rfl)
 subst ev;cases r1 with
 |cons r1 rr=>
 cases rr;refine kws_cons ?_;refine aW (Fc E s1 σ H1 (λY O=>∃z,Ext y H1 z O/\RelM fa X.K z O M1/\Y=.non) I1 {y,Z,M1,hE.ext x1,m1,λY O z x2 m2 r2=>⟨z,x2,m2,r2⟩}) λnv s2 ⟨nx,O,I2,r2,z,x2,m2,en⟩=>?_;subst en;obtain rfl:=(r2);refine kws_nil ?_;cases e0:fj M1 x with
 |none=>rw[e0] at q;exact q.elim
 | some ds =>
   rw[e0] at q;cases ek:qA M1 ds with
   |none=>dsimp only at q;rw[ek] at q;exact q.elim
   | some ks =>
     dsimp only at q;rw[ek] at q;have rv2:=rv.ext x2;obtain⟨ad,vs,rfl,sq,rl⟩:=bL m2 rv2 e0;obtain rfl:=r1;obtain⟨B,rvs,pl,hz⟩:=I2.list sq;have P:B.length=ds.length:=by rw[<- rvs.length,rl.length]
     have hAt:∀(i:Nat) (v:Qb),B.toArray[i]?=some v->∃d Y,ds[i]?=some d/\Rep fa X.K z O d Y/\RelV Y v:=λi v L=>by
      have L:B[i]?=some v:=by simpa using L
      have hi:i<vs.length:=by rw[rvs.length];exact(P9.mp L).1
      obtain⟨d,ed,rd⟩:=rl.getV (Qq hi);obtain⟨u,eu,ru⟩:=rvs.get (Qq hi);rw[L] at eu;cases eu;exact{d,_,ed,rd,ru}
     have U:∀(i:Nat) (v:Qb) (W:Qf),B.toArray[i]?=some v->(∀b o,s2.heap.get? b=some o->W.heap.get? b=some o)->∃(p l:Addr) (t:Tok) (us:List Qb),v=.ref p/\W.heap.IsTuple p #[.int (ks.getD i (0,[])).1 t,.ref l]/\W.heap.IsList l us.toArray/\So us (ks.getD i (0,[])).2:=λi v W L g=>by
      obtain⟨d,Y,ed,rd,ru⟩:=hAt i v L;obtain⟨r,rs,rfl,e2,e3⟩:=JJ (zX ek i d ed);obtain⟨tp,tvs,rfl,tsq,F⟩:=rd;obtain rfl:=(ru);have I':Inv X E σ O {s2 with heap:=W.heap,toks:=s2.toks}:=I2.kept g
      obtain⟨tits,J,tpl,_⟩:=I'.tuple tsq;obtain⟨w1,ws1,rfl,q1,F⟩:=F;obtain⟨w2,ws2,rfl,q2,F⟩:=F;cases F;obtain rfl:=(q1);obtain⟨l,lvs,rfl,lsq,lrl⟩:=bL m2 q2 e2;cases J with
      |cons t1 J=>
      cases J with
      |cons t2 J=>
      cases J;obtain⟨t,rfl⟩:=t1;obtain rfl:=t2;obtain⟨lits,lrv,lpl,_⟩:=I'.list lsq;exact{tp,l,t,lits,rfl,tpl,lpl.isList,Cn e3 lrl lrv}
     refine Be (I2.ok.hd hc) pl.isList pl.lt (mG ks) (λi j vi vj W Q' E' hi hj g hQ=>?_) λv h' tk L g=>?_
     ·obtain⟨p1,l1,t1,NQ,rfl,a1,a2,a3⟩:=U i vi W hi g;obtain⟨p2,l2,t2,NP,rfl,b1,b2,b3⟩:=U j vj W hj g;exact rg.pairs a1 b1 a2 b2 a3 b3 (by show X.A.units+1<cLine;omega) (by show X.A.units+1+1<cLine;omega) _ _ _ _ hQ
     ·rcases L with⟨hz0,rfl⟩|L
      ·have:ds=[]:=R5.mp (by rw[<- P];simpa using hz0)
       subst this;exact{.non,O,I2.kept g,rfl,aR m2 (a8.ext (a8.ext q x1) x2) rfl}
      ·obtain⟨d,Y,ed,rd,ru⟩:=hAt _ v L;have es:B.toArray.size=ds.length:=by simpa using P
       rw[es] at ed;have q:a8 fa X.K μ H Q (ds.getD (argBest (mG ks) (ds.length-1)) .non) M1:=q;rw[Ri,ed] at q;exact{Y,O,I2.kept g,ru,aR m2 (a8.ext (a8.ext q x1) x2) rd}
end
section
variable{prog:Q5}{w:Q4}{A:RL}{E:Qb->Qf->Prop}{s:Qf}{d:Addr}{od:Obj}{es:Array Rx}{ep:Nat}
def Ir (hh:A.handled=none){I:Addr}(H:d≠I)(y:od.data=.dict es ep):Walks prog w A I [I,d] [I] es.size (λi v=>∃e,es[i]?=some e/\v=e.key) (λi h=>h.IsKeyIter I d i es.size ep/\h.get? d=some od) where
 sub:=λb u=>by rw[Qs.mp u];simp
 frame:=λi h B st k=>{st.1.at λo e=>k I `s o e,k d `s _ st.2}
 item:=λi s Q E J st j=>ug st.1 st.2 y (RW J) λB F hs=>j _ B s.toks {_,RW J,rfl} {F,(hs.2 d H).trans st.2} λb o u e=>hs.extBut b o (λz=>u (by rw[z];simp)) e
 done:=λs Q E st j=>wg hh st.1 st.2 y (Qe _) λB x=>j B s.toks λb o u e=>x b o (λz=>u (by rw[z];simp)) e
 self:=λi s Q E st j=>wpAny_pyIter_keyiter st.1 j
def vo {R:Result->Qf->Prop}(hh:A.handled=none)(hsm:(d==sysModules)=false)(ho:s.heap.get? d=some od)(hc:od.ExactDict)(Q:od.data=.dict es ep)(hn:es.size<=sizeLine)(S:Addr)(j:S≠d)(W:Qb)(J:Nat)(hS:s.heap.get? S=some {cls:=.type "list",data:=.seq #[] J})
 (hR:∀h' tk acc H,(∀b o,b≠S->s.heap.get? b=some o->h'.get? b=some o)->h'.get? S=some {.type "list",none,.seq acc H,#[]}->ItemsOf (λi v=>∃e,es[i]?=some e/\v=e.key) acc es.size->R (.ok (.ret W)) {s with heap:=h',toks:=tk}) :
 wpAny (model prog w) A.in1 (Builtin.List.listExtendWith (.ref S) (.ref d) W) (λfin B=>match fin with|.done f=>R (.ok f) B|.again H=>H.quiet=true/\codeAny (model prog w) A H R B) (λe B=>R (.error e) B) s:=by
 have hT:s.TypeIs (.ref d) "dict":=⟨od,ho,hc.1⟩;have M:=QN (Qz hS);have hdI:=QN (Qz ho);unfold Builtin.List.listExtendWith;refine tqa (wpAny_typeOf hT ?_);have h1:Builtin.List.listSameRef (.ref S) (.ref d)=false:=by simp[Builtin.List.listSameRef,j]
 have h2:(Value.type "dict"==Value.type "list")=false:=`d
 have h3:(Value.type "dict"==Value.type "tuple")=false:=`d
 simp only[h1,h2,h3,Bool.or_false,Bool.false_eq_true,if_false];refine tqa (AI hsm ho hc Q ?_);have u:Shared.TypeIs {s with heap:=s.heap.push {cls:=.type "dict_keyiterator",data:=.fields #[.ref d,.int 0 0,.int es.size 0,.int ep 0]}} (.ref d) "dict":={od,Qd _ ho,hc.1}
 refine tqa (tqo ?_);unfold Builtin.List.listLengthHint;refine tqa (wpAny_specialOf u PySem.F.slot_dict_len.lookup ?_)
 wp_delta
 refine tqa (wpAny_isInstance (b:=true) u (by rw[isSubtype_type];kernel_rfl) ?_)
 show wpAny _ _ (typeOf (Value.ref d) >>= _) _ _ _;refine tqa (wpAny_typeOf u ?_);refine tqb ?_;rw[if_pos `d]
 have hSf:S∉[s.heap.objs.size,d]:=λz=>by
  rcases QZ.mp z with z|z
  ·exact M z
  ·exact j (Qs.mp z)
 generalize U:s.heap.push {cls:=.type "dict_keyiterator",data:=.fields #[.ref d,.int 0 0,.int es.size 0,.int ep 0]}=h1;have Y:∀{b:Addr}{o:Obj},s.heap.get? b=some o->h1.get? b=some o:=λe=>by rw[<- U];exact Qd _ e
 have hit:h1.get? s.heap.objs.size=some {cls:=.type "dict_keyiterator",data:=.fields #[.ref d,.int 0 0,.int es.size 0,.int ep 0]}:=by rw[<- U];exact QA _ rfl
 refine tqa (wpAny_rule (tqa ?_));show wpAny _ _ (updateSeq S (·.push .none) >>= λ_=>updateSeq S (·.pop)) _ _ {s with heap:=h1}
 refine tqa (wpAny_updateSeq (Y hS) rfl ?_);have L:=Ra (Obj.mapSeq (·.push Value.none)) (Y hS) rfl;refine wpAny_updateSeq L rfl ?_;have hS3:=Ra (Obj.mapSeq (·.pop)) L rfl;have y:∀{b:Addr}{o:Obj},b≠S->h1.get? b=some o->((h1.update S (Obj.mapSeq (·.push Value.none))).update S (Obj.mapSeq (·.pop))).get? b=some o:=λP e=>(Q0 _ _ (Rf P)).trans ((Q0 _ _ (Rf P)).trans e);refine tqb {plainId_quiet PySem.F.plain_extend_loop _,codeAny_extend_loopS (Ir (A:=A.in1) hh hdI Q).toS hn _ hSf _ es.size 0 _ _ _ rfl (Rv _) {{_,y (Rf M) hit,rfl,rfl},y (Rf j) (Y ho)} hS3 (ItemsOf.nil _) λB I H hm hS' O=>?_};rw[Moved.eq_with hm];refine hR B.heap B.toks I H (λb ob P e=>hm.heap b ob (λh=>?_) (y P (Y e))) hS' O;rcases QZ.mp h with e'|h
 ·exact P e'
 ·exact absurd (Qz e) (by rw[Qs.mp h];exact Rz _)
def yh {Q:Qb->Qf->Prop}(hh:A.handled=none)(L:(d==sysModules)=false)(ho:s.heap.get? d=some od)(P:od.ExactDict)(J:od.data=.dict es ep)(hn:es.size<=sizeLine)
 (M:∀h' tk acc H,(∀b o,s.heap.get? b=some o->h'.get? b=some o)->h'.get? s.heap.objs.size=some {.type "list",none,.seq acc H,#[]}->ItemsOf (λi v=>∃e,es[i]?=some e/\v=e.key) acc es.size->Q (.ref s.heap.objs.size) {s with heap:=h',toks:=tk}) :
 wpAny (model prog w) A (call (.type "list") [.ref d]) Q E s:=by
 refine callType_codes (Q₁:=λobj h=>obj=.ref s.heap.objs.size/\h={s with heap:=s.heap.push {cls:=.type "list",data:=.seq #[]}}) PySem.F.called_list (PySem.F.typeCall_list_1 _) PySem.F.entry_list_init (code_list_new _ ⟨rfl,rfl⟩) λobj h y=>?_
 obtain⟨rfl,rfl⟩:=y;have u:=Qz ho;have B:(s.heap.push {cls:=.type "list",data:=.seq #[]}).get? s.heap.objs.size=some {cls:=.type "list",data:=.seq #[]}:=QA _ rfl;refine{{_,B,rfl},PySem.F.args_list_init_2 _ _,?_};show wpAny _ _ (do let old <- Builtin.List.listItems (.ref s.heap.objs.size);Builtin.List.listUpdate (.ref s.heap.objs.size) (λ_=>#[]);letGo old.toList.reverse;Builtin.List.listExtendWith (.ref s.heap.objs.size) (.ref d) .none) _ _ _
 refine tqa ?_;unfold Builtin.List.listItems;refine tqa (wpAny_seqItems B rfl (tqb ?_));show wpAny _ _ (updateSeq s.heap.objs.size (λ_=>#[]) >>= λ_=>letGo (#[]:Array Qb).toList.reverse >>= λ_=>Builtin.List.listExtendWith (.ref s.heap.objs.size) (.ref d) .none) _ _ _;refine tqa (wpAny_updateSeq B rfl ?_);have z:∀b o,b≠s.heap.objs.size->s.heap.get? b=some o->((s.heap.push {cls:=.type "list",data:=.seq #[]}).update s.heap.objs.size (Obj.mapSeq (λ_=>(#[]:Array Qb)))).get? b=some o:=λb o O e=>(Q0 _ _ (Rf O)).trans (Qd _ e);refine tqa (wpAny_letGo ?_);refine vo (A:=A.in1) hh L (z d od (QN u) ho) P J hn _ (Rj u) .none _ (Ra (Obj.mapSeq (λ_=>(#[]:Array Qb))) B rfl) λh' tk acc H R I j=>?_;exact{rfl,M h' tk acc H (λb o e=>R b o (QN (Qz e)) (z b o (QN (Qz e)) e)) I j}
end
def kD (m:Bool)(a:GE):GE:=λh M=>(a h M).bind λx M=>match x with
 | .fn o => (match bB M o with
   |some q=>bf m (q.2.map b9) M
   |none=>.bad)
 |_=>.bad
def CZ {fa:Fa}{K:Qa}{μ:Mu}{H:Hp}{c:Int}{j:List (D×D)}{es:List Rx}(h:RX (nj fa K μ H c) j es):∃vs,aL fa K μ H ((j.map iE).map b9) vs/\Vals vs (es.map (·.key)):=by
 induction h with
 |nil=>exact{[],rfl,.nil}
 | cons h t y =>
   obtain⟨vs,r,v⟩:=y;obtain⟨b,_,u,_,z,_⟩:=h;exact{.ref b::vs,{.ref b,vs,rfl,z,r},.cons (u.trans rfl) v}
section
variable{fa:Fa}{X:Cx}{a:Expr}{ga:GE}{pos p:Pos}
def Ho (hc:X.calm=true)(hd:eY fa)(m:Bool):cy X (.type "list") (λxs H Q=>∃μ M o q x,RelM fa X.K μ H M/\xs=[x]/\Rep fa X.K μ H (.fn o) x/\bB M o=some q/\ae (bf m (q.2.map b9) M) (a8 fa X.K μ H Q)):=by
 intro P s σ H xs us Q I r h;obtain⟨μ,M,o,q,x,J,rfl,rx,e,w⟩:=h;obtain⟨u,rfl,ru⟩:=vals1 r;obtain⟨ad,_,_,_,rfl,_,ha,_⟩:=kG hd I J rx e;obtain rfl:=(ru);obtain⟨es,kvs,hH,F,pr⟩:=nW hd J ha e;obtain⟨R,rl,S⟩:=CZ pr;rw[F] at w;obtain⟨_,k⟩:=gu J rl w;obtain⟨z,y,ob,h1,h2,h3⟩:=(I.hok ad _ hH);refine yh (I.ok.hd hc) y h1 h2 h3 (by simpa using z) λh' tk v U kp O j=>?_
 have Y:v=(es.map (·.key)).toArray:=by
  refine Array.ext_getElem? λi=>?_;have hs:v.size=es.length:=by have:=j.1;simpa using this
  rcases RP i v.size with B|B
  ·rw[RW B];obtain⟨W,L,ev⟩:=j.2 i _ (RW B);rw[ev];have L:es[i]?=some W:=by simpa using L
   simp[L]
  ·rw[Array.getElem?_eq_none B];exact(Array.getElem?_eq_none (by rw[Qy,P8,<- hs];exact B)).symm
 rw[Y] at O;have hl:R.length<=sizeLine:=by rw[S.length,P8];exact z
 exact{.ref s.heap.objs.size,_,I.laid kp (Qe _) (show cV X.prog X.w _ h' _ (.lst R) from{hl,_,U,S,O}),rfl,k _ (I.hok.fresh (Qe _))}
def Gz (I:X.calm=true)(hd:eY fa)(m:Bool)(J:Gl X "list")(hm:X.mg "list"=none)(F:DE fa X a ga)(hs:starEach [a] X.env=[(false,eval a X.env)]):DE fa X (.Call (.Name "list" p) [a] [] pos) (kD m ga):=
 bG (mB (Ho I hd m) J hm boot_list (cm F dN hs) (he:=by rw[hs];rfl)) λU H Q ⟨O,P,M,z,B,h⟩=>by
  obtain⟨x,y,e1,h1⟩:=aG h;refine{O,P,M,z,B,?_};rw[e1];intro v R u L j r1;cases x with
  | fn o =>
    dsimp only at h1;cases eq:bB y o with
    |none=>rw[eq] at h1;exact h1.elim
    |some q=>rw[eq] at h1;exact{u,y,o,q,v,j,rfl,r1,eq,aI h1 λd S h2=>a8.ext h2 L}
  |_=>exact h1.elim
end
end LD
namespace LD
open PySem
def ob {α β:Type}{a:Option α}{f:α->Option β}{r:β}(h:a.bind f=some r):∃x,a=some x/\f x=some r:=Q8.mp h
def oi {α:Type}{c:Prop}[Decidable c]{a:Option α}{r:α}(h:(if c then a else none)=some r):c/\a=some r:=by
 split at h
 ·exact{by assumption,h}
 ·cases h
section
variable{β:Type}{r:β}{e:Expr}{st:Stmt}
def od {c:Prop}[Decidable c]{f:c->Option β}(h:(if x:c then f x else none)=some r):∃x,f x=some r:=by
 by_cases z:c
 ·rw[dif_pos z] at h;exact⟨z,h⟩
 ·rw[dif_neg z] at h;cases h
local macro_rules|`(command|#check $n:ident $a*)=>do
 let m:=a[0]!.raw;let c:Lean.TSyntax `ident:=⟨a[1]!.raw⟩;let v:Array (Lean.TSyntax `ident):=(a.extract 3 a.size).map λx=>⟨x.raw⟩;let f:=Lean.mkIdentFrom c (c.getId++`elim)
 `(noncomputable def $n {β:Type} e:=λg=>if h:e.ctorIdx=$(⟨a[2]!.raw⟩) then @$f (λ_=>Option β) e h g else none
 theorem $(⟨m⟩) {β:Type}{e}{g}{y:β}(h:$n e g=some y):∃$[$v:ident]*,e=$c $v*∧g $v*=some y:=(od h).elim λz h=>@$f (λe=>∀z,@$f (λ_=>Option β) e z g=some y→∃$[$v:ident]*,e=$c $v*∧g $v*=some y) e z (λ$v* _ h=>by exact⟨$v,*,rfl,h⟩) z h)
#check N3 Al Expr.UnaryOp 3 a b c
#check Et t9 Expr.BoolOp 0 a b c
#check N4 Am Expr.ListComp 8 a b c d
#check J9 vY Expr.IfExp 5 a b c d
#check Kc qE Expr.Compare 15 a b c d
#check sE lC Expr.Call 16 a b c d
#check OQ G7 Expr.FormattedValue 17 a b c d
#check OP G6 Expr.JoinedStr 18 a b
#check CK qD Expr.Constant 19 a b c
#check Eu ua Expr.Attribute 20 a b c
#check t8 kz Expr.Subscript 21 a b c
#check nName c6 Expr.Name 23 a b
#check t7 h9 Expr.Tuple 25 a b c
#check ON G4 Expr.Slice 26 a b c d
#check xt nz Stmt.Assign 5 a b c
#check OF Gs Stmt.Raise 16 a b c
#check Cm qt Stmt.Expr 24 a b
#check OR G8 Expr.BinOp 2 a b c d
#check OO G5 Expr.List 24 a b
#check sRt Jl Stmt.Return 3 a b
#check N0 zO Stmt.For 9 a b c d f
#check NZ zN Stmt.If 12 a b c d
#check sPs Jm Stmt.Pass 25 a
variable{α:Type}{l:List α}
noncomputable def n0 (l:List α)(v:Option β):Option β:=if l.isEmpty=true then v else none
def fx {v:Option β}(h:n0 l v=some r):l=[]/\v=some r:=(oi h).elim λc h=>{List.isEmpty_iff.mp c,h}
noncomputable def nC (l:List α)(k:α->List α->Option β):Option β:=match l with
 |[]=>none
 |a::s=>k a s
def lD {k:α->List α->Option β}(h:nC l k=some r):∃a s,l=a::s/\k a s=some r:=by
 cases l with
 |nil=>cases h
 |cons a s=>exact⟨a,s,rfl,h⟩
def n1 (l:List α)(k:α->Option β):Option β:=nC l λa s=>n0 s (k a)
def cQ {k:α->Option β}(h:n1 l k=some r):∃a,l=[a]/\k a=some r:=by
 obtain⟨a,s,rfl,h⟩:=lD h;obtain⟨rfl,h⟩:=fx h;exact⟨a,rfl,h⟩
def n2 (l:List α)(k:α->α->Option β):Option β:=nC l λa s=>n1 s (k a)
def iu {k:α->α->Option β}(h:n2 l k=some r):∃a b,l=[a,b]/\k a b=some r:=by
 obtain⟨a,s,rfl,h⟩:=lD h;obtain⟨b,rfl,h⟩:=cQ h;exact⟨a,b,rfl,h⟩
def CI (e:Expr)(k:Str->Option β):Option β:=CK e λc _ _=>match c with
 |.str z=>k z
 |_=>none
def vX {k:Str->Option β}(h:CI e k=some r):∃z i p,e=.Constant (.str z) i p/\k z=some r:=by
 obtain⟨c,i,p,rfl,h⟩:=qD h;cases c with
 |str z=>exact⟨z,i,p,rfl,h⟩
 |_=>cases h
def N5 (e:Expr)(k:Expr->Option β):Option β:=OQ e λa i s _=>if i=-1/\s.isNone=true then k a else none
def Ka {k:Expr->Option β}(h:N5 e k=some r):∃a p,e=.FormattedValue a (-1) none p/\k a=some r:=by
 obtain⟨a,i,s,p,rfl,h⟩:=G7 h;obtain⟨⟨rfl,c⟩,k⟩:=oi h;rw[Option.isNone_iff_eq_none.mp c];exact⟨a,p,rfl,k⟩
noncomputable def nG (c:Sk)(k:Expr->Expr->List Expr->Option β):Option β:=if c.is_async=0 then k c.target c.iter c.ifs else none
def sD {c:Sk}{k:Expr->Expr->List Expr->Option β}(h:nG c k=some r):∃t i f,c={t,i,f,0}/\k t i f=some r:=by
 obtain⟨z,h⟩:=oi h;cases c;cases z;exact{_,_,_,rfl,h}
def oq (e:Expr)(k:Str->List Expr->Pos->Option β):Option β:=sE e λf es ks p=>nName f λx _=>n0 ks (k x es p)
def gR {k:Str->List Expr->Pos->Option β}(h:oq e k=some r):∃x q es p,e=.Call (.Name x q) es [] p/\k x es p=some r:=by
 obtain⟨f,es,ks,p,rfl,h⟩:=lC h;obtain⟨x,q,rfl,h⟩:=c6 h;obtain⟨rfl,h⟩:=fx h;exact⟨x,q,es,p,rfl,h⟩
def Kd (e:Expr)(k:Expr->Str->Expr->Bool->Option β):Option β:=sE e λf es ks p=>Eu f λa m q=>n0 ks (n1 es λd=>k a m d (q.endLine==p.line))
def An {k:Expr->Str->Expr->Bool->Option β}(h:Kd e k=some r):∃a m q d p,e=.Call (.Attribute a m q) [d] [] p/\k a m d (q.endLine==p.line)=some r:=by
 obtain⟨f,es,ks,p,rfl,h⟩:=lC h;obtain⟨a,m,q,rfl,h⟩:=ua h;obtain⟨rfl,h⟩:=fx h;obtain⟨d,rfl,h⟩:=cQ h;exact⟨a,m,q,d,p,rfl,h⟩
def bY {a b:Option β}(h:a.or b=some r):a=some r\/b=some r:=by
 cases a with
 |none=>exact .inr h
 |some x=>exact .inl h
end
end LD
namespace LD
open PySem PySem.Spec PyProof.Rows L2
noncomputable def maxD:List D->Mem->Res D
 |[.int a,.int b],M=>.ok (.int (if b > a then b else a)) M
 |_,_=>.bad
def oV (s:GA):GE:=λj M=>(s j M).bind λh M=>maxD h M
def OK (fa:Fa)(K:Qa):List V->Hp->VK->Prop:=λu H Q=>∃h M j,RelM fa K h H M/\aL fa K h H j u/\ae (maxD j M) (a8 fa K h H Q)
section
variable{fa:Fa}{X:Cx}{a:Expr}{es:List Expr}{gs:GA}{p pos:Pos}
set_option tactic.hygienic true in
def MZ (B:X.calm=true):cy X (.builtin "max") (OK fa X.K):=by
 intro y s Y H xs U Q I r h;obtain⟨W,M,R,z,L,h⟩:=h;unfold maxD at h;split at h
 ·next i j=>
  obtain⟨O,r1,rfl,h1,h2⟩:=L;obtain⟨P,r2,rfl,h3,h4⟩:=h2;obtain rfl:r2=[]:=h4;obtain rfl:O=.int i:=h1;obtain rfl:P=.int j:=h3;cases r with
  | cons F v =>
    cases v with
    | cons v J =>
      cases J;obtain⟨t,rfl⟩:=F;obtain⟨u,rfl⟩:=v;refine max_two_ints (I.ok.hd B) λS tk E=>?_;refine{.int (if j > i then j else i),H,I.kept E,?_,aR z h rfl};split
      ·exact⟨u,rfl⟩
      ·exact⟨t,rfl⟩
 ·exact h.elim
def Mr (I:X.calm=true)(J:Gl X "max")(hm:X.mg "max"=none)(hs:DA fa X (a::es) gs)(he:notStar a=true)(u:es.all notStar=true) :
 DE fa X (.Call (.Name "max" p) (a::es) [] pos) (oV gs):=
 bG (jq (MZ I) J hm `k hs `d `d (bp he) (dJ u)) λU H Q ⟨R,S,M,B,F,h⟩=>tf B F h λz y P O v L E j r1 h1=>{v,y,z,j,r1,kr h1 L}
end
inductive En where
 |fn (i:Nat) (r:Bool)|fnD (i:Nat)|int (i:Int)|str (z:Str)|dct (fs:List (Str×Nat))|xc (k:Nat)|xi (k:Nat)|xk (k:Nat)|de|bl|cls (c f:Nat)
structure Fq (fa:Fa) (P:Q5) (w:Q4) (K:Qa) (mg:Str->Option Qb) (base:Heap) (T:List (Str×En)):Prop where
 fn:∀{x:Str}{i:Nat}{r:Bool},T.lookup x=some (.fn i r)->∀ad,fa i=some ad->mg x=some (.ref ad)
 fnD:∀{x:Str}{i:Nat},T.lookup x=some (.fnD i)->(∀ad,fa i=some ad->mg x=some (.ref ad))/\(fa (500+i)).isSome=true
 int:∀{x:Str}{i:Int},T.lookup x=some (.int i)->∃t,mg x=some (.int i t)
 str:∀{x:Str}{z:Str},T.lookup x=some (.str z)->∃t,mg x=some (.str z t)
 dct:∀{x:Str}{fs:List (Str×Nat)},T.lookup x=some (.dct fs)->∃ad kvs,mg x=some (.ref ad)/\fV K w.params ad kvs/\eP fa kvs fs
 xc:∀{x:Str}{k:Nat},T.lookup x=some (.xc k)->∃C,mg x=some (.ref C)/\fa (gg k)=some C/\PySem.W.excIn K C Bg "ValueError.__new__"=true/\PySem.W.keepIn K (.ref C)=true
 xi:∀{x:Str}{k:Nat},T.lookup x=some (.xi k)->Bu fa P w K mg base k x/\∃D,mg x=some (.ref D)/\fa (gg k)=some D
 xk:∀{x:Str}{k:Nat},T.lookup x=some (.xk k)->∃D,mg x=some (.ref D)/\fa (gg k)=some D
 de:∀{x:Str},T.lookup x=some .de->∃D,mg x=some (.ref D)/\fa 999=some D
 bl:∀{x:Str},T.lookup x=some .bl->mg x=none
 xcs:LV fa K
 ob:L1 fa K
 of:∀o,5000<=o->fa o=none
 od:fa (jN 77)=none/\fa (jN 78)=none
 cls:∀{x:Str}{c f:Nat},T.lookup x=some (.cls c f)->∃C,mg x=some (.ref C)/\fa (jN c)=some C/\∀ad,fa f=some ad->Mk K C ad
structure G where
 T:List (Str×En)
 tw:List (Str×Str×Nat×Nat)
 xf:List Str
 cel:List (Nat×Nat×Nat)
 txt:List (Nat×Nat×Nat)
 ms:List (Str×Nat×Nat)
 c:Call
 N:List Str
 sc:Scope
 lv:Nat
 oc:List Str:=[]
structure eW (fa:Fa) (n:Nat) (g:G) (X:Cx):Prop where
 N:X.N=g.N
 nd:g.N.Nodup
 sc:X.env.scope=g.sc
 T:Fq fa X.prog X.w X.K X.mg X.base g.T
 tw:∀q∈g.tw,Fp fa X.K X.mg q.1 q.2.1 q.2.2.1 q.2.2.2
 xf:∀f∈g.xf,Fn fa X.K f
 ms:∀q∈g.ms,qm fa X.K q.1 q.2.1 q.2.2
 fn:g.lv≠1->∀x,X.fn x=true
 oc:∀x∈g.oc,X.fn x=true
 calm:0<g.lv->X.calm=true
 C:0<g.lv->∀f,hI fa X.prog X.w X.K X.mg X.base n f (g.c f)
 hr:0<g.lv->dr (2*n+4+1) X.A
 top:2<=g.lv->X.ex=[]/\X.stack=X.env::X.outer/\X.env.frame=some X.env.locals/\X.env.scope.kind=.function
 po:g.lv=2->PassesOwn (model X.prog X.w) X.A X.env X.xe
structure Rc where
 e:G->Expr->Option GE
 t:G->Expr->Option GT
 x:G->Expr->Option GE
 w:G->Expr->Expr->Option GW
 s:G->Stmt->Option GS
abbrev dH:=Rc->G->Expr->Option GE
abbrev Fs:=Rc->G->Expr->Option GT
abbrev vd:=Rc->G->Expr->Expr->Option GW
abbrev mi:=Rc->G->Stmt->Option GS
structure ik (fa:Fa) (n:Nat) (R:Rc):Prop where
 e:∀{g:G}{X:Cx}{a:Expr}{ga:GE},eW fa n g X->R.e g a=some ga->DE fa X a ga
 t:∀{g:G}{X:Cx}{a:Expr}{ga:GT},eW fa n g X->R.t g a=some ga->DT fa X a ga
 x:∀{g:G}{X:Cx}{a:Expr}{ga:GE},eW fa n g X->R.x g a=some ga->DX fa X a ga
 w:∀{g:G}{X:Cx}{t a:Expr}{ga:GW},eW fa n g X->R.w g t a=some ga->DI fa X t a ga
 s:∀{g:G}{X:Cx}{a:Stmt}{ga:GS},eW fa n g X->R.s g a=some ga->DS fa X a ga
def SE (r:dH):Prop:=∀{fa:Fa}{n:Nat}{R:Rc},ik fa n R->∀{g:G}{X:Cx},eW fa n g X->∀{a:Expr}{h:GE},r R g a=some h->DE fa X a h
def ST (r:Fs):Prop:=∀{fa:Fa}{n:Nat}{R:Rc},ik fa n R->∀{g:G}{X:Cx},eW fa n g X->∀{a:Expr}{h:GT},r R g a=some h->DT fa X a h
def SX (r:dH):Prop:=∀{fa:Fa}{n:Nat}{R:Rc},ik fa n R->∀{g:G}{X:Cx},eW fa n g X->∀{a:Expr}{h:GE},r R g a=some h->DX fa X a h
def SW (r:vd):Prop:=∀{fa:Fa}{n:Nat}{R:Rc},ik fa n R->∀{g:G}{X:Cx},eW fa n g X->∀{t a:Expr}{h:GW},r R g t a=some h->DI fa X t a h
def SS (r:mi):Prop:=∀{fa:Fa}{n:Nat}{R:Rc},ik fa n R->∀{g:G}{X:Cx},eW fa n g X->∀{a:Stmt}{h:GS},r R g a=some h->DS fa X a h
structure Rs where
 e:List dH
 t:List Fs
 x:List dH
 w:List vd
 s:List mi
noncomputable def It (rs:Rs):Nat->Rc
 |0=>{λ_ _=>none,λ_ _=>none,λ_ _=>none,λ_ _ _=>none,λ_ _=>none}
 |n+1=>{λg a=>rs.e.findSome? λr=>r (It rs n) g a,λg a=>rs.t.findSome? λr=>r (It rs n) g a,λg a=>rs.x.findSome? λr=>r (It rs n) g a,λg t a=>rs.w.findSome? λr=>r (It rs n) g t a,λg a=>rs.s.findSome? λr=>r (It rs n) g a}
def AllP {h:Type}(p:h->Prop):List h->Prop
 |[]=>True
 |a::l=>p a/\AllP p l
def AllP.mem {j:Type}{p:j->Prop}:∀{l:List j},AllP p l->∀a∈l,p a
 |_::_,h,a,m=>(QZ.mp m).elim (λe=>e ▸ h.1) (AllP.mem h.2 a)
structure Dx (rs:Rs):Prop where
 e:AllP SE rs.e
 t:AllP ST rs.t
 x:AllP SX rs.x
 w:AllP SW rs.w
 s:AllP SS rs.s
def Fv (h:Dx rs):∀k,ik fa n (It rs k)
 |0=>{(λ_ z=>nomatch z),(λ_ z=>nomatch z),(λ_ z=>nomatch z),(λ_ z=>nomatch z),(λ_ z=>nomatch z)}
 | k + 1 => by
   have j:=Fv (n:=n) (fa:=fa) h k;refine{λo z=>?_,λo z=>?_,λo z=>?_,λo z=>?_,λo z=>?_}
   ·obtain⟨r,m,e⟩:=RT z;exact h.e.mem r m j o e
   ·obtain⟨r,m,e⟩:=RT z;exact h.t.mem r m j o e
   ·obtain⟨r,m,e⟩:=RT z;exact h.x.mem r m j o e
   ·obtain⟨r,m,e⟩:=RT z;exact h.w.mem r m j o e
   ·obtain⟨r,m,e⟩:=RT z;exact h.s.mem r m j o e
noncomputable def Oi:Str:="__debug__"
def jv (g:G)(x:Str):Bool:=g.sc.names.lookup x==some .globalImplicit&&!(x==Oi)
def vr (g:G)(x:Str):Option Nat:=if (g.sc.names.lookup x==some .local||g.sc.names.lookup x==some .cell||g.sc.names.lookup x==some .free)&&!(x==Oi)&&!(x==("__classdict__":Str)) then g.N.findIdx? (·==x) else none
section
variable{fa:Fa}{n:Nat}{g:G}{X:Cx}{R:Rc}(o:eW fa n g X)
include o
theorem dS (h:jv g x=true):Gl X x/\(x==("__debug__":Str))=false:=by
 unfold jv at h;rw[Qg,Sg] at h;exact{by show X.env.scope.names.lookup x=_;rw[o.sc];exact eq_of_beq h.1,h.2}
theorem xR (h:g.N.findIdx? (·==x)=some i):X.N[i]?=some x:=by
 obtain⟨j,h1,_⟩:=List.findIdx?_eq_some_iff_getElem.mp h;rw[o.N,Qq j,eq_of_beq h1]
theorem DY (h:vr g x=some i):X.N[i]?=some x/\Bs X.env.scope x/\(x==("__debug__":Str))=false/\(x==("__classdict__":Str))=false:=by
 obtain⟨c,h⟩:=oi h;simp only[Qg,RJ,Sg] at c;refine{xR o h,?_,c.1.2,c.2};rw[o.sc];rcases c.1.1 with(z|z)|z
 ·exact .inl (eq_of_beq z)
 ·exact .inr (.inl (eq_of_beq z))
 ·exact .inr (.inr (eq_of_beq z))
omit o
theorem eW.rm (o:eW fa n g X)(h:0<g.lv):Rm X:=Gv (o.hr h)
end
def cA (f:Expr->Option GE):List Expr->Option GA
 |[]=>some a9
 |a::r=>if notStar a=true then(f a).bind λx=>(cA f r).bind λy=>some (aX x y) else none
def jT (v:∀{a:Expr}{j:GE},f a=some j->DE fa X a j):∀{es:List Expr}{u:GA},cA f es=some u->DA fa X es u/\es.all notStar=true
 |[],_,h=>by cases h;exact⟨Lx,rfl⟩
 | a :: r, _, h => by
   obtain⟨c,h⟩:=oi h;obtain⟨x,z,h⟩:=ob h;obtain⟨y,B,h⟩:=ob h;cases h;obtain⟨h1,h2⟩:=jT v B;exact{HL (v z) h1 (bp c),by rw[Rw,c,h2];rfl}
noncomputable def u6 (f:Expr->Option GE)(k:GE->GE->GE):List Expr->Option GE
 |[]=>none
 |[a]=>f a
 |a::b::r=>(f a).bind λx=>(u6 f k (b::r)).bind λy=>some (k x y)
def wY (j:∀{a:Expr}{u:GE},f a=some u->DE fa X a u):∀{es:List Expr}{ge:GE},u6 f eU es=some ge->DE fa X (.BoolOp .And es pos) ge
 |[a],_,h=>Fb (j h)
 | a :: b :: r, _, h => by
   obtain⟨x,v,h⟩:=ob h;obtain⟨y,z,h⟩:=ob h;cases h;exact Ny (j v) (wY j z)
def Bo (j:∀{a:Expr}{u:GE},f a=some u->DE fa X a u):∀{es:List Expr}{ge:GE},u6 f uw es=some ge->DE fa X (.BoolOp .Or es pos) ge
 |[a],_,h=>Fb (j h)
 | a :: b :: r, _, h => by
   obtain⟨x,v,h⟩:=ob h;obtain⟨y,z,h⟩:=ob h;cases h;exact Po (j v) (Bo j z)
noncomputable def td (f:Expr->Option GT)(k:GT->GT->GT):List Expr->Option GT
 |[]=>none
 |[a]=>f a
 |a::b::r=>(f a).bind λx=>(td f k (b::r)).bind λy=>some (k x y)
def vG (j:∀{a:Expr}{u:GT},f a=some u->DT fa X a u):∀{es:List Expr}{ge:GT},td f eQ es=some ge->DW fa X (.BoolOp .And es pos) ge
 |[a],_,h=>Hu (j h)
 | a :: b :: r, _, h => by
   obtain⟨x,v,h⟩:=ob h;obtain⟨y,z,h⟩:=ob h;cases h;exact Lc (j v) (vG j z)
def zq (j:∀{a:Expr}{u:GT},f a=some u->DT fa X a u):∀{es:List Expr}{ge:GT},td f eL es=some ge->DW fa X (.BoolOp .Or es pos) ge
 |[a],_,h=>Lb (j h)
 | a :: b :: r, _, h => by
   obtain⟨x,v,h⟩:=ob h;obtain⟨y,z,h⟩:=ob h;cases h;exact Nc (j v) (zq j z)
def D1:dH:=λ_ g e=>nName e λx _=>((vr g x).bind λi=>some (aa i)).or (if jv g x=true then(g.T.lookup x).bind fun
 |.int i=>some (gC (.int i))
 |.str i=>some (gC (.str i))
 |_=>none else none)
def BJ:SE D1:=by
 intro fa n R y g X o a u h;replace h:=c6 h;obtain⟨x,p,rfl,h⟩:=h;rcases bY h with h|h
 ·obtain⟨i,e,h⟩:=ob h;cases h;obtain⟨a,b,c,d⟩:=DY o e;exact Ng a b c d
 ·obtain⟨c,h⟩:=oi h;obtain⟨j,hd⟩:=dS o c;obtain⟨t,e,h⟩:=ob h;cases t with
  |int i=>cases h;exact Gx j (o.T.int e) hd
  |str i=>cases h;obtain⟨t,e⟩:=o.T.str e;exact je (v:=.str _) (ko j e ⟨t,rfl⟩ hd) λ_ _=>rfl
  |_=>cases h
def zf:dH:=λ_ _ e=>CK e fun
 |.int i,_,_=>some (gC (.int i))
 |.bool i,_,_=>some (gC (.bl i))
 |.str i,_,_=>some (gC (.str i))
 |.none,_,_=>some (gC .non)
 |_,_,_=>none
def ze:SE zf:=by
 intro fa n R u g X o a j h;replace h:=qD h;obtain⟨c,i,p,rfl,h⟩:=h;cases c with
 |int i=>cases h;exact Np
 |bool i=>cases h;exact Pp
 |str i=>cases h;exact Ni
 |none=>cases h;exact Fc
 |_=>cases h
noncomputable def G.cl (g:G)(p:Pos):Bool:=g.cel.contains (p.line,p.col,p.endCol)
def G.tx (g:G)(p:Pos):Bool:=g.txt.contains (p.line,p.col,p.endCol)
noncomputable def Fj:Operator->Option oE
 |.Add=>some .add|.Sub=>some .sub|.Mult=>some .mul|.FloorDiv=>some .fdiv|.Mod=>some .mod|.Pow=>some .pow|_=>none
def Du (h:Fj q=some b):q=binOp b:=by cases q<;>cases h<;>rfl
noncomputable def gp:CmpOp->jI
 |.Eq=>.eq|.NotEq=>.ne|.Lt=>.lt|.LtE=>.le|.Gt=>.gt|.GtE=>.ge|.Is=>.isN|.IsNot=>.notN|.In=>.isin|.NotIn=>.notin
def c8 (q:CmpOp):ff (gp q)=q:=by cases q<;>rfl
def IE:dH:=λR g e=>(OR e λa q b p=>(Fj q).bind λq=>(R.e g a).bind λx=>(R.e g b).bind λy=>some (ai (g.cl p) q x y)).or
 ((N3 e λq a _ => match q with
   |.USub=>(R.e g a).bind λx=>some (bW x)
   |.Not=>(R.e g a).bind λx=>some (KN x)
   |_=>none).or
 ((Et e λq h _ => match q with
   |.And=>u6 (R.e g) eU h
   |.Or=>u6 (R.e g) uw h).or
 ((J9 e λc a b _=>(R.t g c).bind λt=>(R.e g a).bind λx=>(R.e g b).bind λy=>some (fC t x y)).or
 ((t7 e λh _ _=>(cA (R.e g) h).bind λs=>some (aM s)).or (OO e λh p=>(cA (R.e g) h).bind λs=>some (a7 (g.cl p) s))))))
def FN:SE IE:=by
 intro fa n R j g X o a F h;replace h:=bY h;rcases h with h|h
 ·obtain⟨a,q,b,p,rfl,h⟩:=G8 h;obtain⟨q,B,h⟩:=ob h;obtain⟨x,u,h⟩:=ob h;obtain⟨y,v,h⟩:=ob h;cases h;rw[Du B];exact Nw _ _ (j.e o u) (j.e o v)
 replace h:=bY h;rcases h with h|h
 ·obtain⟨q,a,p,rfl,h⟩:=Al h;cases q with
  |USub=>obtain⟨x,u,h⟩:=ob h;cases h;exact Nl (j.e o u)
  |Not=>obtain⟨x,u,h⟩:=ob h;cases h;exact Nk (j.e o u)
  |_=>cases h
 replace h:=bY h;rcases h with h|h
 ·obtain⟨q,z,p,rfl,h⟩:=t9 h;cases q with
  |And=>exact wY (j.e o) h
  |Or=>exact Bo (j.e o) h
 replace h:=bY h;rcases h with h|h
 ·obtain⟨c,a,b,p,rfl,h⟩:=vY h;obtain⟨t,E,h⟩:=ob h;obtain⟨x,u,h⟩:=ob h;obtain⟨y,v,h⟩:=ob h;cases h;exact Nn (j.t o E) (j.e o u) (j.e o v)
 replace h:=bY h;rcases h with h|h
 ·obtain⟨z,k,p,rfl,h⟩:=h9 h;obtain⟨s,hs,h⟩:=ob h;cases h;exact Nh (jT (j.e o) hs).1
 ·obtain⟨z,p,rfl,h⟩:=G5 h;obtain⟨s,hs,h⟩:=ob h;cases h;exact Nm _ (jT (j.e o) hs).1
def Dp (g:G)(x:Str):Option (List (Str×Nat)):=if jv g x=true then(match g.T.lookup x with|some (.dct fs)=>some fs|_=>none) else none
set_option tactic.hygienic true in
def uJ (o:eW fa n g X)(h:Dp g x=some fs):(∃ad j,X.mg x=some (.ref ad)/\fV X.K X.w.params ad j/\eP fa j fs)/\Gl X x/\(x==("__debug__":Str))=false:=by
 obtain⟨c,h⟩:=oi h;split at h
 ·next e=>cases h;exact{o.T.dct e,dS o c}
 ·cases h
def Ds (R:Rc)(g:G)(e:Expr):Option GE:=Kc e λa h bs _=>
 (n2 h λq r=>n2 bs λb c=>if 0<g.lv/\behindInMarks r c=false then(R.e g a).bind λy=>(R.e g b).bind λz=>(R.e g c).bind λu=>some (qK (gp q) (gp r) y z u) else none).or
 (n1 h λq=>n1 bs λb=>(if gp q=.notin then nName b λx _=>(Dp g x).bind λfs=>(R.e g a).bind λy=>some (iV fs y) else none).or
  (if 0<g.lv/\behindInMarks q b=false then(R.e g a).bind λy=>(R.e g b).bind λz=>some (ax (gp q) y z) else none))
def IL:dH:=Ds
def tY (h:gp q=.notin):q=.NotIn:=(c8 q).symm.trans (congrArg ff h)
def FT:SE IL:=by
 intro fa n R j g X o a F h;replace h:=qE h;obtain⟨a,H,bs,p,rfl,h⟩:=h;replace h:=bY h;rcases h with h|h
 ·replace h:=iu h;obtain⟨q,r,rfl,h⟩:=h;obtain⟨b,d,rfl,h⟩:=iu h;obtain⟨c,h⟩:=oi h;replace h:=ob h;obtain⟨y,v,h⟩:=h;replace h:=ob h;obtain⟨z,B,h⟩:=h;replace h:=ob h;obtain⟨u,E,h⟩:=h;cases h;have:=Nv (o.rm c.1) (gp q) (gp r) (j.e o v) (j.e o B) (j.e o E) (by rw[c8,c8];exact c.2) (pos:=p)
  rw[c8,c8] at this;exact this
 replace h:=cQ h;obtain⟨q,rfl,h⟩:=h;replace h:=cQ h;obtain⟨b,rfl,h⟩:=h;replace h:=bY h;rcases h with h|h
 ·replace h:=oi h;obtain⟨c,h⟩:=h;obtain⟨x,_,rfl,h⟩:=c6 h;obtain⟨fs,e,h⟩:=ob h;obtain⟨y,v,h⟩:=ob h;cases h;obtain⟨d,e1,e2⟩:=uJ o e;rw[tY c];exact Gy d e1 e2 (j.e o v) rfl
 ·obtain⟨c,h⟩:=oi h;obtain⟨y,v,h⟩:=ob h;obtain⟨z,B,h⟩:=ob h;cases h;have:=Nu (o.rm c.1) (gp q) (j.e o v) (j.e o B) (by rw[c8];exact c.2) (pos:=p)
  rw[c8] at this;exact this
noncomputable def Oq:Expr->Bool
 |.Compare ..=>false
 |.BoolOp ..=>false
 |.UnaryOp ..=>false
 |.IfExp ..=>false
 |_=>true
def vT:Fs:=λR g e=>((Ds R g e).bind λx=>some (ak x)).or
 ((Et e λq h _ => match q with
   |.And=>td (R.t g) eQ h
   |.Or=>td (R.t g) eL h).or
 ((N3 e λq a _ => match q with
   |.Not=>(R.t g a).bind λx=>some (cq x)
   |_=>none).or (if Oq e=true then(R.e g e).bind λx=>some (ak x) else none)))
def FJ (j:ik fa n R)(o:eW fa n g X)(h:Ds R g a=some ga):DT fa X a (ak ga):=by
 replace h:=qE h;obtain⟨a,F,bs,p,rfl,h⟩:=h;replace h:=bY h;rcases h with h|h
 ·replace h:=iu h;obtain⟨q,r,rfl,h⟩:=h;obtain⟨b,d,rfl,h⟩:=iu h;obtain⟨c,h⟩:=oi h;replace h:=ob h;obtain⟨y,v,h⟩:=h;replace h:=ob h;obtain⟨z,B,h⟩:=h;replace h:=ob h;obtain⟨u,E,h⟩:=h;cases h;have:=Lg (o.rm c.1) (gp q) (gp r) (j.e o v) (j.e o B) (j.e o E) (by rw[c8,c8];exact c.2) (pos:=p)
  rw[c8,c8] at this;exact this
 replace h:=cQ h;obtain⟨q,rfl,h⟩:=h;replace h:=cQ h;obtain⟨b,rfl,h⟩:=h;replace h:=bY h;rcases h with h|h
 ·replace h:=oi h;obtain⟨c,h⟩:=h;obtain⟨x,_,rfl,h⟩:=c6 h;obtain⟨fs,e,h⟩:=ob h;obtain⟨y,v,h⟩:=ob h;cases h;obtain⟨d,e1,e2⟩:=uJ o e;rw[tY c];exact GF d e1 e2 (j.e o v) rfl
 ·obtain⟨c,h⟩:=oi h;obtain⟨y,v,h⟩:=ob h;obtain⟨z,B,h⟩:=ob h;cases h;have:=Lf (o.rm c.1) (gp q) (j.e o v) (j.e o B) (by rw[c8];exact c.2) (pos:=p)
  rw[c8] at this;exact this
def Md:ST vT:=by
 intro fa n R u g X o a y h;replace h:=bY h;rcases h with h|h
 ·obtain⟨x,j,h⟩:=ob h;cases h;exact FJ u o j
 replace h:=bY h;rcases h with h|h
 ·obtain⟨q,v,p,rfl,h⟩:=t9 h;cases q with
  |And=>exact PW.pt (vG (u.t o) h)
  |Or=>exact PW.pt (zq (u.t o) h)
 replace h:=bY h;rcases h with h|h
 ·obtain⟨q,a,p,rfl,h⟩:=Al h;cases q with
  |Not=>obtain⟨x,j,h⟩:=ob h;cases h;exact Ld (u.t o j)
  |_=>cases h
 ·obtain⟨c,h⟩:=oi h;obtain⟨x,j,h⟩:=ob h;cases h;exact Dh (u.e o j) λ_=>by cases a<;>first|rfl|cases c
noncomputable def ky:Expr->Bool
 |.Slice ..=>false
 |_=>true
def oK (h:ky b=true):jg b:=by
 intro x i;cases b<;>first|rfl|cases h
noncomputable def cO (f:Expr->Option GE):Option Expr->Option GE
 |none=>some (gC .non)
 |some a=>f a
def Fg (u:∀{a:Expr}{j:GE},f a=some j->DE fa X a j)(h:cO f q=some ge):DO fa X q q.isSome ge:=by
 cases q with
 |none=>cases h;exact HA
 |some a=>exact Hz (u h)
def ID:dH:=λR g e=>t8 e λa b _=>nName a λx _=>(Dp g x).bind λfs=>if ky b=true then(R.e g b).bind λy=>some (lO fs y) else none
def FL:SE ID:=by
 intro fa n R u g X o a v h;replace h:=kz h;obtain⟨a,b,p,rfl,h⟩:=h;replace h:=c6 h;obtain⟨x,q,rfl,h⟩:=h;obtain⟨fs,e,h⟩:=ob h;obtain⟨c,h⟩:=oi h;obtain⟨y,j,h⟩:=ob h;cases h;obtain⟨d,e1,e2⟩:=uJ o e;exact GC d e1 e2 (u.e o j) (oK c)
def II:dH:=λR g e=>t8 e λa b p=>(ON b λlo h st _=>if st.isNone=true/\g.tx p=false then(R.e g a).bind λx=>(cO (R.e g) lo).bind λy=>(cO (R.e g) h).bind λz=>some (b5 (g.cl p) lo.isSome h.isSome x y z) else none).or
 (if ky b=true then(R.e g a).bind λx=>(R.e g b).bind λy=>some (ao x y) else none)
def FR:SE II:=by
 intro fa n R j g X o a E h;replace h:=kz h;obtain⟨a,b,p,rfl,h⟩:=h;replace h:=bY h;rcases h with h|h
 ·obtain⟨lo,F,st,p2,rfl,h⟩:=G4 h;obtain⟨⟨c,_⟩,h⟩:=oi h;replace h:=ob h;obtain⟨x,u,h⟩:=h;replace h:=ob h;obtain⟨y,v,h⟩:=h;replace h:=ob h;obtain⟨z,B,h⟩:=h;cases h;rw[Option.isNone_iff_eq_none.mp c];exact Nj _ _ _ (j.e o u) (Fg (j.e o) v) (Fg (j.e o) B)
 ·obtain⟨c,h⟩:=oi h;obtain⟨x,u,h⟩:=ob h;obtain⟨y,v,h⟩:=ob h;cases h;exact Nq (j.e o u) (j.e o v) (oK c)
noncomputable def lx (g:G)(x:Str):Option Nat:=if (g.sc.names.lookup x==some .local||(g.sc.names.lookup x==some .cell&&(g.lv != 1||g.oc.contains x)))=true then g.N.findIdx? (·==x) else none
def Ew (g:G):List Expr->Option (List Nat)
 |[]=>some []
 |e::r=>nName e λx _=>(lx g x).bind λi=>(Ew g r).bind λl=>some (i::l)
def cG (g:G)(e:Expr):Option fX:=(nName e λx _=>(lx g x).bind λi=>some (.one i)).or (t7 e λh _ _=>if 0<g.lv then((Ew g h).bind λl=>some (.tup l)).or (n2 h λa b=>nName a λx _=>t7 b λbs _ _=>(lx g x).bind λi=>(Ew g bs).bind λl=>some (.two i l)) else none)
section
variable{fa:Fa}{n:Nat}{g:G}{X:Cx}{R:Rc}(o:eW fa n g X)
include o
theorem xJ (h:lx g x=some i):X.N[i]?=some x/\L2.Loc X.env.scope x/\(X.fn x=true\/X.env.scope.names.lookup x=some .local):=by
 obtain⟨c,h⟩:=oi h;rw[RJ,Qg] at c;refine{xR o h,?_,?_}
 ·unfold L2.Loc;rw[o.sc];rcases c with z|z
  ·exact .inl (eq_of_beq z)
  ·exact .inr (eq_of_beq z.1)
 ·rcases c with z|z
  ·right;rw[o.sc];exact eq_of_beq z
  ·rcases Bool.or_eq_true_iff.mp z.2 with q|q
   ·exact .inl (o.fn (by simpa using q) x)
   ·exact .inl (o.oc x (List.contains_iff_mem.mp q))
theorem uc:∀{es:List Expr}{l:List Nat},Ew g es=some l->i6 X l es
 |[],_,h=>by cases h;exact .nil
 | e :: r, _, h => by
   replace h:=c6 h;obtain⟨x,p,rfl,h⟩:=h;obtain⟨i,j,h⟩:=ob h;obtain⟨l,hl,h⟩:=ob h;cases h;obtain⟨a,b,c⟩:=xJ o j;exact .cons a b c (uc hl)
theorem iX (h:cG g t=some tt):PG X t (gT fa X.K tt):=by
 replace h:=bY h;rcases h with h|h
 ·obtain⟨x,p,rfl,h⟩:=c6 h;replace h:=ob h;obtain⟨i,j,h⟩:=h;cases h;obtain⟨a,b,c⟩:=xJ o j;exact HJ (o.N ▸ o.nd) a b c
 ·replace h:=h9 h;obtain⟨v,k,p,rfl,h⟩:=h;replace h:=oi h;obtain⟨c,h⟩:=h;replace h:=bY h;rcases h with h|h
  ·obtain⟨l,hl,h⟩:=ob h;cases h;exact Lv (o.calm c) (o.N ▸ o.nd) (uc o hl)
  ·obtain⟨a,b,rfl,h⟩:=iu h;replace h:=c6 h;obtain⟨x,y,rfl,h⟩:=h;replace h:=h9 h;obtain⟨bs,k2,p2,rfl,h⟩:=h;obtain⟨i,j,h⟩:=ob h;obtain⟨l,hl,h⟩:=ob h;cases h;obtain⟨e1,e2,u⟩:=xJ o j;exact Lu (o.calm c) (o.N ▸ o.nd) e1 e2 u (uc o hl)
end
def cB (nm:Str)(R:Rc)(g:G)(e:Expr):Option (List Expr×GA):=oq e λx h _=>nC h λa h=>if x=nm/\jv g x=true/\(match g.T.lookup x with|some .bl=>true|_=>false)=true/\0<g.lv then(cA (R.e g) (a::h)).bind λj=>some (a::h,j) else none
def lW {g:G}(h:(match g.T.lookup x with|some .bl=>true|_=>false)=true):g.T.lookup x=some .bl:=by
 split at h
 ·assumption
 ·cases h
def qe (B:ik fa n R)(o:eW fa n g X)(h:cB nm R g e=some (as,u)):∃p pos a es,as=a::es/\e=.Call (.Name nm p) (a::es) [] pos/\Gl X nm/\X.mg nm=none/\0<g.lv/\DA fa X (a::es) u/\notStar a=true/\es.all notStar=true:=by
 replace h:=gR h;obtain⟨x,q,es,p,rfl,h⟩:=h;replace h:=lD h;obtain⟨a,es,rfl,h⟩:=h;replace h:=oi h;obtain⟨⟨rfl,v,y,z⟩,h⟩:=h;obtain⟨u,j,h⟩:=ob h;cases h;obtain⟨d,ns⟩:=jT (B.e o) j;rw[Rw,Qg] at ns;exact{_,_,_,_,rfl,rfl,(dS o v).1,o.T.bl (lW y),z,d,ns.1,ns.2}
def IG:dH:=λR g e=>(cB "len" R g e).bind λq=>some (aJ .len q.2)
def FP:SE IG:=λ{fa n R} v {g X} o {a z} h=>by
 obtain⟨⟨y,B⟩,u,h⟩:=ob h;cases h;obtain⟨_,_,_,_,_,rfl,j,hm,_,d,n1,n2⟩:=qe v o u;exact Fd .len M8 j hm PySem.boot_len d `d `d (bp n1) (dJ n2)
def IP:dH:=λR g e=>(cB "all" R g e).bind λq=>some (aJ .all q.2)
def FV:SE IP:=λ{fa n R} v {g X} o {a z} h=>by
 obtain⟨⟨y,B⟩,u,h⟩:=ob h;cases h;obtain⟨_,_,_,_,_,rfl,j,hm,lv,d,n1,n2⟩:=qe v o u;exact Fd .all (Na (o.calm lv)) j hm `k d `d `d (bp n1) (dJ n2)
def IF:dH:=λR g e=>(cB "max" R g e).bind λq=>some (oV q.2)
def FO:SE IF:=λ{fa n R} v {g X} o {a z} h=>by
 obtain⟨⟨y,B⟩,u,h⟩:=ob h;cases h;obtain⟨_,_,_,_,_,rfl,j,hm,lv,d,n1,n2⟩:=qe v o u;exact Mr (o.calm lv) j hm d n1 n2
def yV:dH:=λR g e=>(cB "tuple" R g e).bind λq=>some (aJ .tuple q.2)
def yU:SE yV:=λ{fa n R} v {g X} o {a z} h=>by
 obtain⟨⟨y,B⟩,u,h⟩:=ob h;cases h;obtain⟨_,_,_,_,_,rfl,j,hm,_,d,n1,n2⟩:=qe v o u;exact A6 .tuple Hn j hm `k d `d `d (bp n1) (dJ n2)
def D3:dH:=λR g e=>(cB "list" R g e).bind λq=>some (aJ (.list (g.cl e.pos)) q.2)
def BL:SE D3:=λ{fa n R} v {g X} o {a z} h=>by
 obtain⟨⟨y,B⟩,u,h⟩:=ob h;cases h;obtain⟨_,_,_,_,_,rfl,j,hm,_,d,n1,n2⟩:=qe v o u;exact A6 (.list _) (KS _) j hm `k d `d `d (bp n1) (dJ n2)
def cR (R:Rc)(g:G)(nm:Str)(e:Expr):Option (Expr×GE):=oq e λx h _=>n1 h λa=>if x=nm/\jv g x=true/\(match g.T.lookup x with|some .bl=>true|_=>false)=true/\0<g.lv/\notStar a=true then(R.e g a).bind λy=>some (a,y) else none
def lV (E:ik fa n R)(o:eW fa n g X)(h:cR R g nm e=some (a,ga)):∃p pos,e=.Call (.Name nm p) [a] [] pos/\Gl X nm/\X.mg nm=none/\0<g.lv/\DE fa X a ga/\starEach [a] X.env=[(false,eval a X.env)]:=by
 replace h:=gR h;obtain⟨x,q,F,p,rfl,h⟩:=h;replace h:=cQ h;obtain⟨a,rfl,h⟩:=h;replace h:=oi h;obtain⟨⟨rfl,j,u,v,z⟩,h⟩:=h;obtain⟨y,B,h⟩:=ob h;cases h;exact{_,_,rfl,(dS o j).1,o.T.bl (lW u),v,E.e o B,bp z}
def yX:dH:=λR g e=>oq e λx h p=>n1 h λb=>if x="list"/\jv g x=true/\(match g.T.lookup x with|some .bl=>true|_=>false)=true then(cR R g "range" b).bind λq=>some (mM (g.cl p) q.2) else none
def yW:SE yX:=λ{fa n R} B {g X} o {a F} h=>by
 replace h:=gR h;obtain⟨x,q,E,p,rfl,h⟩:=h;replace h:=cQ h;obtain⟨b,rfl,h⟩:=h;replace h:=oi h;obtain⟨⟨rfl,j,u⟩,h⟩:=h;obtain⟨⟨b,y⟩,z,h⟩:=ob h;cases h;obtain⟨_,_,rfl,v,hm,lv,d,hs⟩:=lV B o z;exact Gw _ (o.calm lv) d (dS o j).1 (o.T.bl (lW u)) v hm hs rfl
def IH:dH:=λR g e=>(cR R g "int" e).bind λq=>some (ux q.2)
def FQ:SE IH:=λ{fa n R} v {g X} o {a z} h=>by
 obtain⟨⟨b,y⟩,u,h⟩:=ob h;cases h;obtain⟨_,_,rfl,j,hm,lv,d,hs⟩:=lV v o u;exact Jr d j hm hs
def BU (x:Str):Option Ty:=if x="int" then some .int else if x="bool" then some .bool else if x="str" then some .str else if x="tuple" then some .tuple else if x="list" then some .list else none
def FW (h:BU x=some t):bootBuiltins x=some (.type (tyName t))/\(∀c,t≠.own c)/\x≠"__name__"/\(x==("__debug__":Str))=false:=by
 unfold BU at h;split at h
 ·subst x;cases h;exact{`k,(λ_ z=>nomatch z),`d,`d}
 split at h
 ·subst x;cases h;exact{`k,(λ_ z=>nomatch z),`d,`d}
 split at h
 ·subst x;cases h;exact{`k,(λ_ z=>nomatch z),`d,`d}
 split at h
 ·subst x;cases h;exact{`k,(λ_ z=>nomatch z),`d,`d}
 split at h
 ·subst x;cases h;exact{`k,(λ_ z=>nomatch z),`d,`d}
 ·cases h
def cI (R:Rc)(g:G)(e:Expr):Option (Str×GE):=oq e λy h _=>n2 h λa b=>nName b λx _=>if y="isinstance"/\jv g y=true/\(match g.T.lookup y with|some .bl=>true|_=>false)=true/\jv g x=true/\notStar a=true then(R.e g a).bind λz=>some (x,z) else none
def NC (F:ik fa n R)(o:eW fa n g X)(h:cI R g e=some (x,ga)):∃p q a pos,e=.Call (.Name "isinstance" p) [a,.Name x q] [] pos/\Gl X "isinstance"/\X.mg "isinstance"=none/\Gl X x/\(x==("__debug__":Str))=false/\DE fa X a ga/\starEach [a,.Name x q] X.env=(false,eval a X.env)::starEach [.Name x q] X.env:=by
 replace h:=gR h;obtain⟨y,q,H,p,rfl,h⟩:=h;replace h:=iu h;obtain⟨a,b,rfl,h⟩:=h;replace h:=c6 h;obtain⟨x,I,rfl,h⟩:=h;replace h:=oi h;obtain⟨⟨rfl,u,v,j,B⟩,h⟩:=h;obtain⟨z,E,h⟩:=ob h;cases h;exact{_,_,_,_,rfl,(dS o u).1,o.T.bl (lW v),(dS o j).1,(dS o j).2,F.e o E,bp B}
def D4:dH:=λR g e=>(cI R g e).bind λq=>if (match g.T.lookup q.1 with|some .bl=>true|_=>false)=true then(BU q.1).bind λt=>some (d9 t q.2) else none
def BM:SE D4:=λ{fa n R} I {g X} o {a J} h=>by
 obtain⟨⟨x,z⟩,E,h⟩:=ob h;obtain⟨c,h⟩:=oi h;obtain⟨t,F,h⟩:=ob h;cases h;obtain⟨_,_,_,_,rfl,B,hm,H,hd,d,hs⟩:=NC I o E;obtain⟨j,u,v,y⟩:=FW F;exact Ly t u d B hm `k H (o.T.bl (lW c)) j v y hs
def D9:dH:=λR g e=>oq e λx h _=>nC h λa h=>if 0<g.lv then(match vr g x with
 |some i=>(cA (R.e g) (a::h)).bind λj=>some (mO i g.c j)
 | none => if jv g x = true then(match g.T.lookup x with
   |some (.fn i _)=>(cA (R.e g) (a::h)).bind λj=>some (ah i g.c j)
   |_=>none) else none) else none
set_option tactic.hygienic true in
def BR:SE D9:=λ{fa n R} u {g X} o {a E} h=>by
 replace h:=gR h;obtain⟨x,q,z,p,rfl,h⟩:=h;replace h:=lD h;obtain⟨a,z,rfl,h⟩:=h
 ·obtain⟨lv,h⟩:=oi h;split at h
  ·next e=>
   obtain⟨B,j,h⟩:=ob h;cases h;obtain⟨d,ns⟩:=jT (u.e o) j;rw[Rw,Qg] at ns;obtain⟨a,b,v,y⟩:=DY o e;exact HP (o.C lv) ((o.hr lv).mono (Nat.le_succ _)) a b d v y (bp ns.1) (dJ ns.2)
  ·obtain⟨c,h⟩:=oi h;split at h
   ·next e=>
    obtain⟨B,j,h⟩:=ob h;cases h;obtain⟨d,ns⟩:=jT (u.e o) j;rw[Rw,Qg] at ns;exact LG (o.C lv _) ((o.hr lv).mono (Nat.le_succ _)) (dS o c).1 (o.T.fn e) d (dS o c).2 (bp ns.1) (dJ ns.2)
   ·cases h
def DM:dH:=λR g e=>(oq e λx h _=>nC h λa h=>if 2<=g.lv/\jv g x=true then(match g.T.lookup x with
 |some (.fn i true)=>(cA (R.e g) (a::h)).bind λj=>some (bO i g.c j)
 |_=>none) else none).or (J9 e λc a b _=>(R.x g a).bind λx=>(R.x g b).bind λy=>(R.t g c).bind λt=>some (xV t x y))
set_option tactic.hygienic true in
def Bz:SX DM:=λ{fa n R} j {g X} o {a F} h=>by
 replace h:=bY h;rcases h with h|h
 ·obtain⟨x,q,v,p,rfl,h⟩:=gR h;obtain⟨a,v,rfl,h⟩:=lD h;replace h:=oi h;obtain⟨⟨lv,c⟩,h⟩:=h;split at h
  ·next e=>
   replace h:=ob h;obtain⟨H,u,h⟩:=h;cases h;obtain⟨d,ns⟩:=jT (j.e o) u;rw[Rw,Qg] at ns;exact x_call _ (o.C `a) ((o.hr `a).mono (Nat.le_succ _)) (o.top lv).1 (dS o c).1 (o.T.fn e) d (dS o c).2 ns.1 ns.2
  ·cases h
 ·obtain⟨c,a,b,p,rfl,h⟩:=vY h;obtain⟨x,B,h⟩:=ob h;obtain⟨y,E,h⟩:=ob h;obtain⟨t,z,h⟩:=ob h;cases h;exact Mc (j.t o z) (j.x o B) (j.x o E)
def yH:dH:=λR g e=>oq e λx h _=>n1 h λa=>if 2<=g.lv/\jv g x=true/\notStar a=true then(match g.T.lookup x with
 |some (.fnD i)=>(R.e g a).bind λy=>some (bO i g.c (aX y (aX (gC .non) a9)))
 |_=>none) else none
set_option tactic.hygienic true in
def yG:SX yH:=λ{fa n R} u {g X} o {a z} h=>by
 replace h:=gR h;obtain⟨x,q,v,p,rfl,h⟩:=h;replace h:=cQ h;obtain⟨a,rfl,h⟩:=h;replace h:=oi h;obtain⟨⟨lv,c,st⟩,h⟩:=h;split at h
 ·next e=>
  replace h:=ob h;obtain⟨y,j,h⟩:=h;cases h;exact FC _ (o.C `a) ((o.hr `a).mono (Nat.le_succ _)) (o.top lv).1 (dS o c).1 (o.T.fnD e).1 (o.T.fnD e).2 (u.e o j) (dS o c).2 st
 ·cases h
noncomputable def nI:Expr->Bool
 |.Call ..=>false
 |_=>true
def jf (h:nI a=true):attributeBase a m env w=w:=by
 cases a<;>first|rfl|cases h
def NR:dH:=λR g e=>OP e λl _=>nC l λa l=>n2 l λb c=>CI a λz=>N5 b λb=>CI c λy=>(R.e g b).bind λx=>some (uz z y x)
def IJ:SE NR:=λ{fa n R} u {g X} o {a v} h=>by
 replace h:=G6 h;obtain⟨l,p,rfl,h⟩:=h;replace h:=lD h;obtain⟨a,l,rfl,h⟩:=h;replace h:=iu h;obtain⟨b,c,rfl,h⟩:=h;replace h:=vX h;obtain⟨z,_,_,rfl,h⟩:=h;replace h:=Ka h;obtain⟨b,_,rfl,h⟩:=h;replace h:=vX h;obtain⟨y,_,_,rfl,h⟩:=h;obtain⟨x,j,h⟩:=ob h;cases h;exact OH (u.e o j)
def DU:vd:=λR g _ e=>(cR R g "range" e).bind λq=>some (dU q.2)
def BH:SW DU:=λ{z n R} v {g X} o {t a B} h=>by
 obtain⟨⟨b,y⟩,u,h⟩:=ob h;cases h;obtain⟨_,_,rfl,j,hm,_,d,hs⟩:=lV v o u;exact HG d j hm hs
def DV:vd:=λR g t e=>t7 t λ_ _ _=>(cR R g "enumerate" e).bind λq=>some (gY q.2)
def BI:SW DV:=λ{z n R} v {g X} o {t a B} h=>by
 replace h:=h9 h;obtain⟨_,_,_,rfl,h⟩:=h;obtain⟨⟨b,y⟩,u,h⟩:=ob h;cases h;obtain⟨_,_,rfl,j,hm,_,d,hs⟩:=lV v o u;exact HI d j hm hs
def cN (R:Rc)(g:G)(nm:Str)(e:Expr):Option (List Expr):=oq e λx h _=>if x=nm/\jv g x=true/\(match g.T.lookup x with|some .bl=>true|_=>false)=true/\0<g.lv/\h.all notStar=true then some h else none
def NB (o:eW fa n g X)(h:cN R g nm e=some es):∃p pos,e=.Call (.Name nm p) es [] pos/\Gl X nm/\X.mg nm=none/\es.all notStar=true:=by
 replace h:=gR h;obtain⟨x,q,es,p,rfl,h⟩:=h;replace h:=oi h;obtain⟨⟨rfl,j,u,y,v⟩,h⟩:=h;cases h;exact{_,_,rfl,(dS o j).1,o.T.bl (lW u),v}
def xj:∀{es:List Expr},es.all notStar=true->starEach es env=es.map λa=>(false,eval a env)
 |[],_=>rfl
 | a :: es, h => by
   rw[Rw,Qg] at h;rw[bp h.1,xj h.2];rfl
def DR:vd:=λR g t e=>t7 t λ_ _ _=>(cN R g "zip" e).bind λh=>n2 h λa b=>(R.e g a).bind λx=>(R.e g b).bind λy=>some (nP x y)
def BG:SW DR:=λ{F n R} j {g X} o {t a H} h=>by
 replace h:=h9 h;obtain⟨_,_,_,rfl,h⟩:=h;obtain⟨E,v,k⟩:=ob h;clear h;obtain⟨_,_,rfl,u,hm,ns⟩:=NB o v;replace k:=iu k;obtain⟨a,b,rfl,k⟩:=k;obtain⟨x,z,k⟩:=ob k;obtain⟨y,B,k⟩:=ob k;cases k;exact HF (j.e o z) (j.e o B) u hm (xj ns) (xj (R1.mp (Rw ▸ ns)).2)
def Iv:vd:=λR g _ e=>if g.tx e.pos=false then(R.e g e).bind λx=>some (bK x) else none
def FG:SW Iv:=λ{v n R} u {g X} o {t a y} h=>by
 obtain⟨_,h⟩:=oi h;obtain⟨x,j,h⟩:=ob h;cases h;exact Lr (u.e o j)
noncomputable def jr:Expr->Bool
 |.Set ..=>false
 |_=>true
def uA (h:jr a=true)(x:Qb):foldedSetIterable a env x=pure x:=by
 cases a<;>first|rfl|cases h
noncomputable def xA:Expr->List Str
 |.Name x _=>[x]
 |.Tuple h _ _=>(h.map fun|.Name x _=>[x]|.Tuple bs _ _=>bs.filterMap (fun|.Name x _=>some x|_=>none)|_=>[]).flatten
 |_=>[]
noncomputable def uY (g:G)(own:List Str):List Str:=g.N.map λx=>if own.contains x then x++("%":Str) else x
noncomputable def Cp (h sc:Scope):Scope:={h with names:=h.names.map λ(n,k)=>if (k==.free&&sc.kind==.function&&sc.names.lookup n==some .cell) then(n,.cell) else(n,k)}
def G.inC (g:G)(own:List Str)(h:Scope):G:={g with N:=own++uY g own,sc:=Cp h g.sc,lv:=1,oc:=(h.names.filter λy=>h.names.lookup y.1==some .cell).map (·.1)}
def vQ (g:G)(own:List Str)(h:Scope):Prop:=0<g.lv/\h.kind=.function/\qW (uY g own) g.N g.sc h=true/\(own++uY g own).Nodup
instance (g:G) (own:List Str) (scope:Scope):Decidable (vQ g own scope):=by unfold vQ;infer_instance
def yb (o:eW fa n g X)(c:vQ g own scope):fN X own (uY g own) scope/\∀cl C j s H,eW fa n (g.inC own scope) (f9 X own (uY g own) scope cl C j s H):=by
 obtain⟨h,u,v,B⟩:=c;refine{Ba u o.sc o.N v,λcl C j s H=>{rfl,B,?_,o.T,o.tw,o.xf,o.ms,(λz=>absurd rfl z),(λx E=>by obtain⟨y,F,e⟩:=Qh.mp E;subst e;exact(RI.mp F).2),λ_=>o.calm h,λ_=>o.C h,λ_=>o.hr h,(λz=>absurd (show 2<=1 from z) `d),(λz=>nomatch z)}}
 show relabel scope X.env=Cp scope g.sc;unfold relabel Cp Env.kindOf;rw[o.sc]
structure L9 (fa:Fa) (X:Cx) (e:Expr) (k:Nat) (t:fX) (gw:GW) (gb:GB):Prop where
 ex:∃elt tg iter ifs rest scope pos own bn W body,e=.ListComp elt ({tg,iter,ifs,0}::rest) scope pos/\k=own.length/\fN X own bn scope/\DI fa X tg iter gw/\Block fa X (LA fa X.K) own bn scope tg t W body gb/\ql X elt tg iter ifs rest scope pos body/\(∀i∈W,i∉slots t)/\(∀i∈slots t++W,i<own.length)/\∀x,foldedSetIterable iter X.env x=pure x
def cC (R:Rc)(g:G)(e:Expr):Option (Nat×fX×GW×GB):=N4 e λB y h _=>(n1 y λc=>nG c λz j v=>let own:=xA z
 if vQ g own h/\jr j=true then(R.w g z j).bind λw=>(cG (g.inC own h) z).bind λt=>(R.e (g.inC own h) B).bind λx=>if (slots t).all (· < own.length)=true then(n0 v (some (own.length,t,w,bg x))).or (n1 v λc=>(R.t (g.inC own h) c).bind λq=>some (own.length,t,w,iQ q (bg x))) else none else none).or
 (n2 y λc d=>nG c λz j v=>nG d λt2 F E=>let own:=xA z++xA t2
  n0 v (n0 E (if vQ g own h/\jr j=true/\jr F=true then(R.w g z j).bind λw=>(cG (g.inC own h) z).bind λt=>(R.w (g.inC own h) t2 F).bind λw2=>(cG (g.inC own h) t2).bind λu=>(R.e (g.inC own h) B).bind λx=>if (slots t++slots u).all (· < own.length)=true/\(slots u).all (λi=>!(slots t).contains i)=true then some (own.length,t,w,uy u w2 (bg x)) else none else none)))
def Fh (z:ik fa n R)(o:eW fa n g X)(h:cC R g e=some (k,t,gw,gb)):L9 fa X e k t gw gb:=by
 replace h:=Am h;obtain⟨B,gens,E,p,rfl,h⟩:=h;replace h:=bY h;rcases h with h|h
 ·replace h:=cQ h;obtain⟨c,rfl,h⟩:=h;replace h:=sD h;obtain⟨tg,y,Y,rfl,h⟩:=h;replace h:=oi h;obtain⟨⟨c,J⟩,h⟩:=h;replace h:=ob h;obtain⟨w,M,h⟩:=h;replace h:=ob h;obtain⟨t,L,h⟩:=h;replace h:=ob h;obtain⟨x,P,h⟩:=h;replace h:=oi h;obtain⟨I,h⟩:=h;obtain⟨S,O⟩:=yb o c;replace h:=bY h;rcases h with h|h
  ·obtain⟨rfl,h⟩:=fx h;cases h;exact{_,_,_,_,_,_,_,_,_,[],(λa env=>eval B env >>= λx=>call (.builtin "list.append") [.ref a,x] >>= λ_=>pure ()),rfl,rfl,S,z.w o M,{λcl C v s H=>iX (O cl C v s H) L,λcl C v s H a=>uK (z.e (O cl C v s H) P)},(λF a env=>BY _ _ _ [] _ _ (.ref F) (.ref a) env),(λi h=>nomatch h),(by simpa using kW I),uA J}
  ·obtain⟨d,rfl,h⟩:=cQ h;obtain⟨q,hq,h⟩:=ob h;cases h;exact{_,_,_,_,_,_,_,_,_,[],(λa env=>PySem.isTrue d env (eval d env) >>= λok=>if ok=true then(eval B env >>= λx=>call (.builtin "list.append") [.ref a,x] >>= λ_=>pure ()) else pure ()),rfl,rfl,S,z.w o M,{λcl C v s H=>iX (O cl C v s H) L,λcl C v s H a=>Nf LA.stab (z.t (O cl C v s H) hq) (uK (z.e (O cl C v s H) P))},(λF a env=>turn_if _ _ _ _ _ _ (.ref F) (.ref a) env),(λi h=>nomatch h),(by simpa using kW I),uA J}
 ·replace h:=iu h;obtain⟨c,d,rfl,h⟩:=h;replace h:=sD h;obtain⟨tg,y,Y,rfl,h⟩:=h;replace h:=sD h;obtain⟨t2,Q,ifs2,rfl,h⟩:=h;replace h:=fx h;obtain⟨rfl,h⟩:=h;replace h:=fx h;obtain⟨rfl,h⟩:=h;obtain⟨⟨c,J,U⟩,h⟩:=oi h;obtain⟨w,M,h⟩:=ob h;obtain⟨t,L,h⟩:=ob h;obtain⟨w2,W,h⟩:=ob h;obtain⟨u,hu,h⟩:=ob h;obtain⟨x,P,h⟩:=ob h;obtain⟨⟨I,c3⟩,h⟩:=oi h;cases h;obtain⟨S,O⟩:=yb o c;exact{_,_,_,_,_,_,_,_,_,slots u,(λa env=>eval Q env >>= λx=>standAt Q.pos >>= λ_=>foldedSetIterable Q env x >>= λx=>holding [x] (pyIter x) >>= λj=>runOwn (.compStart (.ListComp B [{tg,y,[],0},{t2,Q,[],0}] E p) 1 j (.ref a) env) env >>= λ_=>pure ()),rfl,rfl,S,z.w o M,{λcl C v s H=>iX (O cl C v s H) L,λcl C v s H a=>Lw rfl (o.calm c.1) (z.w (O cl C v s H) W) (iX (O cl C v s H) hu) (z.e (O cl C v s H) P) (uA U)},(λF a env=>BW _ _ _ _ _ _ _ (.ref F) (.ref a) env),zJ c3,kW I,uA J}
def D8:dH:=λR g e=>if 0<g.lv then(cC R g e).bind λq=>some (ba (g.cl e.pos) q.1 q.2.1 q.2.2.1 q.2.2.2) else none
def BQ:SE D8:=λ{J n R} H {g X} o {a L} h=>by
 obtain⟨lv,h⟩:=oi h;obtain⟨⟨k,t,w,b⟩,z,h⟩:=ob h;cases h;obtain⟨v,M,u,E,rest,j,F,own,I,W,body,rfl,rfl,S,y,B,T,h1,h2,h3⟩:=(Fh H o z).ex;exact LF _ S (o.calm lv) y B T h1 h2 h3
def uW (f:Stmt->Option GS):List Stmt->Option GS
 |[]=>some aF
 |a::r=>(f a).bind λx=>(uW f r).bind λy=>some (aY x y)
def kI (v:∀{a:Stmt}{j:GS},f a=some j->DS fa X a j):∀{ss:List Stmt}{u:GS},uW f ss=some u->nk fa X ss u
 |[],_,h=>by cases h;exact wC
 | a :: r, _, h => by
   obtain⟨x,z,h⟩:=ob h;obtain⟨y,B,h⟩:=ob h;cases h;exact Di (v z) (kI v B)
noncomputable def vR:Expr->Bool
 |.ListComp ..=>false
 |.SetComp ..=>false
 |.DictComp ..=>false
 |_=>true
def vU (h:vR a=true):swapsWith a t l env=pure false:=by
 cases a<;>first|rfl|cases h
def LP (g:G)(h a:Expr):Bool:=match a with
 |.ListComp ..=>(match h with|.Name y _=>g.sc.names.lookup y==some .cell|_=>false)
 |.Tuple ..=>(match h with|.Name ..=>true|_=>false)
 |.SetComp ..=>false
 |.DictComp ..=>(match h with|.Name y _=>g.sc.names.lookup y==some .cell|_=>false)
 |_=>true
set_option tactic.hygienic true in
def LO (o:eW fa n g X)(c:LP g tg a=true)(j:cG g tg=some t):swapsWithSole [tg] a l X.env=pure false/\swappedStores [tg] a X.env=pure none/\(assignEach [tg] X.env).map (·.2)=[assign tg X.env]:=by
 refine{?_,?_,?_}
 ·cases a<;>first|rfl|cases c|skip
  all_goals cases tg<;>first|cases c|skip
  all_goals
  next y p=>
  have e:=eq_of_beq c;have u:(X.env.kindOf y==some .local)=false:=by unfold Env.kindOf;rw[o.sc,e];rfl
  show(pure (X.env.blockKind==.function&&X.env.kindOf y==some .local&&_&&_):Sem Bool)=pure false;rw[u,Bool.and_false,Bool.false_and,Bool.false_and]
 ·replace j:=bY j;rcases j with h|h
  ·obtain⟨_,_,rfl,_⟩:=c6 h;cases a<;>first|rfl|cases c
  ·obtain⟨_,_,_,rfl,_⟩:=h9 h;cases a<;>first|rfl|cases c
 ·replace j:=bY j;rcases j with h|h
  ·obtain⟨_,_,rfl,_⟩:=c6 h;rfl
  ·obtain⟨_,_,_,rfl,_⟩:=h9 h;rfl
def Ij:mi:=λR g st=>xt st λts a _=>n1 ts λh=>if LP g h a=true then(cG g h).bind λt=>((R.x g a).bind λx=>some (eO t x)).or ((R.e g a).bind λx=>some (aw t x)) else none
def Fz:SS Ij:=λ{y n R} u {g X} o {a z} h=>by
 replace h:=nz h;obtain⟨ts,a,p,rfl,h⟩:=h;replace h:=cQ h;obtain⟨B,rfl,h⟩:=h;obtain⟨c,h⟩:=oi h;obtain⟨t,j,h⟩:=ob h;obtain⟨a1,a2,a3⟩:=LO o c j;replace h:=bY h;rcases h with h|h
 ·obtain⟨x,e,h⟩:=ob h;cases h;exact Ji (u.x o e) (iX o j) a1 a2 a3
 ·obtain⟨x,v,h⟩:=ob h;cases h;exact Lk (u.e o v) (iX o j) a1 a2 a3
def DK:mi:=λR g st=>xt st λts d _=>n1 ts λt=>nName t λy v=>N4 d λu j h p=>if 2<=g.lv/\g.sc.names.lookup y=some .local/\(v.line==p.line)=true/\(h.names.any λ(n,k)=>n==y&&(k==.local||k==.cell))=false then(cC R g (.ListComp u j h p)).bind λq=>(g.N.findIdx? (·==y)).bind λi=>some (aw (.one i) (ba (g.cl p) q.1 q.2.1 q.2.2.1 q.2.2.2)) else none
def Bx:SS DK:=λ{fa n R} rc {g X} o {a ga} h=>by
 replace h:=nz h;obtain⟨ts,d,_,rfl,h⟩:=h;replace h:=cQ h;obtain⟨t,rfl,h⟩:=h;replace h:=c6 h;obtain⟨y,py,rfl,h⟩:=h;replace h:=Am h;obtain⟨_,_,v,p,rfl,h⟩:=h
 ·next=>
  obtain⟨⟨lv,F,H,I⟩,h⟩:=oi h;obtain⟨⟨k,t,w,b⟩,Q,h⟩:=ob h;obtain⟨i,O,h⟩:=ob h;cases h;obtain⟨L,tg,E,U,rest,z,Y,own,bn,W,body,J,rfl,S,j,B,T,h1,h2,h3⟩:=(Fh rc o Q).ex;cases J;have hl:X.env.scope.names.lookup y=some .local:=by rw[o.sc];exact F
  refine xZ _ S (o.calm `a) j B T h1 h2 h3 (o.N ▸ o.nd) (xR o O) hl ?_
  have P:=(o.top lv).2.2.2;have M:(X.env.blockKind==.function)=true:=by unfold Env.blockKind;rw[P];rfl
  have u:(X.env.kindOf y==some .local)=true:=by unfold Env.kindOf;rw[hl];rfl
  show(pure (X.env.blockKind==.function&&X.env.kindOf y==some .local&&(py.line==p.line)&&!(v.names.any λ(n,k)=>n==y&&(k==.local||k==.cell))):Sem Bool)=pure true;rw[M,u,H,I];rfl
def Ii:mi:=λR g st=>xt st λts d _=>n1 ts λt=>t8 t λa b _=>if ky b=true then(R.e g a).bind λx=>(R.e g b).bind λy=>(R.e g d).bind λz=>some (eI x y z) else none
def Fy:SS Ii:=λ{F n R} j {g X} o {a H} h=>by
 replace h:=nz h;obtain⟨ts,d,_,rfl,h⟩:=h;replace h:=cQ h;obtain⟨t,rfl,h⟩:=h;replace h:=kz h;obtain⟨a,b,p2,rfl,h⟩:=h
 ·next=>
  obtain⟨c,h⟩:=oi h;obtain⟨x,u,h⟩:=ob h;obtain⟨y,B,h⟩:=ob h;obtain⟨z,E,h⟩:=ob h;cases h;refine Li (j.e o u) (j.e o B) (j.e o E) (λv=>?_) ?_ ?_ rfl
  ·cases b<;>first|rfl|cases c
  ·cases d<;>rfl
  ·cases d<;>rfl
def Ik:mi:=λR g st=>Cm st λe _=>Kd e λa m d q=>if m="append"/\nI a=true/\q=true/\notStar d=true then(R.e g a).bind λx=>(R.e g d).bind λy=>some (e9 x y) else none
def FA:SS Ik:=λ{F n R} j {g X} o {a H} h=>by
 replace h:=qt h;obtain⟨e,_,rfl,h⟩:=h;replace h:=An h;obtain⟨a,m,q,d,p,rfl,h⟩:=h;replace h:=oi h;obtain⟨⟨rfl,u,v,z⟩,h⟩:=h;obtain⟨x,B,h⟩:=ob h;obtain⟨y,E,h⟩:=ob h;cases h;exact Ll (j.e o B) (j.e o E) (jf u) v (bp z) rfl
def Ih:mi:=λR g st=>(Cm st λa _=>if vR a=true then((R.x g a).bind λx=>some (hZ x)).or ((R.e g a).bind λx=>some (sEx x)) else none).or
 ((sRt st λq _ => match q with
   |none=>some Eh
   |some a=>((R.x g a).bind λx=>some (xr x)).or ((R.e g a).bind λx=>some (aP x))).or
 ((sPs st λ_=>some Ei).or
 ((NZ st λc st u _=>(R.t g c).bind λt=>(uW (R.s g) st).bind λx=>(uW (R.s g) u).bind λy=>some (aT t x y)).or
 (N0 st λh a body j _=>n0 j (if g.lv=2/\jr a=true then(R.w g h a).bind λw=>(cG g h).bind λt=>(uW (R.s g) body).bind λx=>some (cu t w x) else none)))))
def Fx:SS Ih:=λ{F n R} j {g X} o {a H} h=>by
 replace h:=bY h;rcases h with h|h
 ·obtain⟨a,p,rfl,h⟩:=qt h;obtain⟨c,h⟩:=oi h;rcases bY h with h|h
  ·obtain⟨x,e,h⟩:=ob h;cases h;exact Mo (j.x o e) (vU c)
  ·obtain⟨x,u,h⟩:=ob h;cases h;exact Nd (j.e o u) (vU c)
 replace h:=bY h;rcases h with h|h
 ·obtain⟨q,p,rfl,h⟩:=Jl h;cases q with
  |none=>cases h;exact Hv
  | some a =>
    rcases bY h with h|h
    ·obtain⟨x,e,h⟩:=ob h;cases h;exact Jf (j.x o e)
    ·obtain⟨x,u,h⟩:=ob h;cases h;exact Lh (j.e o u)
 replace h:=bY h;rcases h with h|h
 ·obtain⟨p,rfl,h⟩:=Jm h;cases h;exact Hw
 replace h:=bY h;rcases h with h|h
 ·obtain⟨c,st,I,p,rfl,h⟩:=zN h;obtain⟨t,v,h⟩:=ob h;obtain⟨x,u,h⟩:=ob h;obtain⟨y,B,h⟩:=ob h;cases h;exact Lj (j.t o v) (kI (j.s o) u) (kI (j.s o) B)
 ·obtain⟨J,a,body,E,p,rfl,h⟩:=zO h;obtain⟨rfl,h⟩:=fx h;obtain⟨⟨lv,c⟩,h⟩:=oi h;obtain⟨w,z,h⟩:=ob h;obtain⟨t,v,h⟩:=ob h;obtain⟨x,u,h⟩:=ob h;cases h;exact A2 (o.po lv) (o.calm `a) (j.w o z) (iX o v) (E8 (kI (j.s o) u)) (uA c)
def yF:mi:=λR g st=>OF st λe c _=>if c.isNone=true then e.bind λe=>oq e λx h _=>nC h λa h=>if 2<=g.lv/\jv g x=true then(match g.T.lookup x with
 |some (.xc k)=>(cA (R.e g) (a::h)).bind λj=>some (f6 k j)
 |_=>none) else none else none
set_option tactic.hygienic true in
def yE:SS yF:=λ{y n R} v {g X} o {a z} h=>by
 replace h:=Gs h;obtain⟨e,c,_,rfl,h⟩:=h;replace h:=oi h;obtain⟨c,h⟩:=h;rw[Option.isNone_iff_eq_none.mp c];replace h:=ob h;obtain⟨e,rfl,h⟩:=h;replace h:=gR h;obtain⟨x,q,u,p,rfl,h⟩:=h;replace h:=lD h;obtain⟨a,u,rfl,h⟩:=h
 ·obtain⟨⟨lv,c⟩,k⟩:=oi h;clear h;split at k
  ·next e=>
   obtain⟨B,j,k⟩:=ob k;cases k;obtain⟨d,ns⟩:=jT (v.e o) j;rw[Rw,Qg] at ns;obtain⟨C,h1,h2,h3,_⟩:=o.T.xc e;exact Gq _ ⟨C,h1,h2,h3⟩ (o.top lv).1 (dS o c).1 (o.calm `a) d (dS o c).2 ns.1 ns.2
  ·cases k
def HB {rest:List Stmt}{p q:Pos}{c:Expr}{z:GT}{B:GS}(R:DT fa X c z)(Q:vk fa X rest B):vk fa X (.If c [.Continue p] [] q::rest) (aT z aF B):=by
 intro v s F H D I ⟨hn,U,S,M,O,P,h⟩;refine lu (El R (lu vm qz) qz) Q v s F H D I (vF O P h λk L J y E j u h1=>?_);cases k with
 |true=>exact hn _ _ (h1 F J y E j u)
 |false=>exact{hn,y,S,L,j,u,Af E h1}
set_option tactic.hygienic true in
def HC {st:Stmt}{rest:List Stmt}{E B:GS}(h1:DS fa X st E)(h2:vk fa X rest B):vk fa X (st::rest) (aY E B):=by
 intro j s R H D I ⟨hn,P,Q,M,J,L,h⟩;obtain⟨fl,F,e,q⟩:=aG h;refine lu h1 h2 j s R H D I {P,Q,M,J,L,?_};rw[e];cases fl with
 |next u=>exact λS U z O v y=>{hn,z,u,F,v,y,Af O q}
 |ret d=>exact q
 |exc x u=>exact q
def Jo {st:Stmt}(h:(match st with|.Continue _=>true|_=>false)=true):∃p,st=.Continue p:=by
 cases st<;>first|exact{_,rfl}|cases h
def cL (R:Rc)(g:G):List Stmt->Option GS
 |[]=>some aF
 |a::r=>(NZ a λc st h _=>n1 st λk=>n0 h (if (match k with|.Continue _=>true|_=>false)=true then(R.t g c).bind λt=>(cL R g r).bind λy=>some (aT t aF y) else none)).or ((R.s g a).bind λx=>(cL R g r).bind λy=>some (aY x y))
def yi (j:ik fa n R)(o:eW fa n g X):∀{ss:List Stmt}{v:GS},cL R g ss=some v->vk fa X ss v
 |[],_,h=>by cases h;exact E8 wC
 | a :: r, _, h => by
   rcases bY h with h|h
   ·obtain⟨c,st,E,p,rfl,h⟩:=zN h;obtain⟨k,rfl,h⟩:=cQ h;obtain⟨rfl,h⟩:=fx h;obtain⟨ck,h⟩:=oi h;obtain⟨_,rfl⟩:=Jo ck;obtain⟨t,z,h⟩:=ob h;obtain⟨y,u,h⟩:=ob h;cases h;exact HB (j.t o z) (yi j o u)
   ·obtain⟨x,B,h⟩:=ob h;obtain⟨y,u,h⟩:=ob h;cases h;exact HC (j.s o B) (yi j o u)
def DH:mi:=λR g st=>N0 st λh a body j _=>n0 j (if g.lv=2/\jr a=true then(R.w g h a).bind λw=>(cG g h).bind λt=>(cL R g body).bind λx=>some (cu t w x) else none)
def Bv:SS DH:=λ{B n R} j {g X} o {a E} h=>by
 obtain⟨F,a,body,z,p,rfl,h⟩:=zO h;obtain⟨rfl,h⟩:=fx h;obtain⟨⟨lv,c⟩,h⟩:=oi h;obtain⟨w,v,h⟩:=ob h;obtain⟨t,u,h⟩:=ob h;obtain⟨x,y,h⟩:=ob h;cases h;exact A2 (o.po lv) (o.calm `a) (j.w o v) (iX o u) (yi j o y) (uA c)
section
variable{β:Type}{e:Expr}{st:Stmt}{r:β}
noncomputable def CJ (e:Expr)(k:List (Option Expr)->List Expr->Pos->Option β):Option β:=if h:e.ctorIdx=6 then @Expr.Dict.elim (λ_=>Option β) e h k else none
def vZ (h:CJ e k=some r):∃a b c,e=.Dict a b c/\k a b c=some r:=(od h).elim λz h=>@Expr.Dict.elim (λe=>∀z,@Expr.Dict.elim (λ_=>Option β) e z k=some r->∃a b c,e=.Dict a b c/\k a b c=some r) e z (λa b c _ h=>⟨a,b,c,rfl,h⟩) z h
noncomputable def NY (e:Stmt)(k:Expr->List Stmt->List Stmt->Pos->Option β):Option β:=if h:e.ctorIdx=11 then @Stmt.While.elim (λ_=>Option β) e h k else none
def Jk (h:NY st k=some r):∃a b c d,st=.While a b c d/\k a b c d=some r:=(od h).elim λz h=>@Stmt.While.elim (λe=>∀z,@Stmt.While.elim (λ_=>Option β) e z k=some r->∃a b c d,e=.While a b c d/\k a b c d=some r) st z (λa b c d _ h=>⟨a,b,c,d,rfl,h⟩) z h
noncomputable def N6 (e:Expr)(k:Expr->Expr->List Sk->Scope->Pos->Option β):Option β:=if h:e.ctorIdx=10 then @Expr.DictComp.elim (λ_=>Option β) e h k else none
def Kb (h:N6 e k=some r):∃a b c d p,e=.DictComp a b c d p/\k a b c d p=some r:=(od h).elim λz h=>@Expr.DictComp.elim (λe=>∀z,@Expr.DictComp.elim (λ_=>Option β) e z k=some r->∃a b c d p,e=.DictComp a b c d p/\k a b c d p=some r) e z (λa b c d p _ h=>⟨a,b,c,d,p,rfl,h⟩) z h
end
def mf (o:eW fa n g X):eY fa:=⟨o.T.of,o.T.od.1,o.T.od.2⟩
def D7:dH:=λR g e=>t8 e λa b p=>if g.tx p=true/\ky b=true/\0<g.lv then(R.e g a).bind λx=>(R.e g b).bind λy=>some (b6 x y) else none
def BP:SE D7:=λ{z n R} j {g X} o {a B} h=>by
 replace h:=kz h;obtain⟨a,b,p,rfl,h⟩:=h;replace h:=oi h;obtain⟨⟨_,c,lv⟩,h⟩:=h;obtain⟨x,u,h⟩:=ob h;obtain⟨y,v,h⟩:=ob h;cases h;exact LC (o.rm lv) (mf o) (j.e o u) (j.e o v) (oK c)
noncomputable def isIn (q:CmpOp):Option Bool:=match q with
 |.In=>some false
 |.NotIn=>some true
 |_=>none
def Hh (h:isIn q=some n):q=if n then .NotIn else .In:=by
 cases q<;>first|(cases h;rfl)|cases h
def LK (R:Rc)(g:G)(e:Expr):Option GE:=Kc e λa h bs p=>n1 h λq=>n1 bs λb=>if g.tx p=true/\behindInMarks q b=false/\0<g.lv then(isIn q).bind λn=>(R.e g a).bind λx=>(R.e g b).bind λy=>some (iL n x y) else none
def HY (j:ik fa n R)(o:eW fa n g X)(h:LK R g e=some ge):DE fa X e ge/\DT fa X e (ak ge):=by
 replace h:=qE h;obtain⟨a,z,bs,p,rfl,h⟩:=h;replace h:=cQ h;obtain⟨q,rfl,h⟩:=h;replace h:=cQ h;obtain⟨b,rfl,h⟩:=h;replace h:=oi h;obtain⟨⟨_,c,lv⟩,h⟩:=h;obtain⟨m,hm,h⟩:=ob h;obtain⟨x,u,h⟩:=ob h;obtain⟨y,v,h⟩:=ob h;cases h;have e:=Hh hm;subst e;exact{Nr m (o.rm lv) (mf o) (j.e o u) (j.e o v) c,Le m (o.rm lv) (mf o) (j.e o u) (j.e o v) c}
def Iw:Fs:=λR g e=>(LK R g e).bind λx=>some (ak x)
def FI:ST Iw:=λ{v n R} u {g X} o {a y} h=>by
 obtain⟨x,j,h⟩:=ob h;cases h;exact(HY u o j).2
def DJ:mi:=λR g st=>xt st λts d _=>n1 ts λt=>t8 t λa b p=>if g.tx p=true/\ky b=true/\0<g.lv then(R.e g a).bind λx=>(R.e g b).bind λy=>(R.e g d).bind λz=>some (eM x y z) else none
def Bw:SS DJ:=λ{F n R} j {g X} o {a H} h=>by
 replace h:=nz h;obtain⟨ts,d,_,rfl,h⟩:=h;replace h:=cQ h;obtain⟨t,rfl,h⟩:=h;replace h:=kz h;obtain⟨a,b,p2,rfl,h⟩:=h;replace h:=oi h;obtain⟨⟨_,c,lv⟩,h⟩:=h;obtain⟨x,u,h⟩:=ob h;obtain⟨y,B,h⟩:=ob h;obtain⟨z,E,h⟩:=ob h;cases h;refine Jh (o.rm lv) (mf o) (j.e o u) (j.e o B) (j.e o E) (λv=>?_) ?_ ?_
 ·cases b<;>first|rfl|cases c
 ·cases d<;>rfl
 ·cases d<;>rfl
def D5:dH:=λR g e=>CJ e λks h p=>n0 ks (n0 h (some (nQ (if g.tx p=true then 78 else 77))))
def BN:SE D5:=λ{j n R} v {g X} o {a u} h=>by
 replace h:=vZ h;obtain⟨ks,y,p,rfl,h⟩:=h;replace h:=fx h;obtain⟨rfl,h⟩:=h;replace h:=fx h;obtain⟨rfl,h⟩:=h;cases h;exact Lz _ (by split<;>simp) (mf o)
def D6:dH:=λR g e=>if g.tx e.pos=true then(cR R g "len" e).bind λq=>if notStar q.1=true then some (gZ q.2) else none else none
def BO:SE D6:=λ{z n R} v {g X} o {a B} h=>by
 obtain⟨_,h⟩:=oi h;obtain⟨⟨b,y⟩,u,h⟩:=ob h;obtain⟨c,h⟩:=oi h;cases h;obtain⟨_,_,rfl,j,hm,_,d,hs⟩:=lV v o u;exact LB (mf o) j hm d c
def zd:dH:=λR g e=>N6 e λB E u h p=>n1 u λc=>nG c λz j v=>let own:=xA z
 n0 v (if vQ g own h/\jr j=true then(R.w g z j).bind λw=>(cG (g.inC own h) z).bind λt=>(R.e (g.inC own h) B).bind λx=>(R.e (g.inC own h) E).bind λy=>if (slots t).all (· < own.length)=true then some (kF (if g.tx p=true then 78 else 77) own.length t w (jS x y)) else none else none)
def zc:SE zd:=λ{Q n R} u {g X} o {a U} h=>by
 replace h:=Kb h;obtain⟨W,vx,z,v,p,rfl,h⟩:=h;replace h:=cQ h;obtain⟨c,rfl,h⟩:=h;replace h:=sD h;obtain⟨Y,B,P,rfl,h⟩:=h;replace h:=fx h;obtain⟨rfl,h⟩:=h;replace h:=oi h;obtain⟨⟨c,F⟩,h⟩:=h;obtain⟨w,J,h⟩:=ob h;obtain⟨t,I,h⟩:=ob h;obtain⟨x,L,h⟩:=ob h;obtain⟨y,M,h⟩:=ob h;obtain⟨E,h⟩:=oi h;cases h;obtain⟨S,O⟩:=yb o c;exact HN (by split<;>simp) (mf o) S (o.calm c.1) (u.w o J) {λcl C j s H=>iX (O cl C j s H) I,λcl C j s H a=>HK ((O cl C j s H).rm Nat.zero_lt_one) (mf o) (u.e (O cl C j s H) L) (u.e (O cl C j s H) M)} (by simpa using kW E) (uA F)
def yD:mi:=λR g st=>NY st λc body h _=>n0 h (if g.lv=2 then(R.t g c).bind λt=>(uW (R.s g) body).bind λb=>some (gL t b) else none)
def yC:SS yD:=λ{z n R} j {g X} o {a B} h=>by
 replace h:=Jk h;obtain⟨c,body,y,p,rfl,h⟩:=h;replace h:=fx h;obtain⟨rfl,h⟩:=h;replace h:=oi h;obtain⟨lv,h⟩:=h;obtain⟨t,v,h⟩:=ob h;obtain⟨b,u,h⟩:=ob h;cases h;exact Gp (o.po lv) (j.t o v) (kI (j.s o) u)
def IM:dH:=λR g e=>(cR R g "any" e).bind λq=>if notStar q.1=true then some (qL q.2) else none
def FU:SE IM:=λ{z n R} v {g X} o {a B} h=>by
 obtain⟨⟨b,y⟩,u,h⟩:=ob h;obtain⟨c,h⟩:=oi h;cases h;obtain⟨_,_,rfl,j,hm,lv,d,hs⟩:=lV v o u;exact Nx (o.calm lv) j hm d c
def NS:dH:=λR g e=>CJ e λks h p=>n1 ks λk=>k.bind λk=>n1 h λv=>if 0<g.lv then(R.e g k).bind λx=>(R.e g v).bind λy=>some (wx (if g.tx p=true then 78 else 77) x y) else none
def IK:SE NS:=λ{B n R} j {g X} o {a E} h=>by
 replace h:=vZ h;obtain⟨ks,F,p,rfl,h⟩:=h;replace h:=cQ h;obtain⟨k,rfl,h⟩:=h;obtain⟨k,rfl,h⟩:=Q8.mp h;replace h:=cQ h;obtain⟨v,rfl,h⟩:=h;replace h:=oi h;obtain⟨lv,h⟩:=h;obtain⟨x,u,h⟩:=ob h;obtain⟨y,z,h⟩:=ob h;cases h;exact HM _ (by split<;>simp) (o.rm lv) (mf o) (j.e o u) (j.e o z)
def yQ:vd:=λR g _ e=>if g.cl e.pos=true then(R.e g e).bind λx=>some (di b9 x) else none
def yP:SW yQ:=λ{v n R} u {g X} o {t a y} h=>by
 obtain⟨_,h⟩:=oi h;obtain⟨x,j,h⟩:=ob h;cases h;exact HH (mf o) (u.e o j)
def DL:mi:=λR g st=>Cm st λe _=>Kd e λa m d q=>if m="append"/\nI a=true/\q=true/\notStar d=true then(R.e g a).bind λx=>(R.x g d).bind λy=>some (nA x y) else none
def By:SS DL:=λ{F n R} j {g X} o {a H} h=>by
 replace h:=qt h;obtain⟨e,_,rfl,h⟩:=h;replace h:=An h;obtain⟨a,m,q,d,p,rfl,h⟩:=h;replace h:=oi h;obtain⟨⟨rfl,u,v,z⟩,h⟩:=h;obtain⟨x,B,h⟩:=ob h;obtain⟨y,E,h⟩:=ob h;cases h;exact Hx (j.e o B) (j.x o E) (jf u) v (bp z) rfl
def zb:dH:=λR g e=>sE e λh j ks p=>Eu h λa m ap=>n0 ks (n2 j λb c=>if m="get"/\nI a=true/\(ap.endLine==p.line)=true/\notStar b=true/\notStar c=true/\0<g.lv then(R.e g a).bind λx=>(R.e g b).bind λy=>(R.e g c).bind λz=>some (fm x y z) else none)
def y8:SE zb:=λ{L n R} j {g X} o {a M} h=>by
 replace h:=lC h;obtain⟨hd,J,ks,p,rfl,h⟩:=h;replace h:=ua h;obtain⟨a,m,ap,rfl,h⟩:=h;replace h:=fx h;obtain⟨rfl,h⟩:=h;replace h:=iu h;obtain⟨b,c,rfl,h⟩:=h;replace h:=oi h;obtain⟨⟨rfl,v,B,E,u,lv⟩,h⟩:=h;obtain⟨x,F,h⟩:=ob h;obtain⟨y,H,h⟩:=ob h;obtain⟨z,I,h⟩:=ob h;cases h;exact Nt (o.rm lv) (mf o) (j.e o F) (j.e o H) (j.e o I) (jf v) B (by rw[bp E,bp u];rfl) (bp u)
def D2:dH:=λR g e=>sE e λh j ks p=>nName h λx _=>n1 j λa=>n1 ks λk=>CK k.value λc _ _=>if x="min"/\jv g x=true/\(match g.T.lookup x with|some .bl=>true|_=>false)=true/\0<g.lv/\notStar a=true/\k.arg=some "default"/\(match c with|.none=>true|_=>false)=true then(R.e g a).bind λy=>some (lN y) else none
def BK:SE D2:=λ{I n R} F {g X} o {a J} h=>by
 replace h:=lC h;obtain⟨hd,H,ks,p,rfl,h⟩:=h;replace h:=c6 h;obtain⟨x,q,rfl,h⟩:=h;replace h:=cQ h;obtain⟨a,rfl,h⟩:=h;replace h:=cQ h;obtain⟨⟨L,M,kp⟩,rfl,h⟩:=h;replace h:=qD h;obtain⟨c,i,cp,rfl,h⟩:=h;replace h:=oi h;obtain⟨⟨rfl,j,u,lv,v,rfl,z⟩,h⟩:=h;have B:c=.none:=by revert z;cases c<;>simp
 subst B;obtain⟨y,E,h⟩:=ob h;cases h;exact Jq (o.rm lv) (o.calm lv) (dS o j).1 (o.T.bl (lW u)) (F.e o E) (bp v)
def yZ:dH:=λR g e=>if g.tx e.pos=true then(cR R g "list" e).bind λq=>some (kD (g.cl e.pos) q.2) else none
def yY:SE yZ:=λ{z n R} v {g X} o {a B} h=>by
 obtain⟨_,h⟩:=oi h;obtain⟨⟨b,y⟩,u,h⟩:=ob h;cases h;obtain⟨_,_,rfl,j,hm,lv,d,hs⟩:=lV v o u;exact Gz (o.calm lv) (mf o) _ j hm d hs
structure Ent where
 i:Nat
 x:Str
 st:Stmt
 ps:Nat
 N:List Str
 f:Addr
 pm:Str×Tok
 b:Call->GS
 r:Bool:=false
 q:Option Str:=none
 df:Addr:=0
noncomputable def Ent.qn (e:Ent):Str:=e.q.getD e.x
structure m9 where
 T:List (Str×En)
 tw:List (Str×Str×Nat×Nat)
 xf:List Str
 dl:List (Str×List (Str×Nat))
 il:List (Str×Nat)
 cel:List (Nat×Nat×Nat)
 txt:List (Nat×Nat×Nat)
 ms:List (Str×Nat×Nat)
 rs:Rs
 tb:List Ent
def m9.g (t:m9)(e:Ent)(c:Call):G:={t.T,t.tw,t.xf,t.cel,t.txt,t.ms,c,e.N,bj e.st,2,[]}
noncomputable def m9.Pg (t:m9)(i:Nat):Option Df:=(t.tb.find? (·.i==i)).map λe=>⟨e.ps,e.N.length,e.b⟩
def m9.rd (t:m9)(c:Call)(e:Ent):Option GS:=uW ((It t.rs 60).s (t.g e c)) (c7 e.st)
def Dg (e:Ent):Bool:=decide ((bj e.st).kind=.function)&&!(bj e.st).isCoroutine&&!(bj e.st).isGenerator&&decide e.N.Nodup&&((e.N.take e.ps).length==e.ps)&&((e.N.take e.ps).all λx=>(bj e.st).names.lookup x==some .local||(bj e.st).names.lookup x==some .cell)&&((bj e.st).names.all (·.2 != .free))
def pW (h:Dg e=true):jh e.N (e.N.take e.ps) (bj e.st)/\(e.N.take e.ps).length=e.ps:=by
 unfold Dg at h;simp only[Qg,decide_eq_true_eq,Sg,Qt,RJ,beq_iff_eq,bne_iff_ne] at h;obtain⟨⟨⟨⟨⟨⟨h1,h2⟩,h3⟩,h4⟩,j⟩,u⟩,v⟩:=h;exact{{h1,h2,h3,h4,by rw[j],u,v},j}
noncomputable def Ent.dV (e:Ent):Qb:=if e.df=0 then .none else .ref e.df
def K0 (e:Ent):Option Obj:=some {.type "function",none,.func (PySem.W.fnOf e.x e.qn (fq e.st) (c7 e.st) (bj e.st) e.dV .none .none (.str e.pm.1 e.pm.2) none (.ref (e.f-1)) .none),#[]}
def mE {j u:Type}{f g:j->u}{l:List j}(h:l.map f=l.map g){a:j}(m:a∈l):f a=g a:=List.map_inj_left.mp h a m
def oX (e:Ent)(us:List Qb)(kV j pm:Qb)(u:Option Addr)(h ct:Qb):Sem (List (Str×Qb)):=bindArgs (PySem.W.fnOf e.x e.qn (fq e.st) (c7 e.st) (bj e.st) e.dV kV j pm u h ct) {us,[]}
def pz (tb:List Ent)(k:Nat)(us:List Qb):Prop:=∀(kV j pm:Qb) (u:Option Addr) (h ct:Qb),(tb.filter λe=>e.ps==k&&e.df==0).map (λe=>oX e us kV j pm u h ct)=(tb.filter λe=>e.ps==k&&e.df==0).map λe=>pure ((e.N.take e.ps).zip us)
structure yq (t:m9):Prop where
 rs:Dx t.rs
 rd:∀c,t.tb.map (t.rd c)=t.tb.map λe=>some (e.b c)
 sc:t.tb.all Dg=true
 ar:t.tb.all (λe=>e.ps==0||e.ps==1||e.ps==2||e.ps==3||e.ps==4||e.ps==6)=true
 a0:pz t.tb 0 []
 a1:∀a,pz t.tb 1 [a]
 a2:∀a b,pz t.tb 2 [a,b]
 a3:∀a b c,pz t.tb 3 [a,b,c]
 a4:∀a b c d,pz t.tb 4 [a,b,c,d]
 a6:∀a b c d e f,pz t.tb 6 [a,b,c,d,e,f]
 ad:AllP (λe=>e.ps=2/\∀(a b kV doc pm:Qb) (an:Option Addr) (cdv ct:Qb),∃k k1,oX e [a,b] kV doc pm an cdv ct=seqItems? (.ref e.df) >>= k/\k (some #[.none])=pure ((e.N.take e.ps).zip [a,b])/\oX e [a] kV doc pm an cdv ct=seqItems? (.ref e.df) >>= k1/\k1 (some #[.none])=pure ((e.N.take e.ps).zip [a,.none])) (t.tb.filter λe=>!(e.df==0))
structure Bt (K:Qa) (tb:List Ent):Prop where
 ns:(tb.filter (·.q.isNone)).map (λe=>PySem.W.nsIn K mainGlobals e.x)=(tb.filter (·.q.isNone)).map λe=>some (some (.ref e.f))
 lk:tb.map (λe=>K.lookup e.f)=tb.map K0
 dk:tb.all (λe=>e.df==0||(match K.lookup e.df with|some {_,_,.seq its _,_}=>its==#[.none]|_=>false))=true
 ck:tb.all (λe=>PySem.W.codeIn K (.ref (e.f-1)) e.qn&&PySem.W.keepIn K (.ref e.f))=true
def IT {K:Qa}{tb:List Ent}(k:Bt K tb)(m:e∈tb):yy K e.x e.qn e.st e.f (PySem.W.fnOf e.x e.qn (fq e.st) (c7 e.st) (bj e.st) e.dV .none .none (.str e.pm.1 e.pm.2) none (.ref (e.f-1)) .none):=by
 have c:=Qt.mp k.ck e m;rw[Qg] at c;exact{{_,_,_,_,_,_,_,_,_,_,rfl,mE k.lk m,c.1},c.2}
def FZ {K:Qa}{h:Heap}(k:Bt K tb)(X:K.In h)(G:h.Ns mainGlobals mg)(m:e∈tb)(u:e.q.isNone=true)(hd:e.df=0):mg e.x=some (.ref e.f)/\∃j,w6 K e.x e.qn e.st e.f j:=by
 have c:=Qt.mp k.ck e m;rw[Qg] at c;have l:=mE k.lk m;unfold K0 Ent.dV at l;rw[if_pos hd] at l;exact{R0 X G (mE k.ns (RI.mpr ⟨m,u⟩)),_,KP l c.1 c.2}
def us6 {j:Type}{p:List j->Prop}(h:∀a b c d e f,p [a,b,c,d,e,f]):∀(us:List j) (hl:us.length=6),p us
 |[a,b,c,d,e,f],_=>h a b c d e f
def B4 {t:m9}(T:yq t){e:Ent}(m:e∈t.tb)(H:e.df=0)(kV B pm:Qb)(E:Option Addr)(j ct:Qb):∀us:List Qb,us.length=(e.N.take e.ps).length->oX e us kV B pm E j ct=pure ((e.N.take e.ps).zip us):=by
 have hl:=(pW (Qt.mp T.sc e m)).2;have a:=Qt.mp T.ar e m;have f:∀{k:Nat}{us:List Qb},e.ps=k->pz t.tb k us->oX e us kV B pm E j ct=pure ((e.N.take e.ps).zip us):=λ{k us} I F=>mE (F kV B pm E j ct) (RI.mpr {m,by rw[I,H];simp})
 rw[hl];simp only[RJ,beq_iff_eq] at a;rcases a with((((a|a)|a)|a)|a)|a
 ·rw[a];exact λus h=>by rw[R5.mp h];exact a ▸ f a T.a0
 ·rw[a];exact NQ λx=>a ▸ f a (T.a1 x)
 ·rw[a];exact NP λx y=>a ▸ f a (T.a2 x y)
 ·rw[a];exact us3 λx y z=>a ▸ f a (T.a3 x y z)
 ·rw[a];exact us4 λx y z u=>a ▸ f a (T.a4 x y z u)
 ·rw[a];exact us6 λx y z u v w=>a ▸ f a (T.a6 x y z u v w)
section
variable{fa:Fa}{P:Q5}{w:Q4}{K:Qa}{mg:Str->Option Qb}{base:Heap}{t:m9}
def sZ (T:yq t)(TO:Fq fa P w K mg base t.T)(tw:∀q∈t.tw,Fp fa K mg q.1 q.2.1 q.2.2.1 q.2.2.2)(xf:∀f∈t.xf,Fn fa K f)(ms:∀q∈t.ms,qm fa K q.1 q.2.1 q.2.2){e:Ent}(m:e∈t.tb){ad:Addr}(call:Call)(n:Nat)(j:Qb)(A:RL)(outer:List RV)(s:Qf)(H:Hp)(E:XK)
 (C:∀f,hI fa P w K mg base n f (call f)) (hr:dr (2*n+5) (A.deeper (envOfC e.qn (bj e.st) s.heap.objs.size ad j))):nk fa (gz (iS P w) P w K mg base e.N e.qn (bj e.st) ad j A outer s H E) (c7 e.st) (e.b call):=by
 have S:=(pW (Qt.mp T.sc e m)).1;exact kI ((Fv T.rs 60).s (g:=t.g e call) (X:=gz (iS P w) P w K mg base e.N e.qn (bj e.st) ad j A outer s H E) {rfl,S.nd,rfl,TO,tw,xf,ms,λ_ _=>rfl,(λ_ h=>nomatch h),λ_=>rfl,λ_=>C,λ_=>hr,λ_=>⟨rfl,rfl,rfl,S.kind⟩,λ_=>PassesOwn.leaving}) (mE (T.rd call) m)
set_option tactic.hygienic true in
def zp (k:Bt K tb)(m:en∈tb)(h:en.df≠0)(X:K.In s.heap)(e1:oX en us .none .none (.str en.pm.1 en.pm.2) none (.ref (en.f-1)) .none=seqItems? (.ref en.df) >>= kk)(e2:kk (some #[.none])=pure out) :
 BindsTo s (PySem.W.fnOf en.x en.qn (fq en.st) (c7 en.st) (bj en.st) en.dV .none .none (.str en.pm.1 en.pm.2) none (.ref (en.f-1)) .none) {us,[]} out:=by
 have dk:=Qt.mp k.dk en m;rw[RJ] at dk;rcases dk with dk|dk
 ·exact absurd (eq_of_beq dk) h
 split at dk
 ·next lk=>
  have q:=eq_of_beq dk;subst q;exact BindsTo.of_defaults (by show en.dV=_;unfold Ent.dV;rw[if_neg h]) (X _ _ lk) rfl (by show oX en us _ _ _ _ _ _=seqItems? en.dV >>= _;unfold Ent.dV;rw[if_neg h];exact e1) e2
 ·cases dk
def B3 (T:yq t)(k:Bt K t.tb)(X:K.In h)(G:h.Ns mainGlobals mg)(TO:Fq fa P w K mg base t.T)(tw:∀q∈t.tw,Fp fa K mg q.1 q.2.1 q.2.2.1 q.2.2.2)(xf:∀f∈t.xf,Fn fa K f)(ms:∀q∈t.ms,qm fa K q.1 q.2.1 q.2.2)(U:t.tb.all (λe=>fa e.i==some e.f&&(!(fa (500+e.i)).isSome||!(e.df==0)))=true) :
 ∀f d,t.Pg f=some d->yA fa P w K mg base f d:=by
 intro f d e;obtain⟨j,O,rfl⟩:=Qk.mp e;have m:=List.mem_of_find?_eq_some O;have M:j.i=f:=by have:=List.find?_some O;simpa using this
 have F:=IT k m;obtain⟨S,hl⟩:=pW (Qt.mp T.sc j m);have v:=Qt.mp U j m;rw[Qg,RJ] at v;have R:fa f=some j.f:=by rw[<- M];exact eq_of_beq v.1
 have B:Binds K (PySem.W.fnOf j.x j.qn (fq j.st) (c7 j.st) (bj j.st) j.dV .none .none (.str j.pm.1 j.pm.2) none (.ref (j.f-1)) .none) (j.N.take j.ps) []:=by
  by_cases y:j.df=0
  ·exact .all (B4 T m y _ _ _ _ _ _)
  ·intro s L X u;obtain⟨h2,J⟩:=T.ad.mem j (RI.mpr {m,by simpa using y})
   rw[Q7] at u ⊢;rw[hl,h2] at u
   match L,u with
   | [a, b], _ =>
     obtain⟨kk,_,e1,e2,_⟩:=J a b .none .none (.str j.pm.1 j.pm.2) none (.ref (j.f-1)) .none;exact zp k m y X e1 e2
 have Q:(fa (500+f)).isSome=true->Binds K (PySem.W.fnOf j.x j.qn (fq j.st) (c7 j.st) (bj j.st) j.dV .none .none (.str j.pm.1 j.pm.2) none (.ref (j.f-1)) .none) (j.N.take j.ps) [.none]:=λhs s L X u=>by
  have y:j.df≠0:=by
   rcases v.2 with z|z
   ·rw[M,hs] at z;cases z
   ·simpa using z
  obtain⟨h2,J⟩:=T.ad.mem j (RI.mpr {m,by simpa using y})
  rw[hl,h2,QD] at u
  match L,u with
  | [a], _ =>
    obtain⟨_,kk,_,_,e1,e2⟩:=J a .none .none .none (.str j.pm.1 j.pm.2) none (.ref (j.f-1)) .none;exact zp k m y X e1 e2
 exact{j.f,_,j.N.take j.ps,j.N,j.st,j.x,j.qn,R,F,B,Q,S,hl.symm,rfl,λcall n I A outer s H E C hr=>sZ T TO tw xf ms m call n I A outer s H E C hr}
noncomputable def K5 (K:Qa)(fa:Fa)(t:m9)(p:Str×En):Bool:=match p.2 with
 |.fn i _=>(match PySem.W.nsIn K mainGlobals p.1 with|some (some (.ref a))=>fa i==some a|_=>false)
 |.fnD i=>(match PySem.W.nsIn K mainGlobals p.1 with|some (some (.ref a))=>fa i==some a&&(fa (500+i)).isSome|_=>false)
 |.int i=>(match PySem.W.nsIn K mainGlobals p.1 with|some (some (.int j _))=>i==j|_=>false)
 |.str i=>(match PySem.W.nsIn K mainGlobals p.1 with|some (some (.str j _))=>i==j|_=>false)
 |.xc k=>(match PySem.W.nsIn K mainGlobals p.1 with|some (some (.ref a))=>fa (gg k)==some a&&PySem.W.excIn K a Bg "ValueError.__new__"&&PySem.W.keepIn K (.ref a)|_=>false)
 |.xi k=>(match PySem.W.nsIn K mainGlobals p.1 with|some (some (.ref a))=>fa (gg k)==some a&&t.il.contains (p.1,k)|_=>false)
 |.xk k=>(match PySem.W.nsIn K mainGlobals p.1 with|some (some (.ref a))=>fa (gg k)==some a|_=>false)
 |.de=>(match PySem.W.nsIn K mainGlobals p.1 with|some (some (.ref a))=>fa 999==some a|_=>false)
 |.bl=>(match PySem.W.nsIn K mainGlobals p.1 with|some none=>true|_=>false)
 |.dct fs=>t.dl.contains (p.1,fs)
 |.cls c f=>(match PySem.W.nsIn K mainGlobals p.1 with|some (some (.ref a))=>fa (jN c)==some a&&PySem.W.makesIn K a&&PySem.W.keepIn K (.ref a)&&(match fa f with|some ad=>PySem.W.findIn K (.ref a) "__init__"==some (some (.ref ad))&&PySem.W.isFn K (.ref ad)|none=>true)|_=>false)
set_option tactic.hygienic true in
def FY (X:K.In h)(G:h.Ns mainGlobals mg)(I:t.T.all (K5 K fa t)=true)(J:LV fa K)(z:L1 fa K)(E:∀o,5000<=o->fa o=none)(B:fa (jN 77)=none/\fa (jN 78)=none)(hd:AllP (λq=>∃ad j,mg q.1=some (.ref ad)/\fV K w.params ad j/\eP fa j q.2) t.dl)(hi:AllP (λq=>Bu fa P w K mg base q.2 q.1) t.il):Fq fa P w K mg base t.T:=by
 have F:∀{x:Str}{e:En},t.T.lookup x=some e->K5 K fa t (x,e)=true:=λ{x e} l=>Qt.mp I _ (mem_of_lookup l);refine{λ{x i r} l ad v=>?_,λ{x i} l=>?_,λ{x i} l=>?_,λ{x i} l=>?_,λ{x fs} l=>?_,λ{x k} l=>?_,λ{x k} l=>?_,λ{x k} l=>?_,λ{x} l=>?_,λ{x} l=>?_,J,z,E,B,λ{x c f} l=>?_};all_goals have b:=F l;unfold K5 at b;dsimp only at b
 ·split at b
  ·next e=>have b:=eq_of_beq b;rw[v] at b;cases b;exact R0 X G e
  ·cases b
 ·split at b
  ·next e=>rw[Qg] at b;exact{λad v=>by have H:=eq_of_beq b.1;rw[v] at H;cases H;exact R0 X G e,b.2}
  ·cases b
 ·split at b
  ·next e=>have b:=eq_of_beq b;subst b;exact{_,R0 X G e}
  ·cases b
 ·split at b
  ·next e=>have b:=eq_of_beq b;subst b;exact{_,R0 X G e}
  ·cases b
 ·exact hd.mem (x,fs) (List.contains_iff_mem.mp b)
 ·split at b
  ·next e=>simp only[Qg] at b;exact{_,R0 X G e,eq_of_beq b.1.1,b.1.2,b.2}
  ·cases b
 ·split at b
  ·next e=>rw[Qg] at b;exact{hi.mem (x,k) (List.contains_iff_mem.mp b.2),_,R0 X G e,eq_of_beq b.1}
  ·cases b
 ·split at b
  ·next e=>exact{_,R0 X G e,eq_of_beq b}
  ·cases b
 ·split at b
  ·next e=>exact{_,R0 X G e,eq_of_beq b}
  ·cases b
 ·split at b
  ·next e=>exact PySem.W.mg_none_of X G e
  ·cases b
 ·split at b
  ·next a e=>
   simp only[Qg] at b;refine{a,R0 X G e,eq_of_beq b.1.1.1,λad y=>?_};have u:=b.2;rw[y] at u;simp only[Qg] at u;exact{b.1.1.2,eq_of_beq u.1,u.2,b.1.2}
  ·cases b
end
noncomputable def yg (K:Qa)(C:Addr):Bool:=PySem.W.plainGet K C Str.empty&&PySem.W.hasDictIn K C&&PySem.W.plainOver K C&&PySem.W.findIn K (.ref C) "__setattr__"==some (some (.builtin "object.__setattr__"))
def Bb {K:Qa}(h:yg K C=true):w9 K C:=by
 unfold yg at h;simp only[Qg] at h;exact{h.1.1.1,h.1.1.2,h.1.2,eq_of_beq h.2}
def J4 (K:Qa)(fa:Fa):Bool:=match fa (jN 40) with
 |some C=>yg K C&&(lP 40).all λf=>PySem.W.findIn K (.ref C) f==some none
 |none=>true
def J3 {K:Qa}(h:J4 K fa=true):L1 fa K:=λc C e ne=>by
 have j:c=40:=by
  unfold lP at ne;split at ne
  ·rfl
  ·exact absurd rfl ne
 subst j;unfold J4 at h;rw[e] at h;simp only[Qg,Qt] at h;exact{Bb h.1,λf m=>eq_of_beq (h.2 f m)}
def Kj (K:Qa)(fa:Fa)(q:Str×Nat×Nat):Bool:=match fa (jN q.2.1) with
 | some C => yg K C && (match fa q.2.2 with
   |some ad=>PySem.W.findIn K (.ref C) q.1==some (some (.ref ad))&&PySem.W.isFn K (.ref ad)&&PySem.W.keepIn K (.ref ad)
   |none=>true)&&!(lP q.2.1).contains q.1&&!(lP q.2.1).isEmpty
 |none=>false
def Ki {K:Qa}{l:List (Str×Nat×Nat)}(h:l.all (Kj K fa)=true):∀q∈l,qm fa K q.1 q.2.1 q.2.2:=λq m=>by
 have h:=Qt.mp h q m;unfold Kj at h;cases e:fa (jN q.2.1) with
 |none=>rw[e] at h;cases h
 | some C =>
   rw[e] at h;simp only[Qg,Sg] at h;refine{C,e,Bb h.1.1.1,λad j=>?_,λz=>?_,λz=>?_}
   ·have b:=h.1.1.2;rw[j] at b;simp only[Qg] at b;exact{eq_of_beq b.1.1,b.1.2,b.2}
   ·have:=List.contains_iff_mem.mpr z;rw[h.1.2] at this;cases this
   ·rw[z] at h;exact absurd h.2 `d
def Dd {D:Addr}(h:cl.all (λq=>decide (q.1<4000))=true):∀o,5000<=o->wz l cl D o=none:=λo ho=>by
 unfold wz;rw[if_neg `a,if_neg `a]
 cases e:cl.lookup (o-1000) with
 |none=>rfl
 | some C =>
   have:=of_decide_eq_true (Qt.mp h _ (lookup_mem e));omega
end LD
section
local macro_rules|`(#[$a,*])=>do return<-a.getElems.foldrM (β:=Lean.Term) (λx r=>`(LD.aX $x $r)) (<-`(LD.a9))
local macro_rules|`(#v[$a,*])=>do return<-a.getElems.foldrM (β:=Lean.Term) (λx r=>`(LD.aY $x $r)) (<-`(LD.aF))
namespace LD
open PySem
abbrev gI (n:Int):GE:=gC (.int n)
abbrev gS (x:Str):GE:=gC (.str x)
abbrev gN:GE:=gC .non
abbrev wu:GE:=gC (.bl true)
abbrev Oh:GE:=gC (.bl false)
abbrev rF:GS:=aY (aP Oh) aF
noncomputable def eJ:List (Str×Nat):=[("turn",7),("join",8),("move",9),("put",10)]
def cS:List (Str×Nat):=[("turn",20),("join",21),("move",22),("put",23)]
def jD (c:Call):GS:=#v[aT (eL (ak (d9 .bool (aa 0))) (cq (ak (d9 .int (aa 0))))) rF aF,aP (qK .le .le (aa 1) (aa 0) (aa 2))]
def mV (c:Call):GS:=#v[aP (ah 0 c #[aa 1,gI 0,ai false .sub (aa 0) (gI 1)])]
def l6 (c:Call):GS:=#v[aP (ah 0 c #[aa 1,gI 0,ai false .sub (aa 0) (gI 1)])]
def m5 (c:Call):GS:=#v[aP (ah 0 c #[aa 0,gI 1,gI 3])]
def gq (c:Call):GS:=#v[aP (eU (d9 .tuple (aa 1)) (ax .eq (aJ .len #[aa 1]) (aa 0)))]
def l5 (c:Call):GS:=#v[aP (eU (ah 4 c #[aa 0,aa 1]) (aJ .all #[ba false 1 (.one 0) (bK (aa 1)) (bg (ah 1 c #[aa 1,aa 0]))]))]
def fZ (c:Call):GS:=#v[aP (eU (ah 4 c #[aa 0,aa 1]) (aJ .all #[ba false 1 (.one 0) (bK (aa 1)) (bg (ah 5 c #[aa 1,aa 0]))]))]
def mW (c:Call):GS:=#v[aT (ak (ax .ne (aJ .len #[aa 2]) (gI 3))) rF aF,aw (.tup [3,4,5]) (aa 2),aP (eU (ah 2 c #[aa 1,aa 3]) (eU (ah 5 c #[aa 0,aa 4]) (ah 3 c #[aa 5])))]
def mY (c:Call):GS:=#v[aT (ak (ax .ne (aJ .len #[aa 2]) (gI 4))) rF aF,aw (.tup [3,4,5,6]) (aa 2),aT (eL (cq (ak (ah 2 c #[aa 1,aa 3]))) (cq (ak (ah 2 c #[aa 1,aa 4])))) rF aF,aP (eU (ah 6 c #[aa 0,aa 5]) (ah 3 c #[aa 6]))]
def mX (c:Call):GS:=#v[aT (ak (ax .ne (aJ .len #[aa 2]) (gI 3))) rF aF,aw (.tup [3,4,5]) (aa 2),aP (eU (ah 2 c #[aa 1,aa 3]) (eU (ah 2 c #[aa 1,aa 4]) (ah 3 c #[aa 5])))]
def pe (c:Call):GS:=#v[aT (ak (ax .ne (aJ .len #[aa 2]) (gI 3))) rF aF,aw (.tup [3,4,5]) (aa 2),aP (eU (ah 2 c #[aa 1,aa 3]) (eU (ah 1 c #[aa 0,aa 4]) (ah 3 c #[aa 5])))]
def mZ (c:Call):GS:=#v[aT (eL (cq (ak (d9 .tuple (aa 2)))) (cq (ak (aa 2)))) rF aF,aw (.one 3) (ao (aa 2) (gI 0)),aT (eL (cq (ak (d9 .str (aa 3)))) (ak (iV eJ (aa 3)))) rF aF,aw (.one 4) (lO eJ (aa 3)),aP (mO 4 c #[aa 0,aa 1,b5 false true false (aa 2) (gI 1) gN])]
def jC (c:Call):GS:=#v[aT (cq (ak (ah 4 c #[gI 3,aa 0]))) rF aF,aw (.tup [1,2,3]) (aa 0),aT (eL (cq (ak (ah 0 c #[aa 1,gI 2,gI 4]))) (cq (ak (ah 0 c #[aa 2,gI 1,gI 2])))) rF aF,aT (eL (cq (ak (d9 .tuple (aa 3)))) (cq (ak (qK .le .le (gI 1) (aJ .len #[aa 3]) (gI 6))))) rF aF,aP (aJ .all #[ba false 1 (.one 0) (bK (aa 3)) (bg (ah 11 c #[aa 2,aa 3,aa 0]))])]
def ig (c:Call):GS:=#v[aT (cq (ak (ah 12 c #[aa 0]))) #v[f6 3 #[gS "this is no machine"]] aF]
def c9 (c:Call):GS:=#v[aw (.tup [2,3,4]) (aa 0),aP (eU (ah 4 c #[aa 3,aa 1]) (aJ .all #[ba false 1 (.one 0) (bK (aa 1)) (bg (ah 1 c #[aa 3,aa 0]))]))]
def b8 (c:Call):GS:=#v[hZ (bO 13 c #[aa 0]),aw (.tup [1,2,3]) (aa 0),aw (.one 4) (a7 false #[aM a9]),cu (.one 5) (dU (aa 2)) #v[aw (.one 4) (ba false 2 (.one 0) (bK (aa 4)) (uy (.one 1) (dU (aa 3)) (bg (ai false .add (aa 0) (aM #[aa 1])))))],aP (aa 4)]
def pf (c:Call):GS:=#v[aP (ah 0 c #[aa 1,gI 0,ai false .sub (aJ .len #[ao (aa 0) (gI 2)]) (gI 1)])]
def qY (c:Call):GS:=#v[aT (cq (ak (d9 .list (aa 1)))) #v[vK 0 (gI 0)] aF,cu (.tup [2,3]) (gY (aa 1)) #v[aT (cq (ak (ah 16 c #[aa 0,aa 3]))) #v[vK 0 (aa 2)] aF]]
def yk (c:Call):GS:=#v[hZ (bO 13 c #[aa 0]),hZ (bO 17 c #[aa 0,aa 1]),aT (ak (ax .gt (aJ .len #[aa 1]) (gI 40))) #v[f6 4 #[uz "a row has at most " " deeds" (gI 40)]] aF]
def lX (c:Call):GS:=#v[aw (.tup [2,3,4,5]) (aa 0),aP (ao (aa 4) (ao (aa 1) (aa 3)))]
def lZ (c:Call):GS:=#v[aw (.tup [2,3,4,5,6]) (aa 0),aP (ao (ao (aa 5) (ao (aa 1) (aa 3))) (ao (aa 1) (aa 4)))]
def n9 (c:Call):GS:=#v[aw (.tup [2,3,4,5]) (aa 0),aP (ao (aa 1) (aa 4))]
def lY (c:Call):GS:=#v[aw (.tup [2,3,4,5]) (aa 0),aP (aa 4)]
def qh (c:Call):GS:=#v[aw (.one 2) (lO cS (ao (aa 0) (gI 0))),aw (.one 3) (ao (aa 0) (gI 1)),aP (ai false .add (ai false .add (b5 false false true (aa 1) gN (aa 3)) (aM #[mO 2 c #[aa 0,aa 1]])) (b5 false true false (aa 1) (ai false .add (aa 3) (gI 1)) gN))]
def qZ (c:Call):GS:=#v[aw (.one 3) (a7 true #[aa 2]),cu (.one 4) (bK (aa 1)) #v[e9 (aa 3) (ah 24 c #[ao (ao (aa 0) (gI 2)) (aa 4),ao (aa 3) (bW (gI 1))])],aP (aa 3)]
def mh (c:Call):GS:=#v[aT (ak (ax .ge (aa 0) (ai false .pow (gI 10) (gI 18)))) #v[aP (aa 0)] aF,aw (.one 2) (a7 false #[gI 2147483629,gI 2147483587,gI 2147483579,gI 2147483563,gI 2147483549,gI 2147483543,gI 2147483497,gI 2147483489]),aw (.one 2) (ai false .add (aa 2) (a7 false #[gI 2147483477,gI 2147483423,gI 2147483399,gI 2147483353,gI 2147483323])),aw (.one 3) (ai false .mod (ai false .pow (ai false .add (ai false .add (ai false .mul (ai false .mod (aa 0) (gI 1000000007)) (ai false .add (ai false .mul (gI 2) (aa 1)) (gI 69069))) (ai false .mul (aa 1) (gI 40503))) (gI 977)) (gI 3)) (ao (aa 2) (ai false .mod (aa 1) (gI 13)))),aw (.one 4) (ai false .mod (ai false .pow (ai false .add (ai false .add (ai false .mul (aa 3) (ai false .add (aa 1) (gI 3))) (ai false .mod (aa 0) (gI 65537))) (gI 5)) (gI 5)) (ao (aa 2) (ai false .mod (ai false .add (aa 1) (gI 5)) (gI 13)))),aw (.one 5) (ai false .mod (ai false .pow (ai false .add (ai false .add (aa 4) (ai false .mod (aa 3) (gI 1009))) (aa 1)) (gI 3)) (ao (aa 2) (ai false .mod (ai false .add (aa 1) (gI 7)) (gI 13)))),aP (ai false .add (ai false .mul (ai false .add (ai false .mul (aa 3) (gI 2147483647)) (aa 4)) (gI 2147483647)) (aa 5))]
def j9 (c:Call):GS:=#v[aw (.one 1) (aJ (.list true) #[b5 false false true (aa 0) gN (gI 12)]),cu (.tup [2,3]) (gY (b5 false true true (aa 0) (gI 12) (gI 63))) #v[eI (aa 1) (ai false .mod (aa 2) (gI 12)) (ai false .add (ao (aa 1) (ai false .mod (aa 2) (gI 12))) (aa 3))],aP (a7 true #[aa 1,gI 0,gI 0])]
def ka (c:Call):GS:=#v[eI (aa 0) (gI 2) (gI 0),aP (aa 0)]
def oz (c:Call):GS:=#v[aT (ak (ax .lt (ao (aa 0) (gI 2)) (aa 1))) #v[aw (.one 2) (ao (aa 0) (gI 1)),aw (.one 3) (gI 0),aT (ak (ax .lt (aa 2) (aJ .len #[ao (aa 0) (gI 0)]))) #v[aw (.one 3) (ao (ao (aa 0) (gI 0)) (aa 2))] #v[aT (ak (ax .gt (aJ .len #[ao (aa 0) (gI 0)]) (gI 0))) #v[aw (.one 3) (ai false .mod (ao (ao (aa 0) (gI 0)) (ai false .mod (ai false .add (ai false .mul (aa 2) (gI 5)) (gI 3)) (aJ .len #[ao (aa 0) (gI 0)]))) (ai false .add (ai false .pow (gI 10) (gI 17)) (aa 2)))] aF],eI (aa 0) (gI 1) (ai false .add (aa 2) (gI 1)),eI (aa 0) (gI 2) (ah 28 c #[aa 3,aa 2])] aF,aw (.one 4) (ai false .mod (ao (aa 0) (gI 2)) (aa 1)),eI (aa 0) (gI 2) (ai false .fdiv (ao (aa 0) (gI 2)) (aa 1)),aP (aa 4)]
def iY (c:Call):GS:=#v[aw (.one 2) (ah 31 c #[aa 0,gI 6]),aw (.one 3) (ah 31 c #[aa 0,aa 1]),aw (.one 4) (ah 31 c #[aa 0,aa 1]),aT (ak (ax .lt (aa 2) (gI 2))) #v[aP (aJ .tuple #[ba false 1 (.one 0) (dU (aa 1)) (bg (ah 31 c #[aa 1,aa 2]))])] aF,aT (ak (ax .eq (aa 2) (gI 2))) #v[aP (aJ .tuple #[ba false 1 (.one 0) (dU (aa 1)) (bg (ai false .mod (ai false .add (ai false .add (aa 0) (gI 1)) (aa 4)) (aa 2)))])] aF,aT (ak (ax .eq (aa 2) (gI 3))) #v[aP (aJ .tuple #[ba false 1 (.one 0) (dU (aa 1)) (bg (fC (ak (ax .eq (aa 0) (aa 4))) (aa 5) (aa 0)))])] aF,aT (ak (ax .eq (aa 2) (gI 4))) #v[aP (ai false .mul (aM #[aa 3]) (aa 1))] aF,aw (.one 5) (mM true (aa 1)),eI (aa 5) (aa 3) (aa 4),eI (aa 5) (aa 4) (aa 3),aP (aJ .tuple #[aa 5])]
def iy (c:Call):GS:=#v[aw (.one 3) (ah 31 c #[aa 0,gI 8]),aw (.one 4) (ai false .add (gI 1) (ah 31 c #[aa 0,gI 3])),aw (.one 5) (ah 31 c #[aa 0,aa 2]),aw (.one 6) (ah 31 c #[aa 0,aa 2]),aT (ak (ax .lt (aa 3) (gI 3))) #v[aP (aM #[gS "turn",aa 5,ah 32 c #[aa 0,aa 1],aa 4])] aF,aT (ak (ax .lt (aa 3) (gI 5))) #v[aP (aM #[gS "move",aa 5,fC (ak (ax .eq (aa 3) (gI 3))) (ai false .mod (ai false .add (aa 5) (gI 1)) (aa 2)) (aa 6),aa 4])] aF,aT (ak (ax .eq (aa 3) (gI 5))) #v[aP (aM #[gS "put",aa 5,ah 31 c #[aa 0,aa 1],aa 4])] aF,aP (aM #[gS "join",aa 5,aa 6,aJ .tuple #[ba false 1 (.one 0) (dU (aa 1)) (bg (ah 32 c #[aa 1,aa 2]))],aa 4])]
def fT (c:Call):GS:=#v[aw (.one 1) (ai false .add (gI 2) (ah 31 c #[aa 0,ai false .sub (aa 1) (gI 1)])),aw (.one 2) (ai false .add (gI 1) (ah 31 c #[aa 0,aa 2])),aw (.one 4) (a7 true a9),cu (.one 5) (dU (ai false .add (gI 1) (ah 31 c #[aa 0,aa 3]))) #v[aw (.one 6) (ah 31 c #[aa 0,gI 5]),aw (.one 7) (ah 33 c #[aa 0,aa 1,aa 2]),aT (eQ (ak (ax .eq (aa 6) (gI 0))) (ak (ax .ne (aa 4) (a7 false a9)))) #v[aw (.one 7) (ai false .add (b5 false false true (ao (aa 4) (ah 31 c #[aa 0,aJ .len #[aa 4]])) gN (bW (gI 1))) (aM #[ao (aa 7) (bW (gI 1))]))] aF,e9 (aa 4) (aa 7)],aP (aM #[aa 1,aa 2,aJ .tuple #[aa 4]])]
def fS (c:Call):GS:=#v[aw (.one 3) (ah 31 c #[aa 0,gI 4]),aw (.one 4) (fC (ak (ax .eq (aa 3) (gI 0))) (aa 2) (ah 31 c #[aa 0,ai false .add (aa 2) (gI 1)])),aw (.one 5) (ba false 1 (.one 0) (dU (aa 4)) (bg (ah 31 c #[aa 1,aJ .len #[ao (aa 2) (gI 2)]]))),aT (ak (ax .eq (aa 3) (gI 1))) #v[aw (.one 5) (b5 false false true (ai false .mul (b5 false false true (aa 5) gN (gI 2)) (aa 4)) gN (aa 4))] aF,aP (aa 5)]
def jE (c:Call):GS:=#v[aw (.one 2) (aJ (.list true) #[aa 1]),aw (.one 3) (ao (aa 1) (ao (aa 0) (gI 1))),aT (ak (ax .eq (ao (aa 0) (gI 0)) (gS "turn"))) #v[eI (aa 2) (ao (aa 0) (gI 1)) (ao (ao (aa 0) (gI 2)) (aa 3))] aF,aT (ak (ax .eq (ao (aa 0) (gI 0)) (gS "join"))) #v[eI (aa 2) (ao (aa 0) (gI 1)) (ao (ao (ao (aa 0) (gI 3)) (aa 3)) (ao (aa 1) (ao (aa 0) (gI 2))))] aF,aT (ak (ax .eq (ao (aa 0) (gI 0)) (gS "move"))) #v[eI (aa 2) (ao (aa 0) (gI 1)) (ao (aa 1) (ao (aa 0) (gI 2)))] aF,aT (ak (ax .eq (ao (aa 0) (gI 0)) (gS "put"))) #v[eI (aa 2) (ao (aa 0) (gI 1)) (ao (aa 0) (gI 2))] aF,aP (aJ .tuple #[aa 2])]
def iN (c:Call):GS:=#v[aT (ak (ax .eq (ao (aa 0) (gI 1)) (gI 1))) #v[aP (ba false 1 (.one 0) (dU (ao (aa 0) (gI 0))) (bg (aM #[aa 0])))] aF,aP (ba false 1 (.one 0) (dU (ai false .mul (ao (aa 0) (gI 0)) (ao (aa 0) (gI 0)))) (bg (aM #[ai false .fdiv (aa 0) (ao (aa 1) (gI 0)),ai false .mod (aa 0) (ao (aa 1) (gI 0))])))]
def ft (c:Call):GS:=#v[aw (.one 2) (a7 true a9),cu (.one 3) (bK (ah 42 c #[aa 0])) #v[cu (.one 4) (bK (aa 1)) #v[aw (.one 3) (ah 41 c #[ao (ao (aa 0) (gI 2)) (aa 4),aa 3])],e9 (aa 2) (aa 3)],aP (aJ .tuple #[aa 2])]
def g8 (c:Call):GS:=#v[aP (eU (d9 .int (aa 0)) (KN (d9 .bool (aa 0))))]
def m7 (c:Call):GS:=#v[aP (eU (ah 67 c #[aa 0]) (qK .le .le (aa 1) (aa 0) (aa 2)))]
def kK (c:Call):GS:=#v[aT (eL (cq (ak (d9 .tuple (aa 0)))) (ak (ax .ne (aJ .len #[aa 0]) (aa 1)))) rF aF,aP (ax .eq (ba false 1 (.one 0) (bK (aa 0)) (iQ (cq (ak (ah 68 c #[aa 0,aa 3,aa 4]))) (bg (gI 1)))) (a7 false a9))]
def jV (c:Call):GS:=#v[aT (cq (ak (ah 4 c #[aJ .len #[ah 15 c #[aa 0]],aa 1]))) rF aF,aP (aJ .all #[ba false 1 (.one 0) (bK (aa 1)) (bg (uw (ax .isN (aa 0) gN) (ah 1 c #[ao (aa 1) (gI 0),aa 0])))])]
def j8 (c:Call):GS:=#v[hZ (bO 13 c #[aa 0]),aT (cq (ak (ah 79 c #[aa 0,aa 1]))) #v[f6 6 #[gS "this is no work of the machine"]] aF]
def gE (c:Call):GS:=#v[aP (aJ .all #[ba false 2 (.tup [0,1]) (nP (aa 0) (aa 1)) (bg (uw (ax .isN (aa 1) gN) (ax .eq (ao (aa 0) (gI 0)) (aa 1))))])]
def iM (c:Call):GS:=#v[aw (.one 2) (ah 31 c #[aa 0,gI 5]),aw (.one 3) (ah 31 c #[aa 0,gI 4]),aw (.one 4) (ah 42 c #[aa 1]),aw (.one 5) (ah 44 c #[aa 1,ah 35 c #[aa 0,aa 1,gI 6]]),aw (.one 6) (ba true 1 (.one 0) (bK (aa 5)) (bg (ao (aa 0) (gI 0)))),aT (ak (ax .eq (aa 2) (gI 0))) #v[aw (.one 6) (ba true 1 (.one 0) (bK (aa 4)) (bg (ah 31 c #[aa 1,ao (aa 2) (gI 0)])))] aF,aw (.one 7) (ah 31 c #[aa 0,aJ .len #[aa 6]]),aT (ak (ax .eq (aa 2) (gI 1))) #v[eI (aa 6) (aa 7) (ah 31 c #[aa 0,ao (aa 1) (gI 0)])] aF,aT (ak (ax .gt (aa 3) (gI 0))) #v[aw (.one 6) (ba true 1 (.one 0) (bK (aa 6)) (bg (fC (ak (ax .eq (ah 31 c #[aa 1,ai false .add (gI 2) (aa 4)]) (gI 0))) gN (aa 0))))] aF,aP (aJ .tuple #[aa 6])]
def gi (c:Call):GS:=#v[aP (ax .eq (ba false 2 (.tup [0,1]) (nP (aa 0) (aa 1)) (iQ (eQ (ak (ax .notN (aa 1) gN)) (ak (ax .ne (ao (aa 0) (gI 0)) (aa 1)))) (bg (gI 1)))) (a7 false a9))]
def dI (c:Call):GS:=#v[eO (.one 1) (bO 15 c #[aa 0]),aP (ba false 1 (.one 0) (bK (ao (aa 0) (gI 2))) (bg (aM #[ao (aa 0) (bW (gI 1)),kF 77 1 (.one 0) (bK (aa 2)) (jS (aa 0) (ah 24 c #[aa 1,aa 0]))])))]
def dP (c:Call):GS:=#v[aP (aJ .tuple #[ba false 1 (.one 0) (bK (aa 1)) (bg (b6 (aa 1) (aa 0)))])]
def bS (c:Call):GS:=#v[aP (aJ .tuple #[ba false 1 (.one 0) (bK (aa 1)) (bg (ah 41 c #[ao (ao (aa 1) (gI 2)) (aa 3),aa 0]))])]
def ue (c:Call):GS:=#v[gL (ak (ax .le (aJ .len #[aa 3]) (ai false .add (aa 4) (ao (aa 7) (bW (gI 1)))))) #v[e9 (aa 3) (a7 true a9)],e9 (ao (aa 3) (ai false .add (aa 4) (ao (aa 7) (bW (gI 1))))) (ah 158 c #[aa 0,aa 5,aa 6])]
def MK (c:Call):GS:=#v[eM (aa 2) (aa 5) (aa 4),aT (ak (ax .gt (gZ (aa 2)) (gI 255))) #v[aP gN] aF,cu (.tup [6,7]) (gY (ao (aa 0) (gI 2))) (ue c)]
def AB (c:Call):GS:=#v[aT (ak (iL true (aa 5) (aa 2))) (MK c) aF]
def AA (c:Call):GS:=#v[cu (.one 5) (bK (ao (aa 3) (aa 4))) (AB c),aw (.one 4) (ai false .add (aa 4) (gI 1))]
def fG (c:Call):GS:=#v[aw (.one 2) (nQ 78),aw (.one 3) (a7 true #[a7 true #[aJ .tuple #[ah 42 c #[aa 0]]]]),aw (.one 4) (gI 0),gL (eQ (ak (ax .lt (aa 4) (aJ .len #[aa 3]))) (ak (ax .le (aa 4) (aa 1)))) (AA c),aP (aa 2)]
def fu (c:Call):GS:=#v[aw (.one 2) (ao (a7 false #[aM #[gI 3,gI 1,gI 6],aM #[gI 2,gI 2,gI 3],aM #[gI 3,gI 1,gI 4],aM #[gI 2,gI 2,gI 2],aM #[gI 4,gI 1,gI 2]]) (ai false .mod (aa 1) (gI 5))),aP (ah 34 c #[aa 0,ao (aa 2) (gI 0),ao (aa 2) (gI 1),ao (aa 2) (gI 2)])]
def g7 (c:Call):GS:=#v[aw (.one 3) (aJ .len #[aa 1]),aw (.one 4) (a7 true a9),cu (.two 5 [6,7]) (gY (aa 0)) #v[aw (.one 8) (fC (ak (ax .le (aa 6) (aa 3))) (ao (aa 1) (ai false .sub (aa 3) (aa 6))) (a7 false a9)),cu (.one 9) (bK (aa 8)) #v[aw (.one 10) (ah 152 c #[aa 7,aa 9]),aT (ak (iL true (aa 10) (aa 2))) #v[eM (aa 2) (aa 10) (aM #[aa 3,ai true .add (ao (b6 (aa 2) (aa 9)) (gI 1)) (a7 false #[aa 5])]),e9 (aa 4) (aa 10),aT (ak (ax .gt (gZ (aa 2)) (gI 255))) #v[f6 8 #[uz "rows have more than " " behaviours" (gI 255)]] aF] aF]],aP (aa 4)]
def jB (c:Call):GS:=#v[eO (.one 2) (bO 151 c #[aa 0]),aw (.one 3) (aJ .tuple #[ah 15 c #[aa 0]]),aw (.one 4) (wx 78 (aa 3) (aM #[gI 0,a7 true a9])),aw (.one 5) (a7 true #[a7 false #[aa 3]]),gL (eQ (ak (qL (b5 false true false (aa 5) (bW (gI 3)) gN))) (eL (ak (ax .isN (aa 1) gN)) (ak (ax .le (aJ .len #[aa 5]) (aa 1))))) #v[nA (aa 5) (bO 165 c #[aa 2,aa 5,aa 4])],aP (aa 4)]
def og (c:Call):GS:=#v[hZ (bO 80 c #[aa 0,aa 1]),eO (.one 2) (bO 166 c #[aa 0,gN]),aw (.one 3) (lN (ba false 1 (.one 0) (di b9 (aa 2)) (iQ (ak (ah 81 c #[aa 0,aa 2])) (bg (b6 (aa 3) (aa 0)))))),aT (ak (ax .isN (aa 3) gN)) #v[aP (aM #[gS "none",kD true (aa 2)])] aF,aw (.tup [4,5]) (aa 3),aw (.one 6) (ba true 1 (.one 0) (di b9 (aa 2)) (iQ (ak (ax .le (ao (b6 (aa 3) (aa 0)) (gI 0)) (aa 5))) (bg (aM #[aa 0,ai false .sub (aa 5) (ao (b6 (aa 3) (aa 0)) (gI 0))])))),aP (aM #[gS "row",aa 4,aa 5,aa 6])]
def fv (c:Call):GS:=#v[aT (eL (cq (ak (d9 .tuple (aa 1)))) (ak (ax .ne (aJ .len #[aa 1]) (aJ .len #[ah 42 c #[aa 0]])))) rF aF,aP (ax .eq (ba false 1 (.one 0) (bK (aa 1)) (iQ (cq (ak (ah 69 c #[aa 0,ao (aa 1) (gI 1),gI 0,ai false .sub (ao (aa 1) (gI 0)) (gI 1)]))) (bg (gI 1)))) (a7 false a9))]
def fE (c:Call):GS:=#v[aw (.one 4) (nQ 78),cu (.tup [5,6]) (bK (aa 3)) #v[aT (cq (ak (ah 168 c #[aa 0,aa 5]))) rF aF,eM (aa 4) (aa 5) (oV #[aa 6,fm (aa 4) (aa 5) (aa 6)])],aT (ak (ax .lt (fm (aa 4) (aJ .tuple #[ah 42 c #[aa 0]]) (ai false .sub (aa 2) (gI 1))) (aa 2))) rF aF,cu (.tup [5,6]) (bK (aa 3)) #v[aT (eQ (ak (ax .gt (aa 6) (gI 0))) (ak (ah 84 c #[aa 5,aa 1]))) rF aF,cu (.one 7) (dU (ai false .mul (aJ .len #[ao (aa 0) (gI 2)]) (ux (ax .gt (aa 6) (gI 0))))) #v[aw (.one 8) (ai false .sub (aa 6) (ao (ao (ao (aa 0) (gI 2)) (aa 7)) (bW (gI 1)))),aT (eQ (ak (ax .gt (aa 8) (gI 0))) (ak (ax .lt (fm (aa 4) (ah 158 c #[aa 0,aa 5,aa 7]) (gI 0)) (aa 8)))) rF aF]],aP wu]
def fh (c:Call):GS:=#v[aw (.one 2) (aJ .len #[ah 15 c #[aa 0]]),aP (aJ .all #[ba false 1 (.one 0) (bK (aa 1)) (bg (eU (ah 4 c #[aa 3,aa 0]) (aJ .all #[ba false 1 (.one 0) (bK (aa 0)) (bg (ah 14 c #[aa 2,aa 0]))])))])]
def dQ (c:Call):GS:=#v[aw (.one 1) (nQ 78),cu (.tup [2,3]) (bK (aa 0)) #v[eM (aa 1) (aa 2) (oV #[aa 3,fm (aa 1) (aa 2) (aa 3)])],aP (aa 1)]
def d4 (c:Call):GS:=#v[aw (.one 4) (b6 (aa 2) (aa 3)),aT (ak (ax .le (aa 4) (gI 0))) #v[aP wu] aF,aT (ak (ah 81 c #[aa 3,aa 1])) rF aF,cu (.tup [5,6]) (bK (aa 0)) #v[aw (.one 7) (ai false .sub (aa 4) (aa 5)),aT (eQ (ak (ax .gt (aa 7) (gI 0))) (ak (ax .lt (fm (aa 2) (ah 152 c #[aa 6,aa 3]) (gI 0)) (aa 7)))) rF aF],aP wu]
def kJ (c:Call):GS:=#v[hZ (bO 80 c #[aa 0,aa 1]),aT (cq (ak (ah 176 c #[aa 0,ba false 2 (.tup [0,1]) (bK (aa 3)) (bg (aa 0))]))) rF aF,aw (.one 4) (ah 181 c #[aa 3]),aw (.one 5) (aJ .tuple #[ah 15 c #[aa 0]]),aT (eL (ak (iL true (aa 5) (aa 4))) (ak (ax .lt (b6 (aa 4) (aa 5)) (aa 2)))) rF aF,eO (.one 6) (bO 151 c #[aa 0]),aP (aJ .all #[ba false 1 (.one 0) (di b9 (aa 4)) (bg (ah 182 c #[aa 7,aa 2,aa 5,aa 0]))])]
def EC (c:Call):GS:=#v[aw (.one 7) (ai false .add (ao (ao (ao (aa 0) (gI 2)) (aa 6)) (bW (gI 1))) (b6 (aa 3) (ah 158 c #[aa 0,aa 4,aa 6]))),aT (ak (ax .lt (aa 7) (b6 (aa 3) (aa 4)))) #v[eM (aa 3) (aa 4) (aa 7),aw (.one 5) wu] aF]
def EB (c:Call):GS:=#v[aw (.one 5) Oh,cu (.one 4) (di b9 (aa 2)) #v[cu (.one 6) (dU (aJ .len #[ao (aa 0) (gI 2)])) (EC c)]]
def fF (c:Call):GS:=#v[aw (.one 3) (nQ 78),cu (.one 4) (di b9 (aa 2)) #v[eM (aa 3) (aa 4) (fC (ak (ah 84 c #[aa 4,aa 1])) (gI 0) (gI 999))],aw (.one 5) wu,gL (ak (aa 5)) (EB c),aP (aa 3)]
noncomputable def eF (c:Call):GS:=#v[aw (.one 3) (ah 31 c #[aa 0,gI 9]),aw (.one 4) (ah 31 c #[aa 0,gI 3]),aw (.one 5) (ao (a7 false #[gI 1,bW (gI 1),gI 2,gI 40]) (ah 31 c #[aa 0,gI 4])),aw (.one 6) (ah 31 c #[aa 0,aJ .len #[aa 2]]),aw (.tup [7,8]) (ao (aa 2) (aa 6)),aw (.one 9) (ah 31 c #[aa 0,ai false .add (ao (aa 1) (gI 0)) (gI 1)]),aw (.one 10) (ah 31 c #[aa 0,aJ .len #[aa 7]]),aT (ak (ax .eq (aa 3) (gI 0))) #v[aP (ai false .add (b5 false false true (aa 2) gN (aa 6)) (b5 false true false (aa 2) (ai false .add (aa 6) (gI 1)) gN))] aF,aT (ak (ax .eq (aa 3) (gI 1))) #v[aP (ai false .add (ba false 2 (.tup [0,1]) (bK (aa 2)) (bg (aM #[aa 0,ai false .sub (aa 1) (gI 1)]))) (aa 2))] aF,aw (.one 11) (a7 false #[aM #[aa 7,ai false .add (aa 8) (aa 5)],aM #[aa 7,ai false .sub (aa 8) (aa 5)],aM #[aa 7,ai false .sub (gI 0) (aa 8)]]),aw (.one 11) (ai false .add (aa 11) (a7 false #[aM #[ai false .add (ai false .add (b5 false false true (aa 7) gN (aa 10)) (aM #[ai false .add (aM #[aa 9]) (b5 false true false (ao (aa 7) (aa 10)) (gI 1) gN)])) (b5 false true false (aa 7) (ai false .add (aa 10) (gI 1)) gN),aa 8],aM #[b5 false false true (aa 7) gN (bW (gI 1)),gI 0]])),aw (.one 11) (ai false .add (aa 11) (a7 false #[aM #[ai false .add (ai false .add (b5 false false true (aa 7) gN (aa 10)) (aM #[ai false .add (ao (aa 7) (aa 10)) (aM #[gI 0])])) (b5 false true false (aa 7) (ai false .add (aa 10) (gI 1)) gN),gI 0],aM #[aM a9,gI 0],aM #[ai false .add (aa 7) (b5 false false true (aa 7) gN (gI 1)),aa 8]])),aw (.one 12) (ao (aa 11) (ai false .mod (ai false .add (aa 3) (ai false .mul (gI 5) (ah 31 c #[aa 0,gI 2]))) (gI 8))),aP (ao (a7 false #[ai false .add (ai false .add (b5 false false true (aa 2) gN (aa 6)) (a7 false #[aa 12])) (b5 false true false (aa 2) (ai false .add (aa 6) (gI 1)) gN),ai false .add (aa 2) (a7 false #[aa 12]),ai false .add (a7 false #[aa 12]) (aa 2)]) (aa 4))]
def Ep (c:Call):GS:=#v[aw (.one 15) (aJ (.list false) #[aa 14]),eO (.one 6) (bO 183 c #[aa 3,aa 5,aa 13,aa 15]),aT (eL (cq (ak (d9 .bool (aa 6)))) (eL (ak (ax .ne (aa 6) (ah 169 c #[aa 3,aa 5,aa 13,aa 14]))) (ak (ax .ne (aa 15) (aa 14))))) rF aF]
def xX (c:Call):GS:=#v[cu (.one 12) (dU (gI 4)) #v[e9 (aa 9) (aM #[ai false .sub (aa 7) (ah 31 c #[aa 1,gI 2]),ah 185 c #[aa 1,aa 3,aa 8]])],cu (.tup [13,14]) (bK (aa 9)) (Ep c)]
def zo (c:Call):GS:=aY (eO (.one 11) (bO 167 c #[aa 3,aa 5])) (aY (aT (ak (ax .eq (ao (aa 11) (gI 0)) (gS "row"))) #v[e9 (aa 9) (aM #[ao (aa 11) (gI 1),ao (aa 11) (gI 3)]),e9 (aa 9) (aM #[ai false .add (ao (aa 11) (gI 1)) (gI 1),ao (aa 11) (gI 3)])] aF) (xX c))
def wb (c:Call):GS:=aY (aw (.one 9) (a7 true #[aM #[aa 7,aa 8],aM #[ai false .add (aa 7) (gI 1),aa 8],aM #[ai false .sub (aa 7) (gI 1),aa 8],aM #[gI 0,a7 false a9],aM #[bW (gI 1),a7 false a9]])) (aY (aw (.one 10) (aJ .tuple #[ah 42 c #[aa 3]])) (aY (aw (.one 9) (ai true .add (aa 9) (a7 false #[aM #[bW (gI 3),a7 false #[aM #[aa 10,bW (gI 3)]]],aM #[bW (gI 3),a7 false #[aM #[aa 10,bW (gI 4)]]],aM #[gI 0,a7 false #[aM #[aa 10,gI 0]]],aM #[bW (gI 1),a7 false #[aM #[aa 10,gI 0]]]]))) (zo c)))
def yJ (c:Call):GS:=aY (aw (.one 5) (ah 83 c #[aa 1,aa 3])) (aY (aw (.one 6) (ah 184 c #[aa 3,aa 5,aa 4])) (aY (aw (.one 7) (b6 (aa 6) (aJ .tuple #[ah 42 c #[aa 3]]))) (aY (aw (.one 8) (ba false 1 (.one 0) (di b9 (aa 4)) (bg (aM #[aa 0,b6 (aa 7) (aa 0)])))) (wb c))))
def zk (c:Call):GS:=aY (aw (.one 3) (ah 160 c #[ah 30 c #[aa 1],aa 2])) (aY (aw (.one 4) (ah 159 c #[aa 3,ai false .pow (gI 10) (gI 9)])) (aT (eL (ak (ax .isN (aa 4) gN)) (ak (ax .gt (gZ (aa 4)) (gI 60)))) aF (yJ c)))
def oh (c:Call):GS:=#v[aw (.one 1) (ah 29 c #[aa 0]),cu (.one 2) (dU (gI 3)) (zk c),aP wu]
@[simp] theorem bc {h j:Type}{r:Res h}{f:h->Mem->Res j}{k:j->Mem->Prop}:ae (r.bind f) k↔ae r λa M=>ae (f a M) k:=by cases r<;>rfl
@[simp] theorem aO {h:Type}{a:h}{k:h->Mem->Prop}:ae (.ok a M) k↔k a M:=RF
@[simp] theorem Qw {h:Type}{k:h->Mem->Prop}:ae (.bad:Res h) k↔False:=RF
@[simp] theorem iG {h:Type}{M:Mem}{o:Option h}{k:h->Mem->Prop}:ae (cf M o) k↔∃a,o=some a/\k a M:=by cases o<;>simp[cf]
def du {j:Type}{r:Res j}{k:j->Mem->Prop}:ae r k↔∃a M,r=.ok a M/\k a M:=by
 cases r with
 |ok a M=>exact{λh=>⟨a,M,rfl,h⟩,λ⟨_,_,e,h⟩=>by cases e;exact h}
 |err=>simp[ae]
 |bad=>simp[ae]
def n4 (j:az 64 (view M x)=true)(z:az 64 (view M y)=true)(h:bJ (view M x) (view M y)=v):bE .eq x y M=some v:=by
 have e:mR (view M x) (view M y)=some v:=by unfold mR;rw[j,z,h];simp
 show mQ M x y=_;unfold mQ;rw[e]
def wQ (j:az 64 (view M x)=true)(z:az 64 (view M y)=true)(h:bJ (view M x) (view M y)=v):bE .ne x y M=some (!v):=by
 show(bE .eq x y M).map (!·)=_;rw[n4 j z h];rfl
section
variable{Z:Env}{M:Mem}{a b d lo hi:GE}{s:GA}{t u:GT}{k:D->Mem->Prop}{c:Call}
@[simp] theorem bo {i:Nat}:ae (aa i Z M) k↔∃d,Z[i]?.getD none=some d/\k d M:=by simp[aa]
@[simp] theorem cZ {d:D}:ae (gC d Z M) k↔k d M:=RF
@[simp] theorem g5 {m:Bool}{o:oE}:ae (ai m o a b Z M) k↔ae (a Z M) λx M=>ae (b Z M) λy M=>ae (fY m o x y M) k:=by simp[ai]
@[simp] theorem eD {o:jI}:ae (ax o a b Z M) k↔ae (a Z M) λx M=>ae (b Z M) λy M=>∃v,bE o x y M=some v/\k (.bl v) M:=by simp[ax]
@[simp] theorem QT {o h:jI}:ae (qK o h a b d Z M) k↔ae (a Z M) λx M=>ae (b Z M) λy M=>∃v,bE o x y M=some v/\if v=true then ae (d Z M) λz M=>∃v,bE h y z M=some v/\k (.bl v) M else k (.bl false) M:=by
 simp only[qK,bc,iG];refine iff_of_eq ?_
 congr 1;funext x M;congr 1;funext y M;refine propext (exists_congr λv=>and_congr_right λ_=>?_)
 cases v<;>simp
@[simp] theorem nV:ae (bW a Z M) k↔ae (a Z M) λx M=>∃i,x=.int i/\k (.int (-i)) M:=by
 simp only[bW,bc];refine iff_of_eq ?_;congr 1;funext x M;cases x<;>simp
set_option tactic.hygienic true in
@[simp] theorem QU:ae (eU a b Z M) k↔ae (a Z M) λx M=>∃v,x=.bl v/\if v=true then ae (b Z M) k else k (.bl false) M:=by
 simp only[eU,bc];refine iff_of_eq ?_;congr 1;funext x M;cases x<;>simp;rename_i v;cases v<;>simp
set_option tactic.hygienic true in
@[simp] theorem K8:ae (uw a b Z M) k↔ae (a Z M) λx M=>∃v,x=.bl v/\if v=true then k (.bl true) M else ae (b Z M) k:=by
 simp only[uw,bc];refine iff_of_eq ?_;congr 1;funext x M;cases x<;>simp;rename_i v;cases v<;>simp
@[simp] theorem E7:ae (fC t a b Z M) k↔ae (t Z M) λv M=>if v=true then ae (a Z M) k else ae (b Z M) k:=by
 simp only[fC,bc];refine iff_of_eq ?_;congr 1;funext v M;cases v<;>simp
@[simp] theorem eC:ae (ao a b Z M) k↔ae (a Z M) λx M=>ae (b Z M) λy M=>∃d,bV x y M=some d/\k d M:=by simp[ao]
@[simp] theorem nU {m hl hh:Bool}:ae (b5 m hl hh a lo hi Z M) k↔ae (a Z M) λx M=>ae (lo Z M) λl M=>ae (hi Z M) λh M=>cJ hl l=true/\cJ hh h=true/\ae (gK m x l h M) k:=by
 simp only[b5,bc];refine iff_of_eq ?_
 congr 1;funext x M;congr 1;funext l M;congr 1;funext h M
 cases cJ hl l<;>cases cJ hh h<;>simp
@[simp] theorem cg {k:List D->Mem->Prop}:ae (a9 Z M) k↔k [] M:=RF
@[simp] theorem bR {k:List D->Mem->Prop}:ae (aX a s Z M) k↔ae (a Z M) λx M=>ae (s Z M) λxs M=>k (x::xs) M:=by simp[aX]
@[simp] theorem iW:ae (aM s Z M) k↔ae (s Z M) λxs M=>xs.length<=sz/\k (.tup xs) M:=by
 simp only[aM,bc];refine iff_of_eq ?_;congr 1;funext xs M;unfold lE;split<;>simp[*]
def tW {m:Bool}{xs:List D}:ae (bf m xs M) k↔xs.length<=sz/\if m=true then k (.cell M.length) (M++[xs]) else k (.lst xs) M:=by
 unfold bf;cases m<;>split<;>simp[*]
@[simp] theorem bI {xs:List D}:ae (bf false xs M) k↔xs.length<=sz/\k (.lst xs) M:=by simp[tW]
@[simp] theorem jb {xs:List D}:ae (bf true xs M) k↔xs.length<=sz/\k (.cell M.length) (M++[xs]):=by simp[tW]
@[simp] theorem sJ {m:Bool}:ae (a7 m s Z M) k↔ae (s Z M) λxs M=>ae (bf m xs M) k:=by simp[a7]
@[simp] theorem uG {f:Nat}:ae (ah f c s Z M) k↔ae (s Z M) λds M=>ae (c f ds M) k:=by simp[ah]
@[simp] theorem Ht {i:Nat}:ae (mO i c s Z M) k↔∃f,Z[i]?.getD none=some (.fn f)/\ae (s Z M) λds M=>ae (c f ds M) k:=by
 unfold mO;cases e:Z[i]?.getD none with
 |none=>simp
 |some d=>cases d<;>simp
@[simp] theorem bQ {f:xa}:ae (aJ f s Z M) k↔ae (s Z M) λds M=>ae (gA f ds M) k:=by simp[aJ]
@[simp] theorem QL {t:Ty}:ae (d9 t a Z M) k↔ae (a Z M) λx M=>∃v,gW t x=some v/\k (.bl v) M:=by simp[d9]
@[simp] theorem K9 {fs:List (Str×Nat)}:ae (lO fs a Z M) k↔ae (a Z M) λx M=>∃y f,x=.str y/\fs.lookup y=some f/\k (.fn f) M:=by
 simp only[lO,bc];refine iff_of_eq ?_;congr 1;funext x M;cases x<;>simp;exact{λ⟨_,⟨f,h,e⟩,q⟩=>{f,h,e ▸ q},λ⟨f,h,q⟩=>{_,⟨f,h,rfl⟩,q}}
@[simp] theorem QM {fs:List (Str×Nat)}:ae (iV fs a Z M) k↔ae (a Z M) λx M=>∃y,x=.str y/\k (.bl (!(fs.lookup y).isSome)) M:=by
 simp only[iV,bc];refine iff_of_eq ?_;congr 1;funext x M;cases x<;>simp
set_option tactic.hygienic true in
@[simp] theorem Hr {m:Bool}:ae (mM m a Z M) k↔ae (a Z M) λx M=>∃n,x=.int n/\(-(2^62)<=n/\n<2^20)/\ae (bf m ((List.range n.toNat).map λ(k:Nat)=>D.int (k:Int)) M) k:=by
 simp only[mM,bc];refine iff_of_eq ?_;congr 1;funext x M;cases x<;>simp;rename_i n;split<;>simp[*]
variable{kb:Bool->Mem->Prop}
@[simp] theorem ip:ae (ak a Z M) kb↔ae (a Z M) λx M=>∃v,jZ M x=some v/\kb v M:=by simp[ak]
@[simp] theorem Mf:ae (eQ t u Z M) kb↔ae (t Z M) λv M=>if v=true then ae (u Z M) kb else kb false M:=by
 simp only[eQ,bc];refine iff_of_eq ?_;congr 1;funext v M;cases v<;>simp
@[simp] theorem t_or:ae (eL t u Z M) kb↔ae (t Z M) λv M=>if v=true then kb true M else ae (u Z M) kb:=by
 simp only[eL,bc];refine iff_of_eq ?_;congr 1;funext v M;cases v<;>simp
@[simp] theorem QR:ae (cq t Z M) kb↔ae (t Z M) λv M=>kb (!v) M:=by simp[cq]
variable{kf:Fl->Mem->Prop}{sa sb:GS}
def gG (b:GS)(k:Fl->Mem->Prop):Fl->Mem->Prop
 |.next Z,M=>ae (b Z M) k
 |.ret d,M=>k (.ret d) M
 |.exc x Z,M=>k (.exc x Z) M
@[simp] theorem Ou {b:GS}{x:D}:gG b kf (.exc x Z) M↔kf (.exc x Z) M:=RF
@[simp] theorem bt {b:GS}:gG b kf (.next Z) M↔ae (b Z M) kf:=RF
@[simp] theorem Ot {b:GS}{d:D}:gG b kf (.ret d) M↔kf (.ret d) M:=RF
@[simp] theorem aA:ae (aY sa sb Z M) kf↔ae (sa Z M) (gG sb kf):=by
 simp only[aY,bc];refine iff_of_eq ?_;congr 1;funext fl M;cases fl<;>rfl
@[simp] theorem Jg:ae (aF Z M) kf↔kf (.next Z) M:=RF
@[simp] theorem mx {i:Nat}:ae (aw (.one i) a Z M) kf↔ae (a Z M) λx M=>kf (.next (Z.set i (some x))) M:=by simp[aw,bT]
@[simp] theorem Qn {l:List Nat}:ae (aw (.tup l) a Z M) kf↔ae (a Z M) λx M=>∃ds h,x=.tup ds/\cX l ds Z=some h/\kf (.next h) M:=by
 simp only[aw,bc,iG,aO];refine iff_of_eq ?_;congr 1;funext x M;cases x<;>simp[bT]
@[simp] theorem kj:ae (eI a b d Z M) kf↔ae (d Z M) λz M=>ae (a Z M) λx M=>ae (b Z M) λy M=>∃j n ds i,x=.cell j/\y=.int n/\M[j]?=some ds/\cv ds.length n=some i/\kf (.next Z) (M.set j (ds.set i z)):=by
 simp only[eI,bc];refine iff_of_eq ?_
 congr 1;funext z M;congr 1;funext x M;congr 1;funext y M
 cases x with
 | cell j =>
   cases y with
   | int n =>
     cases e:M[j]? with
     |none=>simp[e]
     | some ds =>
       cases e2:cv ds.length n with
       |none=>simp[e,e2]
       |some i=>simp[e,e2]
   |_=>simp
 |_=>simp
set_option tactic.hygienic true in
@[simp] theorem Jj:ae (e9 a d Z M) kf↔ae (a Z M) λx M=>ae (d Z M) λz M=>∃j ds,x=.cell j/\M[j]?=some ds/\ds.length<sz/\kf (.next Z) (M.set j (ds++[z])):=by
 simp only[e9,bc];refine iff_of_eq ?_
 congr 1;funext x M;congr 1;funext z M
 cases x<;>simp;rename_i j;cases e:M[j]? with
 |none=>simp
 |some ds=>by_cases h:ds.length<sz<;>simp[h]
@[simp] theorem cH:ae (aP a Z M) kf↔ae (a Z M) λx M=>kf (.ret x) M:=by simp[aP]
@[simp] theorem PL:ae (Eh Z M) kf↔kf (.ret .non) M:=RF
@[simp] theorem PM:ae (Ei Z M) kf↔kf (.next Z) M:=RF
@[simp] theorem Qm:ae (OG Z M) kf↔False:=RF
@[simp] theorem iC:ae (aT t sa sb Z M) kf↔ae (t Z M) λv M=>if v=true then ae (sa Z M) kf else ae (sb Z M) kf:=by
 simp only[aT,bc];refine iff_of_eq ?_;congr 1;funext v M;cases v<;>simp
variable{kw:Walk->Mem->Prop}
set_option tactic.hygienic true in
@[simp] theorem fA:ae (dU a Z M) kw↔ae (a Z M) λx M=>∃n,x=.int n/\(-(2^62)<=n/\n<2^62)/\kw (λ_=>some ((List.range n.toNat).map λ(k:Nat)=>D.int (k:Int))) M:=by
 simp only[dU,bc];refine iff_of_eq ?_;congr 1;funext x M;cases x<;>simp;rename_i n;split<;>simp[*]
@[simp] theorem fO:ae (bK a Z M) kw↔ae (a Z M) λx M=>gm x=true/\kw (λM=>cE M x) M:=by
 simp only[bK,bc];refine iff_of_eq ?_;congr 1;funext x M;cases x<;>simp[gm]<;>rfl
@[simp] theorem yO:ae (gY a Z M) kw↔ae (a Z M) λx M=>gm x=true/\kw (λM=>(cE M x).map (fy 0)) M:=by
 simp only[gY,bc];refine iff_of_eq ?_;congr 1;funext x M;split<;>simp[*]
@[simp] theorem Iu:ae (nP a b Z M) kw↔ae (a Z M) λx M=>ae (b Z M) λy M=>(gm x&&gm y)=true/\kw (xb x y) M:=by
 simp only[nP,bc];refine iff_of_eq ?_;congr 1;funext x M;congr 1;funext y M;split<;>simp[*]
def ie (k:D->Mem->Prop):Fl->Mem->Prop
 |.ret d,M=>k d M
 |.next _,M=>k .non M
 |.exc _ _,_=>False
@[simp] theorem PY {d:D}:ie k (.ret d) M↔k d M:=RF
@[simp] theorem Pj:ie k (.next Z) M↔k .non M:=RF
def aH {d:Df}{ds:List D}(e:P f=some d)(hl:ds.length=d.params)(h:ae (d.body (ag P n) (ds.map some++List.replicate (d.slots-ds.length) none) M) (ie k)):ae (ag P (n+1) f ds M) k:=by
 show ae (match P f with|none=>Res.bad|some d=>gx (ag P n) d ds M) k
 rw[e];show ae (gx (ag P n) d ds M) k;unfold gx;rw[if_pos hl];revert h;cases d.body (ag P n) (ds.map some++List.replicate (d.slots-ds.length) none) M with
 |ok fl M=>cases fl<;>exact id
 |err=>exact id
 |bad=>exact id
@[simp] theorem Qx {h:Type}{a:h}{k:h->Mem->Prop}{j:D->Mem->Prop}:fW (.ok a M) k j↔k a M:=RF
@[simp] theorem PR {h:Type}{x:D}{k:h->Mem->Prop}:fW (.err x M:Res h) k kx↔kx x M:=RF
def xW (k h:D->Mem->Prop):Fl->Mem->Prop
 |.ret d,M=>k d M
 |.next _,M=>k .non M
 |.exc x _,M=>h x M
def pa {d:Df}{j:D->Mem->Prop}(e:P f=some d)(hl:ds.length=d.params)(h:ae (d.body (ag P n) (ds.map some++List.replicate (d.slots-ds.length) none) M) (xW k j)):fW (ag P (n+1) f ds M) k j:=by
 show fW (match P f with|none=>Res.bad|some d=>gx (ag P n) d ds M) k j
 rw[e];show fW (gx (ag P n) d ds M) k j;unfold gx;rw[if_pos hl];revert h;cases d.body (ag P n) (ds.map some++List.replicate (d.slots-ds.length) none) M with
 |ok fl M=>cases fl<;>exact id
 |err=>exact id
 |bad=>exact id
@[simp] theorem QJ {d:D}{h:D->Mem->Prop}:xW k h (.ret d) M↔k d M:=RF
@[simp] theorem PX {h:D->Mem->Prop}:xW k h (.next Z) M↔k .non M:=RF
@[simp] theorem QK:xW k kx (.exc x Z) M↔kx x M:=RF
@[simp] theorem PH {f:Nat}:fW (bO f c s Z M) k kx↔ae (s Z M) λds M=>fW (c f ds M) k kx:=by
 unfold bO;cases s Z M<;>rfl
@[simp] theorem Ql:ae (hZ a Z M) kf↔fW (a Z M) (λ_ M=>kf (.next Z) M) (λx M=>kf (.exc x Z) M):=by
 unfold hZ;cases a Z M<;>rfl
@[simp] theorem Gr {i:Nat}:ae (eO (.one i) a Z M) kf↔fW (a Z M) (λx M=>kf (.next (Z.set i (some x))) M) (λx M=>kf (.exc x Z) M):=by
 unfold eO;cases a Z M<;>rfl
@[simp] theorem Ck {i:Nat}:ae (f6 i s Z M) kf↔ae (s Z M) λds M=>ds.length<=sz/\kf (.exc (.exc i none) Z) M:=by
 unfold f6;cases s Z M with
 |ok ds j=>by_cases h:ds.length<=sz<;>simp[h]
 |err=>exact RF
 |bad=>exact RF
def fz {v:Type}{f:v->D->Mem->Res v}{w:Walk}{ds:List D}{a:v}{k:v->Mem->Prop}(I:Nat->v->Mem->Prop)(E:∀i a M,I i a M->w M=some ds)(B:I 0 a M)
 (hs:∀i d a M,ds[i]?=some d->I i a M->ae (f a d M) (I (i+1))) (L:∀a M,I ds.length a M->k a M):ae (cW f w a M) k:=by
 have z:∀(m i:Nat) (a:v) (M:Mem),ds.length-i<m->i<=ds.length->I i a M->ae (gj f w m i a M) k:=by
  intro m;induction m with
  |zero=>intro i a M h;exact absurd h (Ry _)
  | succ m O =>
    intro i a M h hi y;show ae (match w M with|none=>Res.bad|some ds=>match ds[i]? with|none=>Res.ok a M|some d=>(f a d M).bind (gj f w m (i+1))) k
    rw[E i a M y];dsimp only;by_cases j:i<ds.length
    ·rw[Qq j];simp only[bc];exact aI (hs i ds[i] a M (Qq j) y) λH F J=>O (i+1) H F `a j J
    ·have e:i=ds.length:=`a
     subst e;rw[List.getElem?_eq_none (Qe _)];exact L a M y
 unfold cW;rw[E 0 a M B];exact z _ 0 a M `s (Rv _) B
def dz {t:fX}{w:Walk}{y:GS}{ds:List D}(I:Nat->Env->Mem->Prop)(E:∀i Z M,I i Z M->w M=some ds)(z:I 0 Z M)
 (hs:∀i d Z M,ds[i]?=some d->I i Z M->∃j,bT t d Z=some j/\ae (y j M) λfl M=>∃ρ',fl=.next ρ'/\I (i+1) ρ' M) (B:∀Z M,I ds.length Z M->kf (.next Z) M):ae (cW (iq t y) w (.next Z) M) kf:=by
 refine fz (λi fl M=>∃Z,fl=.next Z/\I i Z M) (λi fl M ⟨Z,_,h⟩=>E i Z M h) ⟨Z,rfl,z⟩ ?_ ?_
 ·rintro i d fl M hd ⟨Z,rfl,v⟩;obtain⟨j,e,h⟩:=hs i d Z M hd v;simp only[iq,bc,iG,e];exact⟨j,rfl,h⟩
 ·rintro fl M ⟨Z,rfl,v⟩;exact B Z M v
@[simp] theorem dh {j:fX}{w:GW}{h:GS}:ae (cu j w h Z M) kf↔ae (w Z M) λw M=>ae (cW (iq j h) w (.next Z) M) kf:=by simp[cu]
@[simp] theorem dm {m:Bool}{n:Nat}{h:fX}{w:GW}{g:GB}:ae (ba m n h w g Z M) k↔ae (w Z M) λw M=>ae (cW (cP h g (List.replicate n none++Z)) w [] M) λacc M=>ae (bf m acc M) k:=by simp[ba]
variable{kl:List D->Mem->Prop}
@[simp] theorem Fm {ge:GE}{acc:List D}:ae (bg ge Z acc M) kl↔ae (ge Z M) λx M=>acc.length<sz/\kl (acc++[x]) M:=by
 simp only[bg,bc];refine iff_of_eq ?_;congr 1;funext x M;split<;>simp[*]
def comp_map {y:fX}{w:Walk}{ge:GE}{ds:List D}{v:Env}(I:Nat->List D->Mem->Prop)(hz:ds.length<=sz)(F:∀i acc M,I i acc M->w M=some ds)(z:I 0 [] M)
 (hs:∀i d acc M,ds[i]?=some d->acc.length=i->I i acc M->∃j,bT y d v=some j/\ae (ge j M) λx M=>I (i+1) (acc++[x]) M) (E:∀acc M,acc.length=ds.length->I ds.length acc M->kl acc M) :
 ae (cW (cP y (bg ge) v) w [] M) kl:=by
 refine fz (λi acc M=>acc.length=i/\I i acc M) (λi acc M h=>F i acc M h.2) ⟨rfl,z⟩ ?_ (λacc M h=>E acc M h.1 h.2);rintro i d acc M hd ⟨hl,B⟩;obtain⟨j,e,h⟩:=hs i d acc M hd hl B;have hi:i<ds.length:=(P9.mp hd).1;simp only[cP,bc,iG,e,Fm];exact{j,rfl,aI h λx M h=>{`a,by simp[hl],h}}
end
def bU {M:Mem}(j:t Z M=.ok false M)(h:ae (rest Z M) k):ae (aY (aT t A aF) rest Z M) k:=by
 simp only[aA,iC];rw[j];exact h
def eR {k:Fl->Mem->Prop}(j:t Z M=.ok true M)(he:e Z M=.ok v M)(h:k (.ret v) M):ae (aY (aT t #v[aP e] aF) rest Z M) k:=by
 simp only[aA,iC,cH];rw[j];show ae (e Z M) _;rw[he];exact h
def bC {v:D}(he:e Z M=.ok v M)(h:k (.ret v) M):ae (#v[aP e] Z M) k:=by
 simp only[aA,cH];rw[he];exact h
structure HasB0 (P:Nat->Option Df):Prop where
 is_between:P 0=some {3,3,jD}
 is_word:P 1=some {2,2,mV}
 is_place:P 2=some {2,2,l6}
 is_cost:P 3=some {1,1,m5}
 is_tuple_of:P 4=some {2,2,gq}
 is_table:P 5=some {2,2,l5}
 is_double_table:P 6=some {2,2,fZ}
 is_turn:P 7=some {3,6,mW}
 is_join:P 8=some {3,7,mY}
 is_move:P 9=some {3,6,mX}
 is_put:P 10=some {3,6,pe}
 is_deed:P 11=some {3,5,mZ}
 is_machine:P 12=some {1,4,jC}
 need_machine:P 13=some {1,1,ig}
structure HasM0 (P:Nat->Option Df):Prop extends HasB0 P where
 is_deed_number:P 16=some {2,2,pf}
 need_numbers:P 17=some {2,4,qY}
 need_row:P 18=some {2,2,yk}
structure HasM (P:Nat->Option Df):Prop extends HasM0 P where
 turned:P 20=some {2,6,lX}
 joined:P 21=some {2,7,lZ}
 moved:P 22=some {2,6,n9}
 put_in:P 23=some {2,6,lY}
 done:P 24=some {2,4,qh}
 all_standing:P 25=some {3,5,qZ}
structure HasP0 (P:Nat->Option Df):Prop where
 law_spread:P 28=some {2,6,mh}
 law_open:P 29=some {1,4,j9}
 law_anew:P 30=some {1,1,ka}
 law_take:P 31=some {2,5,oz}
structure HasP (P:Nat->Option Df):Prop extends HasP0 P where
 law_tab:P 32=some {2,6,iY}
 law_deed:P 33=some {3,7,iy}
 law_machine:P 34=some {4,8,fT}
instance coeHasB0 {P:Nat->Option Df}:Coe (HasM0 P) (HasB0 P):=⟨HasM0.toHasB0⟩
instance coeHasBM {P:Nat->Option Df}:Coe (HasM P) (HasB0 P):={λh=>h.toHasM0.toHasB0}
structure i7 (P:Nat->Option Df):Prop where
 turned:P 20=some {2,6,lX}
 joined:P 21=some {2,7,lZ}
 moved:P 22=some {2,6,n9}
 put_in:P 23=some {2,6,lY}
 done:P 24=some {2,4,qh}
def HasM.r {P:Nat->Option Df}(h:HasM P):i7 P:=⟨h.turned,h.joined,h.moved,h.put_in,h.done⟩
instance coeHasR0 {P:Nat->Option Df}:Coe (HasM P) (i7 P):=⟨HasM.r⟩
instance coeHasM {P:Nat->Option Df}:Coe (HasM P) (HasM0 P):=⟨HasM.toHasM0⟩
instance coeHasP {P:Nat->Option Df}:Coe (HasP P) (HasP0 P):=⟨HasP.toHasP0⟩
@[simp] theorem QS {d:Option D}{r:Env}:(d::r)[0]?.getD none=d:=rfl
section
variable{M:Mem}{k:D->Mem->Prop}
def kv {j:Type}{c:Prop}[Decidable c]{r:Res j}{k:j->Mem->Prop}:ae (if c then r else .bad) k↔c/\ae r k:=by split<;>simp[*]
@[simp] theorem qj {m:Bool}{i j:Int}:ae (fY m .add (.int i) (.int j) M) k↔k (.int (i+j)) M:=RF
@[simp] theorem IV {m:Bool}{i j:Int}:ae (fY m .sub (.int i) (.int j) M) k↔k (.int (i-j)) M:=RF
@[simp] theorem Kg {m:Bool}{i j:Int}:ae (fY m .mul (.int i) (.int j) M) k↔((-(2^64)<i/\i<2^64)\/(-(2^64)<j/\j<2^64))/\k (.int (i*j)) M:=kv
@[simp] theorem Kl {m:Bool}{i j:Int}:ae (fY m .mod (.int i) (.int j) M) k↔0<j/\k (.int (i % j)) M:=kv
@[simp] theorem PZ {m:Bool}{i j:Int}:ae (fY m .fdiv (.int i) (.int j) M) k↔(0<j/\j<1073741824)/\k (.int (i / j)) M:=kv
@[simp] theorem vb {m:Bool}{x y:List D}:ae (fY m .add (.tup x) (.tup y) M) k↔(x++y).length<=sz/\k (.tup (x++y)) M:=by
 show ae (lE _ _) k↔_;unfold lE;exact kv
@[simp] theorem LU {m:Bool}{x y:List D}:ae (fY m .add (.lst x) (.lst y) M) k↔ae (bf m (x++y) M) k:=RF
@[simp] theorem P4 {i j:Int}:bE .lt (.int i) (.int j) M=some (decide (i<j)):=rfl
@[simp] theorem P5 {i j:Int}:bE .le (.int i) (.int j) M=some (decide (i<=j)):=rfl
@[simp] theorem P6 {i j:Int}:bE .gt (.int i) (.int j) M=some (decide (j<i)):=rfl
@[simp] theorem P7 {i j:Int}:bE .ge (.int i) (.int j) M=some (decide (j<=i)):=rfl
@[simp] theorem QX {i j:Int}:bE .eq (.int i) (.int j) M=some (i==j):=rfl
@[simp] theorem QW {i j:Int}:bE .ne (.int i) (.int j) M=some (!(i==j)):=rfl
@[simp] theorem Qc {b:Bool}:jZ M (.bl b)=some b:=rfl
@[simp] theorem PJ {ds:List D}:jZ M (.tup ds)=some (!ds.isEmpty):=rfl
@[simp] theorem PK {ds:List D}:jZ M (.lst ds)=some (!ds.isEmpty):=rfl
@[simp] theorem PU {ds:List D}:ae (gA .len [.tup ds] M) k↔k (.int ds.length) M:=RF
@[simp] theorem PV {ds:List D}:ae (gA .len [.lst ds] M) k↔k (.int ds.length) M:=RF
@[simp] theorem q9 {ds:List D}:ae (gA .all [.lst ds] M) k↔∃bs,boolsOf ds=some bs/\k (.bl (bs.all id)) M:=by
 show ae (match boolsOf ds with|some bs=>_|none=>_) k↔_
 cases boolsOf ds<;>simp
@[simp] theorem rn {ds:List D}:ae (gA .tuple [.lst ds] M) k↔k (.tup ds) M:=RF
@[simp] theorem pB {j:Nat}:ae (gA .tuple [.cell j] M) k↔∃ds,M[j]?=some ds/\k (.tup ds) M:=by
 show ae (match M[j]? with|some xs=>_|none=>_) k↔_
 cases M[j]?<;>simp
@[simp] theorem CO {m:Bool}{ds:List D}:ae (gA (.list m) [.lst ds] M) k↔ae (bf m ds M) k:=RF
@[simp] theorem jc {ds:List D}{i:Int}:bV (.tup ds) (.int i) M=(cv ds.length i).bind λj=>ds[j]?:=rfl
@[simp] theorem wq {ds:List D}{i:Int}:bV (.lst ds) (.int i) M=(cv ds.length i).bind λj=>ds[j]?:=rfl
@[simp] theorem Pe {j:Nat}{i:Int}:bV (.cell j) (.int i) M=(M[j]?).bind λds=>(cv ds.length i).bind λj=>ds[j]?:=rfl
def cY {n i:Nat}(h:i<n):cv n (i:Int)=some i:=by
 unfold cv;rw[if_pos (Int.natCast_nonneg i),if_pos (by exact_mod_cast h)];rfl
end
def dj {j:Type}{r:Res j}{d:j}{M:Mem}(h:ae r λx M'=>x=d/\M'=M):r=.ok d M:=by
 obtain⟨a,M',e,rfl,rfl⟩:=du.mp h;exact e
def aj {r:Res D}{d:D}{M:Mem}(h:ae r λx M'=>x=d/\M'=M):r=.ok d M:=by
 obtain⟨a,M',e,rfl,rfl⟩:=du.mp h;exact e
section
variable{P:Nat->Option Df}(h:HasB0 P){M:Mem}
include h
theorem gJ (n:Nat)(t lo hi:Int):ag P (n+1) 0 [.int t,.int lo,.int hi] M=.ok (.bl (decide (lo<=t)&&decide (t<=hi))) M:=by
 refine aj (aH h.is_between rfl ?_);simp[jD,gW];by_cases h1:lo<=t<;>simp[h1]<;>omega
end
def eE {B:fX}{w:Walk}{ge:GE}{ds:List D}{v:Env}{M:Mem}{z:List D->Mem->Prop}(f:D->D)(hz:ds.length<=sz)(F:w M=some ds)(hs:∀d∈ds,∃u,bT B d v=some u/\ge u M=.ok (f d) M)(E:z (ds.map f) M) :
 ae (cW (cP B (bg ge) v) w [] M) z:=by
 refine comp_map (λi j y=>y=M/\j=(ds.take i).map f) hz (λi j y h=>by rw[h.1];exact F) ⟨rfl,rfl⟩ ?_ ?_
 ·rintro i d j y hd _ ⟨rfl,rfl⟩;obtain⟨u,e1,e2⟩:=hs d (QC hd);refine{u,e1,?_};rw[e2];refine{rfl,?_};have H:i<ds.length:=(P9.mp hd).1;rw[Ro,hd];simp
 ·rintro j y _ ⟨rfl,rfl⟩;simpa using E
def qf {ds:List D}(h:∀d∈ds,d=.bl true):∃bs,boolsOf ds=some bs/\bs.all id=true:=by
 induction ds with
 |nil=>exact{[],rfl,rfl}
 | cons d r j =>
   obtain⟨bs,e,q⟩:=j λd hd=>h d (Qu _ hd);obtain rfl:=h d QB;exact{true::bs,by simp[boolsOf,e],by simpa using q}
def all_true {w:GW}{ge:GE}{Z:Env}{M:Mem}{k:D->Mem->Prop}{ds:List D}(u:ae (w Z M) λwk M'=>M'=M/\wk M=some ds)(hz:ds.length<=sz)(he:∀d∈ds,ge (some d::Z) M=.ok (.bl true) M)(j:k (.bl true) M) :
 ae (aJ .all #[ba false 1 (.one 0) w (bg ge)] Z M) k:=by
 simp only[bQ,bR,dm,cg];refine aI u λwk M' ⟨e1,e2⟩=>?_;subst e1;refine eE (λ_=>.bl true) hz e2 (λd hd=>{some d::Z,rfl,he d hd}) ?_;obtain⟨bs,v,y⟩:=qf (ds:=ds.map λ_=>D.bl true) `s
 simp only[bI,P8,q9];exact{hz,bs,v,by rw[y];exact j}
def pj {v:fX}{ge:GE}{w:Walk}{ds:List D}{j:Env}{M:Mem}(hz:ds.length<=sz)(y:w M=some ds)(he:∀d∈ds,∃u,bT v d j=some u/\ge u M=.ok (.bl true) M) :
 ae (cW (cP v (bg ge) j) w [] M) λacc M'=>acc.length<=sz/\∃bs,boolsOf acc=some bs/\¬ false∈bs/\M'=M:=by
 refine eE (λ_=>.bl true) hz y he ?_;obtain⟨bs,B,E⟩:=qf (ds:=ds.map λ_=>D.bl true) `s
 refine{by simpa using hz,bs,B,λz=>?_,rfl}
 have:=Qt.mp E false z;cases this
abbrev nD (n:Nat):D:=.int (n:Int)
def av (l:List Nat):D:=.tup (l.map nD)
inductive bb where
 |turn (at_:Nat) (tab:List Nat) (cost:Nat)
 |join (at_ other:Nat) (tab:List (List Nat)) (cost:Nat)
 |move (at_ other cost:Nat)
 |put (at_ word cost:Nat)
def bb.d:bb->D
 |.turn a t c=>.tup [.str "turn",nD a,av t,nD c]
 |.join a o t c=>.tup [.str "join",nD a,nD o,.tup (t.map av),nD c]
 |.move a o c=>.tup [.str "move",nD a,nD o,nD c]
 |.put a w c=>.tup [.str "put",nD a,nD w,nD c]
noncomputable def bb.cost:bb->Nat
 |.turn _ _ c=>c
 |.join _ _ _ c=>c
 |.move _ _ c=>c
 |.put _ _ c=>c
structure aK where
 words:Nat
 places:Nat
 deeds:List bb
noncomputable def aK.d (m:aK):D:=.tup [nD m.words,nD m.places,.tup (m.deeds.map bb.d)]
def i0 (w:Nat)(t:List Nat):Prop:=t.length=w/\∀x∈t,x<w
def g9 (c:Nat):Prop:=1<=c/\c<=3
def bZ (w p:Nat):bb->Prop
 |.turn a t c=>a<p/\i0 w t/\g9 c
 |.join a o t c=>a<p/\o<p/\(t.length=w/\∀x∈t,i0 w x)/\g9 c
 |.move a o c=>a<p/\o<p/\g9 c
 |.put a x c=>a<p/\x<w/\g9 c
structure aC (m:aK):Prop where
 w2:2<=m.words
 w4:m.words<=4
 p1:1<=m.places
 p2:m.places<=2
 d1:1<=m.deeds.length
 d6:m.deeds.length<=6
 ok:∀d∈m.deeds,bZ m.words m.places d
def ay {n:Nat}(h:n<=100000):n<=sz:=Qo h `d
section
variable{P:Nat->Option Df}(h:HasB0 P){M:Mem}
include h
theorem qr (n:Nat){w t:Nat}(j:t<w):ag P (n+2) 1 [nD w,nD t] M=.ok (.bl true) M:=by
 refine aj (aH h.is_word rfl ?_);simp[mV,gJ h];omega
theorem hX (n:Nat){w t:Nat}(j:t<w):ag P (n+2) 2 [nD w,nD t] M=.ok (.bl true) M:=by
 refine aj (aH h.is_place rfl ?_);simp[l6,gJ h];omega
theorem kU (n:Nat){c:Nat}(j:g9 c):ag P (n+2) 3 [nD c] M=.ok (.bl true) M:=by
 unfold g9 at j;refine aj (aH h.is_cost rfl ?_);simp[m5,gJ h];omega
theorem kS (n:Nat){w:Nat}{ds:List D}(j:ds.length=w):ag P (n+1) 4 [nD w,.tup ds] M=.ok (.bl true) M:=by
 refine aj (aH h.is_tuple_of rfl ?_);simp[gq,gW,j]
theorem tm (n:Nat){w:Nat}{t:List Nat}(v:w<=4)(j:i0 w t):ag P (n+3) 5 [nD w,av t] M=.ok (.bl true) M:=by
 refine aj (aH h.is_table rfl ?_);have e:ag P (n+2) 4 [nD w,av t] M=.ok (.bl true) M:=kS h (n+1) (by simpa using j.1)
 simp[l5,e];refine{rfl,pj (ay (by simp[j.1];omega)) rfl λd hd=>?_}
 obtain⟨x,u,rfl⟩:=Qh.mp hd;refine{_,rfl,aj ?_};simp[qr h n (j.2 x u)]
theorem zH (n:Nat){w:Nat}{t:List (List Nat)}(u:w<=4)(j:t.length=w/\∀x∈t,i0 w x):ag P (n+4) 6 [nD w,.tup (t.map av)] M=.ok (.bl true) M:=by
 refine aj (aH h.is_double_table rfl ?_);have e:ag P (n+3) 4 [nD w,.tup (t.map av)] M=.ok (.bl true) M:=kS h (n+2) (by simpa using j.1)
 simp[fZ,e];refine{rfl,pj (ay (by simp[j.1];omega)) rfl λd hd=>?_}
 obtain⟨x,v,rfl⟩:=Qh.mp hd;refine{_,rfl,aj ?_};simp[tm h n u (j.2 x v)]
theorem F1 (n:Nat){w p a c:Nat}{t:List Nat}(j:w<=4)(hd:bZ w p (.turn a t c)):ag P (n+4) 7 [nD w,nD p,.tup [nD a,av t,nD c]] M=.ok (.bl true) M:=by
 obtain⟨h1,h2,h3⟩:=hd;refine aj (aH h.is_turn rfl ?_);simp[mW,cX,hX h (n+1) h1,tm h n j h2,kU h (n+1) h3]
theorem Ga (n:Nat){w p a o c:Nat}{t:List (List Nat)}(j:w<=4)(hd:bZ w p (.join a o t c)):ag P (n+5) 8 [nD w,nD p,.tup [nD a,nD o,.tup (t.map av),nD c]] M=.ok (.bl true) M:=by
 obtain⟨h1,h2,h3,h4⟩:=hd;refine aj (aH h.is_join rfl ?_);simp[mY,cX,hX h (n+2) h1,hX h (n+2) h2,zH h n j h3,kU h (n+2) h4]
theorem F8 (n:Nat){w p a o c:Nat}(hd:bZ w p (.move a o c)):ag P (n+3) 9 [nD w,nD p,.tup [nD a,nD o,nD c]] M=.ok (.bl true) M:=by
 obtain⟨h1,h2,h3⟩:=hd;refine aj (aH h.is_move rfl ?_);simp[mX,cX,hX h n h1,hX h n h2,kU h n h3]
theorem F5 (n:Nat){w p a x c:Nat}(hd:bZ w p (.put a x c)):ag P (n+3) 10 [nD w,nD p,.tup [nD a,nD x,nD c]] M=.ok (.bl true) M:=by
 obtain⟨h1,h2,h3⟩:=hd;refine aj (aH h.is_put rfl ?_);simp[pe,cX,hX h n h1,qr h n h2,kU h n h3]
end
def OV:eJ.lookup (Str.ofString "turn")=some 7:=`k
def OU:eJ.lookup (Str.ofString "join")=some 8:=`k
def OT:eJ.lookup (Str.ofString "move")=some 9:=`k
def OS:eJ.lookup (Str.ofString "put")=some 10:=`k
section
variable{P:Nat->Option Df}(h:HasB0 P){M:Mem}
include h
theorem sL (n:Nat){w p f:Nat}{s:Str}{ds:List D}(lk:eJ.lookup s=some f)(q:ag P (n+5) f [nD w,nD p,.tup ds] M=.ok (.bl true) M):ag P (n+6) 11 [nD w,nD p,.tup (.str s::ds)] M=.ok (.bl true) M:=by
 refine aj (aH h.is_deed rfl ?_);simp[-List.lookup_isSome_iff,mZ,gW,cv,lk,gK,aU,cJ,cut,q]
theorem Ge (n:Nat){w p:Nat}{d:bb}(j:w<=4)(hd:bZ w p d):ag P (n+6) 11 [nD w,nD p,d.d] M=.ok (.bl true) M:=by
 cases d with
 |turn a t c=>exact sL h n OV (F1 h (n+1) j hd)
 |join a o t c=>exact sL h n OU (Ga h n j hd)
 |move a o c=>exact sL h n OT (F8 h (n+2) hd)
 |put a x c=>exact sL h n OS (F5 h (n+2) hd)
theorem F9 (n:Nat){m:aK}(hm:aC m):ag P (n+7) 12 [m.d] M=.ok (.bl true) M:=by
 refine aj (aH h.is_machine rfl ?_);have e:ag P (n+6) 4 [.int 3,.tup [nD m.words,nD m.places,.tup (m.deeds.map bb.d)]] M=.ok (.bl true) M:=kS h (n+5) rfl;have l1:=hm.d1;have y:=hm.d6;have j:(decide ((2:Int)<=(m.words:Int))&&decide ((m.words:Int)<=4))=true:=by have:=hm.w2;have:=hm.w4;simp;omega
 have u:(decide ((1:Int)<=(m.places:Int))&&decide ((m.places:Int)<=2))=true:=by have:=hm.p1;have:=hm.p2;simp;omega
 simp only[Qg,decide_eq_true_eq] at j u;simp[jC,aK.d,e,cX,gJ h,j,u,gW];refine{`a,`a,rfl,pj (ay `o) rfl λd hd=>?_}
 obtain⟨x,v,rfl⟩:=Qh.mp hd;refine{_,rfl,aj ?_};simp[Ge h n hm.w4 (hm.ok x v)]
end
section
variable{Z:Env}{M:Mem}{a b:GE}{s:GA}{k:D->Mem->Prop}{kf:Fl->Mem->Prop}{t u:GT}{A rest:GS}
def bu {t rest:GS}{ρ':Env}(e:t Z M=.ok (.next ρ') M)(h:ae (rest ρ' M) kf):ae (aY t rest Z M) kf:=by
 simp only[aA];rw[e];exact h
def af {x:D}{xs:List D}(h:a Z M=.ok x M)(es:s Z M=.ok xs M):aX a s Z M=.ok (x::xs) M:=by
 unfold aX;rw[h];show(s Z M).bind _=_;rw[es];rfl
def f7 {xs:List D}(es:s Z M=.ok xs M)(hl:xs.length<=100):a7 false s Z M=.ok (.lst xs) M:=by
 unfold a7;rw[es];show(if xs.length<=sz then(if false=true then _ else Res.ok (D.lst xs) M) else .bad)=_;rw[if_pos (ay `a)]
 rfl
def bF {i:Nat}{x:D}(e:a Z M=.ok x M):aw (.one i) a Z M=.ok (.next (Z.set i (some x))) M:=by
 unfold aw;rw[e];rfl
def aq {j:Nat}{x:D}(h:Z[j]?.getD none=some x):aa j Z M=.ok x M:=by
 unfold aa;rw[h];rfl
def aQ {f:Nat}{c:Call}{xs:List D}(e:s Z M=.ok xs M):ah f c s Z M=c f xs M:=by
 unfold ah;rw[e];rfl
def ND {f i:Nat}{c:Call}{x:D}{r:Res D}(h:Z[i]?.getD none=some x)(e:c f [x] M=r):ah f c #[aa i] Z M=r:=(aQ (af (aq h) rfl)).trans e
def cF {i:Nat}(h:ae (a Z M) k)(j:∀x M',k x M'->ae (rest (Z.set i (some x)) M') kf):ae (aY (aw (.one i) a) rest Z M) kf:=by
 obtain⟨x,M',e,q⟩:=du.mp h;simp only[aA];unfold aw;rw[e];exact j x M' q
def um (j:t Z M=.ok true M)(h:ae (A Z M) (gG rest kf)):ae (aY (aT t A aF) rest Z M) kf:=by
 simp only[aA,iC];rw[j];exact h
def bH {b:Bool}(h:t Z M=.ok b M)(h1:b=true->ae (A Z M) (gG rest kf))(h2:b=false->ae (rest Z M) kf):ae (aY (aT t A aF) rest Z M) kf:=by
 cases b with
 |true=>exact um h (h1 rfl)
 |false=>exact bU h (h2 rfl)
def gQ {b:Bool}(h:t Z M=.ok b M):cq t Z M=.ok (!b) M:=by
 unfold cq;rw[h];rfl
def bN {b:Bool}(h:a Z M=.ok (.bl b) M):ak a Z M=.ok b M:=by
 unfold ak;rw[h];rfl
def pK {x y:Bool}(h1:t Z M=.ok x M)(h2:u Z M=.ok y M):eL t u Z M=.ok (x||y) M:=by
 unfold eL;rw[h1];cases x with
 |true=>rfl
 |false=>exact h2
def LS {b:Bool}(h1:t Z M=.ok b M)(h2:b=true->u Z M=.ok false M):eQ t u Z M=.ok false M:=by
 unfold eQ;rw[h1];cases b with
 |true=>exact h2 rfl
 |false=>rfl
def kL {x y:Bool}(h1:t Z M=.ok x M)(h2:u Z M=.ok y M):eQ t u Z M=.ok (x&&y) M:=by
 unfold eQ;rw[h1];cases x with
 |true=>exact h2
 |false=>rfl
def qi {x y:Bool}(h1:a Z M=.ok (.bl x) M)(h2:x=true->b Z M=.ok (.bl y) M):eU a b Z M=.ok (.bl (x&&y)) M:=by
 unfold eU;rw[h1];cases x with
 |true=>exact h2 rfl
 |false=>rfl
def ib {k:Bool}{x:D}(h:t Z M=.ok k M)(h1:k=true->a Z M=.ok x M)(h2:k=false->b Z M=.ok x M):fC t a b Z M=.ok x M:=by
 unfold fC;rw[h];cases k with
 |true=>exact h1 rfl
 |false=>exact h2 rfl
end
structure Sub (M M':Mem):Prop where
 len:M.length<=M'.length
 at':∀k,k<M.length->M'[k]?=M[k]?
def Sub.refl:Sub M M:={Qe _,λ_ _=>rfl}
def Sub.trans (a:Sub M M1)(b:Sub M1 M2):Sub M M2:={Qo a.len b.len,λk j=>(b.at' k (QE j a.len)).trans (a.at' k j)}
def Sub.app:Sub M (M++X):={`s,λk j=>Qi j}
def Sub.get {k:Nat}(h:Sub M M')(e:M[k]?=some ds):M'[k]?=some ds:=by rw[h.at' k (P9.mp e).1];exact e
def Sub.setq (h:Sub M M')(u:M.length<=q):Sub M (M'.set q ds):={by simpa using h.len,λk j=>by rw[Qj `a];exact h.at' k j}
def yd (f:D->D)(hz:acc0.length+ds.length<=sz)(z:w M=some ds)(hs:∀d∈ds,∃u,bT tg d ρ0=some u/\ge u M=.ok (f d) M)(y:kl (acc0++ds.map f) M) :
 ae (cW (cP tg (bg ge) ρ0) w acc0 M) kl:=by
 refine fz (λi j v=>v=M/\j=acc0++(ds.take i).map f) (λi j v h=>by rw[h.1];exact z) {rfl,`s} ?_ ?_
 ·rintro i d j v hd ⟨rfl,rfl⟩;obtain⟨u,e1,e2⟩:=hs d (QC hd);have B:i<ds.length:=(P9.mp hd).1;simp only[cP,bc,iG,e1,Fm];refine{u,rfl,?_};rw[e2];refine{by simp;omega,rfl,?_}
  rw[Ro,hd];simp
 ·rintro j v ⟨rfl,rfl⟩;simpa using y
def qM {j u:Type}(f:j->List u)(n:Nat):∀(ds:List j),(∀d∈ds,(f d).length<=n)->(ds.flatMap f).length<=ds.length*n
 |[],_=>`s
 | d :: r, h => by
   have h1:=h d QB;have h2:=qM f n r λd hd=>h d (Qu _ hd);simp only[List.flatMap_cons,QD,RB,Nat.succ_mul];omega
def yf (j:D->List D)(f:D->D->D)(n:Nat)(hn:∀d∈ds,(j d).length<=n)(hz:ds.length*n<=sz)(J:w M=some ds)
 (hs:∀d∈ds,∃v,bT t d ρ0=some v/\∃w2,gw2 v M=.ok w2 M/\w2 M=some (j d)/\∀e∈j d,∃z,bT u e v=some z/\ge z M=.ok (f d e) M) (I:kl (ds.flatMap λd=>(j d).map (f d)) M) :
 ae (cW (cP t (uy u gw2 (bg ge)) ρ0) w [] M) kl:=by
 refine fz (λi y B=>B=M/\y=(ds.take i).flatMap λd=>(j d).map (f d)) (λi y B h=>by rw[h.1];exact J) {rfl,`s} ?_ ?_
 ·rintro i d y B hd ⟨rfl,rfl⟩;obtain⟨v,e1,w2,e2,F,H⟩:=hs d (QC hd);simp only[cP,bc,iG,e1,uy];refine{v,rfl,?_};rw[e2];have E:(ds.take (i+1)).flatMap (λd=>(j d).map (f d))=(ds.take i).flatMap (λd=>(j d).map (f d))++(j d).map (f d):=by
   rw[Ro,hd];simp
  have l1:=qM (λd=>(j d).map (f d)) n (ds.take (i+1)) (λd hd=>by simpa using hn d (RQ hd))
  rw[E] at l1;simp only[QD,P8,RA] at l1;refine yd (f d) ?_ F H ⟨rfl,E.symm⟩;have:(min (i+1) ds.length)*n<=ds.length*n:=Nat.mul_le_mul_right _ (Nat.min_le_right _ _);omega
 ·rintro y B ⟨rfl,rfl⟩;simpa using I
noncomputable def qP (w:Nat)(l:List (List Nat)):List (List Nat):=l.flatMap λs=>(List.range w).map λx=>s++[x]
def dA (w:Nat):Nat->List (List Nat)
 |0=>[[]]
 |p+1=>qP w (dA w p)
def aS (m:aK):List (List Nat):=dA m.words m.places
def cU (m:aK)(s:List Nat):Prop:=s.length=m.places/\∀x∈s,x<m.words
def u4:∀s∈dA w p,s.length=p/\∀x∈s,x<w:=by
 induction p with
 |zero=>intro s hs;simp[dA] at hs;subst hs;simp
 | succ p v =>
   intro s hs;simp only[dA,qP,List.mem_flatMap,Qh,RH] at hs;obtain⟨t,j,x,B,rfl⟩:=hs;obtain⟨h1,h2⟩:=v t j;refine{by simp[h1],λy u=>?_}
   rcases QH.mp u with z|z
   ·exact h2 y z
   ·simp at z;omega
def n8:∀s∈aS m,cU m s:=u4
def jU (j:w<=4):∀p≤2,(dA w p).length<=4^p
 |0,_=>by simp[dA]
 | p + 1, u => by
   have:=jU j p `a
   have l:=qM (λs:List Nat=>(List.range w).map λx=>s++[x]) 4 (dA w p) (λd hd=>by simpa using j)
   calc _<=(dA w p).length*4:=l
    _<=4^p*4:=Nat.mul_le_mul_right _ this
    _=4^(p+1):=by rw[Nat.pow_succ]
def bX (hm:aC m):(aS m).length<=16:=by
 have h:=jU hm.w4 m.places hm.p2;have h1:=hm.p1;have h2:=hm.p2;have:m.places=1\/m.places=2:=`a
 rcases this with e|e<;>rw[e] at h<;>unfold aS<;>rw[e]<;>omega
def si:∀(p:Nat) (s:List Nat),s.length=p->(∀x∈s,x<w)->s∈dA w p
 | 0, s, hl, _ => by
   obtain rfl:=R5.mp hl;simp[dA]
 | p + 1, s, hl, j => by
   have ne:s≠[]:=by intro e;subst e;cases hl
   have u:=List.dropLast_concat_getLast ne;show s∈qP w (dA w p);unfold qP;rw[List.mem_flatMap];refine{s.dropLast,si p _ (by simp[hl]) (λx h=>j x (List.dropLast_subset _ h)),?_}
   rw[Qh];exact{s.getLast ne,RH.mpr (j _ (List.getLast_mem ne)),u}
def u3 (hm:aC m)(h:cU m s):s∈aS m:=si _ s h.1 h.2
noncomputable def dY:bb->List Nat->Nat
 |.turn a t _,s=>t.getD (s.getD a 0) 0
 |.join a o t _,s=>(t.getD (s.getD a 0) []).getD (s.getD o 0) 0
 |.move _ o _,s=>s.getD o 0
 |.put _ x _,_=>x
def bb.at':bb->Nat
 |.turn a _ _=>a
 |.join a _ _ _=>a
 |.move a _ _=>a
 |.put a _ _=>a
def bP (d:bb)(s:List Nat):List Nat:=s.take d.at'++[dY d s]++s.drop (d.at'+1)
def getD_mem {j:Type}{l:List j}{d:j}(h:i<l.length):l.getD i d∈l:=by
 rw[Ri,Qq h];exact Sa h
def xF {m:aK}(hd:bZ m.words m.places d)(hs:cU m s):dY d s<m.words:=by
 obtain⟨hl,j⟩:=hs;cases d with
 | turn a t c =>
   obtain⟨h1,h2,h3⟩:=hd;have:=j _ (getD_mem (d:=0) (show a<s.length by omega))
   exact h2.2 _ (getD_mem (by rw[h2.1];exact this))
 | join a o t c =>
   obtain⟨h1,h2,h3,h4⟩:=hd;have a1:=j _ (getD_mem (d:=0) (show a<s.length by omega))
   have a2:=j _ (getD_mem (d:=0) (show o<s.length by omega))
   have a3:=h3.2 _ (getD_mem (d:=[]) (show s.getD a 0<t.length by rw[h3.1];exact a1))
   exact a3.2 _ (getD_mem (by rw[a3.1];exact a2))
 |move a o c=>exact j _ (getD_mem (by obtain⟨h1,h2,h3⟩:=hd;omega))
 |put a x c=>exact hd.2.1
def sP (hd:bZ w p d):d.at'<p:=by cases d<;>exact hd.1
def rV (hd:bZ m.words m.places d)(hs:cU m s):cU m (bP d s):=by
 have h1:=sP hd;have h2:=xF hd hs;obtain⟨hl,j⟩:=hs;refine{by simp[bP];omega,λx hm=>?_}
 simp only[bP,QH,Qs] at hm;rcases hm with(z|z)|z
 ·exact j x (RQ z)
 ·omega
 ·exact j x (List.mem_of_mem_drop z)
def NM (m:aK)(r:List Nat):Prop:=r.length<=40/\∀i∈r,i<m.deeds.length
noncomputable def cj (m:aK)(i:Nat):bb:=m.deeds.getD i (.put 0 0 1)
def jw (m:aK):List Nat->List Nat->List Nat
 |[],s=>s
 |i::r,s=>jw m r (bP (cj m i) s)
def gH {m:aK}(hm:aC m){i:Nat}(hi:i<m.deeds.length):bZ m.words m.places (cj m i):=hm.ok _ (getD_mem hi)
def qR (hm:aC m):∀{r:List Nat}{s:List Nat},(∀i∈r,i<m.deeds.length)->cU m s->cU m (jw m r s)
 |[],s,_,h=>h
 |i::r,s,hr,h=>qR (r:=r) hm (λj u=>hr j (Qu _ u)) (rV (gH hm (hr i QB)) h)
def oY:∀(a b s:List Nat),jw m (a++b) s=jw m b (jw m a s)
 |[],b,s=>rfl
 |i::a,b,s=>oY a b _
def B5 {s:List Nat}(hi:i<s.length):(cv (s.map nD).length (i:Int)).bind (λj=>(s.map nD)[j]?)=some (nD (s.getD i 0)):=by
 rw[cY (by simpa using hi)]
 simp[Ri,hi]
noncomputable def yc (m:aK)(r:List Nat):Nat:=(r.map λi=>(cj m i).cost).sum
def oO {i:Nat}(hi:i<m.deeds.length):((cv (m.deeds.map bb.d).length (i:Int)).bind λj=>(m.deeds.map bb.d)[j]?)=some (cj m i).d:=by
 rw[cY (by simpa using hi)]
 simp[cj,Ri,hi]
def N7 {m:aK}:bV m.d (.int 2) M=some (.tup (m.deeds.map bb.d)):=rfl
def uu (hi:i<m.deeds.length):bV (.tup (m.deeds.map bb.d)) (nD i) M=some (cj m i).d:=oO hi
def iH {d:bb}:bV d.d (.int (-1)) M=some (nD d.cost):=by cases d<;>rfl
def gX {s:List Nat}(hi:i<s.length):bV (av s) (nD i) M=some (nD (s.getD i 0)):=B5 hi
def AU {t:List (List Nat)}(hi:i<t.length):bV (.tup (t.map av)) (nD i) M=some (av (t.getD i [])):=by
 show(cv (t.map av).length (i:Int)).bind (λj=>(t.map av)[j]?)=_;rw[cY (by simpa using hi)]
 simp[Ri,hi]
def iz (M:Mem)(x:D)(r:List Nat):Prop:=x=.lst (r.map nD)\/∃q,x=.cell q/\M[q]?=some (r.map nD)
def iz.l:iz M (.lst (r.map nD)) r:=.inl rfl
def iz.sub {M M':Mem}(h:iz M x r)(s:Sub M M'):iz M' x r:=h.elim .inl λ⟨q,e,g⟩=>.inr {q,e,s.get g}
def iz.seq (h:iz M x r):cE M x=some (r.map nD):=by
 rcases h with rfl|⟨q,rfl,e⟩
 ·rfl
 ·exact e
def iz.is (h:iz M x r):gm x=true/\ix x=true/\gW .list x=some true:=by
 rcases h with rfl|⟨q,rfl,e⟩<;>exact⟨rfl,rfl,rfl⟩
section
variable{P:Nat->Option Df}(h:HasB0 P){M:Mem}
include h
theorem tu (n:Nat)(hm:aC m):ag P (n+8) 13 [m.d] M=.ok .non M:=by
 refine aj (aH h.need_machine rfl ?_);simp[ig,F9 h n hm]
theorem ki (h15:P 15=some {1,6,b8})(n:Nat)(hm:aC m):ag P (n+9) 15 [m.d] M=.ok (.lst ((aS m).map av)) M:=by
 refine aj (aH h15 rfl ?_);have w4:=hm.w4;have p2:=hm.p2;simp[b8,tu h n hm];simp[aK.d,cX];refine{`d,`a,?_}
 refine dz (λi u j=>j=M/\∃a,u=[some m.d,some (nD m.words),some (nD m.places),some (.tup (m.deeds.map bb.d)),some (.lst ((dA m.words i).map av)),a]) (λ_ _ _ _=>rfl) {rfl,none,by simp[aK.d,dA,av]} ?_ ?_
 ·rintro i d u j hd ⟨rfl,a,rfl⟩;have z:i<m.places:=by
   have:=(P9.mp hd).1;simpa using this
  refine{_,rfl,?_};simp[gm];refine yf (λ_=>(List.range m.words).map λ(k:Nat)=>D.int (k:Int)) (λd e=>match d,e with|.tup x,e=>.tup (x++[e])|_,_=>.non) 4 (by simpa using λ_ _=>w4) ?_ rfl ?_ ?_
  ·have:=jU w4 i `a
   have:(4:Nat)^i<=4^2:=Nat.pow_le_pow_right `d `a
   simp only[P8];exact ay `a
  ·intro d hd;obtain⟨s,hs,rfl⟩:=Qh.mp hd;have{l1,_}:=u4 s hs;refine{_,rfl,(λ_=>some ((List.range m.words).map λ(k:Nat)=>D.int (k:Int))),dj ?_,rfl,λe y=>{_,rfl,aj ?_}}
   ·simp;omega
   ·simp[av,sz];omega
  ·have v:((dA m.words i).map av).flatMap (λd=>((List.range m.words).map λ(k:Nat)=>D.int (k:Int)).map (λe=>match d,e with|.tup x,e=>D.tup (x++[e])|_,_=>.non))=(dA m.words (i+1)).map av:=by
    simp only[dA,qP,List.flatMap_map,List.map_flatMap,Q1]
    congr 1
    funext s
    simp[av,Function.comp_def]
   rw[v];refine{?_,rfl,rfl};have:=jU w4 (i+1) `a
   have:(4:Nat)^(i+1)<=4^2:=Nat.pow_le_pow_right `d `a
   simp only[P8];exact ay `a
 ·rintro u j ⟨rfl,a,rfl⟩;simp[aS]
end
section
variable{P:Nat->Option Df}(h:i7 P){M:Mem}
include h
theorem zx (n:Nat){m:aK}(hd:bZ m.words m.places (.turn a t c))(hs:cU m s):ag P (n+1) 20 [(bb.turn a t c).d,av s] M=.ok (nD (dY (.turn a t c) s)) M:=by
 obtain⟨h1,h2,h3⟩:=hd;have a1:a<s.length:=by rw[hs.1];exact h1
 have a2:s.getD a 0<t.length:=by rw[h2.1];exact hs.2 _ (getD_mem a1)
 refine aj (aH h.turned rfl ?_);simp[-jc,-List.getD_eq_getElem?_getD,lX,bb.d,cX,gX a1,gX a2,dY]
theorem zE (n:Nat){a o c:Nat}(hd:bZ m.words m.places (.join a o t c))(hs:cU m s):ag P (n+1) 21 [(bb.join a o t c).d,av s] M=.ok (nD (dY (.join a o t c) s)) M:=by
 obtain⟨h1,h2,h3,h4⟩:=hd;have a1:a<s.length:=by rw[hs.1];exact h1
 have a2:o<s.length:=by rw[hs.1];exact h2
 have a3:s.getD a 0<t.length:=by rw[h3.1];exact hs.2 _ (getD_mem a1)
 have a4:s.getD o 0<(t.getD (s.getD a 0) []).length:=by rw[(h3.2 _ (getD_mem a3)).1];exact hs.2 _ (getD_mem a2)
 refine aj (aH h.joined rfl ?_);simp[-jc,-List.getD_eq_getElem?_getD,lZ,bb.d,cX,gX a1,gX a2,AU a3,gX a4,dY]
theorem Cb (n:Nat)(hd:bZ m.words m.places (.move a o c))(hs:cU m s):ag P (n+1) 22 [(bb.move a o c).d,av s] M=.ok (nD (dY (.move a o c) s)) M:=by
 obtain⟨h1,h2,h3⟩:=hd;have a2:o<s.length:=by rw[hs.1];exact h2
 refine aj (aH h.moved rfl ?_);simp[-jc,-List.getD_eq_getElem?_getD,n9,bb.d,cX,gX a2,dY]
theorem B9 (n:Nat):ag P (n+1) 23 [(bb.put a x c).d,av s] M=.ok (nD (dY (.put a x c) s)) M:=by
 refine aj (aH h.put_in rfl ?_);simp[lY,bb.d,cX,dY]
end
def OZ:cS.lookup (Str.ofString "turn")=some 20:=`k
def OY:cS.lookup (Str.ofString "join")=some 21:=`k
def OX:cS.lookup (Str.ofString "move")=some 22:=`k
def OW:cS.lookup (Str.ofString "put")=some 23:=`k
def I8 {a:Nat}(j:a<=s.length):ae (gK false (av s) .non (.int a) M) k↔k (av (s.take a)) M:=by
 simp only[gK,av,aU,cut];rw[if_neg `a]
 simp;rw[Nat.min_eq_left (by simpa using j)]
def Gi {a:Nat}(j:a<=s.length):ae (gK false (av s) (.int a) .non M) k↔k (av (s.drop a)) M:=by
 simp only[gK,av,aU,cut];rw[if_neg `a]
 simp;rw[Nat.min_eq_left (by simpa using j),Rg `s]
section
variable{P:Nat->Option Df}(h:i7 P){M:Mem}
include h
theorem Gd (n:Nat){d:bb}(hm:aC m)(hd:bZ m.words m.places d)(hs:cU m s):ag P (n+2) 24 [d.d,av s] M=.ok (av (bP d s)) M:=by
 have a0:=sP hd;have l0:=hs.1;have p2:=hm.p2;have j:∀f,ag P (n+1) f [d.d,av s] M=.ok (nD (dY d s)) M->bV d.d (.int 1) M=some (nD d.at')->(∀k:D->Mem->Prop,(∃y,bV d.d (.int 0) M=some (.str y)/\cS.lookup y=some f))->ag P (n+2) 24 [d.d,av s] M=.ok (av (bP d s)) M:=λf e1 e2 u=>by
  obtain⟨y,u,v⟩:=u λ_ _=>True;refine aj (aH h.done rfl ?_);simp only[qh,aA,mx,K9,eC,bo,cZ,bt,cH,g5,nU,iW,bR,cg,Ht];simp[-jc,e1,e2,u,v,cJ];rw[I8 `a,e1]
  have z:(d.at':Int)+1=((d.at'+1:Nat):Int):=`a
  rw[z];simp only[aO,av,vb];refine{`d,?_,?_}
  ·simp;exact ay `a
  ·rw[show D.tup (s.map nD)=av s from rfl,Gi `a]
   simp only[av,vb];refine{?_,?_,trivial}
   ·simp;exact ay `a
   ·simp[bP]
 cases d with
 |turn a t c=>exact j 20 (zx h n hd hs) rfl λ_=>{_,rfl,OZ}
 |join a o t c=>exact j 21 (zE h n hd hs) rfl λ_=>{_,rfl,OY}
 |move a o c=>exact j 22 (Cb h n hd hs) rfl λ_=>{_,rfl,OX}
 |put a x c=>exact j 23 (B9 h n) rfl λ_=>{_,rfl,OW}
end
@[simp] theorem oP:ae (gA .len [.cell j] M) k↔∃ds,M[j]?=some ds/\k (.int ds.length) M:=by
 show ae (match M[j]? with|some xs=>_|none=>_) k↔_
 cases M[j]?<;>simp
structure aD (M:Mem) (p B:Nat):Prop where
 ex:∃(c:Nat) (cells:List Int) (at_ st:Int),M[p]?=some [.cell c,.int at_,.int st]/\M[c]?=some (cells.map D.int)/\c<p/\0<=at_/\at_<=B/\0<=st
structure aZ (p:Nat) (M M':Mem):Prop where
 len:M.length<=M'.length
 at':∀k,k<M.length->k≠p->M'[k]?=M[k]?
def aZ.refl:aZ p M M:={Qe _,λ_ _ _=>rfl}
def aZ.trans (a:aZ p M M1)(b:aZ p M1 M2):aZ p M M2:={Qo a.len b.len,λk j n=>(b.at' k (QE j a.len) n).trans (a.at' k j n)}
def aZ.set:aZ p M (M.set p ds):={`s,λk _ n=>Qj (Rf n)}
def aZ.app:aZ p M (M++X):={`s,λk j _=>Qi j}
def aZ.get (h:aZ p M M')(e:M[k]?=some ds)(n:k≠p):M'[k]?=some ds:=by rw[h.at' k (P9.mp e).1 n];exact e
def aD.lt (h:aD M p B):p<M.length:=by obtain⟨_,_,_,_,e,_⟩:=h.ex;exact(P9.mp e).1
def aD.app (h:aD M p B):aD (M++X) p B:=by
 obtain⟨c,j,a,st,e1,e2,r⟩:=h.ex;exact{c,j,a,st,by rw[Qi (P9.mp e1).1];exact e1,by rw[Qi (P9.mp e2).1];exact e2,r}
def aD.mono (h:aD M p B)(E:B<=B'):aD M p B':=by
 obtain⟨c,j,a,st,e1,e2,u,v,z,y⟩:=h.ex;exact{c,j,a,st,e1,e2,u,v,`a,y}
def aD.setq (h:aD M p B)(E:p<q):aD (M.set q ds) p B:=by
 obtain⟨c,j,a,st,e1,e2,u,v,y,z⟩:=h.ex;exact{c,j,a,st,by rw[Qj `a];exact e1,by rw[Qj `a];exact e2,u,v,y,z}
def aZ.setq (h:aZ p M M')(u:M.length<=q):aZ p M (M'.set q ds):={by simpa using h.len,λk j n=>by rw[Qj `a];exact h.at' k j n}
def Ao {a b A B:Int}(h1:0<=a)(h2:a<=A)(h3:0<=b)(h4:b<=B):0<=a*b/\a*b<=A*B:=
 {Int.mul_nonneg h1 h3,Int.mul_le_mul h2 h4 h3 (Int.le_trans h1 h2)}
noncomputable def nF:List Int:=[2147483629,2147483587,2147483579,2147483563,2147483549,2147483543,2147483497,2147483489,2147483477,2147483423,2147483399,2147483353,2147483323]
def ja:List D:=nF.map D.int
def zY:∀q∈nF,0<q/\q<2147483648:=`d
def oI (j:Int)(M:Mem):∃q:Int,bV (.lst ja) (.int (j % 13)) M=some (.int q)/\0<q/\q<2147483648:=by
 have h1:0<=j % 13:=Se _ `d
 have h2:j % 13<13:=Sb _ `d
 generalize j % 13=i at h1 h2;obtain⟨k,rfl⟩:=Int.eq_ofNat_of_zero_le h1;have u:=Int.ofNat_lt.mp h2;refine{nF[k],?_,zY _ (Sa u)};show(cv ja.length (k:Int)).bind (λj=>ja[j]?)=_;rw[cY (n:=ja.length) u];show(nF.map D.int)[k]?=_;rw[Qv,Qq u];rfl
section
variable{P:Nat->Option Df}(h:HasP0 P){M:Mem}
include h
omit h in
theorem fw {x y:Int}(j:a Z M=.ok (.int x) M)(u:b Z M=.ok (.int y) M):ai m .add a b Z M=.ok (.int (x+y)) M:=by
 unfold ai;rw[j];show(b Z M).bind _=_;rw[u];rfl
omit h in
theorem mC {x y:Int}(j:a Z M=.ok (.int x) M)(u:b Z M=.ok (.int y) M)(c:(-(2^64)<x/\x<2^64)\/(-(2^64)<y/\y<2^64)):ai m .mul a b Z M=.ok (.int (x*y)) M:=by
 unfold ai;rw[j];show(b Z M).bind _=_;rw[u];exact if_pos c
omit h in
theorem j6 {x y:Int}(j:a Z M=.ok (.int x) M)(u:b Z M=.ok (.int y) M)(c:0<y):ai m .mod a b Z M=.ok (.int (x % y)) M:=by
 unfold ai;rw[j];show(b Z M).bind _=_;rw[u];exact if_pos c
omit h in
theorem xu {x y:Int}(j:a Z M=.ok (.int x) M)(u:b Z M=.ok (.int y) M)(c:0<=y/\y<=1000000)(d:x.natAbs<2^64):ai m .pow a b Z M=.ok (.int (x^y.toNat)) M:=by
 unfold ai;rw[j];show(b Z M).bind _=_;rw[u];exact if_pos ⟨c.1,c.2,d⟩
omit h in
theorem oJ {x q:Int}(hi:Z[i]?.getD none=some (.lst ja))(j:a Z M=.ok (.int x) M)(e:bV (.lst ja) (.int (x % 13)) M=some (.int q)):ao (aa i) (ai false .mod a (gI 13)) Z M=.ok (.int q) M:=by
 unfold ao;rw[aq hi];show(ai false .mod a _ Z M).bind _=_;rw[j6 j rfl `d];show cf M _=_;rw[e];rfl
theorem zz {x a:Int}(n:Nat)(R:0<=a)(h1:a<=1000000):ae (ag P (n+1) 28 [.int x,.int a] M) λd M'=>M'=M/\∃v:Int,d=.int v/\0<=v:=by
 refine aH h.law_spread rfl ?_;refine bH rfl (λe=>?_) λe=>?_
 ·exact{rfl,x,rfl,Int.le_trans `d (of_decide_eq_true e)}
 clear e;refine bu (bF rfl) (bu (bF rfl) ?_);obtain⟨S,e1,p1,p2⟩:=oI a M;obtain⟨U,e2,u,_⟩:=oI (a+5) M;obtain⟨q3,Q,J,_⟩:=oI (a+7) M;have y:∀{z c:Int},0<=z->z<=c->c<2^64->z.natAbs<2^64:=λX Y L=>`a
 have lt:∀{z c:Int},0<=z->z<=c->c<2^64->-(2^64)<z/\z<2^64:=λX Y L=>`a
 have r1:=Se x (show(1000000007:Int)≠0 by decide)
 have r2:=Sb x (show(0:Int)<1000000007 by decide)
 obtain⟨m1,m2⟩:=Ao r1 (Int.le_of_lt r2) (show 0<=2*a+69069 by omega) (show 2*a+69069<=2069069 by omega)
 refine bu (bF (j6 (xu (fw (fw (mC (j6 (aq rfl) rfl `d) (fw (mC rfl (aq rfl) (.inl `d)) rfl) (.inl (lt r1 (Int.le_of_lt r2) `d))) (mC (aq rfl) rfl (.inl (lt R h1 `d)))) rfl) rfl `d (y (c:=10000000000000000000) `a `a `d)) (oJ rfl (aq rfl) e1) p1)) ?_
 generalize (x % 1000000007*(2*a+69069)+a*40503+977)^(3:Int).toNat=B;have j:=Se B (Int.ne_of_gt p1);have F:=Sb B p1;generalize B % S=one at j F;have H:=Int.le_of_lt (Int.lt_trans F p2);obtain⟨m3,m4⟩:=Ao j H (show 0<=a+3 by omega) (show a+3<=1000003 by omega)
 refine bu (bF (j6 (xu (fw (fw (mC (aq rfl) (fw (aq rfl) rfl) (.inl (lt j H `d))) (j6 (aq rfl) rfl `d)) rfl) rfl `d (y (c:=10000000000000000000) `a `a `d)) (oJ rfl (fw (aq rfl) rfl) e2) u)) ?_
 generalize (one*(a+3)+x % 65537+5)^(5:Int).toNat=E;have I:=Se E (Int.ne_of_gt u);have O:=Sb E u;generalize E % U=two at I O;refine bu (bF (j6 (xu (fw (fw (aq rfl) (j6 (aq rfl) rfl `d)) (aq rfl)) rfl `d (y (c:=10000000000) `a `a `d)) (oJ rfl (fw (aq rfl) rfl) Q) J)) ?_
 generalize (two+one % 1009+a)^(3:Int).toNat=W;have d1:=Se W (Int.ne_of_gt J);refine bC (fw (mC (fw (mC (aq rfl) rfl (.inr `d)) (aq rfl)) rfl (.inr `d)) (aq rfl)) {rfl,_,rfl,?_}
 exact Int.add_nonneg (Int.mul_nonneg (Int.add_nonneg (Int.mul_nonneg j `d) I) `d) d1
omit h in
theorem Pd:cv 3 2=some 2:=rfl
omit h in
theorem qJ {l:List Int}{i:Int}(v:0<=i)(h1:i<l.length):∃x,((cv l.length i).bind λj=>Option.map D.int l[j]?)=some (.int x):=by
 obtain⟨k,rfl⟩:=Int.eq_ofNat_of_zero_le v;have u:k<l.length:=`a
 refine{l[k],?_};rw[cY u];simp[u]
def oG:GS:=#v[aw (.one 4) (ai false .mod (ao (aa 0) (gI 2)) (aa 1)),eI (aa 0) (gI 2) (ai false .fdiv (ao (aa 0) (gI 2)) (aa 1)),aP (aa 4)]
def vB (c:Call):GS:=#v[eI (aa 0) (gI 1) (ai false .add (aa 2) (gI 1)),eI (aa 0) (gI 2) (ah 28 c #[aa 3,aa 2])]
omit h in
theorem MY {x y:Int}(j:a Z M=.ok (.int x) M)(u:b Z M=.ok (.int y) M)(c:0<y/\y<1073741824):ai m .fdiv a b Z M=.ok (.int (x / y)) M:=by
 unfold ai;rw[j];show(b Z M).bind _=_;rw[u];exact if_pos c
omit h in
theorem bq (j:a Z M=.ok x M)(u:b Z M=.ok y M)(e:bV x y M=some d):ao a b Z M=.ok d M:=by
 unfold ao;rw[j];show(b Z M).bind _=_;rw[u];show cf M _=_;rw[e];rfl
omit h in
theorem KH (e:M[p]?=some [c0,c1,c2]):bV (.cell p) (.int 0) M=some c0/\bV (.cell p) (.int 1) M=some c1/\bV (.cell p) (.int 2) M=some c2:=by
 refine{?_,?_,?_}<;>(show(M[p]?).bind _=_;rw[e];rfl)
omit h in
theorem tM {n:Int}(hd:d Z M=.ok z M')(u:a Z M'=.ok (.cell p) M')(v:b Z M'=.ok (.int n) M')(e:M'[p]?=some ds)(hi:cv ds.length n=some i)(h:ae (rest Z (M'.set p (ds.set i z))) kf):ae (aY (eI a b d) rest Z M) kf:=by
 simp only[aA];unfold eI;rw[hd];show ae ((a Z M').bind _) _;rw[u];show ae ((b Z M').bind _) _;rw[v];show ae (match M'[p]? with|some ds=>(match cv ds.length n with|some j=>Res.ok (Fl.next Z) (M'.set p (ds.set j z))|none=>.bad)|none=>.bad) _
 rw[e];show ae (match cv ds.length n with|some j=>Res.ok (Fl.next Z) (M'.set p (ds.set j z))|none=>.bad) _
 rw[hi];exact h
omit h in
theorem KI (j:t Z M=.ok b M)(h1:b=true->ae (A Z M) (gG rest kf))(h2:b=false->ae (B Z M) (gG rest kf)):ae (aY (aT t A B) rest Z M) kf:=by
 simp only[aA,iC];rw[j];cases b with
 |true=>exact h1 rfl
 |false=>exact h2 rfl
omit h in
theorem rA {j:List Int}{a st:Int}(e1:M1[p]?=some [.cell c,.int a,.int st])(e2:M1[c]?=some (j.map D.int))(lt:c<p)(a0:0<=a)(u:a<=(B+1:Nat))(H:0<=st)(k:aZ p M M1)
 (z:0<many) (h1:many<=10000000):ae (oG [some (.cell p),some (nD many),x,y,none] M1) (ie λd M'=>∃v:Nat,d=nD v/\v<many/\aD M' p (B+1)/\aZ p M M'):=by
 have E:p<M1.length:=(P9.mp e1).1;have b0:=Int.ofNat_lt.mpr z;have r1:=Se st (Int.ne_of_gt b0);have r2:=Sb st b0;refine bu (bF (j6 (bq (aq rfl) rfl (KH e1).2.2) (aq rfl) b0)) (tM (MY (bq (aq rfl) rfl (KH e1).2.2) (aq rfl) {b0,`a}) (aq rfl) rfl e1 rfl (bC (aq rfl) ?_))
 obtain⟨v,F⟩:=Int.eq_ofNat_of_zero_le r1;refine{v,congrArg D.int F,`a,{c,j,a,st / many,QI E,?_,lt,a0,u,Int.ediv_nonneg H (Int.le_of_lt b0)},k.trans aZ.set}
 rw[Qj (Rj lt)];exact e2
theorem vJ (n:Nat){p B many:Nat}(R:aD M p B)(hB:B<=1000000)(I:0<many)(h1:many<=10000000):ae (ag P (n+2) 31 [.cell p,nD many] M) λd M'=>∃v:Nat,d=nD v/\v<many/\aD M' p (B+1)/\aZ p M M':=by
 obtain⟨c,u,a,st,e1,e2,lt,a0,Y,W⟩:=R.ex;have z:p<M.length:=(P9.mp e1).1;obtain⟨H,S,U⟩:=KH e1;refine aH h.law_take rfl ?_;show ae (aY (aT _ (aY _ (aY _ (aY _ (vB (ag P (n+1)))))) _) oG [some (.cell p),some (nD many),none,none,none] M) _;have y:∀(x:Int),ae (vB (ag P (n+1)) [some (.cell p),some (nD many),some (.int a),some (.int x),none] M) (gG oG (ie λd M'=>∃v:Nat,d=nD v/\v<many/\aD M' p (B+1)/\aZ p M M')):=by
  intro x;refine tM (fw (aq rfl) rfl) (aq rfl) rfl e1 rfl ?_;obtain⟨_,_,Q,rfl,v,rfl,X⟩:=du.mp (zz h n a0 `a)
  refine tM ((aQ (af (aq rfl) (af (aq rfl) rfl))).trans Q) (aq rfl) rfl (QI z) rfl ?_;have ne:=Rj lt;exact rA (QI (by rw[List.length_set];exact z)) (by rw[Qj ne,Qj ne];exact e2) lt `a `a X (aZ.set.trans aZ.set) I h1
 have len:aJ .len #[ao (aa 0) (gI 0)] [some (.cell p),some (nD many),some (.int a),some (.int 0),none] M=.ok (.int (u.length:Nat)) M:=by
  refine aj ?_;simp only[bQ];rw[af (bq (aq rfl) rfl H) rfl,aO];exact oP.mpr {_,e2,by rw[P8],rfl}
 refine bH (b:=decide (st<(many:Int))) (bN (aj ?_)) (λJ=>?_) λJ=>?_
 ·simp only[eD];rw[bq (aq rfl) rfl U,aO,aq rfl,aO];exact{_,rfl,rfl,rfl}
 ·refine bu (bF (bq (aq rfl) rfl S)) (bu (bF rfl) ?_);show ae (aY _ _ [some (.cell p),some (nD many),some (.int a),some (.int 0),none] M) _;have E:∀{i:Int}{x:D},((cv u.length i).bind λj=>Option.map D.int u[j]?)=some x->bV (.cell c) (.int i) M=some x:=λ{i x} ex=>by
   show(M[c]?).bind _=_;rw[e2];show((cv (u.map D.int).length i).bind λj=>(u.map D.int)[j]?)=_;simp only[P8,Qv];exact ex
  refine KI (b:=decide (a<(u.length:Int))) (bN (aj ?_)) (λL=>?_) λ_=>?_
  ·simp only[eD];rw[aq rfl,aO,len,aO];exact{_,rfl,rfl,rfl}
  ·obtain⟨x,ex⟩:=qJ a0 (of_decide_eq_true L);exact bu (bF (bq (bq (aq rfl) rfl H) (aq rfl) (E ex))) (y x)
  ·refine bH (b:=decide ((0:Int)<(u.length:Int))) (bN (aj ?_)) (λO=>?_) λ_=>y 0
   ·simp only[eD,cZ];rw[len,aO];exact{_,rfl,rfl,rfl}
   ·have F:=of_decide_eq_true O;obtain⟨x,ex⟩:=qJ (Se (a*5+3) (Int.ne_of_gt F)) (Sb _ F);exact bu (bF (j6 (bq (bq (aq rfl) rfl H) (j6 (fw (mC (aq rfl) rfl (.inr `d)) rfl) len F) (E ex)) (fw rfl (aq rfl)) (Int.lt_of_lt_of_le `d (Int.le_add_of_nonneg_right a0)))) (y _)
 ·exact rA e1 e2 lt a0 `a W .refl I h1
end
noncomputable def bb.withC:bb->Nat->bb
 |.turn a t _,c=>.turn a t c
 |.join a o t _,c=>.join a o t c
 |.move a o _,c=>.move a o c
 |.put a x _,c=>.put a x c
def BB {w p c:Nat}{d:bb}(h:bZ w p d)(u:g9 c):bZ w p (d.withC c):=by
 cases d with
 |turn=>exact⟨h.1,h.2.1,u⟩
 |join=>exact⟨h.1,h.2.1,h.2.2.1,u⟩
 |move=>exact⟨h.1,h.2.1,u⟩
 |put=>exact⟨h.1,h.2.1,u⟩
def wN {w p:Nat}{d:bb}(h:bZ w p d):g9 d.cost:=by
 cases d with
 |turn=>exact h.2.2
 |join=>exact h.2.2.2
 |move=>exact h.2.2
 |put=>exact h.2.2
def Dn {d:bb}{c:Nat}{M:Mem}{k:D->Mem->Prop}(u:k (d.withC c).d M):ae (gK false d.d .non (.int (-1)) M) λx M=>ae (fY false .add x (.tup [nD c]) M) k:=by
 cases d<;>(simp[bb.d,gK,aU,cut];exact{`d,u})
def B6 (n:Nat)(d:bb):az (n+3) d.d=true:=by
 have v:∀(n:Nat) (l:List Nat),(l.map nD).all (az n)=true:=λn l=>by
  rw[Qt];intro x u;obtain⟨i,_,rfl⟩:=Qh.mp u;cases n<;>rfl
 cases d with
 |turn a t c=>simp[bb.d,az,av,nD];decide +kernel
 |join a o t c=>simp[bb.d,az,nD,av];decide +kernel
 |move a o c=>simp[bb.d,az,nD];decide +kernel
 |put a x c=>simp[bb.d,az,nD];decide +kernel
def ne_nil {M:Mem}{q:Nat}{ds:List bb}(e:M[q]?=some (ds.map bb.d)):bE .ne (.cell q) (.lst []) M=some (!ds.isEmpty):=by
 have hp:(ds.map bb.d).all (az 63)=true:=by
  rw[Qt];intro x v;obtain⟨d,_,rfl⟩:=Qh.mp v;exact B6 60 d
 have u:view M (.cell q)=.lst (ds.map bb.d):=by simp[view,e]
 have h1:=hp;refine wQ (by rw[u];exact h1) rfl ?_
 rw[u];cases ds<;>rfl
@[simp] theorem Ke {m:Bool}{x:List D}{j:Int}{M:Mem}{k:D->Mem->Prop}:ae (fY m .mul (.tup x) (.int j) M) k↔(x.length*j.toNat<=sz/\-(2^63)<=j/\j<2^63)/\k (.tup (List.replicate j.toNat x).flatten) M:=kv
@[simp] theorem Kf {m:Bool}{x:List D}{j:Int}{M:Mem}{k:D->Mem->Prop}:ae (fY m .mul (.lst x) (.int j) M) k↔(x.length*j.toNat<=sz/\-(2^63)<=j/\j<2^63)/\ae (bf m (List.replicate j.toNat x).flatten M) k:=kv
def zK {xs:List D}{a:Nat}{M:Mem}{k:D->Mem->Prop}:ae (gK false (.lst xs) .non (.int a) M) k↔(xs.take a).length<=sz/\k (.lst (xs.take a)) M:=by
 have e:cut xs 0 (min a xs.length)=xs.take a:=by
  unfold cut;rcases Nat.le_total a xs.length with h|h
  ·rw[Nat.min_eq_left h];simp
  ·rw[Nat.min_eq_right h];simp[Rg h]
 show ae (match aU xs.length 0 D.non,aU xs.length xs.length (.int a) with|some l,some h=>bf false (cut xs l h) M|_,_=>.bad) k↔_
 have e2:aU xs.length xs.length (.int a)=some (min a xs.length):=by
  show some _=_;rw[if_neg `a];simp
 rw[e2];show ae (bf false (cut xs 0 (min a xs.length)) M) k↔_;rw[e,bI]
def uN {w:Nat}{ge:GE}{Z:Env}{M:Mem}{v:List D->Mem->Prop}(f:Nat->Nat)(z:w<=100)(y:∀k,k<w->ge (some (.int (k:Int))::Z) M=.ok (nD (f k)) M)(u:v (((List.range w).map f).map nD) M) :
 ae (cW (cP (.one 0) (bg ge) (none::Z)) (λ_=>some ((List.range w).map λ(k:Nat)=>D.int (k:Int))) [] M) v:=by
 refine eE (λd=>match d with|.int i=>nD (f i.toNat)|_=>.non) (ay `o) rfl (λd hd=>?_) ?_
 ·obtain⟨k,u,rfl⟩:=Qh.mp hd;exact{_,rfl,y k (RH.mp u)}
 ·simpa[Function.comp_def] using u
def vE {w:Nat}{f:Nat->Nat}(u:∀k,k<w->f k<w):i0 w ((List.range w).map f):={`s,λx y=>by
 obtain⟨k,v,rfl⟩:=Qh.mp y;exact u k (RH.mp v)}
section
variable{P:Nat->Option Df}(h:HasP0 P){M:Mem}
include h
theorem Gh (n:Nat){p B:Nat}(hp:aD M p B):ae (ag P (n+1) 30 [.cell p] M) λd M'=>d=.cell p/\aD M' p B/\aZ p M M':=by
 obtain⟨c,u,a,st,e1,e2,lt,a0,y,z⟩:=hp.ex;have ne:=QN lt;have v:p<M.length:=(P9.mp e1).1;refine aH h.law_anew rfl ?_;simp[ka,e1,Pd];refine{{c,u,a,0,by simp[v],?_,lt,a0,y,`a},aZ.set}
 rw[Qj (Rf ne)];exact e2
theorem tk (n:Nat){p B many:Nat}{k:D->Mem->Prop}(hp:aD M p B)(hB:B<=1000000)(h0:0<many)(h1:many<=10000000)(z:∀(v:Nat) (M':Mem),v<many->aD M' p (B+1)->aZ p M M'->k (nD v) M'):ae (ag P (n+2) 31 [.cell p,nD many] M) k:=
 aI (vJ h n hp hB h0 h1) λd M' ⟨v,e,E,y,u⟩=>by subst e;exact z v M' E y u
end
def bd {B c k m:Nat}(h:B<=c)(e:c+k<=m):B+k<=m:=Qo (Nat.add_le_add_right h k) e
def xP {B k m:Nat}(e:k<=m):B+k<=B+m:=Nat.add_le_add_left e B
def MP {xs:List D}{v:Nat}{M:Mem}(h:v<xs.length):bV (.lst xs) (nD v) M=some xs[v]:=by
 show(cv xs.length (v:Int)).bind (λj=>xs[j]?)=_;rw[cY h];simp[h]
def xK {Z:Env}{M:Mem}{j v c:Nat}(h:Z[j]?.getD none=some (nD v)):(ak (ax .lt (aa j) (gC (.int (c:Int)))):GT) Z M=.ok (decide (v<c)) M:=by
 refine dj ?_;simp only[ip,eD,bo,cZ];refine{_,h,_,rfl,_,rfl,?_,trivial};simp
def gn {Z:Env}{M:Mem}{j v c:Nat}(h:Z[j]?.getD none=some (nD v)):(ak (ax .eq (aa j) (gC (.int (c:Int)))):GT) Z M=.ok ((v:Int)==(c:Int)) M:=by
 refine dj ?_;simp only[ip,eD,bo,cZ];exact{_,h,_,rfl,_,rfl,rfl,trivial}
def MU {Z:Env}{M:Mem}{j v c:Nat}(h:Z[j]?.getD none=some (nD v)):(ak (ax .gt (aa j) (gC (.int (c:Int)))):GT) Z M=.ok (decide ((c:Int)<(v:Int))) M:=by
 refine dj ?_;simp only[ip,eD,bo,cZ];exact{_,h,_,rfl,_,rfl,rfl,trivial}
section
variable{Z:Env}{M:Mem}{g a:GE}{rest:GS}{kf:Fl->Mem->Prop}
section
variable{P:Nat->Option Df}(hp_:HasP0 P)(n:Nat){i j p B many:Nat}(hj:Z[j]?.getD none=some (.cell p))(hg:g Z M=.ok (nD many) M)(hp:aD M p B)(hB:B<=1000000)(h0:0<many)(h1:many<=10000000)
include hp_ hj hg hp hB h0 h1
theorem eB:ae (ah 31 (ag P (n+2)) #[aa j,g] Z M) λd M'=>∃v:Nat,d=nD v/\v<many/\aD M' p (B+1)/\aZ p M M':=by
 rw[aQ (af (aq hj) (af hg rfl))];exact vJ hp_ n hp hB h0 h1
theorem dC (u:∀(v:Nat) (M':Mem),v<many->aD M' p (B+1)->aZ p M M'->ae (rest (Z.set i (some (nD v))) M') kf):ae (aY (aw (.one i) (ah 31 (ag P (n+2)) #[aa j,g])) rest Z M) kf:=by
 refine cF (eB hp_ n hj hg hp hB h0 h1) ?_;rintro x M' ⟨v,rfl,a,b,c⟩;exact u v M' a b c
theorem C9 {xs:List D}(hl:a Z M=.ok (.lst xs) M)(hz:xs.length=many):ae (ao a (ah 31 (ag P (n+2)) #[aa j,g]) Z M) λd M'=>d∈xs/\aD M' p (B+1)/\aZ p M M':=by
 unfold ao;rw[hl,bc,aO,bc];refine aI (eB hp_ n hj hg hp hB h0 h1) ?_;rintro x M' ⟨v,rfl,a,b,c⟩;rw[MP `a]
 exact{Sa _,b,c}
end
end
section
variable{Z:Env}{M:Mem}{k:D->Mem->Prop}
def jm {e:GE}{K:Fl->Mem->Prop}(h:ae (e Z M) λx M=>K (.ret x) M):ae (#v[aP e] Z M) K:=by
 simp only[aA,cH];exact h
def Ap {e:GE}{j v w:Nat}(he:e Z M=.ok (nD v) M)(hj:Z[j]?.getD none=some (nD w))(u:0<w):ai false .mod e (aa j) Z M=.ok (nD (v % w)) M:=by
 unfold ai;rw[he];show(aa j Z M).bind _=_;rw[aq hj];show(if (0:Int)<(w:Int) then Res.ok (D.int ((v:Int) % (w:Int))) M else .bad)=_;rw[if_pos `a]
 rfl
def ra {e f:GE}{v w:Nat}(he:e Z M=.ok (nD v) M)(u:f Z M=.ok (nD w) M):ai false .add e f Z M=.ok (nD (v+w)) M:=by
 unfold ai;rw[he];show(f Z M).bind _=_;rw[u];rfl
def IW {e:GE}{v c:Nat}(he:e Z M=.ok (nD v) M)(u:c<=v):ai false .sub e (gC (.int (c:Int))) Z M=.ok (nD (v-c)) M:=by
 unfold ai;rw[he];show Res.ok (D.int ((v:Int)-(c:Int))) M=_;rw[<- Int.ofNat_sub u]
end
section
variable{P:Nat->Option Df}(h:HasP P){M:Mem}
include h
theorem zy (n:Nat){p B w:Nat}(hp:aD M p B)(hB:B<=900000)(w2:2<=w)(w4:w<=4):ae (ag P (n+3) 32 [.cell p,nD w] M) λd M'=>∃t,d=av t/\i0 w t/\aD M' p (B+7)/\aZ p M M':=by
 have R:0<w:=QE `d w2
 have Y:w<=10000000:=Qo w4 (Qp rfl);refine aH h.law_tab rfl ?_;show ae (iY (ag P (n+2)) [some (.cell p),some (nD w),none,none,none,none] M) _;unfold iY;refine dC h n rfl rfl hp (Qo hB `d) `d `d λkind M1 U p1 k1=>?_
 refine dC h n rfl rfl p1 (bd hB `d) R Y λu M2 X p2 k2=>?_
 refine dC h n rfl rfl p2 (bd (k:=2) hB `d) R Y λE O ho p3 k3=>?_
 have Q:=(k1.trans k2).trans k3;have J:∀(l:List Nat) (M':Mem),i0 w l->aD M' p (B+7)->aZ p M M'->(l.map nD).length<=sz/\∃t,D.tup (l.map nD)=av t/\i0 w t/\aD M' p (B+7)/\aZ p M M':=λl M' hl F H=>{ay (by rw[P8,hl.1];omega),l,rfl,hl,F,H}
 have S:aD O p (B+7):=p3.mono (xP (k:=3) `d)
 show ae (aY _ _ [some (.cell p),some (nD w),some (nD kind),some (nD u),some (nD E),none] O) _;refine bH (xK rfl) (λ_=>?_) λ_=>?_
 ·simp only[aA,cH,bQ,bR,cg,dm,fA,bo];refine{_,rfl,_,rfl,{`a,`a},?_}
  refine comp_map (λi I M'=>∃t:List Nat,I=t.map nD/\(∀x∈t,x<w)/\aD M' p (B+3+i)/\aZ p M M') (ay `o) (λ_ _ _ _=>rfl) {[],rfl,(λ_ L=>nomatch L),p3,Q} ?_ ?_
  ·rintro i d I M' hd _ ⟨t,rfl,W,F,H⟩;have hi:i<w:=by
    have:=(P9.mp hd).1;simpa using this
   refine{_,rfl,aI (eB h n rfl rfl F `a R Y) ?_}
   rintro _ M4 ⟨v,rfl,hv,p4,k4⟩;refine{t++[v],by rw[QG];rfl,λx L=>?_,p4,H.trans k4}
   rcases QH.mp L with z|z
   ·exact W x z
   ·rw[Qs.mp z];exact hv
  ·rintro I M' hl ⟨t,rfl,W,F,H⟩;simp only[P8,Ru] at hl F;exact bI.mpr (J t M' ⟨hl,W⟩ (F.mono `a) H)
 refine bH (gn rfl) (λ_=>?_) λ_=>?_
 ·simp only[aA,cH,bQ,bR,cg,dm,fA,bo];refine{_,rfl,_,rfl,{`a,`a},?_}
  exact uN (λk=>(k+1+u) % w) `a (λk U=>Ap (ra (ra (aq rfl) rfl) (aq rfl)) rfl R) (bI.mpr (J _ O (vE λk _=>Nat.mod_lt _ R) S Q))
 refine bH (gn rfl) (λ_=>?_) λ_=>?_
 ·simp only[aA,cH,bQ,bR,cg,dm,fA,bo];refine{_,rfl,_,rfl,{`a,`a},?_}
  refine uN (λk=>if k=u then E else k) `a (λk U=>?_) (bI.mpr (J _ O (vE λk U=>by split<;>assumption) S Q))
  have e:(ak (ax .eq (aa 0) (aa 4)):GT) [some (.int (k:Int)),some (.cell p),some (nD w),some (nD kind),some (nD u),some (nD E),none] O=.ok ((k:Int)==(u:Int)) O:=rfl;by_cases ck:k=u
  ·rw[if_pos ck];exact ib (k:=true) (e.trans (by rw[ck,beq_self_eq_true])) (λ_=>rfl) (λz=>nomatch z)
  ·rw[if_neg ck];exact ib (k:=false) (e.trans (by rw[RU.mpr `a])) (λz=>nomatch z) (λ_=>rfl)
 refine bH (gn rfl) (λ_=>jm ?_) λ_=>?_
 ·simp only[g5,iW,bR,cg,bo];refine{_,rfl,ay (n:=1) `d,_,rfl,Ke.mpr {{ay `o,`a,`a},List.replicate w u,?_,{List.length_replicate,λx L=>by rw[List.eq_of_mem_replicate L];exact X},S,Q}}
  simp[av,nD]
 ·simp only[aA,mx,Hr,bo,kj,cH,bQ,bR,cg,bt];simp;refine{`a,ay `a,u,cY X,E,cY ho,((List.range w).set u E).set E u,?_,{`s,λx L=>?_},S.app,Q.trans aZ.app}
  ·simp[av,nD,List.map_set]
  ·rcases List.mem_or_eq_of_mem_set L with z|rfl
   ·rcases List.mem_or_eq_of_mem_set z with y|rfl
    ·exact RH.mp y
    ·exact ho
   ·exact X
theorem Cg (n:Nat){p B w pl:Nat}(hp:aD M p B)(hB:B<=800000)(w2:2<=w)(w4:w<=4)(p1:1<=pl)(p2:pl<=2):ae (ag P (n+4) 33 [.cell p,nD w,nD pl] M) λd M'=>∃e:bb,d=e.d/\bZ w pl e/\aD M' p (B+40)/\aZ p M M':=by
 have X:pl<=10000000:=Qo p2 (Qp rfl);refine aH h.law_deed rfl ?_;show ae (iy (ag P (n+3)) [some (.cell p),some (nD w),some (nD pl),none,none,none,none] M) _;unfold iy;refine dC h (n+1) rfl rfl hp (Qo hB `d) `d `d λkind Y hk q1 k1=>?_
 refine cF (k:=λd M'=>∃v:Nat,d=nD (1+v)/\v<3/\aD M' p (B+2)/\aZ p Y M') ?_ ?_
 ·rw[g5];simp only[cZ];refine aI (eB h (n+1) rfl rfl q1 (bd hB `d) `d `d) ?_
  rintro _ M2 ⟨v,rfl,J,q,kk⟩;exact qj.mpr {v,by show D.int (1+(v:Int))=D.int ((1+v:Nat):Int);rw[Int.natCast_add];rfl,J,q,kk}
 rintro _ M2 ⟨price,rfl,hc,q2,k2⟩;refine dC h (n+1) rfl rfl q2 (bd hB `d) p1 X λat_ M3 O q3 k3=>?_
 refine dC h (n+1) rfl rfl q3 (bd (k:=3) hB `d) p1 X λu F ho Q U=>?_
 have L:=((k1.trans k2).trans k3).trans U;have co:g9 (1+price):={`a,`a}
 have W:aD F p (B+40):=Q.mono (xP (k:=4) `d)
 show ae (aY _ _ [some (.cell p),some (nD w),some (nD pl),some (nD kind),some (nD (1+price)),some (nD at_),some (nD u)] F) _;refine bH (xK rfl) (λ_=>jm ?_) λ_=>?_
 ·simp only[iW,bR,cg,cZ,bo,uG];refine{_,rfl,_,rfl,_,rfl,aI (zy h n Q (bd (k:=4) hB `d) w2 w4) λd M' ⟨t,e,I,y,E⟩=>{_,rfl,ay (n:=4) `d,.turn at_ t (1+price),?_,⟨O,I,co⟩,y.mono (xP (k:=11) `d),L.trans E}}
  subst e;rfl
 refine bH (xK rfl) (λ_=>jm ?_) λ_=>?_
 ·obtain⟨o,eo,R⟩:∃o:Nat,fC (ak (ax .eq (aa 3) (gI 3))) (ai false .mod (ai false .add (aa 5) (gI 1)) (aa 2)) (aa 6) [some (.cell p),some (nD w),some (nD pl),some (nD kind),some (nD (1+price)),some (nD at_),some (nD u)] F=.ok (nD o) F/\o<pl:=by
   have e:(ak (ax .eq (aa 3) (gI 3)):GT) [some (.cell p),some (nD w),some (nD pl),some (nD kind),some (nD (1+price)),some (nD at_),some (nD u)] F=.ok ((kind:Int)==3) F:=gn rfl;cases q:(kind:Int)==3 with
   |true=>rw[q] at e;exact{(at_+1) % pl,ib e (λ_=>Ap (ra (aq rfl) rfl) rfl p1) (λz=>nomatch z),Nat.mod_lt _ p1}
   |false=>rw[q] at e;exact{u,ib e (λz=>nomatch z) (λ_=>aq rfl),ho}
  simp only[iW,bR,cg,cZ,bo];refine{_,rfl,?_};rw[eo,aO];exact{_,rfl,ay (n:=4) `d,.move at_ o (1+price),rfl,⟨O,R,co⟩,W,L}
 refine bH (gn rfl) (λ_=>jm ?_) λ_=>?_
 ·simp only[iW,bR,cg,cZ];show ae (ag P (n+3) 31 [.cell p,nD w] F) _;refine tk h (n+1) Q (bd (k:=4) hB `d) (QE `d w2) (Qo w4 (Qp rfl)) λv M5 J q5 k5=>?_
  exact{ay (n:=4) `d,.put at_ v (1+price),rfl,⟨O,J,co⟩,q5.mono (xP (k:=5) `d),L.trans k5}
 ·simp only[aA,cH,iW,bR,cg,cZ,bQ,dm,fA,bo];refine{_,rfl,_,rfl,_,rfl,_,rfl,{`a,`a},?_}
  refine comp_map (λi H M'=>∃t:List (List Nat),H=t.map av/\(∀x∈t,i0 w x)/\aD M' p (B+4+i*7)/\aZ p M M') (ay `o) (λ_ _ _ _=>rfl) {[],rfl,(λ_ S=>nomatch S),Q,L} ?_ ?_
  ·rintro i d H M' hd _ ⟨t,rfl,I,y,E⟩;have hi:i<w:=by
    have:=(P9.mp hd).1;simpa using this
   refine{_,rfl,?_};rw[aQ (af (aq rfl) (af (aq rfl) rfl))];refine aI (zy h n y `a w2 w4) ?_
   rintro _ F ⟨v,rfl,J,p4,U⟩;refine{t++[v],by rw[QG];rfl,λx S=>?_,p4.mono `a,E.trans U}
   rcases QH.mp S with z|z
   ·exact I x z
   ·rw[Qs.mp z];exact J
  ·rintro H M' hl ⟨t,rfl,I,y,E⟩;simp only[P8,Ru] at hl y;exact bI.mpr {ay (by rw[P8];omega),_,rfl,ay (n:=5) `d,.join at_ u t (1+price),rfl,{O,ho,⟨hl,I⟩,co},y.mono `a,E}
theorem xm (n:Nat){p B W Pl mo:Nat}(hp:aD M p B)(hB:B<=700000)(W2:2<=W)(W4:W<=4)(P1:1<=Pl)(P2:Pl<=2)(m1:1<=mo)(m6:mo<=6):ae (ag P (n+5) 34 [.cell p,nD W,nD Pl,nD mo] M) λd M'=>∃m:aK,d=m.d/\aC m/\m.words<=W/\m.places<=Pl/\m.deeds.length<=mo/\aD M' p (B+300)/\aZ p M M':=by
 refine aH h.law_machine rfl ?_;show ae (fT (ag P (n+4)) [some (.cell p),some (nD W),some (nD Pl),some (nD mo),none,none,none,none] M) _;unfold fT;have plus:∀{Z:Env}{M:Mem}{g:GE}{B c many:Nat}{rest:GS}{K:Fl->Mem->Prop}{i:Nat},Z[0]?.getD none=some (.cell p)->g Z M=.ok (nD many) M->aD M p B->B<=1000000->0<many->many<=10000000->(∀(v:Nat) (M':Mem),v<many->aD M' p (B+1)->aZ p M M'->ae (rest (Z.set i (some (nD (c+v)))) M') K)->ae (aY (aw (.one i) (ai false .add (gC (.int (c:Int))) (ah 31 (ag P (n+4)) #[aa 0,g]))) rest Z M) K:=by
  intro Z M g B c many rest K i e0 eg hp hB h0 h1 hk;refine cF (k:=λd M'=>∃v:Nat,d=nD (c+v)/\v<many/\aD M' p (B+1)/\aZ p M M') ?_ ?_
  ·rw[g5];simp only[cZ];refine aI (eB h (n+2) e0 eg hp hB h0 h1) ?_;rintro _ M2 ⟨v,rfl,hv,q,kk⟩;exact qj.mpr {v,by show D.int ((c:Int)+(v:Int))=D.int ((c+v:Nat):Int);rw[Int.natCast_add],hv,q,kk}
  ·rintro _ M' ⟨v,rfl,a,b,c⟩;exact hk v M' a b c
 refine plus rfl (IW (c:=1) (aq rfl) `a) hp (Qo hB `d) `a `a λw M1 hw q1 k1=>?_
 refine plus rfl (aq rfl) q1 (bd hB `d) P1 (Qo P2 (Qp rfl)) λpl M2 hpl q2 k2=>?_
 have pl2:=q2.lt;have K2:=k1.trans k2;have ML:=K2.len;have w2:2<=2+w:=R9 _ _;have w4:2+w<=4:=`a
 have l1:1<=1+pl:=R9 _ _;have l2:1+pl<=2:=`a
 generalize hW:2+w=w' at w2 w4;generalize hP:1+pl=p' at l1 l2;refine cF (k:=λd M'=>d=.cell M2.length/\M'=M2++[[]]) ?_ ?_
 ·simp only[sJ,cg];exact jb.mpr {Rv _,rfl,rfl}
 rintro _ _ ⟨rfl,rfl⟩;show ae (aY _ _ [some (.cell p),some (nD w'),some (nD p'),some (nD mo),some (.cell M2.length),none,none,none] (M2++[[]])) _;simp only[aA,dh,fA,g5,cZ];refine aI (eB h (n+2) rfl rfl q2.app (bd (k:=2) hB `d) m1 (Qo m6 (Qp rfl))) ?_
 rintro _ M3 ⟨many,rfl,hmany,q3,k3⟩;have e3:=k3.get (List.getElem?_concat_length) `a
 have K3:=K2.trans (aZ.app.trans k3);generalize hq:M2.length=q at *;refine qj.mpr {_,rfl,{`a,`a},?_}
 rw[show(1+(many:Int)).toNat=1+many by omega]
 refine dz (λi Z M'=>∃ds:List bb,M'[q]?=some (ds.map bb.d)/\ds.length=i/\(∀d∈ds,bZ w' p' d)/\aD M' p (B+3+i*45)/\aZ p M M'/\∃a b c,Z=[some (.cell p),some (nD w'),some (nD p'),some (nD mo),some (.cell q),a,b,c])
  (λ_ _ _ _=>rfl) {[],e3,rfl,(λ_ hd=>nomatch hd),q3,K3,none,none,none,rfl} ?_ ?_
 ·rintro i d Z M' hd ⟨ds,e4,hl,hds,q4,K4,a,b,c,rfl⟩;have hi:i<1+many:=by
   have:=(P9.mp hd).1;simpa using this
  have hi6:i<=5:=`a
  have hB4:B+3+i*45<=700228:=`a
  have hqM:=ML;have hpq:=pl2;refine{_,rfl,?_};refine dC h (n+2) rfl rfl q4 (Qo hB4 `d) `d `d λagain M5 ha q5 k5=>?_
  have e5:=k5.get e4 (Rj hpq);refine cF (k:=λd M'=>∃e:bb,d=e.d/\bZ w' p' e/\aD M' p (B+3+i*45+41)/\aZ p M5 M') ?_ ?_
  ·rw[aQ (af (aq rfl) (af (aq rfl) (af (aq rfl) rfl)))];exact aI (Cg h n q5 (bd hB4 `d) w2 w4 l1 l2) λd M' ⟨e,a,b,c,d⟩=>⟨e,a,b,c,d⟩
  rintro _ M6 ⟨e,rfl,he,q6,k6⟩;have e6:=k6.get e5 (Rj hpq);have K6:=(K4.trans k5).trans k6;have hsm:(ds.map bb.d).length<sz:=RG (show(ds.map bb.d).length<=50 by rw[P8,hl];omega) `d
  have fin:∀(e:bb) (M'':Mem) (x5 x6:Option D),bZ w' p' e->M''[q]?=some (ds.map bb.d)->aD M'' p (B+3+(i+1)*45)->aZ p M M''->
   ae (#v[e9 (aa 4) (aa 7)] [some (.cell p),some (nD w'),some (nD p'),some (nD mo),some (.cell q),x5,x6,some e.d] M'') λfl M'=>∃ρ',fl=.next ρ'/\∃ds:List bb,M'[q]?=some (ds.map bb.d)/\ds.length=i+1/\(∀d∈ds,bZ w' p' d)/\aD M' p (B+3+(i+1)*45)/\aZ p M M'/\∃a b c,ρ'=[some (.cell p),some (nD w'),some (nD p'),some (nD mo),some (.cell q),a,b,c]:=by
   intro e M'' x5 x6 he e7 q7 K7;simp only[aA,Jj,bo];refine{_,rfl,_,rfl,q,ds.map bb.d,rfl,e7,hsm,_,rfl,ds++[e],?_,by rw[QD,hl];rfl,λd hd=>?_,q7.setq hpq,K7.setq hqM,_,_,_,rfl}
   ·rw[QI (P9.mp e7).1,QG];rfl
   ·rcases QH.mp hd with z|z
    ·exact hds d z
    ·rw[Qs.mp z];exact he
  show ae (aY _ _ [some (.cell p),some (nD w'),some (nD p'),some (nD mo),some (.cell q),some d,some (nD again),some e.d] M6) _;have en:(ak (ax .ne (aa 4) (a7 false a9)):GT) [some (.cell p),some (nD w'),some (nD p'),some (nD mo),some (.cell q),some d,some (nD again),some e.d] M6=.ok (!ds.isEmpty) M6:=by
   refine bN ?_;unfold ax;show(cf M6 (bE .ne (.cell q) (.lst []) M6)).bind _=_;rw[ne_nil e6];rfl
  refine bH (kL (gn rfl) en) (λcc=>?_) λ_=>fin e M6 _ _ he e6 (q6.mono `a) K6
  have hpos:0<ds.length:=by
   rw[Qg] at cc;cases ds with
   |nil=>exact absurd cc.2 `d
   |cons _ _=>exact Nat.succ_pos _
  simp only[aA,mx,g5,nU,eC,iW,bR,cg,nV,cZ];have el:aJ .len #[aa 4] [some (.cell p),some (nD w'),some (nD p'),some (nD mo),some (.cell q),some d,some (nD again),some e.d] M6=.ok (nD ds.length) M6:=by
   refine aj ?_;simp only[bQ,bR,cg,bo];exact{_,rfl,oP.mpr {_,e6,by rw[P8],rfl}}
  show ae (ah 31 (ag P (n+4)) #[aa 0,aJ .len #[aa 4]] [some (.cell p),some (nD w'),some (nD p'),some (nD mo),some (.cell q),some d,some (nD again),some e.d] M6) _;refine aI (eB h (n+2) rfl el q6 (bd hB4 `d) hpos `a) ?_
  rintro _ M7 ⟨v,rfl,hv,q7,k7⟩;have e7:=k7.get e6 (Rj hpq);refine{(ds.getD v e).d,?_,1,rfl,rfl,rfl,?_}
  ·show(M7[q]?).bind (λds=>(cv ds.length (v:Int)).bind λj=>ds[j]?)=_;rw[e7];show(cv (ds.map bb.d).length (v:Int)).bind (λj=>(ds.map bb.d)[j]?)=_;rw[cY (by rw[P8];exact hv)]
   simp[Ri,hv]
  ·refine aI (Dn ?_) λx1 M3 hx=>{1,rfl,nD e.cost,iH,ay (n:=1) `d,hx}
   exact fin _ M7 _ _ (BB (hds _ (getD_mem hv)) (wN he)) e7 (q7.mono `a) (K6.trans k7)
 ·rintro Z M' ⟨ds,e4,hl,hds,q4,K4,a,b,c,rfl⟩;simp only[P8,Ru] at hl q4;refine jm ?_;simp only[iW,bR,cg,bQ,bo];refine{_,rfl,_,rfl,_,rfl,pB.mpr {_,e4,ay (n:=3) `d,⟨w',p',ds⟩,rfl,{w2,w4,l1,l2,?_,?_,hds},?_,?_,?_,q4.mono `a,K4}}
  ·show 1<=ds.length;omega
  ·show ds.length<=6;omega
  ·show w'<=W;omega
  ·show p'<=Pl;omega
  ·show ds.length<=mo;omega
omit h in
theorem Hd {g:GE}{Z:Env}{l:List bb}(e:g Z M=.ok (.tup (l.map bb.d)) M):aJ .len #[g] Z M=.ok (nD l.length) M:=by
 refine aj ?_;simp only[bQ];rw[af e rfl,aO];exact{congrArg (λ(n:Nat)=>D.int n) (P8 _),rfl}
theorem F4 (h35:P 35=some {3,6,fS})(n:Nat){p B mo:Nat}{m:aK}(hm:aC m)(hp:aD M p B)(hB:B<=700000)(O:mo<=40):ae (ag P (n+3) 35 [.cell p,m.d,nD mo] M) λd M'=>∃r:List Nat,d=.lst (r.map nD)/\NM m r/\r.length<=mo/\aD M' p (B+50)/\aZ p M M':=by
 refine aH h35 rfl ?_;show ae (fS (ag P (n+2)) [some (.cell p),some m.d,some (nD mo),none,none,none] M) _;unfold fS;refine dC h n rfl rfl hp `a `d `d λkind J _ Y k1=>?_
 refine cF (k:=λd M'=>∃v:Nat,d=nD v/\v<=mo/\aD M' p (B+2)/\aZ p M M') ?_ ?_
 ·show ae (fC _ _ _ [some (.cell p),some m.d,some (nD mo),some (nD kind),none,none] J) _;have t0:(ak (ax .eq (aa 3) (gI 0)):GT) [some (.cell p),some m.d,some (nD mo),some (nD kind),none,none] J=.ok ((kind:Int)==((0:Nat):Int)) J:=gn rfl;rw[E7,t0,aO];split
  ·exact{mo,rfl,Qe _,Y.mono `a,k1}
  ·refine aI (eB h n (many:=mo+1) rfl rfl Y `a (Nat.succ_pos _) `a) λd M' ⟨v,e,Q,a,b⟩=>{v,e,Nat.le_of_lt_succ Q,a,k1.trans b}
 intro x M2 R;show ae (aY _ _ [some (.cell p),some m.d,some (nD mo),some (nD kind),some x,none] M2) _;obtain⟨many,ex,F,q2,k2⟩:=R;rw[ex];clear ex;simp only[aA,mx,dm,fA,bo];have S:=Qo F O;refine{_,rfl,_,rfl,{Int.le_trans `d (Int.natCast_nonneg _),Int.lt_of_le_of_lt (Int.ofNat_le.mpr S) `d},?_}
 rw[RO];refine comp_map (λi y M'=>∃t:List Nat,y=t.map nD/\(∀x∈t,x<m.deeds.length)/\aD M' p (B+2+i)/\aZ p M M') (ay (by rw[P8,Ru];omega)) (λ_ _ _ _=>rfl) {[],rfl,(λ_ z=>nomatch z),q2,k2} ?_ ?_
 ·rintro i d y M' hd _ ⟨t,rfl,I,u,E⟩;have W:i<many:=by
   have:=(P9.mp hd).1
   rwa [P8,Ru] at this
  refine{_,rfl,?_};refine aI (eB h n rfl (Hd (bq (aq rfl) rfl N7)) u `a hm.d1 (by have:=hm.d6;omega)) ?_
  rintro _ U ⟨v,rfl,Q,p4,k4⟩;refine{t++[v],by rw[QG];rfl,λx R=>?_,p4,E.trans k4}
  rcases QH.mp R with z|z
  ·exact I x z
  ·rw[Qs.mp z];exact Q
 ·rintro y M' hl ⟨t,rfl,I,u,E⟩;rw[P8,P8,Ru] at hl;rw[P8,Ru] at u;have q3:=u.mono (show B+2+many<=B+50 by omega)
  have X:=E;have hl:=Nat.le_of_eq hl;refine bI.mpr {ay (by rw[P8];omega),?_}
  show ae (aY _ _ [some (.cell p),some m.d,some (nD mo),some (nD kind),some (nD many),some (.lst (t.map nD))] M') _;refine bH (gn rfl) (λ_=>?_) λ_=>bC (aq rfl) {t,rfl,{`a,I},`a,q3,X}
  refine cF (k:=λd U=>U=M'/\d=.lst ((((List.replicate many (t.take 2)).flatten).take many).map nD)) ?_ ?_
  ·have l2:((t.map nD).take 2).length<=2:=by rw[RA];exact Nat.min_le_left _ _
   simp only[nU,g5,bo,cZ];refine{_,rfl,rfl,rfl,(zK (a:=2)).mpr {ay `a,_,rfl,Kf.mpr {{?_,`a,`a},bI.mpr {?_,?_}}}}
   ·exact Qo (Nat.mul_le_mul l2 (show many<=40 by omega)) `d
   ·rw[RO,List.length_flatten,List.map_replicate,List.sum_replicate_nat];exact Qo (Nat.mul_le_mul (show many<=40 by omega) l2) `d
   ·refine{_,rfl,rfl,rfl,zK.mpr {ay (by rw[RA];exact Qo (Nat.min_le_left _ _) `a),rfl,?_}}
    rw[RO,List.map_take,List.map_flatten,List.map_replicate,List.map_take]
  rintro _ _ ⟨rfl,rfl⟩;have lm:(((List.replicate many (t.take 2)).flatten).take many).length<=many:=by rw[RA];exact Nat.min_le_left _ _
  refine Jg.mpr (bt.mpr (bC (aq rfl) {_,rfl,{`a,λi W=>?_},`a,q3,X}))
  obtain⟨l,L,H⟩:=List.mem_flatten.mp (RQ W);rw[(List.mem_replicate.mp L).2] at H;exact I i (RQ H)
end
def Gj {a b:Nat}:ae (gK false (.frz xs) (.int a) (.int b) M) k↔(cut xs (min a xs.length) (min b xs.length)).length<=sz/\k (.lst (cut xs (min a xs.length) (min b xs.length))) M:=by
 show ae (match aU xs.length 0 (.int a),aU xs.length xs.length (.int b) with|some l,some h=>bf false (cut xs l h) M|_,_=>.bad) k↔_
 have e1:aU xs.length 0 (.int a)=some (min a xs.length):=by
  show some _=_;rw[if_neg `a];simp
 have e2:aU xs.length xs.length (.int b)=some (min b xs.length):=by
  show some _=_;rw[if_neg `a];simp
 rw[e1,e2];exact bI
def Cj {b:Nat}:ae (gK false (.frz xs) .non (.int b) M) k↔(cut xs 0 (min b xs.length)).length<=sz/\k (.lst (cut xs 0 (min b xs.length))) M:=by
 show ae (match aU xs.length 0 D.non,aU xs.length xs.length (.int b) with|some l,some h=>bf false (cut xs l h) M|_,_=>.bad) k↔_
 have e2:aU xs.length xs.length (.int b)=some (min b xs.length):=by
  show some _=_;rw[if_neg `a];simp
 rw[e2];exact bI
def wM {j u:Type}(f:j->u)(l:List j)(a b:Nat):cut (l.map f) a b=(cut l a b).map f:=by simp[cut,List.map_take,List.map_drop]
def qU {j:Type}(l:List j)(a b:Nat):(cut l a b).length<=l.length:=by simp[cut];omega
section
variable{P:Nat->Option Df}(h:HasP0 P){M:Mem}
include h
theorem F6 (n:Nat){ns:List Int}(hn:ns.length<=63):ae (ag P (n+1) 29 [.frz (ns.map D.int)] []) λd M'=>d=.cell 1/\aD M' 1 0:=by
 refine aH h.law_open rfl ?_;simp[j9,cJ];refine(Cj).mpr {?_,?_}
 ·exact ay (Qo (qU _ _ _) `o)
 simp only[CO,jb];refine{ay (Qo (qU _ _ _) `o),(Gj).mpr {ay (Qo (qU _ _ _) `o),rfl,?_}}
 rw[wM,wM];simp only[P8,List.length_nil,Sn];have j:min 63 ns.length=ns.length:=`a
 rw[j];refine dz (λi v M'=>∃l:List Int,M'=[l.map D.int]/\l.length=min 12 ns.length/\∃a b,v=[some (.frz (ns.map D.int)),some (.cell 0),a,b]) (λ_ _ _ _=>rfl) {cut ns 0 (min 12 ns.length),rfl,by simp[cut],none,none,rfl} ?_ ?_
 ·rintro i d v M' hd ⟨l,rfl,hl,a,b,rfl⟩;rw[mT,Qv] at hd;cases e:(cut ns (min 12 ns.length) ns.length)[i]? with
  |none=>rw[e] at hd;cases hd
  | some x =>
    rw[e] at hd;have hd:=Qr hd;subst hd;have B:=(P9.mp e).1;have E:12<ns.length:=by
     by_cases c:12<ns.length
     ·exact c
     ·have:min 12 ns.length=ns.length:=`a
      rw[this] at B;simp[cut] at B
    have u:l.length=12:=`a
    have r1:=Se (i:Int) (show(12:Int)≠0 by decide)
    have r2:=Sb (i:Int) (show(0:Int)<12 by decide)
    obtain⟨y,z⟩:=qJ r1 (by rw[u];exact r2)
    obtain⟨k,F⟩:∃k:Nat,(i:Int) % 12=(k:Int):={((i:Int) % 12).toNat,`a}
    refine{_,rfl,?_};simp;rw[F] at z ⊢;have H:k<l.length:=`a
    refine{_,z,?_};refine{l.map D.int,rfl,k,?_,l.set k (y+x),?_,by simp[hl]}
    ·simpa using cY H
    ·simp[List.map_set]
 ·rintro v M' ⟨l,rfl,hl,a,b,rfl⟩;simp;exact{`d,{0,l,0,0,rfl,rfl,`d,`d,`d,`d}}
end
abbrev aB:=List (List Nat)
def bD (b:aB):D:=.tup (b.map av)
def aV (m:aK)(i:Nat)(b:aB):aB:=b.map (bP (cj m i))
def cst (m:aK)(i:Nat):Nat:=(cj m i).cost
inductive mj (m:aK):Nat->aB->Prop
 |start:mj m 0 (aS m)
 |step {q:Nat}{b:aB}{i:Nat}:mj m q b->i<m.deeds.length->mj m (q+cst m i) (aV m i b)
def bz (m:aK)(q:Nat)(b:aB):Prop:=mj m q b/\∀q'<q,¬ mj m q' b
section
variable{m:aK}{q q' p:Nat}{b:aB}
def g6 (hm:aC m)(hi:i<m.deeds.length):1<=cst m i/\cst m i<=3:=wN (gH hm hi)
def vM (h:mj m q b):(q=0/\b=aS m)\/∃i j,i<m.deeds.length/\cst m i<=q/\mj m (q-cst m i) j/\b=aV m i j:=by
 cases h with
 |start=>exact .inl ⟨rfl,rfl⟩
 | @step q b i h u=>exact .inr {i,b,u,Nat.le_add_left _ _,by rw[Nat.add_sub_cancel];exact h,rfl}
def iD (hm:aC m)(h:mj m q b):b.length=(aS m).length/\∀s∈b,cU m s:=by
 induction h with
 |start=>exact⟨rfl,n8⟩
 | step _ u j =>
   refine{by unfold aV;rw[P8];exact j.1,λs hs=>?_}
   obtain⟨t,v,rfl⟩:=Qh.mp hs;exact rV (gH hm u) (j.2 t v)
def mI:∀{q:Nat},mj m q b->∃q',q'<=q/\bz m q' b:=by
 intro q;induction q using Nat.strongRecOn with
 | ind q j =>
   intro h;by_cases z:∃q',q'<q/\mj m q' b
   ·obtain⟨q',h1,h2⟩:=z;obtain⟨r,h3,h4⟩:=j q' h1 h2;exact{r,Qo h3 (Sf h1),h4}
   ·exact{q,Qe _,h,λq' h1 h2=>z ⟨q',h1,h2⟩}
def xN (h:bz m q b)(h':bz m q' b):q=q':=by
 rcases Nat.lt_trichotomy q q' with z|z|z
 ·exact absurd h.1 (h'.2 q z)
 ·exact z
 ·exact absurd h'.1 (h.2 q' z)
def d8 (hm:aC m):bz m 0 b↔b=aS m:=by
 constructor
 ·intro h;rcases vM h.1 with⟨_,e⟩|⟨i,u,j,v,_⟩
  ·exact e
  ·have:=(g6 hm j).1;omega
 ·rintro rfl;exact{.start,λq' h=>absurd h (Ry _)}
def gU (hm:aC m)(E:0<p):bz m p b↔(∃i j,i<m.deeds.length/\cst m i<=p/\bz m (p-cst m i) j/\b=aV m i j)/\∀q<p,¬ bz m q b:=by
 constructor
 ·intro h;refine{?_,λq y z=>h.2 q y z.1};rcases vM h.1 with⟨e,_⟩|⟨i,j,u,v,h1,rfl⟩
  ·omega
  ·refine{i,j,u,v,?_,rfl};obtain⟨r,hr,hl⟩:=mI h1;have h2:¬ r+cst m i<p:=λz=>h.2 _ z (.step hl.1 u);have e:r=p-cst m i:=`a
   rw[<- e];exact hl
 ·rintro⟨⟨i,j,u,v,h1,rfl⟩,h2⟩;refine{by have:=mj.step h1.1 u;rwa [Nat.sub_add_cancel v] at this,λq' B z=>?_}
  obtain⟨r,hr,hl⟩:=mI z;exact h2 r `a hl
def xO (hm:aC m)(B:0<p)(h:∀q,q<p->p<=q+3->∀b,¬ bz m q b):∀q,p<=q->∀b,¬ bz m q b:=by
 intro q;induction q using Nat.strongRecOn with
 | ind q v =>
   intro E b hl;obtain⟨⟨i,j,u,y,h1,_⟩,_⟩:=(gU hm `a).mp hl
   have c:=g6 hm u;by_cases z:p<=q-cst m i
   ·exact v _ `a z j h1
   ·exact h _ `a `a j h1
def Ak {j u:Type}{f:j->u}:∀{l:List j},(l.map f).Nodup->l.Nodup
 |[],_=>.nil
 | a :: l, h => by
   rw[Q9,Rn] at h;exact List.nodup_cons.mpr {λz=>h.1 (Q6 z),Ak h.2}
def len_sub {y:Type}[DecidableEq y]:∀{l j:List y},l.Nodup->(∀x∈l,x∈j)->l.length<=j.length
 |[],_,_,_=>Rv _
 | a :: l, j, h, s => by
   have u:=s a QB;have h1:=len_sub (Rn.mp h).2 λx v=>by
    have ne:x≠a:=λe=>(Rn.mp h).1 (by rw[<- e];exact v)
    exact(List.mem_erase_of_ne ne).mpr (s x (Qu _ v))
   rw[List.length_erase_of_mem u] at h1;have h2:=List.length_pos_of_mem u;rw[RB];omega
structure cz (m:aK) (p:Nat) (l:List (aB×Nat)):Prop where
 nd:(l.map (·.1)).Nodup
 sound:∀x∈l,bz m x.2 x.1/\x.2<p
 all:∀q b,q<p->bz m q b->(b,q)∈l
def kc (m:aK)(p:Nat):Prop:=∃l:List (aB×Nat),(l.map (·.1)).Nodup/\(∀x∈l,bz m x.2 x.1/\x.2<p)/\255<l.length
def cz.mono (h:cz m p l)(v:p<=q)(he:∀k b,p<=k->k<q->¬ bz m k b):cz m q l:=
 {h.nd,λx j=>{(h.sound x j).1,QE (h.sound x j).2 v},λk b u hl=>by
  by_cases z:k<p
  ·exact h.all k b z hl
  ·exact absurd hl (he k b `a u)}
end
def Sub.keep (h:Sub M M'):aZ p M M':={h.len,λk j _=>h.at' k j}
def Sub.pen (h:Sub M M')(u:aD M p B):aD M' p B:=by
 obtain⟨c,j,a,st,e1,e2,r⟩:=u.ex;exact{c,j,a,st,h.get e1,h.get e2,r}
def Bi:∀l:List Nat,dE (l.map nD) (l.map nD)=true
 |[]=>rfl
 | i :: l => by
   show(bJ (nD i) (nD i)&&dE (l.map nD) (l.map nD))=true;rw[Bi l];simp[nD,Fi]
def H9 (l:List Nat):bJ (av l) (av l)=true:=Bi l
structure HasB (P:Nat->Option Df):Prop where
 after:P 41=some {2,4,jE}
 begins:P 42=some {1,1,iN}
@[simp] theorem CN:ae (gA (.list m) [.tup ds] M) k↔ae (bf m ds M) k:=RF
def cn (e:mR (.str x) (.str y)=some b)(M:Mem):bE .eq (.str x) (.str y) M=some b:=by
 show mQ M (.str x) (.str y)=some b;unfold mQ;rw[show mR (view M (.str x)) (view M (.str y))=some b from e]
def ya (hd:bZ m.words m.places d)(hs:cU m s):bP d s=s.set d.at' (dY d s):=by
 have a0:=sP hd;rw[List.set_eq_take_append_cons_drop,if_pos (by rw[hs.1];exact a0)]
 simp[bP]
def dX (u:Z[0]?=some (some D0))(j:bV D0 (.int 0) M=some (.str nm))(c:bE .eq (.str nm) (.str w) M=some false)(h:ae (rest Z M) k):ae (aY (aT (ak (ax .eq (ao (aa 0) (gI 0)) (gC (.str w)))) A aF) rest Z M) k:=by
 simp[u,j,c,h]
def nu (u:Z[0]?=some (some D0))(j:bV D0 (.int 0) M=some (.str nm))(c:bE .eq (.str nm) (.str w) M=some true)(h:ae (A Z M) (gG rest k)):ae (aY (aT (ak (ax .eq (ao (aa 0) (gI 0)) (gC (.str w)))) A aF) rest Z M) k:=by
 simp[u,j,c,h]
section
variable{P:Nat->Option Df}(h:HasB P){M:Mem}
include h
set_option maxHeartbeats 2000000 in
theorem iZ (n:Nat)(ha:a<s.length)(hz:s.length<=100)(j:∀M,bV D0 (.int 0) M=some (.str nm))(e1:∀M,bV D0 (.int 1) M=some (nD a))
 (I E F H:Bool) (U:∀M,bE .eq (.str nm) (.str "turn") M=some I) (O:∀M,bE .eq (.str nm) (.str "join") M=some E) (Q:∀M,bE .eq (.str nm) (.str "move") M=some F) (R:∀M,bE .eq (.str nm) (.str "put") M=some H)
 (hb:(I=true/\E=false/\F=false/\H=false/\∀M,∃t,bV D0 (.int 2) M=some t/\bV t (nD (s.getD a 0)) M=some (nD v))
  \/(I=false/\E=true/\F=false/\H=false/\∀M,∃t u o,bV D0 (.int 3) M=some t/\bV t (nD (s.getD a 0)) M=some u/\bV D0 (.int 2) M=some (nD o)/\o<s.length/\bV u (nD (s.getD o 0)) M=some (nD v))
  \/(I=false/\E=false/\F=true/\H=false/\∀M,∃o,bV D0 (.int 2) M=some (nD o)/\o<s.length/\v=s.getD o 0)
  \/(I=false/\E=false/\F=false/\H=true/\∀M,bV D0 (.int 2) M=some (nD v))) :
 ag P (n+1) 41 [D0,av s] M=.ok (av (s.set a v)) (M++[(s.set a v).map nD]):=by
 refine aj (aH h.after rfl ?_);have S:∀M i,i<s.length->bV (av s) (nD i) M=some (nD (s.getD i 0)):=λM i hi=>gX hi;have T:ae (gA (.list true) [av s] M) (λx L=>x=.cell M.length/\L=M++[s.map nD]):=by
  show ae (gA (.list true) [.tup (s.map nD)] M) _;rw[CN,jb];exact{ay `o,rfl,rfl}
 simp only[jE,aA,mx,bQ,eC,cZ,bR,cg,bo,Q9,List.map_nil,List.cons_append,Sn,List.getElem?_cons_zero,List.getElem?_cons_succ,Option.getD_some,Option.some.injEq,exists_eq_left',bt];refine aI T λx L hx=>?_;obtain⟨rfl,rfl⟩:=hx;have q:=S (M++[s.map nD]) a ha;refine{_,rfl,_,rfl,_,e1 _,_,q,?_};have y:∀Z:Env,Z[2]?=some (some (.cell M.length))->ae (#v[aP (aJ .tuple #[aa 2])] Z ((M++[s.map nD]).set M.length ((s.map nD).set a (nD v)))) (ie λx L=>x=av (s.set a v)/\L=M++[(s.set a v).map nD]):=λZ Y=>by
  simp[Y];simp[av,List.map_set]
 have W:(M++[s.map nD])[M.length]?=some (s.map nD):=`s
 have X:cv (s.map nD).length (a:Int)=some a:=cY (by simpa using ha)
 rcases hb with⟨rfl,rfl,rfl,rfl,z⟩|⟨rfl,rfl,rfl,rfl,z⟩|⟨rfl,rfl,rfl,rfl,z⟩|⟨rfl,rfl,rfl,rfl,z⟩
 ·obtain⟨t,B,J⟩:=z (M++[s.map nD]);refine aA.mp (nu rfl (j _) (U _) ?_);simp only[aA,kj,eC,bo,cZ];refine{_,rfl,_,B,_,rfl,_,J,_,rfl,_,rfl,_,e1 _,_,_,_,_,rfl,rfl,W,X,?_};exact dX rfl (j _) (O _) (dX rfl (j _) (Q _) (dX rfl (j _) (R _) (y _ rfl)))
 ·obtain⟨t,u,o,B,J,v3,v4,v5⟩:=z (M++[s.map nD]);refine aA.mp (dX rfl (j _) (U _) (nu rfl (j _) (O _) ?_));simp only[aA,kj,eC,bo,cZ];refine{_,rfl,_,B,_,rfl,_,J,_,rfl,_,rfl,_,v3,_,S _ _ v4,_,v5,_,rfl,_,rfl,_,e1 _,_,_,_,_,rfl,rfl,W,X,?_};exact dX rfl (j _) (Q _) (dX rfl (j _) (R _) (y _ rfl))
 ·obtain⟨o,B,J,v3⟩:=z (M++[s.map nD]);subst v3;refine aA.mp (dX rfl (j _) (U _) (dX rfl (j _) (O _) (nu rfl (j _) (Q _) ?_)));simp only[aA,kj,eC,bo,cZ];refine{_,rfl,_,rfl,_,B,_,S _ _ J,_,rfl,_,rfl,_,e1 _,_,_,_,_,rfl,rfl,W,X,?_};exact dX rfl (j _) (R _) (y _ rfl)
 ·have B:=z (M++[s.map nD]);refine aA.mp (dX rfl (j _) (U _) (dX rfl (j _) (O _) (dX rfl (j _) (Q _) (nu rfl (j _) (R _) ?_))));simp only[aA,kj,eC,bo,cZ];refine{_,rfl,_,B,_,rfl,_,rfl,_,e1 _,_,_,_,_,rfl,rfl,W,X,?_};exact y [some D0,some (av s),some (.cell M.length),some (nD (s.getD a 0))] rfl
theorem tB (n:Nat)(hm:aC m)(hd:bZ m.words m.places d)(hs:cU m s):ag P (n+1) 41 [d.d,av s] M=.ok (av (bP d s)) (M++[(bP d s).map nD]):=by
 rw[ya hd hs];have l0:=hs.1;have p2:=hm.p2;have g:∀i,i<m.places->s.getD i 0<m.words:=λi u=>hs.2 _ (getD_mem `a)
 have a0:=sP hd;have j:d.at'<s.length:=`a
 cases d with
 |turn a t c=>exact iZ h n j `a (λ_=>rfl) (λ_=>rfl) true false false false (cn `k) (cn `k) (cn `k) (cn `k) (.inl {rfl,rfl,rfl,rfl,λM=>{av t,rfl,gX (by rw[hd.2.1.1];exact g _ hd.1)}})
 | join a o t c =>
   refine iZ h n j `a (λ_=>rfl) (λ_=>rfl) false true false false (cn `k) (cn `k) (cn `k) (cn `k) (.inr (.inl {rfl,rfl,rfl,rfl,λM=>{.tup (t.map av),av (t.getD (s.getD a 0) []),o,rfl,AU (by rw[hd.2.2.1.1];exact g _ hd.1),rfl,by rw[l0];exact hd.2.1,gX ?_}}))
   rw[(hd.2.2.1.2 _ (getD_mem (by rw[hd.2.2.1.1];exact g _ hd.1))).1]
   exact g _ hd.2.1
 |move a o c=>exact iZ h n j `a (λ_=>rfl) (λ_=>rfl) false false true false (cn `k) (cn `k) (cn `k) (cn `k) (.inr (.inr (.inl {rfl,rfl,rfl,rfl,λM=>{o,rfl,by rw[l0];exact hd.2.1,rfl}})))
 |put a x c=>exact iZ h n j `a (λ_=>rfl) (λ_=>rfl) false false false true (cn `k) (cn `k) (cn `k) (cn `k) (.inr (.inr (.inr {rfl,rfl,rfl,rfl,λM=>rfl})))
theorem fB (n:Nat)(hm:aC m):ag P (n+1) 42 [m.d] M=.ok (.lst ((aS m).map av)) M:=by
 refine aj (aH h.begins rfl ?_);simp[iN];have p1:=hm.p1;have p2:=hm.p2;have w2:=hm.w2;have w4:=hm.w4;refine{_,rfl,?_};have F:m.places=1\/m.places=2:=`a
 have z:m.words=2\/m.words=3\/m.words=4:=`a
 rcases F with u|u
 ·refine .inr {by rw[u];rfl,_,rfl,_,rfl,`a,?_}
  refine eE (ds:=(List.range m.words).map λ(k:Nat)=>D.int (k:Int)) (λd=>.tup [d]) (ay `o) `s (λd hd=>{_,rfl,aj (by simp;exact ay `a)}) {ay `o,?_,rfl}
  unfold aS;rw[u];rcases z with e|e|e<;>rw[e]<;>rfl
 ·refine .inl {by rw[u];rfl,_,rfl,_,rfl,?_}
  simp;refine{`a,?_}
  have B:((m.words:Int)*(m.words:Int)).toNat=m.words*m.words:=by rw[<- Int.natCast_mul];rfl
  have H:=Nat.mul_le_mul w4 w4;rw[B];refine{{by rw[<- Int.natCast_mul];omega,by rw[<- Int.natCast_mul];omega},?_}
  have y:∀k:Nat,(aM #[ai false oE.fdiv (aa 0) (ao (aa 1) (gC (D.int 0))),ai false oE.mod (aa 0) (ao (aa 1) (gC (D.int 0)))]) [some (nD k),some m.d] M=.ok (av [k / m.words,k % m.words]) M:=by
   intro k;refine aj ?_;simp;refine{_,rfl,?_};simp;refine{`a,_,rfl,?_}
   simp;exact{`a,ay `a,rfl}
  refine comp_map (λi j v=>v=M/\j=((List.range (m.words*m.words)).take i).map λk=>av [k / m.words,k % m.words]) (ay (by simpa using by omega)) (λ_ _ _ _=>rfl) ⟨rfl,rfl⟩ ?_ ?_
  ·rintro i d j v hd _ ⟨rfl,rfl⟩;have E:=(P9.mp hd).1;simp at E;have:d=nD i:=by
    rw[Qv,List.getElem?_range `a] at hd
    exact(Qr hd).symm
   subst this;refine{_,rfl,?_};rw[show List.set [none,some m.d] 0 (some (nD i))=[some (nD i),some m.d] from rfl,y i];refine{rfl,?_};rw[Ro,List.getElem?_range `a]
   simp
  ·rintro j v _ ⟨rfl,rfl⟩;simp;refine{ay `a,?_}
   unfold aS;rw[u];rcases z with e|e|e<;>rw[e]<;>rfl
end
section
variable{Z:Env}{M:Mem}{a b d:GE}{k:D->Mem->Prop}{kw:Walk->Mem->Prop}{kf:Fl->Mem->Prop}
@[simp] theorem PQ:ae (Jp m (.lst xs) M) k↔ae (bf m xs.reverse M) k:=RF
@[simp] theorem PN:ae (Jp m (.tup xs) M) k↔k (.tup xs.reverse) M:=RF
end
def LM (i j:Nat):bJ (nD i) (nD j)=decide (i=j):=by
 show((i:Int)==(j:Int))=_;rw[Rb];simp;omega
def Bl:∀l r:List Nat,dE (l.map nD) (r.map nD)=decide (l=r)
 |[],[]=>rfl
 |[],_::_=>rfl
 |_::_,[]=>rfl
 | i :: l, j :: r => by
   show(bJ (nD i) (nD j)&&dE (l.map nD) (r.map nD))=_;rw[LM,Bl l r,Rb];simp
def u1 (l r:List Nat):bJ (av l) (av r)=decide (l=r):=Bl l r
def Bj:∀l r:List (List Nat),dE (l.map av) (r.map av)=decide (l=r)
 |[],[]=>rfl
 |[],_::_=>rfl
 |_::_,[]=>rfl
 | i :: l, j :: r => by
   show(bJ (av i) (av j)&&dE (l.map av) (r.map av))=_;rw[u1,Bj l r,Rb];simp
def ends (m:aK)(r:List Nat):List (List Nat):=(aS m).map (jw m r)
section
variable{P:Nat->Option Df}(h:HasB P){M:Mem}
include h
theorem vl (he:P 44=some {2,5,ft})(n:Nat)(H:iz M x r)(hm:aC m)(hr:∀i∈r,i<m.deeds.length):ae (ag P (n+2) 44 [m.d,x] M) λd M'=>d=.tup ((ends m r).map av)/\Sub M M':=by
 have W:=fB h n (M:=M++[[]]) hm;have bl:=bX hm;refine aH he rfl ?_;simp[ft,W];refine{rfl,?_};generalize S:M.length=q;refine dz (λi Z M'=>M'[q]?=some (((aS m).take i).map λs=>av (jw m r s))/\Sub M M'/\q<M'.length/\∃Q y,Z=[some m.d,some x,some (.cell q),Q,y]) (λ_ _ _ _=>rfl) {by subst S;simp,Sub.app,by subst S;simp,none,none,rfl} ?_ ?_
 ·rintro i d Z M' hd ⟨E,I,B,Q,y,rfl⟩;rw[Qv] at hd;cases e:(aS m)[i]? with
  |none=>rw[e] at hd;cases hd
  | some s =>
    rw[e] at hd;cases Qr hd;have hs:=n8 s (QC e);refine{_,rfl,?_};simp[H.is];refine dz (λj Z v=>v[q]?=some (((aS m).take i).map λs=>av (jw m r s))/\Sub M v/\q<v.length/\∃y,Z=[some m.d,some x,some (.cell q),some (av (jw m (r.take j) s)),y]) (λ_ _ _ e=>(H.sub e.2.1).seq) ⟨E,I,B,y,rfl⟩ ?_ ?_
    ·rintro j Y Z v z ⟨L,J,u,X,rfl⟩;rw[Qv] at z;cases F:r[j]? with
     |none=>rw[F] at z;cases z
     | some k =>
       rw[F] at z;cases Qr z;have R:=hr k (QC F);have O:cU m (jw m (r.take j) s):=qR hm (λx H=>hr x (RQ H)) hs;have U:=tB h n (M:=v) hm (gH hm R) O;refine{_,rfl,?_};simp[-jc,N7,uu R,U];exact{by rw[Qi u,L,List.map_take],J.trans Sub.app,`a,by rw[Ro,F];simp[oY,jw]}
    ·rintro Z v ⟨L,J,u,X,rfl⟩;simp[L];exact{RG (show _<=50 by omega) `d,by rw[QI u,Ro];simp[e],J.setq `a,u}
 ·rintro Z M' ⟨E,I,B,Q,y,rfl⟩;rw[P8,List.take_length] at E;simp[E,ends,Function.comp_def,I]
theorem Cc (he:P 44=some {2,5,ft})(n:Nat)(hm:aC m)(hr:∀i∈r,i<m.deeds.length):ae (ag P (n+2) 44 [m.d,.lst (r.map nD)] M) λd M'=>d=.tup ((ends m r).map av)/\Sub M M':=vl h he n .l hm hr
end
def oU:∀s:List Nat,intsOf (s.map nD)=some (s.map λ(n:Nat)=>(n:Int))
 |[]=>rfl
 |a::s=>by show(intsOf (s.map nD)).map _=_;rw[oU s];rfl
def we (s:List Nat):isKey 77 (av s)=true:=by
 show(intsOf (s.map nD)).isSome=true;rw[oU];rfl
def AH:∀b:aB,jP (b.map av)=some (b.map λs=>s.map λ(n:Nat)=>(n:Int))
 |[]=>rfl
 | s :: b => by
   show((intsOf (s.map nD)).bind λk=>(jP (b.map av)).map (k::·))=_;rw[oU,AH b];rfl
def iw (b:aB):isKey 78 (bD b)=true:=by
 show(jP (b.map av)).isSome=true;rw[AH];rfl
def sM (a b:aB):bJ (bD a) (bD b)=decide (a=b):=Bj a b
section
variable{Z:Env}{M:Mem}{a b:GE}{k:D->Mem->Prop}
def jx {c:Int}(e:M[j]?=some (.int c::es))(h:c=77\/c=78):bB M (au j)=some (c,es):=by
 unfold bB;rw[if_pos (show 5000<=au j from R9 _ _),show au j-5000=j from Rk _ _,e];exact if_pos h
def lI {h:Type}(f g:h->D)(l:List h)(x:D):cw (l.map λy=>.tup [f y,g y]) x=(l.find? λy=>bJ (f y) x).map g:=by
 unfold cw;rw[List.find?_map,Option.map_map];rfl
def pV {x:D}{o:Nat}{y d:D}(h:a Z M=.ok (.fn o) M)(u:b Z M=.ok y M)(e:getD M o y=some d):b6 a b Z M=.ok d M:=by
 unfold b6;rw[h];show(b Z M).bind _=_;rw[u];show cf M (getD M o y)=_;rw[e];rfl
end
def fb (m:aK)(d:bb):List D:=.int 77::(aS m).map λs=>.tup [av s,av (bP d s)]
section
variable{P:Nat->Option Df}{M:Mem}{m:aK}{d:bb}{j:Nat}
def oR (e:M[j]?=some (fb m d))(hm:aC m)(hs:cU m s):getD M (au j) (av s)=some (av (bP d s)):=by
 unfold getD;rw[jx e (.inl rfl)];show(if isKey 77 (av s)=true then cw ((aS m).map λs=>.tup [av s,av (bP d s)]) (av s) else none)=_;rw[if_pos (we s),lI av λs=>av (bP d s)];have e2:((aS m).find? λy=>bJ (av y) (av s))=some s:=by
  cases h:(aS m).find? λy=>bJ (av y) (av s) with
  |none=>exact absurd (H9 s) (Sl.mp h s (u3 hm hs))
  | some y =>
    have:=List.find?_some h;rw[u1] at this;rw[of_decide_eq_true this]
 rw[e2];rfl
def zD (h152:P 152=some {2,2,dP})(n:Nat)(e:M[j]?=some (fb m d))(hm:aC m)(hl:b.length<=16)(h:∀s∈b,cU m s):ag P (n+1) 152 [.fn (au j),bD b] M=.ok (bD (b.map (bP d))) M:=by
 refine aj (aH h152 rfl ?_);simp only[dP,aA,cH,bQ,bR,dm,cg,fO,bo];refine{_,rfl,rfl,?_};refine eE (λx=>(getD M (au j) x).getD .non) (ay `o) rfl ?_ ?_
 ·intro x u;obtain⟨s,hs,rfl⟩:=Qh.mp u;refine{_,rfl,?_};rw[oR e hm (h s hs)];exact pV (x:=.non) rfl rfl (oR e hm (h s hs))
 ·have e2:(b.map av).map (λx=>(getD M (au j) x).getD .non)=(b.map (bP d)).map av:=by
   rw[Q1,Q1];refine RC λs hs=>?_;show(getD M (au j) (av s)).getD .non=_;rw[oR e hm (h s hs)];rfl
  rw[e2];exact bI.mpr {ay `o,rfl,rfl}
end
def vW {u F:Type}{f:u->List F}:∀{l:List u},l.Nodup->(∀a,(f a).Nodup)->(∀a b x,a≠b->x∈f a->x∉f b)->(l.flatMap f).Nodup
 |[],_,_,_=>`s
 | a :: l, h, h1, h2 => by
   rw[List.flatMap_cons,R4];rw[Rn] at h;refine{h1 a,vW h.2 h1 h2,λx B y E e=>?_};subst e;obtain⟨b,v,j⟩:=List.mem_flatMap.mp E;exact h2 a b x (λz=>h.1 (z ▸ v)) B j
def vV (s:List Nat):∀{l:List Nat},l.Nodup->(l.map λx=>s++[x]).Nodup
 |[],_=>`s
 | a :: l, h => by
   rw[Rn] at h;rw[Q9,Rn];refine{λz=>?_,vV s h.2};obtain⟨b,j,e⟩:=Qh.mp z;have e:b=a:=by simpa using e
   exact h.1 (e ▸ j)
def u5 (w:Nat):∀p,(dA w p).Nodup
 |0=>by unfold dA;simp
 | p + 1 => by
   unfold dA qP;refine vW (u5 w p) (λs=>vV s List.nodup_range) λa b x h u v=>?_;obtain⟨i,_,rfl⟩:=Qh.mp u;obtain⟨j,_,e⟩:=Qh.mp v;exact h (List.append_inj_left' e rfl).symm
def xG {v:Type}{l:List v}(h:l.Nodup){i j:Nat}{x:v}(u:i<j)(hi:l[i]?=some x)(y:l[j]?=some x):False:=by
 obtain⟨h1,e1⟩:=P9.mp hi;obtain⟨h2,e2⟩:=P9.mp y;exact List.pairwise_iff_getElem.mp h i j h1 h2 u (e1.trans e2.symm)
section
variable{Z:Env}{M:Mem}{k:D->Mem->Prop}{kl:List D->Mem->Prop}
def Hs {c:Int}(h:ae (w Z M) λw M=>ae (cW (cP tg g (List.replicate n none++Z)) w [.fn (au M.length)] (M++[[.int c]])) λacc M=>∃d,acc=[d]/\k d M):ae (kF c n tg w g Z M) k:=by
 refine bc.mpr (aI h λw M h=>bc.mpr (aI h ?_));rintro _ M ⟨d,rfl,h⟩;exact h
def La (h1:gk Z M=.ok x M)(h2:gv Z M=.ok y M)(e:bB M o=some q)(j:isKey q.1 x=true)(hl:q.2.length<1000000)(h:kl [.fn o] (M.set (o-5000) (.int q.1::putD q.2 x y))):ae (jS gk gv Z [.fn o] M) kl:=by
 unfold jS;rw[h1];show ae ((gv Z M).bind _) kl;rw[h2];show ae (match bB M o with|some q=>if isKey q.1 x=true/\q.2.length<1000000 then Res.ok [D.fn o] (M.set (o-5000) (.int q.1::putD q.2 x y)) else .bad|none=>.bad) kl
 rw[e];show ae (if isKey q.1 x=true/\q.2.length<1000000 then Res.ok [D.fn o] (M.set (o-5000) (.int q.1::putD q.2 x y)) else .bad) kl;rw[if_pos ⟨j,hl⟩];exact h
end
def qx (h:cw es x=none):putD es x y=es++[.tup [x,y]]:=by
 unfold putD;rw[h];rfl
section
variable{P:Nat->Option Df}{M:Mem}{m:aK}{d:bb}
def kZ (h:j=M.length):(M++[x]).set j y=M++[y]:=by
 subst h;rw[List.set_append_right _ _ (Qe _),Nat.sub_self];rfl
def Az {n:Nat}(B:∀s M,cU m s->ag P (n+2) 24 [d.d,av s] M=.ok (av (bP d s)) M)(hm:aC m)(H:k (.fn (au M.length)) (M++[fb m d])) :
 ae (kF 77 1 (.one 0) (bK (aa 2)) (jS (aa 0) (ah 24 (ag P (n+2)) #[aa 1,aa 0])) [some d.d,y,some (.lst ((aS m).map av))] M) k:=by
 refine Hs ?_;simp only[fO,bo];refine{_,rfl,rfl,?_};have bl:=bX hm;have nd:=u5 m.words m.places;refine fz (λi h v=>h=[.fn (au M.length)]/\v=M++[.int 77::((aS m).take i).map λs=>.tup [av s,av (bP d s)]]) (λ_ _ _ _=>rfl) {rfl,`s} ?_ ?_
 ·rintro i x h v hd ⟨rfl,rfl⟩;rw[Qv] at hd;cases e:(aS m)[i]? with
  |none=>rw[e] at hd;cases hd
  | some s =>
    rw[e] at hd;have hd:=Qr hd;subst hd;have hs:=n8 s (QC e);simp only[cP,bc,iG];refine{_,rfl,?_};have F:(M++[.int 77::((aS m).take i).map λs=>D.tup [av s,av (bP d s)]])[M.length]?=some (.int 77::((aS m).take i).map λs=>D.tup [av s,av (bP d s)]):=`s
    refine La rfl ((aQ (af rfl (af rfl rfl))).trans (B s _ hs)) (jx F (.inl rfl)) (we s) `o {rfl,?_}
    have none:cw (((aS m).take i).map λs=>.tup [av s,av (bP d s)]) (av s)=Option.none:=by
     rw[lI av λs=>av (bP d s)];rw[Sl.mpr];rfl;intro t I;rw[u1];intro z;have z:=of_decide_eq_true z;subst z;obtain⟨j,E⟩:=List.getElem?_of_mem I;have u:j<i:=by
      have:=(P9.mp E).1;simp at this;omega
     rw[List.getElem?_take_of_lt u] at E;exact xG nd u E e
    rw[qx none];rw[show au M.length-5000=M.length from Rk _ _,kZ rfl,Ro,e];simp
 ·rintro h v ⟨rfl,rfl⟩;rw[P8,Rg (Qe _)];exact{_,rfl,H}
end
section
variable{Z:Env}{M:Mem}
def Ia (e:a Z M=.ok x M):eO (.one i) a Z M=.ok (.next (Z.set i (some x))) M:=by
 unfold eO;rw[e];rfl
def eK (e:s Z M=.ok xs M):bO f c s Z M=c f xs M:=by
 unfold bO;rw[e]
end
noncomputable def b7 (m:aK)(L:Nat):D:=.lst ((List.range m.deeds.length).map λi=>.tup [nD (cst m i),.fn (au (L+i))])
def nX (e:m.deeds[i]?=some d):cj m i=d:=by
 unfold cj;rw[Ri,e];rfl
section
variable{P:Nat->Option Df}{M:Mem}{m:aK}
def tv (u:HasB0 P)(hr:i7 P)(h15:P 15=some {1,6,b8})(h151:P 151=some {1,2,dI})(n:Nat)(hm:aC m):ag P (n+10) 151 [m.d] M=.ok (b7 m M.length) (M++m.deeds.map (fb m)):=by
 refine aj (aH h151 rfl ?_);refine bu (Ia ((eK (af rfl rfl)).trans (ki u h15 n hm))) ?_;simp only[aA,cH,dm,fO,eC,bo,cZ];refine{_,rfl,_,rfl,rfl,?_};have d6:=hm.d6;refine comp_map (λi h j=>h=(List.range i).map (λi=>.tup [nD (cst m i),.fn (au (M.length+i))])/\j=M++(m.deeds.take i).map (fb m)) (ay `o) (λ_ _ _ _=>rfl) {rfl,`s} ?_ ?_
 ·rintro i x h j hd _ ⟨rfl,rfl⟩;rw[Qv] at hd;cases e:m.deeds[i]? with
  |none=>rw[e] at hd;cases hd
  | some d =>
    rw[e] at hd;have hd:=Qr hd;subst hd;have v:=(P9.mp e).1;have hok:=hm.ok d (QC e);refine{_,rfl,?_};simp only[iW,bR,eC,bo,nV,cZ,cg];refine{_,rfl,_,rfl,nD d.cost,iH,?_};refine Az (λs M hs=>Gd hr (n+7) hm hok hs) hm {ay (n:=2) `d,?_,?_}
    ·have l:(M++(m.deeds.take i).map (fb m)).length=M.length+i:=by simp;omega
     rw[l,List.range_succ,QG];have c:cst m i=d.cost:=by unfold cst;rw[nX e]
     rw[<- c];rfl
    ·rw[Ro,e];simp
 ·rintro h j _ ⟨rfl,rfl⟩;rw[P8,Rg (Qe _)];exact bI.mpr {ay `o,rfl,rfl}
end
section
variable{Z ρ':Env}{M M':Mem}{a b d:GE}{t rest:GS}{kf:Fl->Mem->Prop}
def b4 (e:t Z M=.ok (.next ρ') M')(h:ae (rest ρ' M') kf):ae (aY t rest Z M) kf:=by
 rw[aA,e];exact h
def A4 (h:a Z M=.ok x M)(j:b Z M=.ok (.fn o) M)(e:inD M o x=some r):iL n a b Z M=.ok (.bl (n != r)) M:=by
 unfold iL;rw[h];show(b Z M).bind _=_;rw[j];show(match inD M o x with|some r=>Res.ok (D.bl (n != r)) M|none=>.bad)=_
 rw[e]
def wD (h:a Z M=.ok (.fn o) M)(e:bB M o=some q):gZ a Z M=.ok (nD q.2.length) M:=by
 unfold gZ;rw[h];show(match bB M o with|some q=>Res.ok (D.int q.2.length) M|none=>.bad)=_
 rw[e]
def Hy (hd:d Z M=.ok z M)(h:a Z M=.ok (.fn o) M)(j:b Z M=.ok x M)(e:bB M o=some q)(u:isKey q.1 x=true)(hl:q.2.length<1000000):eM a b d Z M=.ok (.next Z) (M.set (o-5000) (.int q.1::putD q.2 x z)):=by
 unfold eM;rw[hd];show(a Z M).bind _=_;rw[h];show(b Z M).bind _=_;rw[j];show(match bB M o with|some q=>if isKey q.1 x=true/\q.2.length<1000000 then Res.ok (Fl.next Z) (M.set (o-5000) (.int q.1::putD q.2 x z)) else .bad|none=>.bad)=_
 rw[e];exact if_pos ⟨u,hl⟩
def LQ (h:a Z M=.ok (.cell j) M)(hd:d Z M=.ok z M)(e:M[j]?=some ds)(hl:ds.length<sz):e9 a d Z M=.ok (.next Z) (M.set j (ds++[z])):=by
 unfold e9;rw[h];show(d Z M).bind _=_;rw[hd];show(match M[j]? with|some ds=>if ds.length<sz then Res.ok (Fl.next Z) (M.set j (ds++[z])) else .bad|none=>.bad)=_
 rw[e];exact if_pos hl
def mv (e:s Z M=.ok xs M)(hl:xs.length<=100):aM s Z M=.ok (.tup xs) M:=by
 unfold aM;rw[e];exact if_pos (ay `a)
def AZ {i j:Int}(h1:a Z M=.ok (.int i) M)(h2:b Z M=.ok (.int j) M):ak (ax .gt a b) Z M=.ok (decide (j<i)) M:=by
 refine dj (ip.mpr (eD.mpr ?_));rw[h1,aO,h2,aO];exact{_,rfl,_,rfl,rfl,rfl}
def Nb {i:Int}(ha:a Z M=.ok (.int i) M)(h1:z.length<=1000)(h2:y.length<=1000)(h3:i.natAbs<2^64):uz z y a Z M=.ok (.str (z++(toString i:Str)++y)) M:=by
 unfold uz;rw[ha];exact if_pos ⟨h1,h2,h3⟩
end
abbrev fL:=List (aB×Nat×List Nat)
set_option tactic.hygienic true in
def ic (I:Nat->Env->Mem->Prop)(X:Fl->Mem->Prop)(B:∀fl M,X fl M->∀Z,fl≠.next Z)(F:∀i Z M,I i Z M->w M=some ds)(y:∀fl M,X fl M->w M=some ds)(z:I 0 Z M)
 (hs:∀i d Z M,ds[i]?=some d->I i Z M->∃j,bT t d Z=some j/\ae (gb j M) λfl M=>(∃ρ',fl=.next ρ'/\I (i+1) ρ' M)\/X fl M) (E:∀Z M,I ds.length Z M->kf (.next Z) M) (H:∀fl M,X fl M->kf fl M) :
 ae (cW (iq t gb) w (.next Z) M) kf:=by
 refine fz (λi fl M=>(∃Z,fl=.next Z/\I i Z M)\/X fl M) (λi fl M h=>h.elim (λ⟨Z,_,h⟩=>F i Z M h) λh=>y fl M h) (.inl ⟨Z,rfl,z⟩) ?_ ?_
 ·rintro i d fl M hd (⟨Z,rfl,v⟩|u)
  ·obtain⟨j,e,h⟩:=hs i d Z M hd v;simp only[iq,bc,iG,e];exact⟨j,rfl,h⟩
  ·cases fl with
   |next Z=>exact absurd rfl (B _ _ u Z)
   |ret d=>exact .inr u
   |exc x Z=>exact .inr u
 ·rintro fl M (⟨Z,rfl,v⟩|u)
  ·exact E Z M v
  ·exact H fl M u
structure NW (p:Nat) (E0:fL) (S:aB->Prop) (N:fL):Prop where
 nd:((E0++N).map (·.1)).Nodup
 fr:∀x∈N,S x.1/\x.2.1=p/\x.2.2.length<=p
 al:∀b,S b->b∈(E0++N).map (·.1)
def so (p:Nat)(E0:fL)(S:aB->Prop):Prop:=∃N:fL,((E0++N).map (·.1)).Nodup/\(∀x∈N,S x.1/\x.2.1=p)/\255<(E0++N).length
def so.mono (h:so p E0 S)(hs:∀b,S b->S' b):so p E0 S':=let⟨N,h1,h2,h3⟩:=h;{N,h1,λx j=>{hs _ (h2 x j).1,(h2 x j).2},h3}
def NW.old (h:NW p E0 S N)(hs:∀x,S' x↔S x\/x=b)(u:∃e∈E0++N,e.1=b):NW p E0 S' N:=
 {h.nd,λx j=>{(hs _).mpr (.inl (h.fr x j).1),(h.fr x j).2},λc v=>by
  rcases(hs c).mp v with z|z
  ·exact h.al c z
  ·obtain⟨e,y,B⟩:=u;rw[z,<- B];exact Q6 y}
def NW.new (h:NW p E0 S N)(hs:∀x,S' x↔S x\/x=b)(v:∀e∈E0++N,e.1≠b)(hr:r.length<=p):NW p E0 S' (N++[(b,p,r)]):=by
 refine{?_,λx j=>?_,λc B=>?_}
 ·rw[<- Rl,QG,R4];refine{h.nd,`s,λx j y u e=>?_}
  obtain⟨z,E,rfl⟩:=Qh.mp j;have u:y=b:=by simpa using u
  exact v z E (e.trans u)
 ·rcases QH.mp j with z|z
  ·exact{(hs _).mpr (.inl (h.fr x z).1),(h.fr x z).2}
  ·obtain rfl:=Qs.mp z;exact{(hs _).mpr (.inr rfl),rfl,hr}
 ·rw[<- Rl,QG];rcases(hs c).mp B with z|z
  ·exact Rh _ (h.al c z)
  ·exact QY _ (by rw[z];exact Qs.mpr rfl)
def vh (M:Mem)(fk:Nat)(x:D)(A:List aB):Prop:=x=.lst (A.map bD)\/∃c,x=.cell c/\c≠fk/\M[c]?=some (A.map bD)
def wB:∀{k i:Nat}{d:D},(fy k ds)[i]?=some d->∃x,ds[i]?=some x/\d=.tup [nD (k+i),x]:=by
 induction ds with
 |nil=>intro k i d h;simp[fy] at h
 | cons a ds j =>
   intro k i d h;cases i with
   |zero=>cases h;exact⟨a,rfl,rfl⟩
   | succ i =>
     obtain⟨x,h1,h2⟩:=j h;exact{x,h1,by rw[h2,Sq,Nat.add_comm 1 i]}
def lR:∀{ds:List D}{k:Nat},(fy k ds).length=ds.length
 |[],_=>rfl
 |_::ds,k=>by show(fy (k+1) ds).length+1=ds.length+1;rw[lR]
def i9 (m:aK)(p:Nat)(Ls:Nat->List aB)(i:Nat):List aB:=if cst m i<=p then Ls (p-cst m i) else []
def jJ (m:aK)(p:Nat)(Ls:Nat->List aB)(i:Nat)(b:aB):Prop:=∃h,h<i/\b∈(i9 m p Ls h).map (aV m h)
noncomputable def pr (e:aB×Nat×List Nat):aB×Nat:=(e.1,e.2.1)
section
variable{m:aK}{p:Nat}{E0 N:fL}{Ls:Nat->List aB}
def h6 (E:fL):(E.map pr).map (·.1)=E.map (·.1):=by rw[Q1];rfl
set_option tactic.hygienic true in
def uR (hm:aC m)(u:∀q,q<p->∀b,b∈Ls q↔bz m q b)(b:aB):jJ m p Ls m.deeds.length b↔∃i j,i<m.deeds.length/\cst m i<=p/\bz m (p-cst m i) j/\b=aV m i j:=by
 constructor
 ·rintro⟨i,v,h⟩;have c:=g6 hm v;obtain⟨j,y,rfl⟩:=Qh.mp h;unfold i9 at y;split at y
  ·next z=>exact{i,j,v,z,(u _ `a j).mp y,rfl}
  ·exact nomatch y
 ·rintro⟨i,j,v,z,hl,rfl⟩;have c:=g6 hm v;refine{i,v,Q6 ?_};unfold i9;rw[if_pos z];exact(u _ `a j).mpr hl
def ow (hm:aC m)(v:0<p)(h:∀q,q<p->∀b,b∈Ls q↔bz m q b)(j:cz m p (E0.map pr))(nd:((E0++N).map (·.1)).Nodup)(B:x∈N)(u:jJ m p Ls m.deeds.length x.1):bz m p x.1:=by
 refine(gU hm v).mpr {(uR hm h _).mp u,λq y hl=>?_};have z:=j.all q x.1 y hl;have E:x.1∈E0.map (·.1):=by rw[<- h6];exact Q6 z
 rw[QG,R4] at nd;exact nd.2.2 _ E _ (Q6 B) rfl
def Ha (hm:aC m)(E:0<p)(v:∀q,q<p->∀b,b∈Ls q↔bz m q b)(B:cz m p (E0.map pr))(u:NW p E0 (jJ m p Ls m.deeds.length) N):cz m (p+1) ((E0++N).map pr)/\∀b,b∈N.map (·.1)↔bz m p b:=by
 have fl:=λx j=>ow hm E v B u.nd j (u.fr x j).1;have back:∀b,bz m p b->∃x∈N,x.1=b:=λb hl=>by
  have F:=(uR hm v b).mpr ((gU hm E).mp hl).1;obtain⟨x,j,e⟩:=Qh.mp (u.al b F);rcases QH.mp j with z|z
  ·have s:=B.sound (pr x) (Q6 z);have s1:=e ▸ s.1;have:=xN s1 hl;omega
  ·exact⟨x,z,e⟩
 refine{{by rw[h6];exact u.nd,λy H=>?_,λq b I hl=>?_},λb=>{λh=>?_,λh=>?_}}
 ·obtain⟨x,j,rfl⟩:=Qh.mp H;rcases QH.mp j with z|z
  ·have s:=B.sound (pr x) (Q6 z);exact{s.1,RN s.2}
  ·have e:x.2.1=p:=(u.fr x z).2.1;exact{by show bz m x.2.1 x.1;rw[e];exact fl x z,by show x.2.1<p+1;omega}
 ·rcases RP q p with z|z
  ·rw[QG];exact Rh _ (B.all q b z hl)
  ·have:q=p:=`a
   subst this;obtain⟨x,j,rfl⟩:=back b hl;rw[QG];refine QY _ (Qh.mpr {x,j,?_});show(x.1,x.2.1)=_;rw[(u.fr x j).2.1]
 ·obtain⟨x,j,rfl⟩:=Qh.mp h;exact fl x j
 ·obtain⟨x,j,rfl⟩:=back b h;exact Q6 j
def Cz (hm:aC m)(u:0<p)(h:∀q,q<p->∀b,b∈Ls q↔bz m q b)(j:cz m p (E0.map pr))(E:so p E0 (jJ m p Ls m.deeds.length)):kc m (p+1):=by
 obtain⟨N,nd,fr,hl⟩:=E;refine{(E0++N).map pr,by rw[h6];exact nd,λy B=>?_,by rw[P8];exact hl}
 obtain⟨x,v,rfl⟩:=Qh.mp B;rcases QH.mp v with z|z
 ·have s:=j.sound (pr x) (Q6 z);exact{s.1,RN s.2}
 ·have e:x.2.1=p:=(fr x z).2;exact{by show bz m x.2.1 x.1;rw[e];exact ow hm u h j nd z (fr x z).1,by show x.2.1<p+1;omega}
def kc.mono (h:kc m p)(u:p<=q):kc m q:=let⟨l,h1,h2,h3⟩:=h;{l,h1,λx j=>{(h2 x j).1,QE (h2 x j).2 u},h3}
end
noncomputable def lsN (Ls:Nat->List aB)(p:Nat)(A:List aB):Nat->List aB:=λq=>if q=p then A else Ls q
set_option tactic.hygienic true in
def yK {c:GT}{b:GS}{y:Fl->Mem->Prop}(I:Nat->Env->Mem->Prop)
 (hs:∀k Z M,I k Z M->ae (c Z M) λv M1=>(v=false->y (.next Z) M1)/\(v=true->∃k',k=k'+1/\ae (b Z M1) λfl j=>(∃ρ',fl=.next ρ'/\I k' ρ' j)\/((∀ρ',fl≠.next ρ')/\y fl j))) :
 ∀(n k:Nat) (Z:Env) (M:Mem),k<n->I k Z M->ae (kg c b n Z M) y:=by
 intro n;induction n with
 |zero=>intro k Z M h;exact absurd h (Ry _)
 | succ n E =>
   intro k Z M h B;unfold kg;refine bc.mpr (aI (hs k Z M B) λv M1 ⟨h1,h2⟩=>?_);cases v with
   |false=>exact h1 rfl
   | true =>
     obtain⟨k',rfl,h3⟩:=h2 rfl;rw[if_pos rfl];refine bc.mpr (aI h3 λfl j h4=>?_);rcases h4 with⟨ρ',rfl,u⟩|⟨u,z⟩
     ·exact E k' ρ' j `a u
     ·cases fl with
      |next ρ'=>exact absurd rfl (u ρ')
      |ret d=>exact z
      |exc x ρ'=>exact z
def lr {c:GT}{b:GS}{Z:Env}{M:Mem}{j:Fl->Mem->Prop}(I:Nat->Env->Mem->Prop)
 (hs:∀k Z M,I k Z M->ae (c Z M) λv M1=>(v=false->j (.next Z) M1)/\(v=true->∃k',k=k'+1/\ae (b Z M1) λfl u=>(∃ρ',fl=.next ρ'/\I k' ρ' u)\/((∀ρ',fl≠.next ρ')/\j fl u))) {k:Nat} (y:k<100000) (h:I k Z M):ae (gL c b Z M) j:=yK I hs 100000 k Z M y h
section
variable{M:Mem}{m:aK}{L0 lv fk p:Nat}{E0:fL}{lvs:List D}{Ls:Nat->List aB}{Z:Env}
def Km {x:D}{A:List aB}(h:vh M fk x A):oF M x=some (!A.isEmpty):=by
 rcases h with rfl|⟨c,rfl,_,e⟩
 ·show some (!(A.map bD).isEmpty)=_;rw[List.isEmpty_map]
 ·show(M[c]?).map (λxs=>!xs.isEmpty)=_;rw[e];show some (!(A.map bD).isEmpty)=_;rw[List.isEmpty_map]
def vw {M:Mem}{g:Nat->Bool}:∀{l:List D}{k:Nat},(∀i x,l[i]?=some x->oF M x=some (g (k+i)))->jK M l=some ((List.range l.length).map λi=>g (k+i))
 |[],_,_=>rfl
 | a :: l, k, h => by
   show(oF M a).bind (λb=>(jK M l).map (b::·))=_;have j:=h 0 a rfl;have h1:=vw (l:=l) (k:=k+1) (M:=M) (g:=g) λi x u=>by
    have:=h (i+1) x u;rw[this,Sq,Nat.add_comm 1 i]
   rw[j,h1,RB,List.range_succ_eq_map,Q9,Q1];show some (g (k+0)::_)=_
   congr 2
   refine RC λi _=>?_;show g (k+1+i)=g (k+(i+1));rw[Sq,Nat.add_comm 1 i]
end
section
variable{Z:Env}{M M':Mem}{kf:Fl->Mem->Prop}
def oj (e:a Z M=.ok x M'):eO (.one i) a Z M=.ok (.next (Z.set i (some x))) M':=by
 unfold eO;rw[e];rfl
def c4 (e:a Z M=.ok x M'):aw (.one i) a Z M=.ok (.next (Z.set i (some x))) M':=by
 unfold aw;rw[e];rfl
def Ib (u:a Z M=.ok (.cell j) M)(h:fW (d Z M) (λz M1=>∃ds,M1[j]?=some ds/\ds.length<sz/\kf (.next Z) (M1.set j (ds++[z]))) (λx M1=>kf (.exc x Z) M1)):ae (nA a d Z M) kf:=by
 unfold nA;rw[u];show ae (sU (λz M=>match M[j]? with|some ds=>if ds.length<sz then Res.ok (Fl.next Z) (M.set j (ds++[z])) else .bad|none=>.bad) Z (d Z M)) kf
 cases e:d Z M with
 |bad=>rw[e] at h;exact h.elim
 |err x M1=>rw[e] at h;exact h
 | ok z M1 =>
   rw[e] at h;obtain⟨ds,e1,hl,h⟩:=h;show ae (match M1[j]? with|some ds=>if ds.length<sz then Res.ok (Fl.next Z) (M1.set j (ds++[z])) else .bad|none=>.bad) kf
   rw[e1];show ae (if ds.length<sz then Res.ok (Fl.next Z) (M1.set j (ds++[z])) else .bad) kf
   rw[if_pos hl];exact h
end
noncomputable def gy {α:Type}(k:α->aB)(v:α->D)(E:List α):List D:=.int 78::E.map λe=>.tup [bD (k e),v e]
section
variable{α:Type}{k:α->aB}{v:α->D}{E:List α}{M:Mem}{j:Nat}{b:aB}{x:α}
def jd:cw (E.map λe=>.tup [bD (k e),v e]) (bD b)=(E.find? λe=>decide (k e=b)).map v:=by
 refine(lI (λe=>bD (k e)) v E (bD b)).trans ?_
 congr 2
 funext x
 exact sM _ b
def eV (e:M[j]?=some (gy k v E)):bB M (au j)=some (78,E.map λe=>.tup [bD (k e),v e]):=jx e (.inr rfl)
def E9 (e:M[j]?=some (gy k v E)):inD M (au j) (bD b)=some (E.any λe=>decide (k e=b)):=by
 unfold inD;rw[eV e];show(if isKey 78 (bD b)=true then some (cw _ (bD b)).isSome else none)=_;rw[if_pos (iw b),jd,RM]
 congr 1
 rw[Rb,List.find?_isSome,RK]
def Lo (hn:∀e∈E,k e≠b):putD (E.map λe=>.tup [bD (k e),v e]) (bD b) z=(E.map λe=>.tup [bD (k e),v e])++[.tup [bD b,z]]:=by
 refine qx ?_;rw[jd,Sl.mpr];rfl;exact λx h e=>hn x h (of_decide_eq_true e)
def wG:∀{E:List α},(E.map k).Nodup->∀{x:α},x∈E->(E.find? λe=>decide (k e=k x))=some x
 |[],_,_,h=>nomatch h
 | a :: E, nd, x, h => by
   rw[Q9,Rn] at nd;rw[List.find?_cons];by_cases e:k a=k x
   ·rw[decide_eq_true e];rcases QZ.mp h with z|z
    ·rw[z]
    ·exact absurd (by rw[e];exact Q6 z) nd.1
   ·rw[decide_eq_false e];rcases QZ.mp h with z|z
    ·exact absurd (by rw[z]) e
    ·exact wG nd.2 z
def A3 (e:M[j]?=some (gy k v E))(nd:(E.map k).Nodup)(h:x∈E):getD M (au j) (bD (k x))=some (v x):=by
 unfold getD;rw[eV e];show(if isKey 78 (bD (k x))=true then cw _ (bD (k x)) else none)=_;rw[if_pos (iw _),jd,wG nd h];rfl
def qS {a b d:GE}{x z:D}(hd:d Z M=.ok z M1)(h:a Z M1=.ok (.fn o) M1)(u:b Z M1=.ok x M1)(e:bB M1 o=some q)(y:isKey q.1 x=true)(hl:q.2.length<1000000):eM a b d Z M=.ok (.next Z) (M1.set (o-5000) (.int q.1::putD q.2 x z)):=by
 unfold eM;rw[hd];show(a Z M1).bind _=_;rw[h];show(b Z M1).bind _=_;rw[u];show(match bB M1 o with|some q=>if isKey q.1 x=true/\q.2.length<1000000 then Res.ok (Fl.next Z) (M1.set (o-5000) (.int q.1::putD q.2 x z)) else .bad|none=>.bad)=_
 rw[e];exact if_pos ⟨y,hl⟩
def Dj {M1:Mem}{a b d:GE}(hd:d Z M=.ok (v x) M1)(h:a Z M1=.ok (.fn (au j)) M1)(u:b Z M1=.ok (bD (k x)) M1)(e:M1[j]?=some (gy k v E))(hl:E.length<1000000)(hn:∀e∈E,k e≠k x):eM a b d Z M=.ok (.next Z) (M1.set j (gy k v (E++[x]))):=by
 rw[qS hd h u (eV e) (iw _) (by rw[P8];exact hl),show au j-5000=j from Rk _ _,Lo hn]
 unfold gy;rw[QG];rfl
def LR (h:(true != E.any λe=>decide (k e=b))=true):∀e∈E,k e≠b:=λe u z=>by
 rw[show(E.any λe=>decide (k e=b))=true from RK.mpr {e,u,decide_eq_true z}] at h;cases h
def Ic (h:(true != E.any λe=>decide (k e=b))=false):∃e∈E,k e=b:=by
 cases z:(E.any λe=>decide (k e=b)) with
 | true =>
   obtain⟨e,u,y⟩:=RK.mp z;exact{e,u,of_decide_eq_true y}
 |false=>rw[z] at h;cases h
end
def gr (m:aK)(r:List Nat)(b:aB)(q:Nat):Prop:=(∀i∈r,i<m.deeds.length)/\ends m r=b/\yc m r=q
section
variable{m:aK}{r:List Nat}{b:aB}{q i:Nat}
def gr.nil:gr m [] (aS m) 0:={(λ_ h=>nomatch h),List.map_id _,rfl}
def gr.snoc (h:gr m r b q)(hi:i<m.deeds.length):gr m (r++[i]) (aV m i b) (q+cst m i):=by
 refine{λk u=>?_,?_,?_}
 ·rcases QH.mp u with z|z
  ·exact h.1 k z
  ·rw[Qs.mp z];exact hi
 ·rw[<- h.2.1];unfold ends aV;rw[Q1];exact RC λs _=>oY r [i] s
 ·rw[<- h.2.2];show((r++[i]).map _).sum=_;rw[QG,List.sum_append];rfl
def uM (hm:aC m):∀r:List Nat,(∀i∈r,i<m.deeds.length)->r.length<=yc m r
 |[],_=>Rv _
 | a :: r, h => by
   have c:=(g6 hm (h a QB)).1;have t:=uM hm r λi u=>h i (Qu _ u);show r.length+1<=cst m a+yc m r;omega
def gr.len (hm:aC m)(h:gr m r b q):r.length<=q:=h.2.2 ▸ uM hm r h.1
end
abbrev F3:=List (aB×Nat×Nat)
noncomputable def vC (e:aB×Nat×Nat):D:=.tup [nD e.2.1,.cell e.2.2]
def j7 (E:F3):List D:=gy (·.1) vC E
def un (E:F3):fL:=E.map λe=>(e.1,e.2.1,[])
def qo (E:F3):(un E).map (·.1)=E.map (·.1):=by unfold un;rw[Q1];rfl
def mr (E N:F3):un (E++N)=un E++un N:=QG
def IC (E:F3):(un E).length=E.length:=P8 _
def yR:(∃e∈un E,e.1=b)↔∃e∈E,e.1=b:=by
 constructor
 ·rintro⟨x,j,rfl⟩;obtain⟨e,h,rfl⟩:=Qh.mp j;exact⟨e,h,rfl⟩
 ·rintro⟨e,h,rfl⟩;exact{_,Q6 h,rfl}
structure ke (B0:Nat) (M0 M:Mem) (m:aK) (lv fk:Nat) (E:F3) (L:List aB):Prop where
 f:M[fk]?=some (j7 E)
 fl:fk<M0.length
 ll:lv<M0.length
 lo:B0<=M0.length
 l:M[M0.length]?=some (L.map bD)
 r:∀e∈E,(∃r,M[e.2.2]?=some (r.map nD)/\gr m r e.1 e.2.1)/\e.2.2≠fk/\e.2.2≠M0.length/\e.2.2≠lv/\B0<=e.2.2
 k:aZ fk M0 M
 nd:(E.map (·.1)).Nodup
def t6 (c:Call):GS:=#v[aw (.one 10) (ah 152 c #[aa 7,aa 9]),aT (ak (iL true (aa 10) (aa 2))) #v[eM (aa 2) (aa 10) (aM #[aa 3,ai true .add (ao (b6 (aa 2) (aa 9)) (gI 1)) (a7 false #[aa 5])]),e9 (aa 4) (aa 10),aT (ak (ax .gt (gZ (aa 2)) (gI 255))) #v[f6 8 #[uz "rows have more than " " behaviours" (gI 255)]] aF] aF]
def d7 {M:Mem}(e:M[k]?=some x):k<M.length:=(P9.mp e).1
def fD (h:a Z M=.ok x M1)(es:s Z M1=.ok xs M2):aX a s Z M=.ok (x::xs) M2:=by
 unfold aX;rw[h];show(s Z M1).bind _=_;rw[es];rfl
def d3 (h:a Z M=.ok x M)(j:b Z M=.ok y M):ai k o a b Z M=fY k o x y M:=by
 unfold ai;rw[h];show(b Z M).bind _=_;rw[j];rfl
def iA (e:s Z M=.ok xs M1)(hl:xs.length<=100):aM s Z M=.ok (.tup xs) M1:=by
 unfold aM;rw[e];exact if_pos (ay `a)
section
variable{P:Nat->Option Df}{M0 M:Mem}{m:aK}{lk lv fk p i B0:Nat}{E:F3}{L:List aB}{b:aB}{x0 x1 x6 x8 x10:Option D}
def LI (h152:P 152=some {2,2,dP})(n:Nat)(hm:aC m)(hE:E.length<=255)(s:ke B0 M0 M m lv fk E L)(hL:L.length<=255)(ek:M[lk]?=some (fb m (cj m i)))(hp:p<=900)(hi:i<m.deeds.length)
 (hl:b.length<=16) (hb:∀s∈b,cU m s) (O:∃e∈E,e.1=b/\e.2.1+cst m i=p) :
 ae (t6 (ag P (n+1)) [x0,x1,some (.fn (au fk)),some (nD p),some (.cell M0.length),some (nD i),x6,some (.fn (au lk)),x8,some (bD b),x10] M) λfl M'=>
  ((∃e∈E,e.1=aV m i b)/\M'=M/\fl=.next [x0,x1,some (.fn (au fk)),some (nD p),some (.cell M0.length),some (nD i),x6,some (.fn (au lk)),x8,some (bD b),some (bD (aV m i b))])\/
  ((∀ e ∈ E, e.1 ≠ aV m i b) /\ ∃ c, ke B0 M0 M' m lv fk (E ++ [(aV m i b, p, c)]) (L ++ [aV m i b]) /\
    ((E.length < 255 /\ fl = .next [x0, x1, some (.fn (au fk)), some (nD p), some (.cell M0.length), some (nD i), x6, some (.fn (au lk)), x8, some (bD b), some (bD (aV m i b))]) \/
     (E.length=255/\∃Z,fl=.exc (.exc 8 none) Z))):=by
 refine bu (bF (x:=bD (aV m i b)) ((aQ (af rfl (af rfl rfl))).trans (zD h152 n ek hm hl hb))) ?_;refine bH (bN (A4 rfl rfl (E9 s.f))) (λI=>?_) λI=>.inl {Ic I,rfl,rfl};have B:=LR I;obtain⟨e,W,S,ep⟩:=O;obtain⟨⟨r,er,ro⟩,_⟩:=s.r e W;have hr:=ro.len hm;have u:=d7 s.l;have U:=A3 s.f s.nd W;rw[S] at U;have e1:(M++[(r++[i]).map nD])[fk]?=some (j7 E):=by rw[Qi (d7 s.f)];exact s.f
 have ev:aM #[aa 3,ai true .add (ao (b6 (aa 2) (aa 9)) (gI 1)) (a7 false #[aa 5])] [x0,x1,some (.fn (au fk)),some (nD p),some (.cell M0.length),some (nD i),x6,some (.fn (au lk)),x8,some (bD b),some (bD (aV m i b))] M=.ok (vC (aV m i b,p,M.length)) (M++[(r++[i]).map nD]):=by
  refine iA (fD rfl (fD ?_ rfl)) (Qp rfl);refine(d3 (bq (pV (x:=.non) rfl rfl U) rfl rfl) (f7 (af rfl rfl) (Qp rfl))).trans ?_;show(match M[e.2.2]?,(some [nD i]:Option (List D)) with|some x,some y=>bf true (x++y) M|_,_=>.bad)=_
  rw[er];show(if (r.map nD++[nD i]).length<=sz then _ else _)=_;rw[if_pos (ay `o),QG];rfl
 refine b4 (M':=(M++[(r++[i]).map nD]).set fk (j7 (E++[(aV m i b,p,M.length)]))) (Dj ev rfl rfl e1 `a B) ?_
 have X:=QN s.fl;have F:((M++[(r++[i]).map nD]).set fk (j7 (E++[(aV m i b,p,M.length)])))[M0.length]?=some (L.map bD):=by rw[Qj X,Qi u];exact s.l
 refine b4 (LQ rfl rfl F (by rw[P8];exact RG hL `d)) ?_
 generalize v:((M++[(r++[i]).map nD]).set fk (j7 (E++[(aV m i b,p,M.length)]))).set M0.length (L.map bD++[bD (aV m i b)])=M';have old:∀{j:Nat}{x:List D},j≠fk->j≠M0.length->M[j]?=some x->M'[j]?=some x:=λ{j x} h1 h2 e=>by
  rw[<- v,Qj (Rf h2),Qj (Rf h1),Qi (d7 e)];exact e
 have s2:ke B0 M0 M' m lv fk (E++[(aV m i b,p,M.length)]) (L++[aV m i b]):=by
  refine{?_,s.fl,s.ll,s.lo,?_,λY J=>?_,{?_,λj hj n=>?_},?_}
  ·rw[<- v,Qj (Rf X),QI (by simp;exact RN (d7 s.f))]
  ·rw[<- v,QI `o,QG];rfl
  ·rcases QH.mp J with z|z
   ·obtain⟨⟨r',H,R⟩,k1,k2,k3⟩:=s.r Y z;exact{{r',old k1 k2 H,R},k1,k2,k3}
   ·obtain rfl:=Qs.mp z;refine{{r++[i],?_,?_},Rj (d7 s.f),Rj u,Rj (Nat.lt_trans s.ll u),Qo s.lo (Sf u)}
    ·rw[<- v,Qj (QN u),Qj (QN (d7 s.f))];simp
    ·have:=ro.snoc hi;rw[ep,S] at this;exact this
  ·rw[<- v];have:=s.k.len;simp;omega
  ·rw[<- v,Qj `a,Qj (Rf n),Qi `a];exact s.k.at' j hj n
  ·rw[QG,R4];exact{s.nd,`s,λx hx y Q z=>by
    obtain⟨w,hw,rfl⟩:=Qh.mp hx;have Q:y=aV m i b:=by simpa using Q
    exact B w hw (z.trans Q)}
 refine bH (AZ (wD rfl (eV s2.f)) rfl) (λh=>?_) λh=>?_
 ·have h:=of_decide_eq_true h;simp only[aA,Ck];refine bR.mpr ?_;rw[Nb rfl `d `d `d,aO]
  refine{ay `d,.inr {B,_,s2,.inr {?_,_,rfl}}}
  simp at h;omega
 ·have h:=of_decide_eq_false h;refine .inr {B,_,s2,.inl {?_,rfl}};simp at h;omega
end
section
variable{P:Nat->Option Df}{M0 M:Mem}{m:aK}{lk lv fk p i B0:Nat}{E0:F3}{A:List aB}{x8:D}{S:aB->Prop}{x0 x1 x6 x9 x10:Option D}
def v8 (h:vh M0 fk x8 A)(k:aZ fk M0 M):cE M x8=some (A.map bD):=by
 rcases h with rfl|⟨c,rfl,j,e⟩
 ·rfl
 ·exact k.get e j
def Hk (h152:P 152=some {2,2,dP})(n:Nat)(hm:aC m)(hi:i<m.deeds.length)(ek:M0[lk]?=some (fb m (cj m i)))(hk:lk≠fk)(R:vh M0 fk x8 A)(U:∀b∈A,∃e∈E0,e.1=b/\e.2.1+cst m i=p)(hok:∀b∈A,b.length<=16/\∀s∈b,cU m s)(hp:p<=900)
 (s:ke B0 M0 M m lv fk (E0++N) (N.map (·.1))) (h:NW p (un E0) S (un N)) (hl:(E0++N).length<=255)
 (k1:∀M' u J v,ke B0 M0 M' m lv fk (E0++u) (u.map (·.1))->NW p (un E0) (λb=>S b\/b∈A.map (aV m i)) (un u)->(E0++u).length<=255->kf (.next [x0,x1,some (.fn (au fk)),some (nD p),some (.cell M0.length),some (nD i),x6,some (.fn (au lk)),some x8,J,v]) M')
 (k2:∀Z M',aZ fk M0 M'->so p (un E0) (λb=>S b\/b∈A.map (aV m i))->kf (.exc (.exc 8 none) Z) M') :
 ae (cu (.one 9) (bK (aa 8)) (t6 (ag P (n+1))) [x0,x1,some (.fn (au fk)),some (nD p),some (.cell M0.length),some (nD i),x6,some (.fn (au lk)),some x8,x9,x10] M) kf:=by
 simp only[dh,fO,bo];refine{_,rfl,by rcases R with rfl|⟨c,rfl,_⟩<;>rfl,?_}
 refine ic (ds:=A.map bD) (λj Z M'=>∃u J v,ke B0 M0 M' m lv fk (E0++u) (u.map (·.1))/\NW p (un E0) (λb=>S b\/b∈(A.take j).map (aV m i)) (un u)/\(E0++u).length<=255/\Z=[x0,x1,some (.fn (au fk)),some (nD p),some (.cell M0.length),some (nD i),x6,some (.fn (au lk)),some x8,J,v])
  (λfl M'=>(∃Z,fl=.exc (.exc 8 none) Z)/\aZ fk M0 M'/\so p (un E0) (λb=>S b\/b∈A.map (aV m i))) ?_ ?_ ?_ {N,x9,x10,s,?_,hl,rfl} ?_ ?_ ?_
 ·rintro fl M' ⟨⟨Z,rfl⟩,_⟩ ρ' z;cases z
 ·rintro j Z M' ⟨u,_,_,I,_⟩;exact v8 R I.k
 ·rintro fl M' ⟨_,k,_⟩;exact v8 R k
 ·exact{h.nd,λx F=>{.inl (h.fr x F).1,(h.fr x F).2},λb L=>L.elim (h.al b) λz=>by simp at z}
 ·rintro j x Z M' hd ⟨u,J,v,I,Q,B,rfl⟩;rw[Qv] at hd;cases e:A[j]? with
  |none=>rw[e] at hd;cases hd
  | some b =>
    rw[e] at hd;have hd:=Qr hd;subst hd;have L:=QC e;refine{_,rfl,?_};obtain⟨e0,W,eb,ep⟩:=U b L;have H:∀x,(S x\/x∈(A.take (j+1)).map (aV m i))↔((S x\/x∈(A.take j).map (aV m i))\/x=aV m i b):=λx=>by
     rw[Ro,e];simp[or_assoc]
    have O:∀x,(S x\/x∈(A.take (j+1)).map (aV m i))->(S x\/x∈A.map (aV m i)):=λx F=>F.imp id λz=>by
     obtain⟨y,hy,rfl⟩:=Qh.mp z;exact Q6 (RQ hy)
    refine aI (LI h152 n hm B I (by rw[P8];simp at B;omega) (I.k.get ek hk) hp hi (hok b L).1 (hok b L).2 {e0,Rh _ W,eb,ep}) ?_
    rintro fl M' (⟨hin,rfl,rfl⟩|⟨hno,c,s2,hh⟩)
    ·exact .inl {_,rfl,u,_,_,I,Q.old H (by rw[<- mr];exact yR.mpr hin),B,rfl}
    ·have E:=Q.new H (r:=[]) (λx F z=>by
      rw[<- mr] at F;obtain⟨e2,X,z2⟩:=yR.mp ⟨x,F,z⟩;exact hno e2 X z2) (Rv _)
     rw[show un u++[(aV m i b,p,[])]=un (u++[(aV m i b,p,c)]) from(mr u [(aV m i b,p,c)]).symm] at E;rw[Rl,show u.map (·.1)++[aV m i b]=(u++[(aV m i b,p,c)]).map (·.1) from by rw[QG];rfl] at s2
     rcases hh with⟨hlt,rfl⟩|⟨Y,Z,rfl⟩
     ·exact .inl {_,rfl,_,_,_,s2,E,by simp at hlt ⊢;omega,rfl}
     ·exact .inr {{_,rfl},s2.k,_,E.nd,λx F=>{O _ (E.fr x F).1,(E.fr x F).2.1},by rw[<- mr,IC];simp at Y ⊢;omega}
 ·rintro Z M' ⟨u,J,v,I,Q,B,rfl⟩;rw[P8,Rg (Qe _)] at Q;exact k1 M' u J v I Q B
 ·rintro fl M' ⟨⟨Z,rfl⟩,k,ov⟩;exact k2 Z M' k ov
end
structure l9 (B0:Nat) (M:Mem) (m:aK) (L0 lv fk:Nat) (E:F3) (lvs:List D) (p:Nat) (Ls:Nat->List aB):Prop where
 f:M[fk]?=some (j7 E)
 l:M[lv]?=some lvs
 ne:lv≠fk
 len:lvs.length=p
 lvl:∀q x,lvs[q]?=some x->vh M fk x (Ls q)
 led:∀i,i<m.deeds.length->M[L0+i]?=some (fb m (cj m i))/\L0+i≠fk/\L0+i≠lv
 lvn:∀(q c:Nat),lvs[q]?=some (D.cell c)->c≠lv
 row:∀e∈E,(∃r,M[e.2.2]?=some (r.map nD)/\gr m r e.1 e.2.1)/\e.2.2≠fk/\e.2.2≠lv/\B0<=e.2.2
 lo:B0<=fk
 lss:∀q,q<p->∀b,b∈Ls q↔bz m q b
 all:cz m p ((un E).map pr)
 few:E.length<=255
def Es (c:Call):GS:=#v[aw (.one 8) (fC (ak (ax .le (aa 6) (aa 3))) (ao (aa 1) (ai false .sub (aa 3) (aa 6))) (a7 false a9)),cu (.one 9) (bK (aa 8)) (t6 c)]
section
variable{P:Nat->Option Df}{M:Mem}{m:aK}{L0 lv fk p B0:Nat}{E0:F3}{lvs:List D}{Ls:Nat->List aB}
set_option tactic.hygienic true in
def Ca (hbn:∀c,bn c=#v[aw (.one 3) (aJ .len #[aa 1]),aw (.one 4) (a7 true a9),cu (.two 5 [6,7]) (gY (aa 0)) (Es c),aP (aa 4)])(h152:P 152=some {2,2,dP})(hnx:P nx=some {3,11,bn})(n:Nat)(hm:aC m)(hp:p<=900)(s:l9 B0 M m L0 lv fk E0 lvs p Ls) :
 fW (ag P (n+2) nx [b7 m L0,.cell lv,.fn (au fk)] M) (λd M'=>d=.cell M.length/\∃N,ke B0 M M' m lv fk (E0++N) (N.map (·.1))/\NW p (un E0) (jJ m p Ls m.deeds.length) (un N)/\(E0++N).length<=255)
  (λx M'=>x=.exc 8 none/\so p (un E0) (jJ m p Ls m.deeds.length)/\aZ fk M M'):=by
 refine pa hnx rfl ?_;show ae (bn (ag P (n+1)) [some (b7 m L0),some (.cell lv),some (.fn (au fk)),none,none,none,none,none,none,none,none] M) _;rw[hbn];have hf:=d7 s.f;have hlv:=d7 s.l;have X:(E0.map (·.1)).Nodup:=by have:=s.all.nd;rw[h6,qo] at this;exact this
 have el:aJ .len #[aa 1] [some (b7 m L0),some (.cell lv),some (.fn (au fk)),none,none,none,none,none,none,none,none] M=.ok (nD p) M:=by
  refine aj (bQ.mpr ?_);rw[af rfl rfl,aO];show ae (match M[lv]? with|some xs=>Res.ok (D.int xs.length) M|none=>.bad) _
  rw[s.l];exact{by show D.int (lvs.length:Int)=_;rw[s.len],rfl}
 refine bu (bF el) ?_;refine b4 rfl ?_;rw[aA];simp only[dh,yO,bo];refine{_,rfl,rfl,?_};have start:ke B0 M (M++[[]]) m lv fk (E0++[]) []:=by
  rw[Q7];refine{by rw[Qi hf];exact s.f,hf,hlv,Qo s.lo (Sf hf),`s,λe U=>?_,aZ.app,X}
  obtain⟨⟨r,er,ro⟩,h1,h2⟩:=s.row e U;have:=d7 er;exact{{r,by rw[Qi this];exact er,ro},h1,QN this,h2}
 have F:∀q,q<p->∀b∈Ls q,(∃e∈E0,e.1=b/\e.2.1=q)/\b.length<=16/\∀s∈b,cU m s:=λq Q b u=>by
  have lb:=(s.lss q Q b).mp u;have ok:=iD hm lb.1;refine{?_,by rw[ok.1];exact bX hm,ok.2}
  have:=s.all.all q b Q lb;unfold un at this;rw[Q1] at this;obtain⟨e,U,z⟩:=Qh.mp this;cases z;exact⟨e,U,rfl,rfl⟩
 refine ic (λi H M'=>∃N y5 y6 y7 Y y9 B,ke B0 M M' m lv fk (E0++N) (N.map (·.1))/\NW p (un E0) (jJ m p Ls i) (un N)/\(E0++N).length<=255/\H=[some (b7 m L0),some (.cell lv),some (.fn (au fk)),some (nD p),some (.cell M.length),y5,y6,y7,Y,y9,B])
  (λfl M'=>(∃H,fl=.exc (.exc 8 none) H)/\aZ fk M M'/\so p (un E0) (jJ m p Ls m.deeds.length)) ?_ (λ_ _ _ _=>rfl) (λ_ _ _=>rfl) {[],none,none,none,none,none,none,start,?_,?_,rfl} ?_ ?_ ?_
 ·rintro fl M' ⟨⟨H,rfl⟩,_⟩ ρ' z;cases z
 ·exact{by rw[show un []=[] from rfl,Q7,qo];exact X,(λx I=>nomatch I),λb ⟨i,O,_⟩=>absurd O (Ry _)}
 ·rw[Q7];exact s.few
 ·rintro i x H M' I ⟨N,y5,y6,y7,Y,y9,B,s',nw,hl,rfl⟩;obtain⟨x2,J,rfl⟩:=wB I;rw[Qv] at J;have O:i<m.deeds.length:=by
   have:=(P9.mp I).1;rw[lR] at this;simpa using this
  rw[List.getElem?_range O] at J;cases J;rw[Nat.zero_add];refine{_,rfl,?_};obtain⟨hk1,hk2,_⟩:=s.led i O;have cok:=g6 hm O;have v:∀b,(jJ m p Ls i b\/b∈(i9 m p Ls i).map (aV m i))↔jJ m p Ls (i+1) b:=λb=>by
   constructor
   ·rintro(⟨j,hj,h⟩|h)
    ·exact{j,RN hj,h}
    ·exact{i,Nat.lt_succ_self _,h}
   ·rintro⟨j,hj,h⟩;rcases RP j i with z|z
    ·exact .inl ⟨j,z,h⟩
    ·have:j=i:=`a
     subst this;exact .inr h
  have hx8:∃x8,fC (ak (ax .le (aa 6) (aa 3))) (ao (aa 1) (ai false .sub (aa 3) (aa 6))) (a7 false a9) [some (b7 m L0),some (.cell lv),some (.fn (au fk)),some (nD p),some (.cell M.length),some (nD i),some (nD (cst m i)),some (.fn (au (L0+i))),Y,y9,B] M'=.ok x8 M'/\vh M fk x8 (i9 m p Ls i):=by
   have W:ak (ax .le (aa 6) (aa 3)) [some (b7 m L0),some (.cell lv),some (.fn (au fk)),some (nD p),some (.cell M.length),some (nD i),some (nD (cst m i)),some (.fn (au (L0+i))),Y,y9,B] M'=.ok (decide ((cst m i:Int)<=(p:Int))) M':=by
    exact dj (ip.mpr (eD.mpr (bo.mpr {_,rfl,bo.mpr {_,rfl,_,rfl,_,rfl,rfl,rfl}})))
   by_cases L:cst m i<=p
   ·have Q:p-cst m i<lvs.length:=by rw[s.len];omega
    refine{lvs[p-cst m i],ib W (λ_=>?_) (λz=>absurd `a (of_decide_eq_false z)),?_}
    ·refine bq (y:=nD (p-cst m i)) rfl ?_ ?_
     ·refine aj (g5.mpr (bo.mpr {_,rfl,bo.mpr {_,rfl,IV.mpr {?_,rfl}}}))
      congr 1;omega
     ·show(M'[lv]?).bind _=_;rw[s'.k.get s.l s.ne];show((cv lvs.length ((p-cst m i:Nat):Int)).bind λj=>lvs[j]?)=_;rw[cY Q];exact Qq Q
    ·have:=s.lvl _ _ (Qq Q);unfold i9;rw[if_pos L];exact this
   ·refine{.lst [],ib W (λz=>absurd (of_decide_eq_true z) `a) (λ_=>f7 rfl `d),?_}
    unfold i9;rw[if_neg L];exact .inl rfl
  obtain⟨x8,e8,l8⟩:=hx8;refine bu (bF e8) ?_;rw[aA];have R:∀b∈i9 m p Ls i,cst m i<=p/\b∈Ls (p-cst m i):=λb u=>by
   unfold i9 at u;split at u
   ·next L=>exact⟨L,u⟩
   ·exact nomatch u
  refine Hk h152 n hm O hk1 hk2 l8 (λb u=>?_) (λb u=>?_) hp s' nw hl (λM2 N' z9 z10 s2 E hl'=>?_) λH M2 k2 ov=>?_
  ·obtain⟨L,h2⟩:=R b u;obtain⟨e,U,eb,eq⟩:=(F _ `a b h2).1
   exact{e,U,eb,`a}
  ·obtain⟨L,h2⟩:=R b u;exact(F _ `a b h2).2
  ·refine .inl {_,rfl,N',_,_,_,_,_,_,s2,?_,hl',rfl};exact{E.nd,λx I=>{(v _).mp (E.fr x I).1,(E.fr x I).2},λb u=>E.al b ((v b).mpr u)}
  ·refine .inr {{_,rfl},k2,ov.mono λb u=>?_};obtain⟨j,hj,h⟩:=(v b).mp u;exact{j,`a,h}
 ·rintro H M' ⟨N,y5,y6,y7,Y,y9,B,s',nw,hl,rfl⟩;rw[lR,P8,Ru] at nw;exact bt.mpr (bC rfl ⟨rfl,N,s',nw,hl⟩)
 ·rintro fl M' ⟨⟨H,rfl⟩,k,ov⟩;exact⟨rfl,ov,k⟩
end
section
variable{M M':Mem}{m:aK}{L0 lv fk p B0:Nat}{E0 N:F3}{lvs:List D}{Ls:Nat->List aB}{Z:Env}
set_option tactic.hygienic true in
def l9.next (hm:aC m)(I:0<p)(s:l9 B0 M m L0 lv fk E0 lvs p Ls)(h:ke B0 M M' m lv fk (E0++N) (N.map (·.1)))(O:NW p (un E0) (jJ m p Ls m.deeds.length) (un N))(hl:(E0++N).length<=255) :
 l9 B0 (M'.set lv (lvs++[.cell M.length])) m L0 lv fk (E0++N) (lvs++[.cell M.length]) (p+1) (lsN Ls p (N.map (·.1))):=by
 obtain⟨h1,h2⟩:=Ha hm I s.lss s.all O;rw[qo] at h2;rw[<- mr] at h1;have J:=QE h.ll h.k.len;have old:∀{c:Nat}{x:List D},c≠fk->c≠lv->M[c]?=some x->(M'.set lv (lvs++[.cell M.length]))[c]?=some x:=λn1 n2 e=>by
  rw[Qj (Rf n2)];exact h.k.get e n1
 refine{?_,QI J,s.ne,by simp[s.len],λq x j=>?_,λi H=>?_,λq c u=>?_,λe F=>?_,s.lo,λq v b=>?_,h1,hl}
 ·rw[Qj s.ne];exact h.f
 ·rcases RP q p with z|z
  ·rw[Qi (by rw[s.len];exact z)] at j
   unfold lsN;rw[if_neg `a]
   rcases s.lvl q x j with y|⟨c,y,n1,e⟩
   ·exact .inl y
   ·exact .inr {c,y,n1,old n1 (s.lvn q c (y ▸ j)) e}
  ·have v:q=p:=by
    have:=(P9.mp j).1;simp[s.len] at this;omega
   subst v;rw[QO (by rw[s.len];exact Qe _),s.len,Nat.sub_self] at j
   cases j;unfold lsN;rw[if_pos rfl];refine .inr {_,rfl,Rj h.fl,?_};rw[Qj (QN h.ll)];exact h.l
 ·obtain⟨e1,e2,B⟩:=s.led i H;exact{old e2 B e1,e2,B}
 ·rcases RP q p with z|z
  ·rw[Qi (by rw[s.len];exact z)] at u
   exact s.lvn q c u
  ·have v:q=p:=by
    have:=(P9.mp u).1;simp[s.len] at this;omega
   subst v;rw[QO (by rw[s.len];exact Qe _),s.len,Nat.sub_self] at u
   cases u;exact Rj h.ll
 ·obtain⟨⟨r,er,ro⟩,n1,_,E,L⟩:=h.r e F;exact{{r,by rw[Qj (Rf E)];exact er,ro},n1,E,L}
 ·unfold lsN;split
  ·next z=>rw[z];exact h2 b
  ·next z=>exact s.lss q `a b
def Br (s:l9 B0 M m L0 lv fk E0 lvs p Ls)(F:p<=900)(hi:Z[i]?.getD none=some (.cell lv)):∃b:Bool,ak (qL (b5 false true false (aa i) (bW (gI 3)) gN)) Z M=.ok b M/\(b=false->∀q,q<p->p<=q+3->Ls q=[])/\(b=true->∃q,q<p/\p<=q+3/\Ls q≠[]):=by
 have y:b5 false true false (aa i) (bW (gI 3)) gN Z M=.ok (.lst (lvs.drop (p-3))) M:=by
  refine aj (nU.mpr (bo.mpr {_,hi,nV.mpr (cZ.mpr {3,rfl,cZ.mpr {rfl,rfl,?_}})}));show ae (match M[lv]? with|some xs=>(match aU xs.length 0 (.int (-3)),aU xs.length xs.length .non with|some l,some h=>bf false (cut xs l h) M|_,_=>.bad)|none=>.bad) _
  rw[s.l];show ae (bf false (cut lvs (-3+(lvs.length:Int)).toNat lvs.length) M) _;have hl:=s.len;have e1:(-3+(lvs.length:Int)).toNat=p-3:=`a
  have e2:cut lvs (p-3) lvs.length=lvs.drop (p-3):=by
   exact Rg `s
  rw[e1,e2];exact bI.mpr {ay `o,rfl,rfl}
 refine{((List.range (lvs.drop (p-3)).length).map λj=>!(Ls (p-3+j)).isEmpty).any id,?_,λh q H E=>?_,λh=>?_}
 ·refine bN ?_;unfold qL;rw[y];show(match jK M (lvs.drop (p-3)) with|some bs=>Res.ok (D.bl (bs.any id)) M|none=>.bad)=_
  rw[vw (g:=λq=>!(Ls q).isEmpty) λj x u=>?_];rw[List.getElem?_drop] at u;exact Km (s.lvl _ x u)
 ·have z:=List.any_eq_false.mp h;have h1:=z (!(Ls q).isEmpty) (Qh.mpr {q-(p-3),?_,?_})
  ·cases e:(Ls q) with
   |nil=>rfl
   |cons a l=>rw[e] at h1;exact absurd rfl h1
  ·rw[RH,List.length_drop,s.len];omega
  ·rw[show p-3+(q-(p-3))=q by omega]
 ·obtain⟨x,u,v⟩:=RK.mp h;obtain⟨j,B,rfl⟩:=Qh.mp u;rw[RH,List.length_drop,s.len] at B;refine{p-3+j,`a,`a,λz=>?_}
  rw[z] at v;cases v
def Nz {c:Int}(h:c=77\/c=78)(h1:gk Z (M++[[D.int c]])=.ok x (M++[[D.int c]]))(h2:gv Z (M++[[D.int c]])=.ok y (M++[D.int c]::X))(j:isKey c x=true):wx c gk gv Z M=.ok (.fn (au M.length)) (M++[D.int c,D.tup [x,y]]::X):=by
 unfold wx;rw[h1];show(gv Z (M++[[D.int c]])).bind _=_;rw[h2];have e:bB (M++[D.int c]::X) (au M.length)=some (c,[]):=jx `s h
 show(match bB (M++[D.int c]::X) (au M.length) with|some q=>if isKey q.1 x=true/\q.2.length<1000000 then Res.ok (D.fn (au M.length)) ((M++[D.int c]::X).set (au M.length-5000) (.int q.1::putD q.2 x y)) else .bad|none=>.bad)=_
 rw[e];show(if isKey c x=true/\0<1000000 then Res.ok (D.fn (au M.length)) ((M++[D.int c]::X).set (au M.length-5000) (.int c::putD [] x y)) else .bad)=_;rw[if_pos {j,`d},show au M.length-5000=M.length from Rk _ _,List.set_append_right _ _ (Qe _),Nat.sub_self]
 rfl
end
noncomputable def sj:Option Nat->D
 |none=>.non
 |some b=>nD b
def AllIn (m:aK):Option Nat->List (aB×Nat)->Prop
 |some b,A=>cz m (b+1) A
 |none,A=>∃p,cz m p A/\∀q,p<=q->∀b,¬ bz m q b
def jG (m:aK):Option Nat->Prop
 |some b=>kc m (b+1)
 |none=>∃p,kc m p
def ve (m:aK)(h:Nat)(M:Mem)(E:F3):Prop:=∀e∈E,(∃r,M[e.2.2]?=some (r.map nD)/\gr m r e.1 e.2.1)/\h<=e.2.2
section
variable{P:Nat->Option Df}{M:Mem}{m:aK}{bd:Option Nat}
set_option tactic.hygienic true in
def zB (hbn:∀c,bn c=#v[aw (.one 3) (aJ .len #[aa 1]),aw (.one 4) (a7 true a9),cu (.two 5 [6,7]) (gY (aa 0)) (Es c),aP (aa 4)])
 (hbr:∀c,br c=#v[eO (.one 2) (bO 151 c #[aa 0]),aw (.one 3) (aJ .tuple #[ah 15 c #[aa 0]]),aw (.one 4) (wx 78 (aa 3) (aM #[gI 0,a7 true a9])),aw (.one 5) (a7 true #[a7 false #[aa 3]]),gL (eQ (ak (qL (b5 false true false (aa 5) (bW (gI 3)) gN))) (eL (ak (ax .isN (aa 1) gN)) (ak (ax .le (aJ .len #[aa 5]) (aa 1))))) #v[nA (aa 5) (bO nx c #[aa 2,aa 5,aa 4])],aP (aa 4)])
 (hb:HasB0 P) (hr:i7 P) (h15:P 15=some {1,6,b8}) (h151:P 151=some {1,2,dI}) (h152:P 152=some {2,2,dP}) (hnx:P nx=some {3,11,bn}) (hrc:P rc=some {2,6,br}) (n:Nat) (hm:aC m) (hbd:∀b,bd=some b->b<=70) :
 fW (ag P (n+11) rc [m.d,sj bd] M) (λd M'=>∃fk E,d=.fn (au fk)/\M.length<=fk/\M'[fk]?=some (j7 E)/\ve m M.length M' E/\AllIn m bd ((un E).map pr)/\E.length<=255/\Sub M M') (λx M'=>x=.exc 8 none/\jG m bd/\Sub M M'):=by
 refine pa hrc rfl ?_;show ae (br (ag P (n+10)) [some m.d,some (sj bd),none,none,none,none] M) _;rw[hbr];refine b4 (oj ((eK (af rfl rfl)).trans (tv hb hr h15 h151 n hm))) ?_;have et:aJ .tuple #[ah 15 (ag P (n+10)) #[aa 0]] [some m.d,some (sj bd),some (b7 m M.length),none,none,none] (M++m.deeds.map (fb m))=.ok (bD (aS m)) (M++m.deeds.map (fb m)):=by
  refine aj (bQ.mpr ?_);rw[af ((aQ (af rfl rfl)).trans (ki hb h15 (n+1) hm)) rfl,aO];exact⟨rfl,rfl⟩
 refine b4 (c4 et) ?_;generalize J:M++m.deeds.map (fb m)=h;have ev:aM #[gI 0,a7 true a9] [some m.d,some (sj bd),some (b7 m M.length),some (bD (aS m)),none,none] (h++[[D.int 78]])=.ok (.tup [.int 0,.cell (h.length+1)]) (h++[D.int 78]::[[]]):=by
  refine iA (fD rfl (fD ?_ rfl)) (Qp rfl);show Res.ok (D.cell (h++[[D.int 78]]).length) ((h++[[D.int 78]])++[[]])=_;rw[QD,Rl];rfl
 refine b4 (c4 (Nz (.inr rfl) rfl ev (iw _))) ?_;generalize y:h++[D.int 78,D.tup [bD (aS m),D.tup [D.int 0,D.cell (h.length+1)]]]::[[]]=v;refine b4 rfl ?_;have l1:h.length=M.length+m.deeds.length:=by rw[<- J];simp
 have l2:v.length=h.length+2:=by rw[<- y];simp
 have s1:Sub M (v++[[.lst [bD (aS m)]]]):=by rw[<- y,<- J,Rl,Rl];exact Sub.app
 have start:l9 M.length (v++[[.lst [bD (aS m)]]]) m M.length v.length h.length [(aS m,0,h.length+1)] [.lst [bD (aS m)]] 1 (λ_=>[aS m]):=by
  refine{?_,`s,`a,rfl,λq x S=>?_,λi hi=>?_,λq c hc=>?_,?_,`a,λq hq b=>?_,{by simp[un],λx S=>?_,λq b hq hl=>?_},Qp rfl}
  ·rw[Qi `a,<- y,QO (Qe _),Nat.sub_self];rfl
  ·cases q with
   |zero=>cases S;exact .inl rfl
   |succ q=>simp at S
  ·refine{?_,`a,`a}
   rw[Qi `a,<- y,Qi `a,<- J,QO `a]
   rw[Rk,Qv,Qq hi];rw[<- nX (Qq hi)];rfl
  ·cases q with
   |zero=>cases hc
   |succ q=>simp at hc
  ·intro e he;obtain rfl:=Qs.mp he;refine{{[],?_,gr.nil},by show h.length+1≠h.length;omega,by show h.length+1≠v.length;omega,by show M.length<=h.length+1;omega}
   rw[Qi (by show h.length+1<v.length;omega),<- y,QO (by show h.length<=h.length+1;omega)]
   rw[Rk];rfl
  ·have:q=0:=`a
   subst this;rw[d8 hm];exact Qs
  ·have S:=Qs.mp S;subst S;exact{(d8 hm).mpr rfl,Nat.zero_lt_one}
  ·have:q=0:=`a
   subst this;rw[(d8 hm).mp hl];exact Qs.mpr rfl
 rw[aA];refine lr (λk Z M'=>∃p E H Ls g,k=900-p/\1<=p/\(∀b,bd=some b->p<=b+1)/\g<=3/\p+2<=3*E.length+g/\(∀q,q<p->p<=q+g->Ls q=[])/\l9 M.length M' m M.length v.length h.length E H p Ls/\Sub M M'/\Z=[some m.d,some (sj bd),some (b7 m M.length),some (bD (aS m)),some (.fn (au h.length)),some (.cell v.length)]) ?_ `a {1,_,_,_,0,rfl,`a,λb _=>`a,`a,Qp rfl,λq h1 h2=>`a,start,s1,rfl}
 rintro k Z M' ⟨p,E,H,Ls,g,rfl,Q,hp2,hg,hpg,Y,s,u,rfl⟩;have few:=s.few;have hp:p<=800:=`a
 obtain⟨b,e1,F,O⟩:=Br s `a (Z:=[some m.d,some (sj bd),some (b7 m M.length),some (bD (aS m)),some (.fn (au h.length)),some (.cell v.length)]) (i:=5) rfl
 have el:aJ .len #[aa 5] [some m.d,some (sj bd),some (b7 m M.length),some (bD (aS m)),some (.fn (au h.length)),some (.cell v.length)] M'=.ok (nD p) M':=by
  refine aj (bQ.mpr ?_);rw[af rfl rfl,aO];show ae (match M'[v.length]? with|some xs=>Res.ok (D.int xs.length) M'|none=>.bad) _
  rw[s.l];exact{by show D.int (H.length:Int)=_;rw[s.len],rfl}
 have e3:∃W:Bool,eL (ak (ax .isN (aa 1) gN)) (ak (ax .le (aJ .len #[aa 5]) (aa 1))) [some m.d,some (sj bd),some (b7 m M.length),some (bD (aS m)),some (.fn (au h.length)),some (.cell v.length)] M'=.ok W M'/\(W=false->∃B,bd=some B/\p=B+1)/\(W=true->∀B,bd=some B->p<=B):=by
  cases bd with
  |none=>exact{true,rfl,(λz=>by cases z),λ_ B z=>by cases z}
  | some B =>
    have hB:=hp2 B rfl;refine{decide ((p:Int)<=(B:Int)),pK (x:=false) rfl ?_,λz=>{B,rfl,by have:=of_decide_eq_false z;omega},λz B' e=>by cases e;have:=of_decide_eq_true z;omega}
    refine dj (ip.mpr (eD.mpr ?_));rw[el,aO];exact bo.mpr {_,rfl,_,rfl,_,rfl,rfl,rfl}
 obtain⟨W,e4,hno,I⟩:=e3;rw[kL e1 e4,aO];refine{λR=>?_,λR=>?_}
 ·have X:AllIn m bd ((un E).map pr):=by
   have stop:=λhb=>xO hm Q λq' h1 h2 c hl=>by
    have:=(s.lss q' h1 c).mpr hl;rw[F hb q' h1 h2] at this;exact nomatch this
   cases L:W with
   | false =>
     obtain⟨B,rfl,hpB⟩:=hno L;show cz m (B+1) _;rw[<- hpB];exact s.all
   | true =>
     rw[L,Bool.and_true] at R;cases bd with
     |none=>exact{p,s.all,stop R}
     |some B=>exact s.all.mono (by have:=I L B rfl;omega) λq c hq _=>stop R q hq c
  exact bt.mpr (bC rfl {h.length,E,rfl,`a,s.f,λe he=>{(s.row e he).1,(s.row e he).2.2.2},X,few,u})
 ·have hb1:=(R1.mp R).1;have hpb:=I (R1.mp R).2;have hg2:g<=2:=by
   obtain⟨q,h1,h2,h3⟩:=O hb1;rcases RP g 3 with z|z
   ·omega
   ·exact absurd (Y q h1 `a) h3
  refine{900-(p+1),`a,?_}
  rw[aA];have U:=Ca hbn h152 hnx (n+8) hm `a s
  refine Ib rfl ?_;rw[eK (af rfl (af rfl (af rfl rfl)))];have sN:∀{M3:Mem},aZ h.length M' M3->Sub M M3:=λk=>{Qo u.len k.len,λj hj=>(k.at' j (QE hj u.len) `a).trans (u.at' j hj)}
  cases e:ag P (n+8+2) nx [b7 m M.length,.cell v.length,.fn (au h.length)] M' with
  |bad=>rw[e] at U;exact U.elim
  | err x M3 =>
    rw[e] at U;obtain⟨rfl,ov,kk⟩:=U;refine .inr {(λ_ z=>nomatch z),rfl,?_,sN kk};have mn:=Cz hm Q s.lss s.all ov;cases bd with
    |none=>exact{_,mn}
    |some B=>exact mn.mono (by have:=hpb B rfl;omega)
  | ok d M3 =>
    rw[e] at U;obtain⟨rfl,N,s',nw,hl⟩:=U;refine{H,s'.k.get s.l s.ne,by rw[s.len];exact RG hp `d,?_}
    have sx:=s.next hm Q s' nw hl
    refine .inl {_,rfl,p+1,E++N,_,_,if N=[] then g+1 else 0,rfl,`a,λB hB=>by have:=hpb B hB;omega,?_,?_,λq h1 h2=>?_,sx,(sN s'.k).setq `a,rfl}
    ·split<;>omega
    ·cases N with
     |nil=>rw[if_pos rfl,Q7];omega
     |cons a N=>rw[if_neg `s,QD,RB];omega
    ·unfold lsN;split
     ·next z=>
      cases N with
      |nil=>rfl
      |cons a N=>rw[if_neg `s] at h2;omega
     ·next z=>
      cases N with
      |nil=>rw[if_pos rfl] at h2;exact Y q `a `a
      |cons a N=>rw[if_neg `s] at h2;omega
end
structure Oj where
 place:Nat
 num:Nat
 back:Bool
def Oj.d (s:Oj):D:=.tup [nD s.place,nD s.num,.bl s.back]
def rY (f:D->Bool)(g:D->D)(hz:ds.length<=sz)(B:w M=some ds)
 (hs:∀d∈ds,∃u,bT tg d ρ0=some u/\gc u M=.ok (f d) M/\(f d=true->ge u M=.ok (g d) M)) (z:kl ((ds.filter f).map g) M):ae (cW (cP tg (iQ gc (bg ge)) ρ0) w [] M) kl:=by
 refine fz (λi j v=>v=M/\j=((ds.take i).filter f).map g) (λi j v h=>by rw[h.1];exact B) ⟨rfl,rfl⟩ ?_ ?_
 ·rintro i d j v hd ⟨rfl,rfl⟩;obtain⟨u,e1,e2,y⟩:=hs d (QC hd);have E:i<ds.length:=(P9.mp hd).1;simp only[cP,e1,tX,Res.bind_ok,iQ,e2];rw[Ro,hd];cases q:f d with
  | false =>
    simp[q]
  | true =>
    rw[if_pos rfl];have len:(((ds.take i).filter f).map g).length<=i:=by
     rw[P8];exact Qo (RZ _ _) `o
    simp only[bg,y q,Res.bind_ok];rw[if_pos `a]
    simp[q]
 ·rintro j v ⟨rfl,rfl⟩;simpa using z
set_option tactic.hygienic true in
def Kn {a b:Int}(h:mF a x b y=true):a<=b:=by
 unfold mF at h;split at h
 ·next e=>exact Int.le_of_eq (eq_of_beq e)
 ·exact Int.le_of_lt (of_decide_eq_true h)
set_option tactic.hygienic true in
def Ko {a b:Int}(h:mF a x b y=false):b<=a:=by
 unfold mF at h;split at h
 ·next e=>exact Int.le_of_eq (eq_of_beq e).symm
 ·exact Int.not_lt.mp (of_decide_eq_false h)
def wW (ks:List (Int×List Int)):∀n:Nat,argBest (mG ks) n<=n/\∀j,j<=n->(ks.getD (argBest (mG ks) n) (0,[])).1<=(ks.getD j (0,[])).1
 |0=>{Qe _,λj h=>by rw[Nat.le_zero.mp h];exact Int.le_refl _}
 | n + 1 => by
   obtain⟨h1,h2⟩:=wW ks n;unfold argBest;cases e:mG ks (n+1) (argBest (mG ks) n) with
   | true =>
     refine{Qe _,λj h=>?_};rcases Nat.lt_or_eq_of_le h with h|rfl
     ·exact Int.le_trans (Kn e) (h2 j (Nat.le_of_lt_succ h))
     ·exact Int.le_refl _
   | false =>
     refine{Nat.le_succ_of_le h1,λj h=>?_};rcases Nat.lt_or_eq_of_le h with h|rfl
     ·exact h2 j (Nat.le_of_lt_succ h)
     ·exact Ko e
def zW {α:Type}(v:α->D)(q:α->Int×List Int):∀{A:List α},(∀x∈A,rH M (v x)=some (q x))->qA M (A.map v)=some (A.map q)
 |[],_=>rfl
 | x :: A, h => by
   show(rH M (v x)).bind _=_;rw[h x QB];rw[zW v q λy j=>h y (Qu _ j)];rfl
def G9 {α:Type}(v:α->D)(q:α->Int×List Int){A:List α}(F:a Z M=.ok (.lst (A.map v)) M1)(I:∀x∈A,rH M1 (v x)=some (q x)) :
 (A=[]/\lN a Z M=.ok .non M1)\/∃x∈A,lN a Z M=.ok (v x) M1/\∀y∈A,(q x).1<=(q y).1:=by
 have e:lN a Z M=.ok ((A.map v).getD (argBest (mG (A.map q)) ((A.map v).length-1)) .non) M1:=by
  unfold lN;rw[F];show(match qA M1 (A.map v) with|some ks=>Res.ok ((A.map v).getD (argBest (mG ks) ((A.map v).length-1)) .non) M1|none=>.bad)=_
  rw[zW v q I]
 rw[e];cases u:A with
 |nil=>exact .inl ⟨rfl,rfl⟩
 | cons z B =>
   refine .inr ?_;rw[<- u];have hl:0<A.length:=by rw[u];exact Nat.succ_pos _
   obtain⟨h1,h2⟩:=wW (A.map q) (A.length-1);have h:argBest (mG (A.map q)) (A.length-1)<A.length:=`a
   rw[P8];generalize argBest (mG (A.map q)) (A.length-1)=i at h1 h2 h;refine{A[i],Sa h,by rw[Ri,Qv,Qq h];rfl,λy J=>?_}
   obtain⟨j,H,rfl⟩:=List.getElem_of_mem J;have:=h2 j `a
   rw[Ri,Ri,Qv,Qv,Qq h,Qq H] at this;exact this
section
variable{α:Type}{k:α->aB}{v:α->D}{E:List α}{M:Mem}{fk:Nat}
def pP (u:Z[j]?.getD none=some (.fn (au fk)))(h:M[fk]?=some (gy k v E)):di b9 (aa j) Z M=.ok (dW (au fk) E.length b9) M/\dW (au fk) E.length b9 M=some (E.map λx=>bD (k x)):=by
 constructor
 ·unfold di;rw[aq u];show(match bB M (au fk) with|some q=>Res.ok (dW (au fk) q.2.length b9) M|none=>.bad)=_
  rw[eV h];show Res.ok (dW (au fk) (E.map _).length b9) M=_;rw[P8]
 ·unfold dW;rw[eV h];show(if (E.map _).length=E.length then some ((E.map _).map b9) else none)=_;rw[if_pos (P8 _),Q1];rfl
def wH (m:Bool)(p:α->Bool)(f:α->D)(I:Z[j]?.getD none=some (.fn (au fk)))(F:M[fk]?=some (gy k v E))(hl:E.length<=sz)
 (J:∀x∈E,t (some (bD (k x))::Z) M=.ok (p x) M) (H:∀x∈E,p x=true->ge (some (bD (k x))::Z) M=.ok (f x) M):ba m 1 (.one 0) (di b9 (aa j)) (iQ t (bg ge)) Z M=bf m ((E.filter p).map f) M:=by
 obtain⟨L,w2⟩:=pP I F;unfold ba;rw[L];show(cW (cP (.one 0) (iQ t (bg ge)) (none::Z)) (dW (au fk) E.length b9) [] M).bind (bf m)=_;have e:cW (cP (.one 0) (iQ t (bg ge)) (none::Z)) (dW (au fk) E.length b9) [] M=.ok ((E.filter p).map f) M:=by
  refine dj (fz (λi u y=>y=M/\u=((E.take i).filter p).map f) (λi u y h=>by rw[h.1];exact w2) ⟨rfl,rfl⟩ ?_ ?_)
  ·rintro i d u y hd ⟨rfl,rfl⟩;rw[Qv] at hd;obtain⟨x,z,rfl⟩:=Qk.mp hd;have hm:=QC z;have O:i<E.length:=(P9.mp z).1;have B:bT (.one 0) (bD (k x)) (none::Z)=some (some (bD (k x))::Z):=rfl;simp only[cP,B,tX,Res.bind_ok,iQ,J x hm];rw[Ro,z];cases q:p x with
   |false=>simp[q]
   | true =>
     rw[if_pos rfl];have len:(((E.take i).filter p).map f).length<=i:=by
      rw[P8];exact Qo (RZ _ _) `o
     simp only[bg,H x hm q,Res.bind_ok];rw[if_pos `a]
     simp[q]
  ·rintro u y ⟨rfl,rfl⟩;rw[P8,List.take_length];exact⟨rfl,rfl⟩
 rw[e];rfl
def Dk (m:Bool)(u:Z[j]?.getD none=some (.fn (au fk)))(h:M[fk]?=some (gy k v E)):kD m (aa j) Z M=bf m (E.map λx=>bD (k x)) M:=by
 unfold kD;rw[aq u];show(match bB M (au fk) with|some q=>bf m (q.2.map b9) M|none=>.bad)=_
 rw[eV h];show bf m ((E.map _).map b9) M=_;rw[Q1];rfl
end
def eq_empty (j:l.all (az 63)=true):bE .eq (.lst l) (.lst []) M=some l.isEmpty:=by
 refine n4 j rfl ?_;cases l<;>rfl
def lQ (f:D->Bool):∀ds:List D,((ds.filter λd=>!f d).map λ_=>D.int 1).isEmpty=ds.all f
 |[]=>rfl
 | d :: r => by
   have j:=lQ f r;cases q:f d with
   |true=>simpa[q] using j
   |false=>simp[q]
def vS (f:D->Bool)(u:ae (w Z M) λwk M'=>M'=M/\wk M=some ds)(hz:ds.length<=sz)(he:∀d∈ds,gc (some d::Z) M=.ok (!f d) M)(j:k (.bl (ds.all f)) M) :
 ae (ax .eq (ba false 1 (.one 0) w (iQ gc (bg (gI 1)))) (a7 false a9) Z M) k:=by
 simp only[eD,dm,sJ,cg,bI];refine aI u λwk M' ⟨e1,e2⟩=>?_;subst e1;refine rY (λd=>!f d) (λ_=>.int 1) hz e2 (λd hd=>{some d::Z,rfl,he d hd,λ_=>rfl}) ?_;refine{Qo (by rw[P8];exact RZ _ _) hz,ay `d,_,eq_empty ?_,?_}
 ·rw[Qt];intro x v;obtain⟨_,_,rfl⟩:=Qh.mp v;rfl
 ·rw[lQ];exact j
section
variable{P:Nat->Option Df}{M:Mem}{m:aK}{i:Nat}{b:aB}
def kT (v:HasB P)(h158:P 158=some {3,3,bS})(n:Nat)(hm:aC m)(hi:i<m.deeds.length)(hl:b.length<=16)(y:∀s∈b,cU m s):ae (ag P (n+2) 158 [m.d,bD b,nD i] M) λd M'=>d=bD (aV m i b)/\Sub M M':=by
 refine aH h158 rfl ?_;unfold bS;simp only[aA,cH,bQ,bR,dm,cg,fO,bo];refine{_,rfl,rfl,?_};refine comp_map (λj h M'=>h=((b.take j).map (bP (cj m i))).map av/\Sub M M') (ay `o) (λ_ _ _ _=>rfl) {rfl,.refl} ?_ ?_
 ·rintro j x h M' hd _ ⟨rfl,sub⟩;rw[Qv] at hd;cases e:b[j]? with
  |none=>rw[e] at hd;cases hd
  | some s =>
    rw[e] at hd;have hd:=Qr hd;subst hd;refine{_,rfl,?_};have hs:=y s (QC e);have u:ao (ao (aa 1) (gI 2)) (aa 3) [some (av s),some m.d,some (bD b),some (nD i)] M'=.ok (cj m i).d M':=bq (bq rfl rfl rfl) rfl (uu hi);show ae (ah 41 (ag P (n+1)) #[ao (ao (aa 1) (gI 2)) (aa 3),aa 0] [some (av s),some m.d,some (bD b),some (nD i)] M') _;rw[aQ (af u (af rfl rfl)),tB v n hm (gH hm hi) hs,aO];refine{?_,sub.trans Sub.app};rw[Ro,e];simp
 ·rintro h M' _ ⟨rfl,sub⟩;rw[P8,Rg (Qe _)];exact bI.mpr {ay `o,rfl,sub}
end
section
variable{P:Nat->Option Df}{M:Mem}{m:aK}{bound:Nat}
def uC (e:a Z M=.ok x M):hZ a Z M=.ok (.next Z) M:=by
 unfold hZ;rw[e];rfl
end
def Bk (m:aK)(W:aB->Nat->Nat->Prop)(Q:Nat->List aB):Prop:=∀i b,b∈Q i↔(i=0/\b=aS m)\/∃h q j,W h q j/\q+cst m j=i/\b=aV m j h
def WE (m:aK)(E:fL)(b:aB)(q j:Nat):Prop:=(b,q)∈E.map pr/\j<m.deeds.length
noncomputable def jM (Q:Nat->List aB)(i:Nat)(b:aB):Nat->List aB:=λk=>if k=i then Q i++[b] else Q k
section
variable{m:aK}{p:Nat}{E N:fL}{Q:Nat->List aB}{W W':aB->Nat->Nat->Prop}
def Bk.congr (h:Bk m W Q)(e:∀b q j,W b q j↔W' b q j):Bk m W' Q:=λi b=>(h i b).trans (or_congr_right {λ⟨u,q,j,w,r⟩=>{u,q,j,(e _ _ _).mp w,r},λ⟨u,q,j,w,r⟩=>{u,q,j,(e _ _ _).mpr w,r}})
set_option tactic.hygienic true in
def Bk.push (h:Bk m W Q)(b0:aB)(F u:Nat):Bk m (λb q j=>W b q j\/(b=b0/\q=F/\j=u)) (jM Q (F+cst m u) (aV m u b0)):=λi b=>by
 unfold jM;constructor
 ·intro B;split at B
  ·next z=>
   subst z;rcases QH.mp B with y|y
   ·exact((h _ b).mp y).imp id λ⟨v,q,j,w,r⟩=>{v,q,j,.inl w,r}
   ·exact .inr {b0,F,u,.inr ⟨rfl,rfl,rfl⟩,rfl,Qs.mp y}
  ·exact((h i b).mp B).imp id λ⟨v,q,j,w,r⟩=>{v,q,j,.inl w,r}
 ·intro B;have old:b∈Q i->b∈(if i=F+cst m u then Q (F+cst m u)++[aV m u b0] else Q i):=λy=>by
   split
   ·next z=>rw[<- z];exact Rh _ y
   ·exact y
  rcases B with y|⟨v,q,j,w|⟨rfl,rfl,rfl⟩,e1,e2⟩
  ·exact old ((h i b).mpr (.inl y))
  ·exact old ((h i b).mpr (.inr ⟨v,q,j,w,e1,e2⟩))
  ·rw[if_pos e1.symm,e2];exact QY _ (Qs.mpr rfl)
def gF (h:cz m p (E.map pr)):(b,q)∈E.map pr↔bz m q b/\q<p:={λz=>h.sound _ z,λz=>h.all q b z.2 z.1}
def He:b∈E.map (·.1)↔∃q,(b,q)∈E.map pr:=by
 constructor
 ·intro h;obtain⟨e,j,rfl⟩:=Qh.mp h;exact{e.2.1,Q6 j}
 ·rintro⟨q,h⟩;obtain⟨e,j,z⟩:=Qh.mp h;have:e.1=b:=congrArg Prod.fst z;rw[<- this];exact Q6 j
def pb (hm:aC m)(h:cz m p (E.map pr))(H:Bk m (WE m E) Q)(b:aB):bz m p b↔b∈Q p/\b∉E.map (·.1):=by
 have B:b∉E.map (·.1)↔∀q<p,¬ bz m q b:=by
  rw[He];exact{λz q v l=>z {q,(gF h).mpr ⟨l,v⟩},λz ⟨q,y⟩=>z q ((gF h).mp y).2 ((gF h).mp y).1}
 rw[B,H p b];rcases Nat.eq_zero_or_pos p with rfl|J
 ·rw[d8 hm];refine{λz=>{.inl ⟨rfl,z⟩,λq v=>absurd v (Ry _)},λz=>?_};rcases z.1 with y|⟨u,q,j,w,_⟩
  ·exact y.2
  ·exact absurd ((gF h).mp w.1).2 (Ry _)
 ·rw[gU hm J];refine and_congr_left λ_=>{λ⟨i,u,F,I,l,e⟩=>.inr {u,p-cst m i,i,{(gF h).mpr {l,?_},F},Nat.sub_add_cancel I,e},λz=>?_}
  ·have:=(g6 hm F).1;omega
  ·rcases z with y|⟨u,q,j,w,e1,e2⟩
   ·omega
   ·refine{j,u,w.2,`a,?_,e2}
    have:=((gF h).mp w.1).1;rw[<- e1,Nat.add_sub_cancel];exact this
def LL (h:cz m p (E.map pr))(u:Bk m (WE m E) Q)(z:b∈Q i):mj m i b:=by
 rcases(u i b).mp z with⟨rfl,rfl⟩|⟨v,q,j,w,rfl,rfl⟩
 ·exact .start
 ·exact .step ((gF h).mp w.1).1.1 w.2
def HZ (hm:aC m)(h:cz m p (E.map pr))(v:Bk m (WE m E) Q)(u:NW p E (·∈Q p) N):cz m (p+1) ((E++N).map pr):=by
 have fl:=λx j=>(pb hm h v x.1).mpr {(u.fr x j).1,λz=>by
  have nd:=u.nd;rw[QG,R4] at nd;exact nd.2.2 _ z _ (Q6 j) rfl}
 refine{by rw[h6];exact u.nd,λy B=>?_,λq b F hl=>?_}
 ·obtain⟨x,j,rfl⟩:=Qh.mp B;rcases QH.mp j with z|z
  ·have s:=h.sound (pr x) (Q6 z);exact{s.1,RN s.2}
  ·have e:x.2.1=p:=(u.fr x z).2.1;exact{by show bz m x.2.1 x.1;rw[e];exact fl x z,by show x.2.1<p+1;omega}
 ·rw[QG];rcases RP q p with z|z
  ·exact Rh _ (h.all q b z hl)
  ·have:q=p:=`a
   subst this;obtain⟨h1,h2⟩:=(pb hm h v b).mp hl;have h3:=u.al b h1;rw[QG] at h3;rcases QH.mp h3 with y|y
   ·exact absurd y h2
   ·obtain⟨x,j,rfl⟩:=Qh.mp y;refine QY _ (Qh.mpr {x,j,?_});show(x.1,x.2.1)=_;rw[(u.fr x j).2.1]
def H8 (hm:aC m)(h:cz m p (E.map pr))(j:Bk m (WE m E) Q)(nd:((E++N).map (·.1)).Nodup)(fr:∀x∈N,x.1∈Q p/\x.2.1=p)(hl:255<(E++N).length):kc m (p+1):=by
 refine{(E++N).map pr,by rw[h6];exact nd,λy v=>?_,by rw[P8];exact hl}
 obtain⟨x,u,rfl⟩:=Qh.mp v;rcases QH.mp u with z|z
 ·have s:=h.sound (pr x) (Q6 z);exact{s.1,RN s.2}
 ·have e:x.2.1=p:=(fr x z).2;refine{?_,by show x.2.1<p+1;omega}
  show bz m x.2.1 x.1;rw[e];refine(pb hm h j x.1).mpr {(fr x z).1,λy=>?_};rw[QG,R4] at nd;exact nd.2.2 _ y _ (Q6 z) rfl
def wR (hm:aC m)(h:cz m p (E.map pr))(v:Bk m (WE m E) Q)(he:∀i,p<=i->Q i=[]):∀q,p<=q->∀b,¬ bz m q b:=by
 intro q;induction q using Nat.strongRecOn with
 | ind q H =>
   intro B b hl;rcases Nat.eq_zero_or_pos q with rfl|j
   ·have:b∈Q 0:=(v 0 b).mpr (.inl {rfl,(d8 hm).mp hl});rw[he 0 B] at this;exact nomatch this
   ·obtain⟨⟨i,u,y,F,h1,e⟩,_⟩:=(gU hm j).mp hl;have c:=g6 hm y;by_cases z:p<=q-cst m i
    ·exact H _ `a z u h1
    ·have:b∈Q q:=(v q b).mpr (.inr {u,q-cst m i,i,{(gF h).mpr {h1,`a},y},Nat.sub_add_cancel F,e})
     rw[he q B] at this;exact nomatch this
end
def qQ (e:aB×Nat×List Nat):D:=.tup [bD e.1,nD e.2.1]
noncomputable def lA (E:fL):List D:=.int 78::E.map qQ
section
variable{M:Mem}{fk:Nat}{E:fL}{b:aB}
def tO (E:fL)(b:aB):cw (E.map qQ) (bD b)=(E.find? λe=>decide (e.1=b)).map λe=>nD e.2.1:=by
 refine Eq.trans (lI (λe:aB×Nat×List Nat=>bD e.1) (λe=>nD e.2.1) E (bD b)) ?_
 congr 2
 funext x
 exact sM x.1 b
def JI (e:M[fk]?=some (lA E)):inD M (au fk) (bD b)=some (E.any λe=>decide (e.1=b)):=by
 unfold inD;rw[jx e (.inr rfl)];show(if isKey 78 (bD b)=true then some (cw (E.map qQ) (bD b)).isSome else none)=_;rw[if_pos (iw b),tO,RM]
 congr 1
 rw[Rb,List.find?_isSome,RK]
def GL (hn:∀e∈E,e.1≠b):putD (E.map qQ) (bD b) (nD q)=(E++[(b,q,[])]).map qQ:=by
 rw[qx,QG];rfl;rw[tO,Sl.mpr];rfl;exact λx h e=>hn x h (of_decide_eq_true e)
end
structure cx (M0 M:Mem) (fk dv:Nat) (E:fL) (cs:List Nat) (Q:Nat->List aB):Prop where
 f:M[fk]?=some (lA E)
 d:M[dv]?=some (cs.map D.cell)
 nd:(fk::dv::cs).Nodup
 lo:∀x∈fk::dv::cs,M0.length<=x
 q:∀(i c:Nat),cs[i]?=some c->M[c]?=some ((Q i).map bD)
 e:∀i,cs.length<=i->Q i=[]
 s:Sub M0 M
section
variable{M0 M M':Mem}{fk dv c i:Nat}{E E':fL}{cs:List Nat}{Q:Nat->List aB}{b:aB}
def lF (e:M[k]?=some x):k<M.length:=(P9.mp e).1
def cx.sub (h:cx M0 M fk dv E cs Q)(s:Sub M M'):cx M0 M' fk dv E cs Q:={s.get h.f,s.get h.d,h.nd,h.lo,λi c e=>s.get (h.q i c e),h.e,h.s.trans s}
def cx.ne (h:cx M0 M fk dv E cs Q):fk≠dv/\∀(i c:Nat),cs[i]?=some c->c≠fk/\c≠dv:=by
 have nd:=h.nd;rw[Rn,Rn] at nd;refine{λe=>nd.1 (by rw[e];exact QB),λi c e=>{λz=>nd.1 (by rw[<- z];exact Qu _ (QC e)),λz=>nd.2.1 (by rw[<- z];exact QC e)}}
def cx.put (h:cx M0 M fk dv E cs Q)(E':fL):cx M0 (M.set fk (lA E')) fk dv E' cs Q:=
 {QI (lF h.f),by rw[Qj h.ne.1];exact h.d,h.nd,h.lo,λi c e=>by rw[Qj (Rf (h.ne.2 i c e).1)];exact h.q i c e,h.e,h.s.setq (h.lo fk QB)}
def cx.more (h:cx M0 M fk dv E cs Q):cx M0 ((M++[[]]).set dv (cs.map D.cell++[D.cell M.length])) fk dv E (cs++[M.length]) Q:=by
 have v:=lF h.f;have hd:=lF h.d;have all:∀x∈fk::dv::cs,x<M.length:=λx j=>by
  rcases QZ.mp j with z|j
  ·rw[z];exact v
  ·rcases QZ.mp j with z|j
   ·rw[z];exact hd
   ·obtain⟨i,e⟩:=List.getElem?_of_mem j;exact lF (h.q i x e)
 refine{?_,?_,?_,λx j=>?_,λi c e=>?_,λi u=>?_,(h.s.trans Sub.app).setq (h.lo dv `s)}
 ·rw[Qj (Rf h.ne.1),Qi v];exact h.f
 ·rw[QI `o,QG];rfl
 ·show((fk::dv::cs)++[M.length]).Nodup;rw[R4];exact{h.nd,`s,λx j y B z=>by
   have:=all x j;have B:y=M.length:=by simpa using B
   omega}
 ·rcases QH.mp (show x∈(fk::dv::cs)++[M.length] from j) with z|z
  ·exact h.lo x z
  ·rw[Qs.mp z];exact h.s.len
 ·rcases RP i cs.length with z|z
  ·rw[Qi z] at e;have:=h.q i c e;rw[Qj (Rf (h.ne.2 i c e).2),Qi (lF this)];exact this
  ·have u:i=cs.length:=by
    have:=(P9.mp e).1;simp at this;omega
   subst u;rw[QO (Qe _),Nat.sub_self] at e;cases e;rw[Qj (QN hd),h.e _ (Qe _)];simp
 ·rw[QD] at u;exact h.e i (by simp at u;omega)
def cx.push (h:cx M0 M fk dv E cs Q)(hi:cs[i]?=some c)(b:aB):cx M0 (M.set c ((Q i).map bD++[bD b])) fk dv E cs (jM Q i b):=by
 have n:=h.ne.2 i c hi;have nd:=(Rn.mp (Rn.mp h.nd).2).2;refine{by rw[Qj n.1];exact h.f,by rw[Qj n.2];exact h.d,h.nd,h.lo,λk j e=>?_,λk u=>?_,h.s.setq (h.lo c (by simp[QC hi]))}
 ·unfold jM;by_cases z:k=i
  ·subst z;rw[hi] at e;cases e;rw[QI (lF (h.q k c hi)),if_pos rfl,QG];rfl
  ·have ne:c≠j:=λy=>by
    subst y;rcases RP k i with y|y
    ·exact xG nd y e hi
    ·exact xG nd (by omega:i<k) hi e
   rw[Qj ne,if_neg z];exact h.q k j e
 ·have:=(P9.mp hi).1;unfold jM;rw[if_neg `a];exact h.e k u
end
section
variable{Z:Env}{M M' M1:Mem}{a b d:GE}
def m8 (h:a Z M=.ok (.cell j) M)(hd:d Z M=.ok z M1)(e:M1[j]?=some ds)(hl:ds.length<sz):e9 a d Z M=.ok (.next Z) (M1.set j (ds++[z])):=by
 unfold e9;rw[h];show(d Z M).bind _=_;rw[hd];show(match M1[j]? with|some ds=>if ds.length<sz then Res.ok (Fl.next Z) (M1.set j (ds++[z])) else .bad|none=>.bad)=_
 rw[e];exact if_pos hl
def wc (h:Z[j]?.getD none=some (.cell k))(e:M[k]?=some ds):aJ .len #[aa j] Z M=.ok (nD ds.length) M:=by
 refine aj (bQ.mpr ?_);rw[af (aq h) rfl,aO];show ae (match M[k]? with|some xs=>Res.ok (D.int xs.length) M|none=>.bad) _
 rw[e];exact⟨rfl,rfl⟩
def ud (h1:a Z M=.ok (nD i) M)(h2:b Z M=.ok (nD j) M):ak (ax .le a b) Z M=.ok (decide (i<=j)) M:=by
 refine dj (ip.mpr (eD.mpr ?_));rw[h1,aO,h2,aO];refine{_,rfl,_,rfl,?_,rfl};exact decide_eq_decide.mpr Int.ofNat_le
def Kp (h1:a Z M=.ok (nD i) M)(h2:b Z M=.ok (nD j) M):ak (ax .lt a b) Z M=.ok (decide (i<j)) M:=by
 refine dj (ip.mpr (eD.mpr ?_));rw[h1,aO,h2,aO];refine{_,rfl,_,rfl,?_,rfl};exact decide_eq_decide.mpr Int.ofNat_lt
def wo (h:Z[j]?.getD none=some (.cell k))(v:b Z M=.ok (nD i) M)(e:M[k]?=some ds)(u:ds[i]?=some x):ao (aa j) b Z M=.ok x M:=by
 refine bq (aq h) v ?_;show(M[k]?).bind _=_;rw[e];show((cv ds.length (i:Int)).bind λj=>ds[j]?)=_;rw[cY (P9.mp u).1];exact u
def pq (h:a Z M=.ok (nD i) M)(u:b Z M=.ok (nD j) M):ai false .add a b Z M=.ok (nD (i+j)) M:=(fw h u).trans (by rw[<- Int.natCast_add])
end
def NN (m:aK)(fit:aB->Bool)(h:Nat)(d:D)(M':Mem):Prop:=∃(E:F3) (c:Nat),d=.tup [.str "none",.cell c]/\h<=c/\M'[c]?=some (E.map λe=>bD e.1)/\AllIn m none ((un E).map pr)/\E.length<=255/\∀e∈E,fit e.1=false
def PF (m:aK)(fit:aB->Bool)(h:Nat)(d:D)(M':Mem):Prop:=∃(E:F3) (e:aB×Nat×Nat) (r:List Nat) (c:Nat),d=.tup [.str "row",nD e.2.1,.cell e.2.2,.cell c]/\e∈E/\fit e.1=true/\(∀x∈E,fit x.1=true->e.2.1<=x.2.1)/\h<=e.2.2/\e.2.2<c/\M'[e.2.2]?=some (r.map nD)/\gr m r e.1 e.2.1/\
 M'[c]?=some ((E.filter λx=>decide (x.2.1<=e.2.1)).map λx=>.tup [bD x.1,nD (e.2.1-x.2.1)])/\AllIn m none ((un E).map pr)/\E.length<=255
def AllIn.nd {bd:Option Nat}(h:AllIn m bd l):(l.map (·.1)).Nodup:=by
 cases bd with
 |none=>obtain⟨_,h,_⟩:=h;exact h.nd
 |some b=>exact cz.nd h
def AllIn.sound {bd:Option Nat}(h:AllIn m bd l):∀x∈l,bz m x.2 x.1:=by
 cases bd with
 |none=>obtain⟨_,h,_⟩:=h;exact λx j=>(h.sound x j).1
 |some b=>exact λx j=>(cz.sound h x j).1
def nt (E:F3):(un E).map pr=E.map λe=>(e.1,e.2.1):=by unfold un;rw[Q1];rfl
def Hi (r:List Nat):intsOf (r.map nD)=some (r.map λ(i:Nat)=>(i:Int)):=by
 induction r with
 |nil=>rfl
 |cons a r h=>show(intsOf (r.map nD)).map _=_;rw[h];rfl
section
variable{P:Nat->Option Df}{M:Mem}{m:aK}{w:D}{fit:aB->Bool}{Z:Env}{a b:GE}
def subN (u:a Z M=.ok (nD i) M)(v:b Z M=.ok (nD j) M)(h:j<=i):ai false .sub a b Z M=.ok (nD (i-j)) M:=by
 unfold ai;rw[u];show(b Z M).bind _=_;rw[v];show Res.ok (D.int ((i:Int)-(j:Int))) M=_;rw[<- Int.ofNat_sub h]
def AO (h:Z[j]?.getD none=some x):ak (ax .isN (aa j) gN) Z M=.ok (fc x) M:=by
 refine bN ?_;unfold ax;rw[aq h];rfl
def tP (u:Z[3]?.getD none=some (.fn (au fk)))(h:M[fk]?=some (j7 E))(nd:(E.map (·.1)).Nodup)(v:x∈E)(j:Z[0]?.getD none=some (bD x.1)):b6 (aa 3) (aa 0) Z M=.ok (vC x) M/\ao (b6 (aa 3) (aa 0)) (gI 0) Z M=.ok (nD x.2.1) M:=by
 have e:=pV (x:=.non) (aq u) (aq j) (A3 h nd v);exact{e,bq e rfl rfl}
def Cd (n:Nat)(z:∀(M:Mem),fW (ag P n 166 [m.d,.non] M) (λd M'=>∃v E,d=.fn (au v)/\M.length<=v/\M'[v]?=some (j7 E)/\ve m M.length M' E/\AllIn m none ((un E).map pr)/\E.length<=255/\Sub M M') (λx M'=>x=.exc 8 none/\jG m none/\Sub M M'))
 (h80:∀M:Mem,ag P n 80 [m.d,w] M=.ok .non M) (h81:∀(M:Mem) (q:Nat) (b:aB),bz m q b->ag P n 81 [bD b,w] M=.ok (.bl (fit b)) M) (h167:P 167=some {2,7,og}) :
 fW (ag P (n+1) 167 [m.d,w] M) (λd M'=>(NN m fit M.length d M'\/PF m fit M.length d M')/\Sub M M') (λx M'=>x=.exc 8 none/\jG m none/\Sub M M'):=by
 refine pa h167 rfl ?_;simp only[Q9,List.map_nil,RB,List.length_nil,List.replicate,List.cons_append,Sn,Nat.reduceAdd,Nat.reduceSub];unfold og;rw[aA,uC ((eK (af rfl (af rfl rfl))).trans (h80 M)),aO,bt,aA,Gr];have F:=z M;have R:bO 166 (ag P n) #[aa 0,gN] [some m.d,some w,none,none,none,none,none] M=ag P n 166 [m.d,.non] M:=eK (af rfl (af rfl rfl));rw[R];cases e:ag P n 166 [m.d,.non] M with
 |bad=>rw[e] at F;exact F.elim
 |err x j=>rw[e] at F;exact F
 | ok d j =>
   rw[e] at F;obtain⟨v,E,rfl,X,B,rows,all,few,sub⟩:=F;refine bt.mpr ?_;have nd:(E.map (·.1)).Nodup:=by have:=all.nd;rw[nt,Q1] at this;exact this
   have snd:∀x∈E,bz m x.2.1 x.1:=λx u=>all.sound (x.1,x.2.1) (by rw[nt];exact Qh.mpr ⟨x,u,rfl⟩)
   have Q:E.length<=sz:=ay `a
   have e1:ba false 1 (.one 0) (di b9 (aa 2)) (iQ (ak (ah 81 (ag P n) #[aa 0,aa 2])) (bg (b6 (aa 3) (aa 0)))) [some m.d,some w,some (.fn (au v)),none,none,none,none] j=.ok (.lst ((E.filter λx=>fit x.1).map vC)) j:=by
    rw[wH false (λx=>fit x.1) vC rfl B Q (λx u=>bN ((aQ (af rfl (af rfl rfl))).trans (h81 j _ _ (snd x u)))) (λx u _=>(tP rfl B nd u rfl).1)];exact if_pos (ay (by rw[P8];exact Qo (RZ _ _) `a))
   have Y:∀x∈E.filter λx=>fit x.1,rH j (vC x)=some ((x.2.1:Int),((j[x.2.2]?.bind intsOf).getD [])):=λx u=>by
    obtain⟨⟨r,er,_⟩,_⟩:=rows x (RI.mp u).1;show((j[x.2.2]?).bind intsOf).map _=_;rw[er];show(intsOf (r.map nD)).map _=some (_,(intsOf (r.map nD)).getD []);rw[Hi];rfl
   rcases G9 vC (λx=>((x.2.1:Int),((j[x.2.2]?.bind intsOf).getD []))) e1 Y with⟨U,J⟩|⟨x,u,J,W⟩
   ·refine bu (bF J) ?_;refine bH (AO rfl) (λ_=>?_) (λh=>by cases h)
    have S:aM #[gS "none",kD true (aa 2)] [some m.d,some w,some (.fn (au v)),some .non,none,none,none] j=.ok (.tup [.str "none",.cell j.length]) (j++[E.map λe=>bD e.1]):=by
     refine iA (fD rfl (fD ?_ rfl)) (Qp rfl);rw[Dk true rfl B];exact if_pos (ay (by rw[P8];omega))
    simp only[aA,cH];refine du.mpr {_,_,S,?_};refine{.inl {E,j.length,rfl,sub.len,`s,all,few,λx u=>?_},sub.trans Sub.app}
    cases L:fit x.1 with
    |false=>rfl
    | true =>
      have:x∈E.filter λx=>fit x.1:=RI.mpr ⟨u,L⟩;rw[U] at this;cases this
   ·obtain⟨H,O⟩:=RI.mp u;obtain⟨⟨r,er,ro⟩,lo⟩:=rows x H;refine bu (bF J) ?_;refine bU (AO (x:=vC x) rfl) ?_;refine bu rfl ?_;have e2:ba true 1 (.one 0) (di b9 (aa 2)) (iQ (ak (ax .le (ao (b6 (aa 3) (aa 0)) (gI 0)) (aa 5))) (bg (aM #[aa 0,ai false .sub (aa 5) (ao (b6 (aa 3) (aa 0)) (gI 0))]))) [some m.d,some w,some (.fn (au v)),some (vC x),some (nD x.2.1),some (.cell x.2.2),none] j
     = .ok (.cell j.length) (j++[(E.filter λy=>decide (y.2.1<=x.2.1)).map λy=>.tup [bD y.1,nD (x.2.1-y.2.1)]]):=by
     rw[wH true (λy=>decide (y.2.1<=x.2.1)) (λy=>.tup [bD y.1,nD (x.2.1-y.2.1)]) rfl B Q (λy I=>ud (tP rfl B nd I rfl).2 rfl) (λy I hd=>iA (af rfl (af (subN rfl (tP rfl B nd I rfl).2 (of_decide_eq_true hd)) rfl)) (Qp rfl))];exact if_pos (ay (by rw[P8];exact Qo (RZ _ _) `a))
    refine b4 (c4 e2) ?_;simp only[List.set,aA,cH];refine du.mpr {_,_,iA (af rfl (af rfl (af rfl (af rfl rfl)))) (Qp rfl),?_};refine{.inr {E,x,r,j.length,rfl,H,O,λy I L=>?_,lo,d7 er,?_,ro,`s,all,few},sub.trans Sub.app}
    ·exact Int.ofNat_le.mp (W y (RI.mpr ⟨I,L⟩))
    ·rw[Qi (d7 er)];exact er
end
section
variable{P:Nat->Option Df}{M0 M:Mem}{m:aK}{fk dv p bound:Nat}{E:fL}{cs:List Nat}{Q:Nat->List aB}{kf:Fl->Mem->Prop}{x1 y5 y6 y7:Option D}
def FD {E:fL}{b:aB}:∀h q j,(WE m E h q j\/(h=b/\q=p/\j<m.deeds.length))↔WE m (E++[(b,p,[])]) h q j:=λh q j=>by
 unfold WE;rw[QG,QH];constructor
 ·rintro(⟨h1,h2⟩|⟨rfl,rfl,h2⟩)
  ·exact{.inl h1,h2}
  ·exact{.inr (Qs.mpr rfl),h2}
 ·rintro⟨h1|h1,h2⟩
  ·exact .inl ⟨h1,h2⟩
  ·cases Qs.mp h1;exact .inr ⟨rfl,rfl,h2⟩
def wa {s:GA}{Z:Env}{M M1:Mem}{xs:List D}(e:s Z M=.ok xs M1)(hl:xs.length<=100):a7 true s Z M=.ok (.cell M1.length) (M1++[xs]):=by
 unfold a7;rw[e];show(if xs.length<=sz then(if true=true then Res.ok (D.cell M1.length) (M1++[xs]) else _) else .bad)=_;rw[if_pos (ay `a)]
 rfl
def HS {a:GE}{s:GA}{Z:Env}{M M1 h:Mem}{x:D}{xs:List D}(j:a Z M=.ok x M1)(es:s Z M1=.ok xs h):aX a s Z M=.ok (x::xs) h:=by
 unfold aX;rw[j];show(s Z M1).bind _=_;rw[es];rfl
end
section
variable{M0 M:Mem}{fk dv p c C:Nat}{E:fL}{cs:List Nat}{Q:Nat->List aB}{Z:Env}{kf:Fl->Mem->Prop}
def KJ (h3:Z[3]?.getD none=some (.cell dv))(h4:Z[4]?.getD none=some (nD p))(y:∀M,ao (aa 7) (bW (gI 1)) Z M=.ok (nD c) M)(F:p+c<C)(B:C<=800)(h:cx M0 M fk dv E cs Q)(hl:cs.length<=C)
 (k:∀M' t,cx M0 M' fk dv E (cs++t) Q->(cs++t).length<=C->p+c<(cs++t).length->kf (.next Z) M') :
 ae (gL (ak (ax .le (aJ .len #[aa 3]) (ai false .add (aa 4) (ao (aa 7) (bW (gI 1)))))) #v[e9 (aa 3) (a7 true a9)] Z M) kf:=by
 refine lr (λk u M'=>u=Z/\∃t,cx M0 M' fk dv E (cs++t) Q/\(cs++t).length<=C/\k=C-(cs++t).length) ?_ (k:=C-cs.length) `a {rfl,[],by rw[Q7];exact h,by rw[Q7];exact hl,by rw[Q7]}
 rintro H u M' ⟨rfl,t,v,j,rfl⟩;rw[ud (wc h3 v.d) (pq (aq h4) (y M')),aO,P8];refine{λz=>k M' t v j (by have:=of_decide_eq_false z;omega),λz=>?_}
 refine{C-(cs++(t++[M'.length])).length,by simp at z j ⊢;omega,?_}
 have hd:=lF v.d;refine b4 (m8 (aq h3) rfl (by rw[Qi hd];exact v.d) (by rw[P8];exact RG (Qo j B) `d)) ?_
 refine .inl {u,rfl,rfl,t++[M'.length],?_,by simp at z j ⊢;omega,rfl}
 rw[<- Rl];exact v.more
end
section
variable{P:Nat->Option Df}{M0 M:Mem}{m:aK}{fk dv p L C:Nat}{E:fL}{cs:List Nat}{Q:Nat->List aB}{W:aB->Nat->Nat->Prop}{b:aB}{kf:Fl->Mem->Prop}{x1 y6 y7:Option D}
set_option tactic.hygienic true in
def JF (ha:HasB P)(h158:P 158=some {3,3,bS})(n:Nat)(hm:aC m)(hp:p+4<=C)(hC:C<=800)(X:b.length<=16)(hb:∀s∈b,cU m s)(h:cx M0 M fk dv E cs Q)(hl:cs.length<=C)(bk:Bk m W Q)(hL:∀i,(Q i).length<=L)(hL2:L<=90000)
 (k:∀M' t Q' y6 y7,cx M0 M' fk dv E (cs++t) Q'->(cs++t).length<=C->Bk m (λB q j=>W B q j\/(B=b/\q=p/\j<m.deeds.length)) Q'->(∀i,(Q' i).length<=L+6)->Q' p=Q p->kf (.next [some m.d,x1,some (.fn (au fk)),some (.cell dv),some (nD p),some (bD b),y6,y7]) M') :
 ae (cu (.tup [6,7]) (gY (ao (aa 0) (gI 2))) (ue (ag P (n+2))) [some m.d,x1,some (.fn (au fk)),some (.cell dv),some (nD p),some (bD b),y6,y7] M) kf:=by
 rw[dh,yO,bq rfl rfl rfl,aO];refine{rfl,?_};have d6:=hm.d6;refine dz (λi Z M'=>∃t Q' y6 y7,cx M0 M' fk dv E (cs++t) Q'/\(cs++t).length<=C/\Bk m (λB q j=>W B q j\/(B=b/\q=p/\j<i)) Q'/\(∀k,(Q' k).length<=L+i)/\Q' p=Q p/\Z=[some m.d,x1,some (.fn (au fk)),some (.cell dv),some (nD p),some (bD b),y6,y7])
  (λ_ _ _ _=>rfl) {[],Q,y6,y7,by rw[Q7];exact h,by rw[Q7];exact hl,bk.congr λB q j=>{.inl,λz=>z.elim id λz=>absurd z.2.2 (Ry _)},hL,rfl,rfl} ?_ ?_
 ·rintro i x Z M' hx ⟨t,Q',y6,y7,S,H,y,v,U,rfl⟩;obtain⟨x2,u,rfl⟩:=wB hx;rw[Qv] at u;cases O:m.deeds[i]? with
  |none=>rw[O] at u;cases u
  | some d =>
    rw[O] at u;have u:=Qr u;subst u;have hi:=(P9.mp O).1;have et:=nX O;have c:=g6 hm hi;have ec:cst m i=d.cost:=by unfold cst;rw[et]
    rw[Nat.zero_add];refine{_,rfl,?_};unfold ue;have Y:∀M,ao (aa 7) (bW (gI 1)) [some m.d,x1,some (.fn (au fk)),some (.cell dv),some (nD p),some (bD b),some (nD i),some d.d] M=.ok (nD (cst m i)) M:=λM=>by
     rw[ec];exact aj (eC.mpr (bo.mpr {_,rfl,nV.mpr (cZ.mpr {1,rfl,_,iH,rfl,rfl})}))
    rw[aA];refine KJ rfl rfl Y `a hC S H λM2 t2 h2 J I=>?_
    rw[Rl] at h2 J I;rw[bt];obtain⟨z,M3,e3,ez,sub⟩:=du.mp (kT ha h158 n hm hi X hb);subst ez;have h3:=h2.sub sub;have F:=Qq I;refine b4 (m8 (wo rfl (pq rfl (Y M2)) h2.d (by rw[Qv,F];rfl)) ((aQ (af rfl (af rfl (af rfl rfl)))).trans e3) (h3.q _ _ F) (by rw[P8];exact RG (v _) (RG (show L+i<=90006 by omega) `d))) ?_
    refine{_,rfl,t++t2,jM Q' (p+cst m i) (aV m i b),_,_,h3.push F _,J,(y.push b p i).congr λB q j=>?_,λk=>?_,?_,rfl}
    ·constructor
     ·rintro((w|⟨e1,e2,R⟩)|⟨e1,e2,R⟩)
      ·exact .inl w
      ·exact .inr {e1,e2,RN R}
      ·exact .inr {e1,e2,`a}
     ·rintro(w|⟨e1,e2,R⟩)
      ·exact .inl (.inl w)
      ·rcases RP j i with z|z
       ·exact .inl (.inr ⟨e1,e2,z⟩)
       ·exact .inr {e1,e2,`a}
    ·have:=v k;unfold jM;split
     ·next z=>subst z;rw[QD];have:=v (p+cst m i);simp;omega
     ·omega
    ·unfold jM;rw[if_neg `a];exact U
 ·rintro Z M' ⟨t,Q',y6,y7,S,H,y,v,U,rfl⟩;rw[lR,P8] at y v;exact k M' t Q' y6 y7 S H y (λi=>Qo (v i) `a) U
end
section
variable{P:Nat->Option Df}{M0 M:Mem}{m:aK}{fk dv p bound:Nat}{E:fL}{cs:List Nat}{Q:Nat->List aB}{kf:Fl->Mem->Prop}{x1 y5 y6 y7:Option D}
def Hc (ha:HasB P)(h158:P 158=some {3,3,bS})(n:Nat)(hm:aC m)(j:cz m p (E.map pr))(hE:E.length<=255)(h:cx M0 M fk dv E cs Q)(hl:cs.length<=3*E.length+1)(bk:Bk m (WE m E) Q)(hL:∀i,(Q i).length<=7*E.length+1)(hpc:p<cs.length)
 (k1:∀M' N t Q' y5 y6 y7,cz m (p+1) ((E++N).map pr)->(E++N).length<=255->cx M0 M' fk dv (E++N) (cs++t) Q'->(cs++t).length<=3*(E++N).length+1->Bk m (WE m (E++N)) Q'->(∀i,(Q' i).length<=7*(E++N).length+1)->kf (.next [some m.d,x1,some (.fn (au fk)),some (.cell dv),some (nD p),y5,y6,y7]) M')
 (k2:∀M',kc m (p+1)->Sub M0 M'->kf (.ret .non) M') :
 ae (cu (.one 5) (bK (ao (aa 3) (aa 4))) (AB (ag P (n+2))) [some m.d,x1,some (.fn (au fk)),some (.cell dv),some (nD p),y5,y6,y7] M) kf:=by
 have O:=Qq hpc;generalize cs[p]=X at O;rw[dh,fO,wo rfl rfl h.d (by rw[Qv,O];rfl),aO]
 refine{rfl,?_};have at':∀{t:List Nat},(cs++t)[p]?=some X:=λ{t}=>by rw[Qi hpc];exact O
 refine ic (ds:=(Q p).map bD) (λi Z M'=>∃N t Q' y5 y6 y7,NW p E (·∈(Q p).take i) N/\(E++N).length<=255/\cx M0 M' fk dv (E++N) (cs++t) Q'/\(cs++t).length<=3*(E++N).length+1/\Bk m (WE m (E++N)) Q'/\(∀i,(Q' i).length<=7*(E++N).length+1)/\Q' p=Q p/\Z=[some m.d,x1,some (.fn (au fk)),some (.cell dv),some (nD p),y5,y6,y7])
  (λfl M'=>fl=.ret .non/\kc m (p+1)/\Sub M0 M'/\M'[X]?=some ((Q p).map bD)) ?_ ?_ ?_ {[],[],Q,y5,y6,y7,{by rw[Q7,<- h6];exact j.nd,(λx u=>nomatch u),λb hb=>by simp at hb},by rw[Q7];exact hE,by rw[Q7,Q7];exact h,by rw[Q7,Q7];exact hl,by rw[Q7];exact bk,by rw[Q7];exact hL,rfl,rfl} ?_ ?_ ?_
 ·rintro fl M' ⟨rfl,_⟩ Z z;cases z
 ·rintro i Z M' ⟨N,t,Q',_,_,_,_,_,F,_,_,_,U,_⟩;show M'[X]?=_;rw[F.q p X at',U]
 ·rintro fl M' ⟨_,_,_,e⟩;exact e
 ·rintro i x Z M' u ⟨N,t,Q',y5,y6,y7,nw,hn,F,S,v,y,U,rfl⟩;rw[Qv] at u;cases eb:(Q p)[i]? with
  |none=>rw[eb] at u;cases u
  | some b =>
    rw[eb] at u;have u:=Qr u;subst u;have hb:=QC eb;refine{_,rfl,?_};have I:∀x,x∈(Q p).take (i+1)↔x∈(Q p).take i\/x=b:=λx=>by
     rw[Ro,eb];simp
    have ok:=iD hm (LL j bk hb);refine bH (bN (A4 rfl rfl (JI F.f))) (λJ=>?_) λJ=>?_
    ·have Y:∀e∈E++N,e.1≠b:=λe he z=>by
      rw[show((E++N).any λe=>decide (e.1=b))=true from RK.mpr {e,he,decide_eq_true z}] at J;cases J
     have B:=nw.new I Y (r:=[]) (Rv _);refine b4 (Hy rfl rfl rfl (jx F.f (.inr rfl)) (iw _) (by rw[P8];omega)) ?_
     have s1:(M'.set (au fk-5000) (.int 78::putD ((E++N).map qQ) (bD b) (nD p)))=M'.set fk (lA (E++(N++[(b,p,[])]))):=by
      rw[show au fk-5000=fk from Rk _ _,GL Y,Rl];rfl
     rw[s1];have h2:=F.put (E++(N++[(b,p,[])]));refine bH (AZ (wD rfl (jx h2.f (.inr rfl))) rfl) (λR=>?_) λR=>?_
     ·have R:=of_decide_eq_true R;rw[aA,cH];refine .inr {rfl,H8 hm j bk B.nd (λx u=>{RQ (B.fr x u).1,(B.fr x u).2.1}) ?_,h2.s,?_}
      ·simp at R ⊢;omega
      ·rw[h2.q p X at',U]
     ·have R:=of_decide_eq_false R;have H:(E++(N++[(b,p,[])])).length=(E++N).length+1:=by rw[<- Rl,QD];rfl
      have hg2:(E++(N++[(b,p,[])])).length<=255:=by simp at R ⊢;omega
      rw[aA];have e4:E.length<=(E++N).length:=by rw[QD];omega
      refine JF (C:=3*(E++N).length+4) ha h158 n hm `a `a (by rw[ok.1];exact bX hm) ok.2 h2 `a v y `a λM3 t3 Q3 z6 z7 h3 hl3 bk3 hL3 hQ3=>?_
      rw[Rl] at h3 hl3;refine .inl {_,rfl,N++[(b,p,[])],t++t3,Q3,_,_,_,B,hg2,h3,by rw[H];omega,?_,λi=>?_,hQ3.trans U,rfl}
      ·rw[<- Rl];exact bk3.congr FD
      ·have:=hL3 i;rw[H];omega
    ·have J:((E++N).any λe=>decide (e.1=b))=true:=by
      cases z:((E++N).any λe=>decide (e.1=b)) with
      |true=>rfl
      |false=>rw[z] at J;cases J
     obtain⟨e,he,z⟩:=RK.mp J;exact .inl {_,rfl,N,t,Q',_,_,_,nw.old I {e,he,of_decide_eq_true z},hn,F,S,v,y,U,rfl}
 ·rintro Z M' ⟨N,t,Q',y5,y6,y7,nw,hn,F,S,v,y,U,rfl⟩;rw[P8,Rg (Qe _)] at nw;exact k1 M' N t Q' y5 y6 y7 (HZ hm j bk nw) hn F S v y
 ·rintro fl M' ⟨rfl,mn,s,_⟩;exact k2 M' mn s
set_option tactic.hygienic true in
def zI (ha:HasB P)(h158:P 158=some {3,3,bS})(h159:P 159=some {2,8,fG})(n:Nat)(hm:aC m) :
 ae (ag P (n+3) 159 [m.d,nD bound] M) λd M'=>Sub M M'/\((d=.non/\kc m (bound+1))\/∃fk E,d=.fn (au fk)/\M.length<=fk/\M'[fk]?=some (lA E)/\cz m (bound+1) (E.map pr)/\(800<=bound->AllIn m none (E.map pr)/\∀e∈E,e.2.1<=800)/\E.length<=255):=by
 refine aH h159 rfl ?_;show ae (fG (ag P (n+2)) [some m.d,some (nD bound),none,none,none,none,none,none] M) _;unfold fG;refine b4 (c4 rfl) ?_;have et:aJ .tuple #[ah 42 (ag P (n+2)) #[aa 0]] [some m.d,some (nD bound),some (.fn (au M.length)),none,none,none,none,none] (M++[[.int 78]])=.ok (bD (aS m)) (M++[[.int 78]]):=by
  refine aj (bQ.mpr ?_);rw[af ((aQ (af rfl rfl)).trans (fB ha (n+1) hm)) rfl,aO];exact⟨rfl,rfl⟩
 have ei:a7 true #[a7 true #[aJ .tuple #[ah 42 (ag P (n+2)) #[aa 0]]]] [some m.d,some (nD bound),some (.fn (au M.length)),none,none,none,none,none] (M++[[.int 78]])=.ok (.cell (M.length+2)) (M++[[.int 78],[bD (aS m)],[.cell (M.length+1)]]):=by
  refine(wa (HS (wa (af et rfl) (Qp rfl)) rfl) (Qp rfl)).trans ?_;simp
 refine b4 (c4 ei) ?_;refine bu (bF rfl) ?_;have start:cx M (M++[[.int 78],[bD (aS m)],[.cell (M.length+1)]]) M.length (M.length+2) [] [M.length+1] (λi=>if i=0 then [aS m] else []):=by
  refine{by simp;rfl,`s,`s,λx hx=>by simp at hx;omega,λi c e=>?_,λi S=>if_neg (by simp at S;omega),Sub.app}
  cases i with
  |zero=>cases e;simp
  |succ i=>simp at e
 rw[aA];refine lr (λk Z M'=>∃(p:Nat) (E:fL) (cs:List Nat) (Q:Nat->List aB) (y5 y6 y7:Option D),k=800-p/\p<=800/\p<=bound+1/\cz m p (E.map pr)/\E.length<=255/\cx M M' M.length (M.length+2) E cs Q/\cs.length<=3*E.length+1/\Bk m (WE m E) Q/\(∀i,(Q i).length<=7*E.length+1)/\Z=[some m.d,some (nD bound),some (.fn (au M.length)),some (.cell (M.length+2)),some (nD p),y5,y6,y7]) ?_ `a {0,[],_,_,none,none,none,rfl,Rv _,Rv _,{.nil,(λx hx=>nomatch hx),λq b Y=>absurd Y (Ry _)},Rv _,start,`s,λi b=>?_,λi=>?_,rfl}
 ·rintro k Z M' ⟨p,E,cs,Q,y5,y6,y7,rfl,X,hp,u,hE,h,hl,bk,hL,rfl⟩;rw[kL (Kp rfl (wc rfl h.d)) (ud rfl rfl),aO,P8];refine{λv=>?_,λv=>?_}
  ·have F:cz m (bound+1) (E.map pr):=by
    rcases RP bound p with z|z
    ·have:p=bound+1:=`a
     rw[<- this];exact u
    ·rw[decide_eq_true z,Bool.and_true] at v;have v:=of_decide_eq_false v;exact u.mono hp λq c Y _=>wR hm u bk (λi S=>h.e i `a) q Y c
   have B:800<=bound->AllIn m none (E.map pr)/\∀e∈E,e.2.1<=800:=λH=>by
    rw[decide_eq_true (show p<=bound by omega),Bool.and_true] at v
    have v:=of_decide_eq_false v;exact{{p,u,wR hm u bk (λi S=>h.e i `a)},λe he=>Qo (Sf (u.sound (pr e) (Qh.mpr ⟨e,he,rfl⟩)).2) X}
   exact bt.mpr (bC rfl {h.s,.inr {_,E,rfl,Qe _,h.f,F,B,hE}})
  ·have h1:=of_decide_eq_true (R1.mp v).1;have h2:=of_decide_eq_true (R1.mp v).2;refine{800-(p+1),`a,?_}
   unfold AA;rw[aA];refine Hc ha h158 n hm u hE h hl bk hL h1 (λM2 N t Q2 z5 z6 z7 y O J U I R=>?_) λM2 mn s=>?_
   ·rw[bt];refine bu (bF (pq rfl rfl)) ?_;exact .inl {_,rfl,p+1,E++N,cs++t,Q2,z5,z6,z7,rfl,`a,`a,y,O,J,U,I,R,rfl}
   ·exact .inr {(λ_ z=>nomatch z),s,.inl {rfl,mn.mono `a}}
 ·constructor
  ·intro H;dsimp only at H;split at H
   ·next z=>exact .inl {z,Qs.mp H}
   ·exact nomatch H
  ·rintro(⟨rfl,rfl⟩|⟨b',q,j,w,_⟩)
   ·exact Qs.mpr rfl
   ·exact nomatch w.1
 ·show(if i=0 then [aS m] else []).length<=1;split<;>simp
end
def jz (h1:a Z M=.ok x M)(h2:b Z M=.ok y M)(h3:bE o x y M=some v):ax o a b Z M=.ok (.bl v) M:=by
 unfold ax;rw[h1];show(b Z M).bind _=_;rw[h2];show(cf M (bE o x y M)).bind _=_;rw[h3];rfl
section
variable{P:Nat->Option Df}{M:Mem}{m:aK}{w:D}{fit:aB->Bool}
def AllIn.mem (h:AllIn m none A):(b,q)∈A↔bz m q b:=by
 refine{λz=>h.sound _ z,λz=>?_};obtain⟨p,h,no⟩:=h;rcases RP q p with j|j
 ·exact h.all q b j z
 ·exact absurd z (no q j b)
def AllIn.few (h:AllIn m none A)(hl:A.length<=255):¬ jG m none:=by
 rintro⟨p,z,v,y,j⟩;have:=len_sub (Ak v) λx u=>h.mem.mpr (y x u).1;omega
end
section
variable{P:Nat->Option Df}{M M1:Mem}{m:aK}{w:D}{fit:aB->Bool}{Z:Env}{a b:GE}{t:GT}{A rest:GS}{k:Fl->Mem->Prop}
def Lq (h:a Z M=.ok x M1)(j:b Z M1=.ok (.fn o) M1)(e:inD M1 o x=some r):ak (iL n a b) Z M=.ok (n != r) M1:=by
 unfold ak iL;rw[h];show Res.bind (Res.bind (b Z M1) _) _=_;rw[j];show Res.bind (match inD M1 o x with|some r=>Res.ok (D.bl (n != r)) M1|none=>.bad) _=_
 rw[e];rfl
def rL (j:t Z M=.ok false M1)(h:ae (rest Z M1) k):ae (aY (aT t A aF) rest Z M) k:=by
 simp only[aA,iC];rw[j];exact h
def rJ (h:Z[j]?.getD none=some m.d):aJ .len #[ao (aa j) (gI 2)] Z M=.ok (nD m.deeds.length) M:=by
 refine aj (bQ.mpr ?_);rw[af (bq (aq h) rfl rfl) rfl,aO];show ae (Res.ok (D.int ((m.deeds.map bb.d).length:Int)) M) _;rw[P8];exact⟨rfl,rfl⟩
end
section
variable{α:Type}{k:α->aB}{v:α->D}{E:List α}{M M1:Mem}{j:Nat}{y:aB}{Z:Env}{a b c:GE}{z:D}
def pX (u:a Z M=.ok (.fn (au j)) M)(h:M[j]?=some (gy k v E))(B:b Z M=.ok (bD y) M1)(F:c Z M1=.ok z M1)(e:M1[j]?=some (gy k v E)):fm a b c Z M=.ok (((E.find? λe=>decide (k e=y)).map v).getD z) M1:=by
 unfold fm;rw[u];show(if (bB M (au j)).isSome=true then _ else _)=_;rw[eV h];rw[B];show(c Z M1).bind _=_;rw[F];show(match bB M1 (au j) with|some q=>if isKey q.1 (bD y)=true then Res.ok ((cw q.2 (bD y)).getD z) M1 else Res.bad|none=>Res.bad)=_
 rw[eV e];show(if isKey 78 (bD y)=true then _ else _)=_;rw[if_pos (iw y),jd]
end
section
variable{P:Nat->Option Df}{M:Mem}{m:aK}{w:D}{fit:aB->Bool}{price:Nat}
def HQ (h:Z[0]?.getD none=some m.d)(u:Z[7]?.getD none=some (nD i))(hi:i<m.deeds.length):ao (ao (ao (aa 0) (gI 2)) (aa 7)) (bW (gI 1)) Z M=.ok (nD (cst m i)) M:=by
 have e1:=bq (aq (M:=M) h) (b:=gC (.int 2)) rfl rfl;have e2:=bq e1 (aq u) (oO hi);exact aj (eC.mpr (by rw[e2,aO];exact nV.mpr (cZ.mpr {1,rfl,_,iH,rfl,rfl})))
end
structure DD (P:Nat->Option Df):Prop where
 whole:P 67=some {1,1,g8}
 is_in:P 68=some {3,3,m7}
 numbers:P 69=some {4,4,kK}
def nN (e:a Z M=.ok (.tup xs) M):aJ .len #[a] Z M=.ok (nD xs.length) M:=by
 refine aj (bQ.mpr ?_);rw[af e rfl,aO];exact⟨rfl,rfl⟩
def oQ (e:a Z M=.ok (.lst xs) M):aJ .len #[a] Z M=.ok (nD xs.length) M:=by
 refine aj (bQ.mpr ?_);rw[af e rfl,aO];exact⟨rfl,rfl⟩
section
variable{P:Nat->Option Df}{M:Mem}{m:aK}(h:DD P)
include h
theorem IY (n x:Nat):ag P (n+1) 67 [nD x] M=.ok (.bl true) M:=by
 refine aj (aH h.whole rfl ?_);show ae (g8 (ag P n) [some (nD x)] M) _;exact bC rfl ⟨rfl,rfl⟩
end
def rb (m:aK)(x:D):Prop:=x=.non\/∃v:Nat,x=nD v/\v<m.words
def fJ (m:aK)(ws:List D):Prop:=ws.length=(aS m).length/\∀x∈ws,rb m x
def qO:D->Bool
 |.tup [.tup (x::_),w]=>fc w||bJ x w
 |_=>false
def qg (f:D->Bool):∀ds:List D,boolsOf (ds.map λd=>.bl (f d))=some (ds.map f)
 |[]=>rfl
 |d::r=>by simp[boolsOf,qg f r]
def all_gen (f:D->Bool)(u:ae (w Z M) λwk M'=>M'=M/\wk M=some ds)(hz:ds.length<=sz)(he:∀d∈ds,∃j,bT tg d (List.replicate own none++Z)=some j/\ge j M=.ok (.bl (f d)) M) :
 aJ .all #[ba false own tg w (bg ge)] Z M=.ok (.bl (ds.all f)) M:=by
 refine aj ?_;simp only[bQ,bR,dm,cg];refine aI u λwk M' ⟨e1,e2⟩=>?_;subst e1;refine eE (λd=>.bl (f d)) hz e2 he ?_;simp only[bI,P8,q9];refine{hz,_,qg f ds,?_,trivial}
 congr 1
 rw[List.all_map];rfl
def mK:bV (.tup (x::r)) (.int 0) M=some x:=by
 show(cv (x::r).length ((0:Nat):Int)).bind (λj=>(x::r)[j]?)=_;rw[cY `s]
 rfl
section
variable{P:Nat->Option Df}(h:HasB0 P){M:Mem}{m:aK}
include h
theorem GU (n:Nat)(u:rb m x) :
 uw (ax .isN (aa 0) gN) (ah 1 (ag P (n+2)) #[ao (aa 1) (gI 0),aa 0]) (some x::some m.d::r) M=.ok (.bl true) M:=by
 rcases u with rfl|⟨v,rfl,j⟩
 ·rfl
 ·refine aj (K8.mpr (eD.mpr (bo.mpr {nD v,rfl,cZ.mpr {false,rfl,false,rfl,?_}})));rw[if_neg QF,(aQ (af (bq rfl rfl mK) (af rfl rfl))).trans (qr h n j)];exact⟨rfl,rfl⟩
theorem zF (h15:P 15=some {1,6,b8})(h79:P 79=some {2,2,jV})(n:Nat)(hm:aC m)(u:fJ m ws):ag P (n+10) 79 [m.d,.tup ws] M=.ok (.bl true) M:=by
 refine aj (aH h79 rfl ?_);have j:=ki h h15 n (M:=M) hm;have:=bX hm;refine bU (gQ (bN ((aQ (af ?_ (af rfl rfl))).trans (kS h (n+8) u.1)))) ?_
 ·refine aj (bQ.mpr ?_);rw[af ((aQ (af rfl rfl)).trans j) rfl,aO];exact{by rw[P8],rfl}
 ·exact bC (aj (all_true ⟨rfl,rfl⟩ (ay (by rw[u.1];omega)) (λx v=>GU h (n+7) (u.2 x v)) ⟨rfl,rfl⟩)) ⟨rfl,rfl⟩
theorem Ai (h15:P 15=some {1,6,b8})(h79:P 79=some {2,2,jV})(h80:P 80=some {2,2,j8})(n:Nat)(hm:aC m)(j:fJ m ws):ag P (n+11) 80 [m.d,.tup ws] M=.ok .non M:=by
 refine aj (aH h80 rfl ?_);refine bu (uC ((eK (af rfl rfl)).trans (tu h (n+2) hm))) ?_;exact bU (gQ (bN ((aQ (af rfl (af rfl rfl))).trans (zF h h15 h79 n hm j)))) ⟨rfl,rfl⟩
end
def rf (j:List D):Prop:=∀z∈j,∃x r w,z=.tup [.tup (nD x::r),w]/\(w=.non\/∃v:Nat,w=nD v)
def uD (j:w=.non\/∃v:Nat,w=nD v):bE .eq (nD x) w M=some (bJ (nD x) w):=by
 rcases j with rfl|⟨v,rfl⟩
 ·exact n4 rfl rfl rfl
 ·exact n4 rfl rfl rfl
section
variable{P:Nat->Option Df}{M:Mem}
def rC (h81:P 81=some {2,2,gE})(n:Nat)(hz:(eZ es ws).length<=sz)(j:rf (eZ es ws)):ag P (n+1) 81 [.tup es,.tup ws] M=.ok (.bl ((eZ es ws).all qO)) M:=by
 refine aj (aH h81 rfl ?_);unfold gE;refine bC (all_gen qO ⟨rfl,rfl⟩ hz λz hz=>?_) ⟨rfl,rfl⟩;obtain⟨x,r,w,rfl,u⟩:=j z hz;refine{_,rfl,aj ?_};simp only[K8,eD,cZ,bo,eC];refine{w,rfl,fc w,rfl,fc w,rfl,?_};cases hn:fc w with
 | true =>
   refine{?_,trivial};show _=D.bl (fc w||bJ (nD x) w);rw[hn];rfl
 | false =>
   refine{_,rfl,nD x,mK,w,rfl,_,uD u,?_,trivial};show _=D.bl (fc w||bJ (nD x) w);rw[hn];rfl
def xp (h84:P 84=some {2,2,gi})(n:Nat)(hz:(eZ es ws).length<=sz)(j:rf (eZ es ws)):ag P (n+1) 84 [.tup es,.tup ws] M=.ok (.bl ((eZ es ws).all qO)) M:=by
 refine aj (aH h84 rfl ?_);unfold gi;simp only[aA,cH,eD,dm,Iu,bo];refine{_,rfl,_,rfl,rfl,?_};refine rY (λz=>!qO z) (λ_=>.int 1) hz rfl (λz hz=>?_) ?_
 ·obtain⟨x,r,w,rfl,u⟩:=j z hz;refine{_,rfl,dj ?_,λ_=>rfl};simp only[Mf,ip,eD,cZ,bo,eC];refine{w,rfl,!fc w,rfl,!fc w,rfl,?_};cases hn:fc w with
  | true =>
    refine{?_,trivial};show _=!(fc w||bJ (nD x) w);rw[hn];rfl
  | false =>
    refine{_,rfl,nD x,mK,w,rfl,_,(show bE .ne (nD x) w M=some (!bJ (nD x) w) by show(bE .eq (nD x) w M).map (!·)=_;rw[uD u];rfl),_,rfl,?_,trivial}
    show _=!(fc w||bJ (nD x) w);rw[hn];rfl
 ·refine bI.mpr {Qo (by rw[P8];exact RZ _ _) hz,?_}
  simp only[sJ,cg];refine bI.mpr {Rv _,_,eq_empty ?_,?_,rfl}
  ·rw[Qt];intro x v;obtain⟨_,_,rfl⟩:=Qh.mp v;rfl
  ·rw[lQ qO]
end
section
variable{Z:Env}{M:Mem}{kf:Fl->Mem->Prop}{rest:GS}{g a:GE}{s:GA}
def oZ (Q:D->Prop)(R:ae (w Z M) λwk M'=>M'=M/\∀M',aZ p M M'->wk M'=some ds)(hz:ds.length<=100)(O:aD M p B)
 (hs:∀d∈ds,∀M' E,aZ p M M'->aD M' p E->E<=B+100->∃u,bT tg d (List.replicate own none++Z)=some u/\ae (g u M') λx v=>Q x/\aD v p (E+1)/\aZ p M' v) :
 ae (ba true own tg w (bg g) Z M) λd M'=>∃q ws,d=.cell q/\M'[q]?=some ws/\ws.length=ds.length/\(∀x∈ws,Q x)/\M.length<=q/\aD M' p (B+100)/\aZ p M M':=by
 rw[dm];refine aI R ?_;rintro wk M0 ⟨rfl,L⟩;refine comp_map (λi j M'=>aD M' p (B+i)/\aZ p M0 M'/\∀x∈j,Q x) (ay `a) (λ_ _ _ h=>L _ h.2.1) {O,.refl,λ_ h=>nomatch h} ?_ ?_
 ·rintro i d j M' hd hl ⟨F,k1,a1⟩;have U:=(P9.mp hd).1;obtain⟨u,e,o⟩:=hs d (QC hd) M' (B+i) k1 F `a
  refine{u,e,aI o λx S ⟨H,I,J⟩=>{I,k1.trans J,λy z=>?_}};rcases QH.mp z with z|z
  ·exact a1 y z
  ·rw[Qs.mp z];exact H
 ·rintro j M' hl ⟨F,k1,a1⟩;exact jb.mpr {ay `a,M'.length,j,rfl,List.getElem?_concat_length,hl,a1,k1.len,(F.mono `a).app,k1.trans .app}
end
def u2 (hm:aC m):0<(aS m).length:=List.length_pos_of_mem (u3 hm (s:=List.replicate m.places 0) {`s,λx h=>by have:=hm.w2;rw[(List.mem_replicate.mp h).2];omega})
def sV {m:aK}(h:Z[j]?.getD none=some m.d):ao (aa j) (gI 0) Z M=.ok (nD m.words) M:=by
 refine aj ?_;simp only[eC,bo,cZ];exact{_,h,_,mK,rfl,trivial}
def rQ (hm:aC m)(hs:cU m s):∃x r,av s=.tup (nD x::r)/\x<m.words:=by
 cases s with
 | nil =>
   have h1:=hs.1;have h2:=hm.p1;rw[<- h1] at h2;exact absurd h2 `d
 |cons x t=>exact{x,t.map nD,rfl,hs.2 x QB}
def Ip (c:Call):GS:=#v[aT (ak (ax .gt (aa 3) (gI 0))) #v[aw (.one 6) (ba true 1 (.one 0) (bK (aa 6)) (bg (fC (ak (ax .eq (ah 31 c #[aa 1,ai false .add (gI 2) (aa 4)]) (gI 0))) gN (aa 0))))] aF,aP (aJ .tuple #[aa 6])]
def Iq (c:Call):GS:=(aY (aw (.one 7) (ah 31 c #[aa 0,aJ .len #[aa 6]])) (aY (aT (ak (ax .eq (aa 2) (gI 1))) #v[eI (aa 6) (aa 7) (ah 31 c #[aa 0,ao (aa 1) (gI 0)])] aF) (Ip c)))
structure yp (m:aK) (p B q:Nat) (M0 M:Mem):Prop where
 pen:aD M p B
 keep:aZ p M0 M
 new:M0.length<=q
 at':∃ws,M[q]?=some ws/\fJ m ws
def fU (m:aK)(p B:Nat)(M0:Mem):D->Mem->Prop:=λd h=>∃j,d=.tup j/\fJ m j/\aD h p B/\aZ p M0 h
section
variable{P:Nat->Option Df}{M M0:Mem}{m:aK}{p B q:Nat}
def vq (h:yp m p B q M0 M):ae (#v[aP (aJ .tuple #[aa 6])] [x0,x1,x2,x3,x4,x5,some (.cell q),x7] M) (ie (fU m p B M0)):=by
 obtain⟨j,e,u⟩:=h.at';refine bC (aj ?_) ⟨j,rfl,u,h.pen,h.keep⟩;simp only[bQ,bR,cg,bo];exact{_,rfl,pB.mpr ⟨j,e,rfl,rfl⟩}
set_option tactic.hygienic true in
def fU.mono (u:B<=B')(h:ie (fU m p B M0) fl M):ie (fU m p B' M0) fl M:=by
 cases fl with
 |next Z=>obtain⟨j,e,_⟩:=h;cases e
 |ret d=>obtain⟨j,e,v,q,k⟩:=h;exact{j,e,v,q.mono u,k}
 |exc x Z=>exact h
variable(hp_:HasP0 P)
include hp_
theorem DN (n:Nat)(hm:aC m)(J:p<M0.length)(X:free<4)(h:yp m p B q M0 M)(W:B<=900000):ae (Ip (ag P (n+2)) [some (.cell p),some m.d,x2,some (nD free),x4,x5,some (.cell q),x7] M) (ie (fU m p (B+100) M0)):=by
 have l2:=bX hm;refine bH (MU rfl) (λ_=>?_) λ_=>aI (vq h) λfl j=>fU.mono `a
 obtain⟨ws,e,y⟩:=h.at';have u:q≠p:=by have:=h.new;omega
 refine cF (oZ (rb m) {rfl,λj k=>k.get e u} (by rw[y.1];omega) h.pen λd hd j R k' O H=>{_,rfl,?_}) ?_
 ·simp only[E7,ip,eD,cZ,bo];refine aI (eB hp_ n rfl (by show Res.ok (D.int ((2:Int)+(free:Int))) j=_;rw[show((2:Int)+(free:Int))=((2+free:Nat):Int) by omega]) O `a `a `a) ?_
  rintro _ S ⟨v,rfl,Y,E,k2⟩;refine{(v:Int)==0,rfl,(v:Int)==0,rfl,?_};cases (v:Int)==0 with
  |true=>exact{.inl rfl,E,k2}
  |false=>exact{d,rfl,y.2 d hd,E,k2}
 ·rintro _ U ⟨q',z,rfl,F,hl,I,hn,Q,L⟩;exact vq {Q,h.keep.trans L,Qo h.keep.len hn,z,F,hl.trans y.1,I}
theorem DQ (n:Nat)(hm:aC m)(u:p<M0.length)(I:free<4)(h:yp m p B q M0 M)(U:B<=800000):ae (Iq (ag P (n+2)) [some (.cell p),some m.d,some (nD kind),some (nD free),x4,x5,some (.cell q),x7] M) (ie (fU m p (B+102) M0)):=by
 have l1:=u2 hm;have l2:=bX hm;have w2:=hm.w2;have w4:=hm.w4;obtain⟨z,e,y⟩:=h.at';have j:q≠p:=by have:=h.new;omega
 have F:p<q:=by have:=h.new;omega
 refine dC hp_ n (many:=z.length) rfl (aj ?_) h.pen `a (by rw[y.1];omega) (by rw[y.1];omega) λat_ R E J k1=>?_
 ·simp only[bQ,bR,cg,bo];exact{_,rfl,oP.mpr ⟨z,e,rfl,rfl⟩}
 have e1:=k1.get e j;refine bH (gn rfl) (λ_=>?_) λ_=>aI (DN hp_ n hm u I {J,h.keep.trans k1,h.new,z,e1,y} `a) λfl L=>fU.mono `a
 simp only[aA,kj];refine aI (eB hp_ n rfl (sV rfl) J `a `a `a) ?_
 rintro _ S ⟨v,rfl,O,Q,k2⟩;simp only[bo];have e2:=k2.get e1 j;refine{_,rfl,_,rfl,q,at_,z,at_,rfl,rfl,e2,cY E,?_};refine aI (DN hp_ n hm u I {Q.setq F,((h.keep.trans k1).trans k2).setq h.new,h.new,z.set at_ (nD v),?_,?_,λx H=>?_} `a) λfl L=>fU.mono `a
 ·rw[QI (P9.mp e2).1]
 ·rw[List.length_set];exact y.1
 ·rcases List.mem_or_eq_of_mem_set H with H|rfl
  ·exact y.2 x H
  ·exact .inr ⟨v,rfl,O⟩
end
section
variable{P:Nat->Option Df}{M:Mem}
def zw (hp_:HasP P)(U:HasB P)(h35:P 35=some {3,6,fS})(h44:P 44=some {2,5,ft})(h83:P 83=some {2,8,iM})(n:Nat)(hm:aC m)(W:aD M p B)(hB:B<=600000) :
 ae (ag P (n+4) 83 [.cell p,m.d] M) (fU m p (B+400) M):=by
 have l2:=bX hm;have w2:=hm.w2;have w4:=hm.w4;refine aH h83 rfl ?_;refine dC hp_ (n+1) (many:=5) rfl rfl W `a `a `a λkind M1 hkd q1 k1=>?_
 refine dC hp_ (n+1) (many:=4) rfl rfl q1 `a `a `a λfree z j O k2=>?_
 refine bu (bF (ND rfl (fB U (n+2) hm))) ?_;refine cF (k:=λd h=>∃r,d=.tup ((ends m r).map av)/\(∀i∈r,i<m.deeds.length)/\aD h p (B+60)/\aZ p z h) ?_ ?_
 ·simp only[uG,bR,cg,cZ];show ae (ag P (n+3) 35 [.cell p,m.d,nD 6] z) _;refine aI (F4 hp_ h35 n hm O `a `a) ?_
  rintro _ M3 ⟨r,rfl,hr,_,q3,k3⟩;refine aI (Cc U h44 (n+1) hm hr.2) ?_;rintro _ M4 ⟨rfl,S⟩;exact{r,rfl,hr.2,S.pen (q3.mono `a),k3.trans S.keep}
 rintro _ M4 ⟨r,rfl,hr,q4,k4⟩;have R:=(k1.trans k2).trans k4;refine cF (oZ (rb m) {rfl,λ_ _=>rfl} (by simp[ends];omega) q4 λd hd h Y k' L E=>{_,rfl,?_}) ?_
 ·obtain⟨s,hs,rfl⟩:=Qh.mp hd;obtain⟨b,H,rfl⟩:=Qh.mp hs;obtain⟨x,t,e,hx⟩:=rQ hm (qR hm hr (n8 b H));rw[e];simp only[eC,bo,cZ];exact{_,rfl,_,mK,.inr ⟨x,rfl,hx⟩,L.mono `a,.refl}
 rintro _ M5 ⟨q,ws,rfl,e5,hl,hQ,hn,X,k5⟩;have y:yp m p (B+260) q M M5:={X.mono `a,R.trans k5,Qo R.len hn,ws,e5,by rw[hl];simp[ends],hQ}
 have u:=W.lt;refine bH (gn rfl) (λ_=>?_) λ_=>aI (DQ hp_ (n+1) hm u j y `a) λfl h=>fU.mono `a
 refine cF (oZ (rb m) {rfl,λ_ _=>rfl} `o X λd hd h Y k' L E=>{_,rfl,?_}) ?_
 ·refine aI (eB hp_ (n+1) rfl (sV rfl) L `a `a `a) ?_
  rintro _ z ⟨v,rfl,hv,O,k2⟩;exact{.inr ⟨v,rfl,hv⟩,O,k2}
 rintro _ M6 ⟨q',Q,rfl,e6,I,F,J,q6,k6⟩;show ae (Iq (ag P (n+1+2)) [some (.cell p),some m.d,some (nD kind),some (nD free),some (.lst ((aS m).map av)),some (.tup ((ends m r).map av)),some (.cell q'),none] M6) (ie (fU m p (B+400) M));exact aI (DQ hp_ (n+1) hm u j {q6,y.keep.trans k6,Qo y.keep.len J,Q,e6,by rw[I];simp,F} `a) λfl h=>fU.mono `a
end
def qN (ws:List D)(b:aB):Bool:=(eZ (b.map av) ws).all qO
def lB (hm:aC m):∀{b:aB}{ws:List D},(∀s∈b,cU m s)->(∀x∈ws,rb m x)->rf (eZ (b.map av) ws)
 |[],ws,_,_=>by intro z h;cases ws<;>exact nomatch h
 |s::b,[],_,_=>by intro z h;exact nomatch h
 | s :: b, x :: ws, j, u => by
   intro z h;rcases QZ.mp (h) with rfl|h
   ·obtain⟨v,r,e,_⟩:=rQ hm (j s QB);refine{v,r,x,by rw[e],?_}
    rcases u x QB with z|⟨v,z,_⟩
    ·exact .inl z
    ·exact .inr ⟨v,z⟩
   ·exact lB hm (λs hs=>j s (Qu _ hs)) (λx y=>u x (Qu _ y)) z h
def nr:∀{xs ys:List D},(eZ xs ys).length<=xs.length
 |[],ys=>by cases ys<;>exact Qe _
 |_::_,[]=>Rv _
 |x::xs,y::ys=>Nat.succ_le_succ (nr)
section
variable{P:Nat->Option Df}{M:Mem}{m:aK}{ws:List D}{q:Nat}{b:aB}
def MX (n:Nat)(h81:P 81=some {2,2,gE})(hm:aC m)(h:fJ m ws)(lq:bz m q b):ag P (n+1) 81 [bD b,.tup ws] M=.ok (.bl (qN ws b)) M:=by
 obtain⟨j,os⟩:=iD hm lq.1;have:=bX hm;exact rC h81 n (ay (Qo nr (by rw[P8];omega))) (lB hm os h.2)
end
noncomputable def tj (m:aK)(s:List Nat):Bool:=s.length==m.places&&s.all λx=>decide (x<m.words)
def dO (m:aK)(b:aB):Bool:=b.length==(aS m).length&&b.all (tj m)
structure Loose (b:aB):Prop where
 l:b.length<=100
 s:∀s∈b,s.length<=100
def IX {s:List Nat}(h:tj m s=true):cU m s:=by
 unfold tj at h;rw[Qg] at h;exact{eq_of_beq h.1,λx j=>of_decide_eq_true (Qt.mp h.2 x j)}
def n6 {b:aB}(h:dO m b=true):b.length=(aS m).length/\∀s∈b,cU m s:=by
 unfold dO at h;rw[Qg] at h;exact{eq_of_beq h.1,λs hs=>IX (Qt.mp h.2 s hs)}
noncomputable def yS:D->Nat
 |.int i=>i.toNat
 |_=>0
noncomputable def vt:D->List Nat
 |.tup j=>j.map yS
 |_=>[]
noncomputable def yT:D->aB
 |.tup j=>j.map vt
 |_=>[]
def IB {l:List Nat}:(l.map nD).map yS=l:=by
 rw[Q1];exact(RC λx _=>RO x).trans (List.map_id l)
def pA:vt (av s)=s:=IB
def sW:yT (bD b)=b:=by
 show(b.map av).map vt=b;rw[Q1];exact(RC λs _=>pA).trans (List.map_id b)
def w5 {l:List Nat}{p:Nat->Bool}:((l.map nD).all λd=>p (yS d))=l.all p:=by
 rw[List.all_map]
 congr 1
def wZ {b:aB}:((b.map av).all λd=>p (vt d))=b.all p:=by
 rw[List.all_map]
 congr 1
 exact funext λs=>congrArg p pA
def Ie {L:List aB}:((L.map bD).all λd=>p (yT d))=L.all p:=by
 rw[List.all_map]
 congr 1
 exact funext λs=>congrArg p sW
def Aj {i j:Nat}{M:Mem}:bE .ne (nD i) (nD j) M=some (!(i==j)):=by
 show some (!((i:Int)==(j:Int)))=_;rw[show((i:Int)==(j:Int))=(i==j) by rw[Rb,beq_iff_eq,beq_iff_eq,Int.ofNat_inj]]
section
variable{P:Nat->Option Df}{M:Mem}{m:aK}(h:DD P)
include h
theorem IZ {w:Nat}(n x:Nat):ag P (n+2) 68 [nD x,.int 0,.int ((w:Int)-1)] M=.ok (.bl (decide (x<w))) M:=by
 refine aj (aH h.is_in rfl ?_);refine bC ((qi ((aQ (af rfl rfl)).trans (IY h n x)) λ_=>?_).trans rfl) ⟨rfl,rfl⟩;show Res.ok (D.bl (decide ((0:Int)<=(x:Int))&&decide ((x:Int)<=(w:Int)-1))) M=_;rw[decide_eq_true (Int.natCast_nonneg x),show decide ((x:Int)<=(w:Int)-1)=decide (x<w) from decide_eq_decide.mpr `a];rfl
theorem F7 {w p:Nat}(n:Nat){s:List Nat}(hz:s.length<=100):ag P (n+3) 69 [av s,nD p,.int 0,.int ((w:Int)-1)] M=.ok (.bl (s.length==p&&s.all λx=>decide (x<w))) M:=by
 refine aj (aH h.numbers rfl ?_);have t:(eL (cq (ak (d9 .tuple (aa 0)))) (ak (ax .ne (aJ .len (aX (aa 0) a9)) (aa 1)))) [some (av s),some (nD p),some (.int 0),some (.int ((w:Int)-1))] M=.ok (!(s.length==p)) M:=by
  refine(pK (gQ (bN rfl)) (bN (jz ?_ rfl Aj))).trans rfl;rw[nN rfl,P8]
 cases e:s.length==p with
 | false =>
   rw[e] at t;exact eR t rfl ⟨rfl,rfl⟩
 | true =>
   rw[e] at t;refine bU t ?_;rw[aA,cH];refine vS (ds:=s.map nD) (λd=>decide (yS d<w)) ?_ (ay (by rw[P8];omega)) (λd hd=>?_) ?_
   ·rw[fO,aq rfl,aO];exact⟨rfl,rfl,rfl⟩
   ·obtain⟨x,j,rfl⟩:=Qh.mp hd;exact gQ (bN ((aQ (af rfl (af rfl (af rfl rfl)))).trans (IZ h n x)))
   ·rw[w5 (p:=λx=>decide (x<w))];exact⟨rfl,rfl⟩
theorem zG (n:Nat)(u:HasB P)(h168:P 168=some {2,2,fv})(hm:aC m)(j:Loose b):ag P (n+4) 168 [m.d,bD b] M=.ok (.bl (dO m b)) M:=by
 have v:=bX hm;refine aj (aH h168 rfl ?_);have t:(eL (cq (ak (d9 .tuple (aa 1)))) (ak (ax .ne (aJ .len (aX (aa 1) a9)) (aJ .len (aX (ah 42 (ag P (n+3)) (aX (aa 0) a9)) a9))))) [some m.d,some (bD b)] M=.ok (!(b.length==(aS m).length)) M:=by
  refine(pK (gQ (bN rfl)) (bN (jz ?_ ?_ Aj))).trans rfl
  ·rw[nN rfl,P8]
  ·rw[oQ ((aQ (af rfl rfl)).trans (fB u (n+2) hm)),P8]
 unfold dO;cases e:b.length==(aS m).length with
 | false =>
   rw[e] at t;exact eR t rfl ⟨rfl,rfl⟩
 | true =>
   rw[e] at t;refine bU t ?_;rw[aA,cH];refine vS (ds:=b.map av) (λd=>tj m (vt d)) ?_ (ay (by rw[P8];have:=j.l;omega)) (λd hd=>?_) ?_
   ·rw[fO,aq rfl,aO];exact⟨rfl,rfl,rfl⟩
   ·obtain⟨s,hs,rfl⟩:=Qh.mp hd;have e1:ao (aa 1) (gC (.int 1)) [some (av s),some m.d,some (bD b)] M=.ok (nD m.places) M:=bq rfl rfl rfl;have e2:ai false .sub (ao (aa 1) (gC (.int 0))) (gC (.int 1)) [some (av s),some m.d,some (bD b)] M=.ok (.int ((m.words:Int)-1)) M:=(d3 (bq rfl rfl rfl) rfl).trans rfl;rw[pA];exact gQ (bN ((aQ (af rfl (af e1 (af rfl (af e2 rfl))))).trans (F7 h n (j.s s hs))))
   ·rw[wZ];exact⟨rfl,rfl⟩
end
section
variable{P:Nat->Option Df}{M:Mem}{m:aK}(h:HasB0 P)
include h
theorem B8 (n:Nat):ag P (n+2) 1 [nD w,nD t] M=.ok (.bl (decide (t<w))) M:=by
 refine aj (aH h.is_word rfl ?_);refine bC ((aQ (af rfl (af rfl (af ((d3 rfl rfl).trans rfl) rfl)))).trans (gJ h n _ _ _)) {?_,rfl};rw[decide_eq_true (Int.natCast_nonneg t),show decide ((t:Int)<=(w:Int)-1)=decide (t<w) from decide_eq_decide.mpr `a];rfl
theorem vI (n:Nat):ag P (n+1) 4 [nD w,.tup ds] M=.ok (.bl (ds.length==w)) M:=by
 refine aj (aH h.is_tuple_of rfl ?_);show ae (gq (ag P n) [some (nD w),some (.tup ds)] M) _;refine bC ((qi rfl λ_=>jz (nN rfl) rfl ?_).trans rfl) ⟨rfl,rfl⟩;show some ((ds.length:Int)==(w:Int))=_;rw[show((ds.length:Int)==(w:Int))=(ds.length==w) by rw[Rb,beq_iff_eq,beq_iff_eq,Int.ofNat_inj]]
theorem Gf (h14:P 14=some {2,5,c9})(n:Nat){s:List Nat}(hz:s.length<=100):ag P (n+3) 14 [m.d,av s] M=.ok (.bl (tj m s)) M:=by
 refine aj (aH h14 rfl ?_);show ae (c9 (ag P (n+2)) [some m.d,some (av s),none,none,none] M) _;unfold c9;refine bu (rfl) ?_;refine bC (qi ((aQ (af rfl (af rfl rfl))).trans (vI h (n+1))) λ_=>(all_gen (λd=>decide (yS d<m.words)) ⟨rfl,rfl⟩ (ay (by rw[P8];omega)) λd hd=>?_)) {?_,rfl}
 ·obtain⟨x,j,rfl⟩:=Qh.mp hd;exact{_,rfl,(aQ (af rfl (af rfl rfl))).trans (B8 h n)}
 ·rw[w5 (p:=λx=>decide (x<m.words)),P8];rfl
theorem Gg (h14:P 14=some {2,5,c9})(h15:P 15=some {1,6,b8})(h176:P 176=some {2,3,fh})(n:Nat)(hm:aC m){L:List aB}(hl:L.length<=1000)(ll:∀b∈L,Loose b):ag P (n+10) 176 [m.d,.lst (L.map bD)] M=.ok (.bl (L.all (dO m))) M:=by
 refine aj (aH h176 rfl ?_);refine bu (bF (x:=nD (aS m).length) ?_) ?_
 ·rw[oQ ((aQ (af rfl rfl)).trans (ki h h15 n hm)),P8]
 refine bC (all_gen (λd=>dO m (yT d)) ⟨rfl,rfl⟩ (ay (by rw[P8];omega)) λd hd=>?_) {?_,rfl}
 ·obtain⟨b,j,rfl⟩:=Qh.mp hd;refine{_,rfl,?_};rw[sW];refine Eq.trans (qi ((aQ (af rfl (af rfl rfl))).trans (vI h (n+8))) λ_=>(all_gen (λd=>tj m (vt d)) ⟨rfl,rfl⟩ (ay (by rw[P8];have:=(ll b j).l;omega)) λd hd=>?_)) ?_
  ·obtain⟨s,hs,rfl⟩:=Qh.mp hd;refine{_,rfl,?_};rw[pA];exact(aQ (af rfl (af rfl rfl))).trans (Gf h h14 (n+6) ((ll b j).s s hs))
  ·rw[wZ,P8];rfl
 ·rw[Ie]
end
section
variable{m:aK}{fit:aB->Bool}{E:F3}
def AS (all:AllIn m none ((un E).map pr)):(∃x∈E,x.1=b/\x.2.1=q)↔bz m q b:=by
 rw[<- all.mem,nt,Qh];constructor
 ·rintro⟨x,h,rfl,rfl⟩;exact⟨x,h,rfl⟩
 ·rintro⟨x,h,e⟩;cases e;exact⟨x,h,rfl,rfl⟩
def Bc (hm:aC m)(all:AllIn m none ((un E).map pr)):(E.map (·.1)).Nodup/\(∀b∈E.map (·.1),∃q,bz m q b)/\aS m∈E.map (·.1)/\∀b∈E.map (·.1),∀i,i<m.deeds.length->aV m i b∈E.map (·.1):=by
 have j:∀{b:aB},b∈E.map (·.1)↔∃q,bz m q b:=λ{b}=>by
  rw[Qh];constructor
  ·rintro⟨x,v,rfl⟩;exact{_,(AS all).mp ⟨x,v,rfl,rfl⟩}
  ·rintro⟨q,h⟩;obtain⟨x,v,e,_⟩:=(AS all).mpr h;exact⟨x,v,e⟩
 refine{by have:=all.nd;rw[nt,Q1] at this;exact this,λb u=>j.mp u,j.mpr {0,(d8 hm).mpr rfl},λb u i y=>?_}
 obtain⟨q,h⟩:=j.mp u;obtain⟨z,_,l2⟩:=mI (h.1.step y);exact j.mpr ⟨z,l2⟩
end
section
variable{P:Nat->Option Df}{M:Mem}{m:aK}
def zC (j:HasB0 P)(hr:i7 P)(h15:P 15=some {1,6,b8})(h151:P 151=some {1,2,dI})(h152:P 152=some {2,2,dP})(h165:P 165=some {3,11,g7})(h166:P 166=some {2,6,jB})(n:Nat)(hm:aC m) :
 fW (ag P (n+11) 166 [m.d,.non] M) (λd M'=>∃h E,d=.fn (au h)/\M.length<=h/\M'[h]?=some (j7 E)/\ve m M.length M' E/\AllIn m none ((un E).map pr)/\E.length<=255/\Sub M M') (λx M'=>x=.exc 8 none/\jG m none/\Sub M M'):=
 zB (bd:=none) (λ_=>rfl) (λ_=>rfl) j hr h15 h151 h152 h165 h166 n hm (λ_ z=>nomatch z)
end
def ins (E:List aB)(b:aB):List aB:=if b∈E then E else E++[b]
def SeqAt (M:Mem)(x:D)(L:List aB):Prop:=x=.lst (L.map bD)\/∃c,x=.cell c/\M[c]?=some (L.map bD)
section
variable{P:Nat->Option Df}{M:Mem}{m:aK}{w x:D}{fit:aB->Bool}{L:List aB}
def C6 (j:t Z M=.ok true M1)(he:e Z M1=.ok v M1)(h:k (.ret v) M1):ae (aY (aT t (aY (aP e) aF) aF) rest Z M) k:=by
 simp only[aA,iC,cH];rw[j,aO,if_pos rfl,he];exact h
def nB (h:((List.range n).map λ(k:Nat)=>D.int (k:Int))[i]?=some d):i<n/\d=nD i:=by
 rw[Qv] at h;obtain⟨j,u,rfl⟩:=Qk.mp h;obtain⟨h1,h2⟩:=P9.mp u;rw[Ru] at h1;rw[List.getElem_range] at h2;exact{h1,by rw[h2]}
end
def uX:∀l:List Bool,boolsOf (l.map D.bl)=some l
 |[]=>rfl
 |b::l=>by simp[boolsOf,uX l]
section
variable{P:Nat->Option Df}{M:Mem}{m:aK}{w x:D}{fit:aB->Bool}{L:List aB}
def Lp {u:Type}{k:u->aB}{v:u->D}{E:List u}(f:u->D)(B:Z[j]?.getD none=some (.fn (au fk)))(z:M[fk]?=some (gy k v E))(hl:E.length<=1000)(g:D->D)(y:∀x∈E,g (bD (k x))=f x)(he:∀x∈E,ge (some (bD (k x))::Z) M=.ok (f x) M) :
 ba false 1 (.one 0) (di b9 (aa j)) (bg ge) Z M=.ok (.lst (E.map f)) M:=by
 obtain⟨F,w2⟩:=pP B z;refine aj ?_;rw[dm,F,aO];refine eE g (ay (by rw[P8];omega)) w2 (λd hd=>?_) ?_
 ·obtain⟨x,h,rfl⟩:=Qh.mp hd;exact{_,rfl,by rw[y x h];exact he x h}
 ·rw[Q1,show E.map (g∘λx=>bD (k x))=E.map f from RC λx h=>y x h];exact bI.mpr {ay (by rw[P8];omega),rfl,rfl}
end
def LH {u v:Type}{f:u->v}{l:List u}{i j:Nat}:cut (l.map f) i j=(cut l i j).map f:=by
 unfold cut;rw[<- List.map_drop,<- List.map_take]
def wL {u:Type}{l:List u}{i j:Nat}{x:u}(h:x∈cut l i j):x∈l:=List.mem_of_mem_drop (RQ h)
def jy {u:Type}{l:List u}{i j:Nat}:(cut l i j).length<=l.length:=by
 unfold cut;rw[RA,List.length_drop];omega
structure f5 (k r:Nat) (b:aB):Prop where
 l:b.length<=k
 s:∀s∈b,s.length<=r
def f5.cut {k r i j:Nat}{b:aB}(h:f5 k r b):f5 k r (cut b i j):={Qo jy h.l,λs hs=>h.s s (wL hs)}
def f5.app (h:f5 k r b)(h':f5 k' r c):f5 (k+k') r (b++c):={by rw[QD];have:=h.l;have:=h'.l;omega,λs hs=>(QH.mp hs).elim (h.s s) (h'.s s)}
def f5.mono (h:f5 k r b)(j:k<=k')(hr:r<=r'):f5 k' r' b:={Qo h.l j,λs hs=>Qo (h.s s hs) hr}
def f5.loose (h:f5 k r b)(j:k<=100)(hr:r<=100):Loose b:={Qo h.l j,λs hs=>Qo (h.s s hs) hr}
def kY (p:cJ h l=true):∃i,aU n d l=some i:=by
 cases l<;>first|exact{_,rfl}|(cases h<;>cases p)
section
variable{P:Nat->Option Df}{M:Mem}{m:aK}{a b lo hi:GE}{Z:Env}{hl hh:Bool}{l h:D}{xs ys:List D}{p B:Nat}
def mw (y:a Z M=.ok (.tup xs) M)(E:lo Z M=.ok l M)(z:hi Z M=.ok h M)(pl:cJ hl l=true)(v:cJ hh h=true):∃i j,b5 false hl hh a lo hi Z M=.ok (.tup (cut xs i j)) M:=by
 obtain⟨i,u⟩:=kY pl;obtain⟨j,F⟩:=kY v;refine{i,j,aj ?_};rw[nU,y,aO,E,aO,z,aO];refine{pl,v,?_};show ae (match aU xs.length 0 l,aU xs.length xs.length h with|some l,some h=>Res.ok (D.tup (cut xs l h)) M|_,_=>.bad) _
 rw[u,F];exact⟨rfl,rfl⟩
def Jb (y:a Z M=.ok (.lst xs) M)(E:lo Z M=.ok l M)(z:hi Z M=.ok h M)(pl:cJ hl l=true)(v:cJ hh h=true)(hz:xs.length<=1000):∃i j,b5 false hl hh a lo hi Z M=.ok (.lst (cut xs i j)) M:=by
 obtain⟨i,u⟩:=kY pl;obtain⟨j,F⟩:=kY v;refine{i,j,aj ?_};rw[nU,y,aO,E,aO,z,aO];refine{pl,v,?_};show ae (match aU xs.length 0 l,aU xs.length xs.length h with|some l,some h=>bf false (cut xs l h) M|_,_=>.bad) _
 rw[u,F];exact bI.mpr {ay (Qo jy `a),rfl,rfl}
def ij (j:a Z M=.ok (.tup xs) M)(u:b Z M=.ok (.tup ys) M)(hz:(xs++ys).length<=1000):ai false .add a b Z M=.ok (.tup (xs++ys)) M:=by
 rw[d3 j u];exact aj (vb.mpr {ay `a,rfl,rfl})
def fH (j:a Z M=.ok (.lst xs) M)(u:b Z M=.ok (.lst ys) M)(hz:(xs++ys).length<=1000):ai false .add a b Z M=.ok (.lst (xs++ys)) M:=by
 rw[d3 j u];exact aj (LU.mpr (bI.mpr {ay `a,rfl,rfl}))
end
section
variable{P:Nat->Option Df}{M:Mem}{p B:Nat}{m:aK}
def F2 (h:HasP P)(h160:P 160=some {2,3,fu})(n:Nat)(H:t<6)(F:aD M p B)(E:B<=700000):ae (ag P (n+6) 160 [.cell p,nD t] M) λd M'=>∃m:aK,d=m.d/\aC m/\aD M' p (B+300)/\aZ p M M':=by
 refine aH h160 rfl ?_;have j:∃a b c:Nat,ao (a7 false #[aM #[gI 3,gI 1,gI 6],aM #[gI 2,gI 2,gI 3],aM #[gI 3,gI 1,gI 4],aM #[gI 2,gI 2,gI 2],aM #[gI 4,gI 1,gI 2]]) (ai false .mod (aa 1) (gI 5)) [some (.cell p),some (nD t),none] M=.ok (.tup [nD a,nD b,nD c]) M/\2<=a/\a<=4/\1<=b/\b<=2/\1<=c/\c<=6:=by
  match t,H with
  |0,_=>exact{3,1,6,rfl,`d}
  |1,_=>exact{2,2,3,rfl,`d}
  |2,_=>exact{3,1,4,rfl,`d}
  |3,_=>exact{2,2,2,rfl,`d}
  |4,_=>exact{4,1,2,rfl,`d}
  |5,_=>exact{3,1,6,rfl,`d}
 obtain⟨a,b,c,e,a2,a4,u,v,y,z⟩:=j;refine bu (bF e) ?_;rw[aA,cH,aQ (af rfl (af (bq rfl rfl rfl) (af (bq rfl rfl rfl) (af (bq rfl rfl rfl) rfl))))];refine aI (xm h n F E a2 a4 u v y z) ?_;rintro d M' ⟨m,rfl,hm,_,_,_,q,k⟩;exact⟨m,rfl,hm,q,k⟩
def aK.withC (m:aK)(c:Nat):aK:={m.words,m.places,m.deeds.map (·.withC c)}
end
abbrev cK:=List (aB×Int)
noncomputable def lk (E:cK)(b:aB):Option Int:=(E.find? λe=>decide (e.1=b)).map (·.2)
def hJ (E:cK)(b:aB)(v:Int):cK:=if (lk E b).isSome then E.map (λe=>if e.1=b then(b,v) else e) else E++[(b,v)]
def oo (E:cK)(e:aB×Int):cK:=hJ E e.1 (max e.2 ((lk E e.1).getD e.2))
def cT (F:cK):cK:=F.foldl oo []
def gB:lk (e::E) b=if e.1=b then some e.2 else lk E b:=by
 unfold lk;rw[List.find?_cons];by_cases h:e.1=b
 ·rw[decide_eq_true h,if_pos h];rfl
 ·rw[decide_eq_false h,if_neg h]
def Aw:∀{E:cK}{b c:aB}{v:Int},lk E b=none->lk (E++[(b,v)]) c=if c=b then some v else lk E c
 | [], b, c, v, _ => by
   rw[Sn,gB];by_cases h:c=b
   ·rw[if_pos h.symm,if_pos h]
   ·rw[if_neg (Rf h),if_neg h]
 | e :: E, b, c, v, h => by
   rw[gB] at h;by_cases z:e.1=b
   ·rw[if_pos z] at h;cases h
   rw[if_neg z] at h;rw[List.cons_append,gB,gB,Aw h];by_cases y:e.1=c
   ·rw[if_pos y,if_pos y,if_neg λw=>z (y.trans w)]
   ·rw[if_neg y,if_neg y]
def Av:∀{E:cK}{b c:aB}{v:Int},lk (E.map λe=>if e.1=b then(b,v) else e) c=if c=b then(lk E b).map λ_=>v else lk E c
 |[],b,c,v=>by split<;>rfl
 | e :: E, b, c, v => by
   rw[Q9,gB,Av,gB,gB];by_cases z:e.1=b
   ·rw[if_pos z,if_pos z];by_cases y:c=b
    ·rw[if_pos y,if_pos y,if_pos y.symm];rfl
    ·rw[if_neg y,if_neg y,if_neg (Rf y),if_neg λw=>y (w.symm.trans z)]
   ·rw[if_neg z,if_neg z];by_cases y:c=b
    ·rw[if_pos y,if_pos y,if_neg λw=>z (w.trans y)]
    ·rw[if_neg y,if_neg y]
set_option tactic.hygienic true in
def Ey:lk (hJ E b v) c=if c=b then some v else lk E c:=by
 unfold hJ;split
 ·next h=>
  rw[Av];obtain⟨x,j⟩:=Sh.mp h;rw[j];rfl
 ·next h=>exact Aw (Option.not_isSome_iff_eq_none.mp h)
structure nq (F E:cK):Prop where
 one:∀b v,lk E b=some v->(b,v)∈F
 top:∀e∈F,∃v,lk E e.1=some v/\e.2<=v
def Bh (h:nq F E):nq (F++[e]) (oo E e):=by
 have y:∃v,oo E e=hJ E e.1 v/\(e.1,v)∈F++[e]/\e.2<=v/\∀w,lk E e.1=some w->w<=v:=by
  refine{_,rfl,?_,Int.le_max_left _ _,λw j=>by rw[j];exact Int.le_max_right _ _}
  cases hl:lk E e.1 with
  | none =>
    rw[show max e.2 ((none:Option Int).getD e.2)=e.2 from Int.max_self _];exact QY _ (Qs.mpr rfl)
  | some w =>
    show(e.1,max e.2 w)∈_;rcases Int.le_total e.2 w with z|z
    ·rw[Int.max_eq_right z];exact Rh _ (h.one _ _ hl)
    ·rw[Int.max_eq_left z];exact QY _ (Qs.mpr rfl)
 obtain⟨v,H,m,le,I⟩:=y;rw[H];refine{λb w j=>?_,λx u=>?_}
 ·rw[Ey] at j;by_cases z:b=e.1
  ·rw[if_pos z] at j;cases j;rw[z];exact m
  ·rw[if_neg z] at j;exact Rh _ (h.one _ _ j)
 ·rw[Ey];rcases QH.mp u with u|u
  ·obtain⟨w,j,B⟩:=h.top x u;by_cases z:x.1=e.1
   ·rw[if_pos z];rw[z] at j;exact{v,rfl,Int.le_trans B (I w j)}
   ·rw[if_neg z];exact⟨w,j,B⟩
  ·rw[Qs.mp u,if_pos rfl];exact⟨v,rfl,le⟩
def sh {F:cK}(he:F[i]?=some e):cT (F.take (i+1))=oo (cT (F.take i)) e:=by
 unfold cT;rw[Ro,he,List.foldl_append];rfl
def wU:∀(F G E:cK),nq G E->nq (G++F) (F.foldl oo E)
 |[],G,E,h=>by rw[Q7];exact h
 | e :: F, G, E, h => by
   have:=wU F (G++[e]) (oo E e) (Bh h)
   rwa [Rl] at this
def wV (F:cK):nq F (cT F):=wU F [] [] {(λb v h=>by cases h),λ_ h=>nomatch h}
noncomputable def dw (m:aK)(fit:aB->Bool)(E:cK)(b:aB)(v:Int):Bool:=decide (v<=0)||(!fit b&&(List.range m.deeds.length).all λi=>decide (v-(cst m i:Int)<=0)||decide (v-(cst m i:Int)<=(lk E (aV m i b)).getD 0))
def iB (m:aK)(fit:aB->Bool)(N:Int)(F:cK):Bool:=F.all (λe=>dO m e.1)&&(decide (N<=(lk (cT F) (aS m)).getD (N-1))&&F.all λe=>dw m fit (cT F) e.1 e.2)
def Hl {fit:aB->Bool}(h:dw m fit E b v=true)(le:u<=v):dw m fit E b u=true:=by
 unfold dw at h ⊢;rw[RJ] at h ⊢;rcases h with h|h
 ·exact .inl (decide_eq_true (Int.le_trans le (of_decide_eq_true h)))
 ·rw[Qg,Qt] at h;refine .inr ?_;rw[Qg,Qt];refine{h.1,λi j=>?_};have:=h.2 i j;rw[RJ] at this ⊢;rcases this with z|z
  ·have:=of_decide_eq_true z;exact .inl (decide_eq_true `a)
  ·have:=of_decide_eq_true z;exact .inr (decide_eq_true `a)
def AW {fit:aB->Bool}:(F.all λe=>dw m fit E e.1 e.2)=((cT F).all λe=>dw m fit E e.1 ((lk (cT F) e.1).getD 0)):=by
 have H:=wV F;rw[Rb,Qt,Qt];constructor
 ·intro h e B;obtain⟨v,j⟩:∃v,lk (cT F) e.1=some v:=by
   unfold lk;cases z:(cT F).find? λx=>decide (x.1=e.1) with
   |none=>exact absurd (decide_eq_true rfl) (Sl.mp z e B)
   |some y=>exact⟨y.2,rfl⟩
  rw[j];exact h (e.1,v) (H.one _ _ j)
 ·intro h e B;obtain⟨v,j,le⟩:=H.top e B;obtain⟨y,u,e1⟩:∃y∈cT F,y.1=e.1:=by
   obtain⟨y,u,_⟩:=Qk.mp j;have z:=List.find?_some u;exact{y,List.mem_of_find?_eq_some u,of_decide_eq_true z}
  have:=h y u;rw[e1,j] at this;exact Hl this le
def aN (e:aB×Int):D:=.tup [bD e.1,.int e.2]
abbrev dF (E:cK):List D:=gy (λe:aB×Int=>e.1) (λe=>.int e.2) E
def zT:putD (E.map λe=>.tup [bD e.1,.int e.2]) (bD b) (.int v)=(hJ E b v).map λe=>.tup [bD e.1,.int e.2]:=by
 have lq:=jd (k:=λe:aB×Int=>e.1) (v:=λe=>D.int e.2) (E:=E) (b:=b);unfold hJ putD lk;rw[lq,RM,RM];split
 ·rw[Q1,Q1];refine RC λe _=>?_;show(if bJ (bD e.1) (bD b)=true then D.tup [bD e.1,.int v] else D.tup [bD e.1,.int e.2])=D.tup [bD (if e.1=b then(b,v) else e).1,.int (if e.1=b then(b,v) else e).2];rw[sM];by_cases h:e.1=b
  ·rw[decide_eq_true h,if_pos rfl,if_pos h,h]
  ·rw[decide_eq_false h,if_neg QF,if_neg h]
 ·rw[QG];rfl
def pN {E:cK}:(((E.find? λe=>decide (e.1=b)).map λe:aB×Int=>D.int e.2).getD (.int z))=.int ((lk E b).getD z):=by
 unfold lk;cases E.find? λe=>decide (e.1=b)<;>rfl
def Iz:(hJ E b v).length<=E.length+1:=by
 unfold hJ;split<;>simp
def rP:∀(F E:cK),(F.foldl oo E).length<=E.length+F.length
 |[],E=>Qe _
 | e :: F, E => by
   have:=rP F (oo E e);have:=Iz (E:=E) (b:=e.1) (v:=max e.2 ((lk E e.1).getD e.2));unfold oo at *;rw[List.foldl_cons,RB];omega
def pd:(cT F).length<=F.length:=by
 have:=rP F [];rw[List.length_nil] at this;unfold cT;omega
def ma (M:Mem)(x:D)(F:cK):Prop:=x=.lst (F.map aN)\/∃c,x=.cell c/\M[c]?=some (F.map aN)
section
variable{P:Nat->Option Df}{M M1:Mem}{m:aK}{w x:D}{fit:aB->Bool}{F:cK}{Z:Env}{j:Nat}{a b c:GE}
def ma.walk (h:ma M x F):∃wk:Walk,(∀(Z:Env) M' j,Z[j]?.getD none=some x->bK (aa j) Z M'=.ok wk M')/\∀M',Sub M M'->wk M'=some (F.map aN):=by
 rcases h with rfl|⟨c,rfl,u⟩
 ·refine{_,λZ M' j e=>?_,λM' _=>rfl};unfold bK;rw[aq e];rfl
 ·refine{_,λZ M' j e=>?_,λM' s=>s.get u};unfold bK;rw[aq e];rfl
def vA {E:cK}(hi:Z[i]?.getD none=some (.fn (au j)))(y:Z[k]?.getD none=some (bD e.1))(z:Z[v]?.getD none=some (.int e.2))(h:M[j]?=some (dF E))(hl:E.length<1000000) :
 eM (aa i) (aa k) (oV (aX (aa v) (aX (fm (aa i) (aa k) (aa v)) a9))) Z M=.ok (.next Z) (M.set j (dF (oo E e))):=by
 have u:=pX (aq hi) h (aq y) (aq z) h;rw[pN] at u;have B:oV (aX (aa v) (aX (fm (aa i) (aa k) (aa v)) a9)) Z M=.ok (.int (max e.2 ((lk E e.1).getD e.2))) M:=by
  unfold oV;rw[af (aq z) (af u rfl)];show Res.ok (D.int (if e.2<(lk E e.1).getD e.2 then(lk E e.1).getD e.2 else e.2)) M=_
  congr 2
  split
  ·rw[Int.max_eq_right `a]
  ·rw[Int.max_eq_left `a]
 rw[qS B (aq hi) (aq y) (eV h) (iw _) (by rw[P8];exact hl),show au j-5000=j from Rk _ _,zT];rfl
end
section
variable{P:Nat->Option Df}{M M1:Mem}{m:aK}{w x:D}{fit:aB->Bool}{F:cK}{Z:Env}{j:Nat}{a b c:GE}{N:Int}
def pM {o:jI}{i j:Int}(h1:a Z M=.ok (.int i) M1)(h2:b Z M1=.ok (.int j) M1):ak (ax .lt a b) Z M=.ok (decide (i<j)) M1:=by
 unfold ak ax;rw[h1];show Res.bind (Res.bind (b Z M1) _) _=_;rw[h2];rfl
def xU {i j:Int}(h1:a Z M=.ok (.int i) M)(h2:b Z M=.ok (.int j) M):ak (ax .gt a b) Z M=.ok (decide (j<i)) M:=by
 unfold ak ax;rw[h1];show Res.bind (Res.bind (b Z M) _) _=_;rw[h2];rfl
def xn (n:Nat)(ha:HasB P)(hm:aC m)(h158:P 158=some {3,3,bS})(h169:P 169=some {4,9,fE})(h168:∀(M:Mem) (b:aB),Loose b->ag P (n+2) 168 [m.d,bD b] M=.ok (.bl (dO m b)) M)(h84:∀(M:Mem) (b:aB),dO m b=true->ag P (n+2) 84 [bD b,w] M=.ok (.bl (fit b)) M)
 (hx:ma M x F) (hl:F.length<=1000) (ll:∀e∈F,Loose e.1):ae (ag P (n+3) 169 [m.d,w,.int N,x] M) λd M'=>d=.bl (iB m fit N F)/\Sub M M':=by
 refine aH h169 rfl ?_;show ae (fE (ag P (n+2)) [some m.d,some w,some (.int N),some x,none,none,none,none,none] M) _;unfold fE;obtain⟨wk,w1,w2⟩:=hx.walk;refine b4 (c4 rfl) ?_;simp only[List.set];rw[aA,dh,w1 _ _ _ rfl,aO];refine ic (λi Z M'=>M'=M++[dF (cT (F.take i))]/\(∀e∈F.take i,dO m e.1=true)/\∃W X,Z=[some m.d,some w,some (.int N),some x,some (.fn (au M.length)),W,X,none,none]) (λfl M'=>fl=.ret (.bl false)/\Sub M M'/\∃e∈F,dO m e.1=false) (λfl M h Z e=>by rw[h.1] at e;cases e) (λi Z M' h=>w2 _ (by rw[h.1];exact .app)) (λfl M' h=>w2 _ h.2.1) {rfl,(λ_ h=>nomatch h),none,none,rfl} ?_ ?_ ?_
 ·rintro i d Z M' hd ⟨rfl,hg,W,X,rfl⟩;rw[Qv] at hd;obtain⟨e,Y,rfl⟩:=Qk.mp hd;have H:=QC Y;have hi:=(P9.mp Y).1;refine{_,rfl,?_};have t:=gQ (bN (M:=M++[dF (cT (F.take i))]) (Z:=[some m.d,some w,some (.int N),some x,some (.fn (au M.length)),some (bD e.1),some (.int e.2),none,none]) ((aQ (af (a:=aa 0) rfl (af (a:=aa 5) (s:=a9) rfl rfl))).trans (h168 _ e.1 (ll e H))));cases hb:dO m e.1 with
  | false =>
    rw[hb] at t;exact eR t rfl (.inr {rfl,.app,e,H,hb})
  | true =>
    rw[hb] at t;refine bU t ?_;have e0:(M++[dF (cT (F.take i))])[M.length]?=some (dF (cT (F.take i))):=`s
    refine b4 (vA rfl rfl rfl e0 (by have:=pd (F:=F.take i);rw[RA] at this;omega)) ?_
    refine .inl {_,rfl,?_,?_,_,_,rfl}
    ·rw[kZ rfl,<- sh Y]
    ·intro c B;rw[Ro,Y] at B;rcases QH.mp B with B|B
     ·exact hg c B
     ·obtain rfl:c=e:=by simpa using B
      exact hb
 ·rintro Z M' ⟨rfl,hg,W,X,rfl⟩;rw[P8,Rg (Qe _)] at hg ⊢;rw[bt];have g1:=Qt.mpr λe H=>hg e H;unfold iB;rw[g1,Bool.true_and];generalize hE:cT F=E;generalize hM2:M++[dF E]=I;have ed:I[M.length]?=some (dF E):=by rw[<- hM2];simp
  have s2:Sub M I:=by rw[<- hM2];exact .app
  have et:aJ .tuple (aX (ah 42 (ag P (n+2)) (aX (aa 0) a9)) a9) [some m.d,some w,some (.int N),some x,some (.fn (au M.length)),W,X,none,none] I=.ok (bD (aS m)) I:=by
   refine aj (bQ.mpr ?_);rw[af ((aQ (af rfl rfl)).trans (fB ha (n+1) hm)) rfl,aO];exact⟨rfl,rfl⟩
  have e1:=pX (a:=aa 4) (c:=ai false .sub (aa 2) (gC (.int 1))) rfl ed et rfl ed;rw[pN] at e1;have t2:=pM (o:=.lt) e1 (b:=aa 2) rfl;cases hb:decide (N<=(lk E (aS m)).getD (N-1)) with
  | false =>
    rw[decide_eq_true (by have:=of_decide_eq_false hb;omega)] at t2
    exact eR t2 rfl ⟨rfl,s2⟩
  | true =>
    rw[decide_eq_false (by have:=of_decide_eq_true hb;omega)] at t2
    refine bU t2 ?_;rw[aA,dh,w1 _ _ _ rfl,aO];refine ic (λi Z M'=>Sub I M'/\(∀e∈F.take i,dw m fit E e.1 e.2=true)/\∃W X y u,Z=[some m.d,some w,some (.int N),some x,some (.fn (au M.length)),W,X,y,u]) (λfl M'=>fl=.ret (.bl false)/\Sub I M'/\∃e∈F,dw m fit E e.1 e.2=false) (λfl M h Z e=>by rw[h.1] at e;cases e) (λi Z M' h=>w2 _ (s2.trans h.1)) (λfl M' h=>w2 _ (s2.trans h.2.1)) {.refl,(λ_ h=>nomatch h),_,_,_,_,rfl} ?_ ?_ ?_
    ·rintro i d Z S hd ⟨s3,L,W,X,y,u,rfl⟩;rw[Qv] at hd;obtain⟨e,Y,rfl⟩:=Qk.mp hd;have H:=QC Y;have ok:=n6 (hg e H);have d6:=hm.d6;refine{_,rfl,?_};have next:dw m fit E e.1 e.2=true->∀c∈F.take (i+1),dw m fit E c.1 c.2=true:=λQ c B=>by
      rw[Ro,Y] at B;rcases QH.mp B with B|B
      ·exact L c B
      ·obtain rfl:c=e:=by simpa using B
       exact Q
     have tg:=xU (M:=S) (Z:=[some m.d,some w,some (.int N),some x,some (.fn (au M.length)),some (bD e.1),some (.int e.2),y,u]) (a:=aa 6) (b:=gC (.int 0)) rfl rfl;have t84:=bN (Z:=[some m.d,some w,some (.int N),some x,some (.fn (au M.length)),some (bD e.1),some (.int e.2),y,u]) ((aQ (af (a:=aa 5) rfl (af (a:=aa 1) (s:=a9) rfl rfl))).trans (h84 S e.1 (hg e H)));have t3:=kL tg t84;have er:ai false .mul (aJ .len (aX (ao (aa 0) (gC (.int 2))) a9)) (ux (ax .gt (aa 6) (gC (.int 0)))) [some m.d,some w,some (.int N),some x,some (.fn (au M.length)),some (bD e.1),some (.int e.2),y,u] S=.ok (nD (if 0<e.2 then m.deeds.length else 0)) S:=by
      have g1:ux (ax .gt (aa 6) (gC (.int 0))) [some m.d,some w,some (.int N),some x,some (.fn (au M.length)),some (bD e.1),some (.int e.2),y,u] S=.ok (.int (if decide ((0:Int)<e.2)=true then 1 else 0)) S:=rfl;rw[mC (rJ rfl) g1 (.inl `a)]
      congr 2
      by_cases h:0<e.2
      ·rw[if_pos h,if_pos (decide_eq_true h)];omega
      ·rw[if_neg h,if_neg `o];simp
     by_cases h0:0<e.2
     ·rw[decide_eq_true h0,Bool.true_and] at t3;cases hf:fit e.1 with
      | true =>
        rw[hf] at t3;refine eR t3 rfl (.inr {rfl,s3,e,H,?_});unfold dw;rw[decide_eq_false `a,hf];rfl
      | false =>
        rw[hf] at t3;refine bU t3 ?_;rw[if_pos h0] at er;simp only[List.set];rw[aA,dh,fA,er,aO];refine{_,rfl,`a,?_}
        rw[RO];have stp:∀j,(decide (e.2-(cst m j:Int)<=0)||decide (e.2-(cst m j:Int)<=(lk E (aV m j e.1)).getD 0))=!(decide (0<e.2-(cst m j:Int))&&decide ((lk E (aV m j e.1)).getD 0<e.2-(cst m j:Int))):=λj=>by
         rw[Rb,RJ,decide_eq_true_iff,decide_eq_true_iff,Sg,Bool.and_eq_false_iff,decide_eq_false_iff_not,decide_eq_false_iff_not];exact{λh=>`a,λh=>`a}
        refine ic (λi Z M'=>Sub I M'/\(∀j<i,(decide (0<e.2-(cst m j:Int))&&decide ((lk E (aV m j e.1)).getD 0<e.2-(cst m j:Int)))=false)/\∃y u,Z=[some m.d,some w,some (.int N),some x,some (.fn (au M.length)),some (bD e.1),some (.int e.2),y,u]) (λfl M'=>fl=.ret (.bl false)/\Sub I M'/\dw m fit E e.1 e.2=false) (λfl M h Z e=>by rw[h.1] at e;cases e) (λ_ _ _ _=>rfl) (λ_ _ _=>rfl) {s3,(λ_ h=>absurd h (Ry _)),_,_,rfl} ?_ ?_ ?_
        ·rintro j d Z U hd ⟨R,O,y,u,rfl⟩;obtain⟨hj,rfl⟩:=nB hd;refine{_,rfl,?_};have el:ai false .sub (aa 6) (ao (ao (ao (aa 0) (gC (.int 2))) (aa 7)) (bW (gC (.int 1)))) [some m.d,some w,some (.int N),some x,some (.fn (au M.length)),some (bD e.1),some (.int e.2),some (nD j),u] U=.ok (.int (e.2-(cst m j:Int))) U:=(d3 (aq rfl) (HQ (m:=m) (i:=j) rfl rfl hj)).trans rfl;refine bu (bF el) ?_;simp only[List.set];obtain⟨z,M5,e5,rfl,s5⟩:=du.mp (kT ha h158 n (M:=U) hm hj (by rw[ok.1];exact bX hm) ok.2)
         have s45:=R.trans s5;have e6:=pX (k:=λe:aB×Int=>e.1) (v:=λe=>D.int e.2) (Z:=[some m.d,some w,some (.int N),some x,some (.fn (au M.length)),some (bD e.1),some (.int e.2),some (nD j),some (.int (e.2-(cst m j:Int)))]) (a:=aa 4) (c:=gC (.int 0)) (z:=.int 0) rfl (R.get ed) ((aQ (c:=ag P (n+2)) (xs:=[m.d,bD e.1,nD j]) (af (a:=aa 0) rfl (af (a:=aa 5) rfl (af (a:=aa 7) (s:=a9) rfl rfl)))).trans e5) rfl (s45.get ed);rw[pN] at e6;have tt:=pM (o:=.lt) e6 (b:=aa 8) (j:=e.2-(cst m j:Int)) rfl;have tq:=xU (M:=U) (Z:=[some m.d,some w,some (.int N),some x,some (.fn (au M.length)),some (bD e.1),some (.int e.2),some (nD j),some (.int (e.2-(cst m j:Int)))]) (a:=aa 8) (b:=gC (.int 0)) (i:=e.2-(cst m j:Int)) (j:=0) rfl rfl;have good:(decide (0<e.2-(cst m j:Int))&&decide ((lk E (aV m j e.1)).getD 0<e.2-(cst m j:Int)))=false->∀k<j+1,(decide (0<e.2-(cst m k:Int))&&decide ((lk E (aV m k e.1)).getD 0<e.2-(cst m k:Int)))=false:=λhz k hk=>by
          rcases Nat.lt_succ_iff_lt_or_eq.mp hk with hk|rfl
          ·exact O k hk
          ·exact hz
         by_cases J:0<e.2-(cst m j:Int)
         ·rw[decide_eq_true J] at tq;have tb:(eQ (ak (ax .gt (aa 8) (gC (.int 0)))) (ak (ax .lt (fm (aa 4) (ah 158 (ag P (n+2)) (aX (aa 0) (aX (aa 5) (aX (aa 7) a9)))) (gC (.int 0))) (aa 8)))) [some m.d,some w,some (.int N),some x,some (.fn (au M.length)),some (bD e.1),some (.int e.2),some (nD j),some (.int (e.2-(cst m j:Int)))] U=.ok (decide ((lk E (aV m j e.1)).getD 0<e.2-(cst m j:Int))) M5:=by
           unfold eQ;rw[tq];exact tt
          cases hz:decide ((lk E (aV m j e.1)).getD 0<e.2-(cst m j:Int)) with
          | true =>
            rw[hz] at tb;refine C6 tb rfl (.inr {rfl,s45,?_});rw[Bool.eq_false_iff];intro q;unfold dw at q;rw[decide_eq_false `a,Bool.false_or,Qg] at q
            have:=Qt.mp q.2 j (RH.mpr hj);rw[stp,decide_eq_true J,hz] at this;cases this
          | false =>
            rw[hz] at tb;exact rL tb (.inl {_,rfl,s45,good (by rw[hz,Bool.and_false]),_,_,rfl})
         ·rw[decide_eq_false J] at tq;refine bU (LS tq λz=>nomatch z) (.inl {_,rfl,R,good (by rw[decide_eq_false J];rfl),_,_,rfl})
        ·rintro Z U ⟨R,O,y,u,rfl⟩;rw[P8,Ru] at O;rw[bt];refine .inl {_,rfl,R,next ?_,_,_,_,_,rfl}
         unfold dw;rw[hf,Qt.mpr λj hj=>by rw[stp,O j (RH.mp hj)];rfl]
         exact Bool.or_true _
        ·rintro fl U ⟨rfl,R,Q⟩;exact .inr ⟨rfl,R,e,H,Q⟩
     ·rw[decide_eq_false h0,Bool.false_and] at t3;refine bU t3 ?_;rw[if_neg h0] at er;simp only[List.set];rw[aA,dh,fA,er,aO];refine{_,rfl,`a,?_}
      refine dz (ds:=[]) (λi Z M'=>Sub I M'/\∃y u,Z=[some m.d,some w,some (.int N),some x,some (.fn (au M.length)),some (bD e.1),some (.int e.2),y,u]) (λ_ _ _ _=>rfl) {s3,_,_,rfl} (λi d Z M hd=>by cases hd) ?_
      rintro Z U ⟨R,y,u,rfl⟩;rw[bt];refine .inl {_,rfl,R,next ?_,_,_,_,_,rfl}
      unfold dw;rw[decide_eq_true `a];rfl
    ·rintro Z S ⟨s3,L,W,X,y,u,rfl⟩;rw[P8,Rg (Qe _)] at L;rw[bt];refine bC rfl {?_,s2.trans s3};rw[Bool.true_and,Qt.mpr L]
    ·rintro fl S ⟨rfl,s3,e,H,Q⟩;refine{?_,s2.trans s3};rw[Bool.true_and];refine congrArg D.bl (Eq.symm ?_);rw[Bool.eq_false_iff];intro z;rw[Qt.mp z e H] at Q;cases Q
 ·rintro fl M' ⟨rfl,s,e,H,Q⟩;refine{congrArg D.bl (Eq.symm ?_),s};rw[Bool.eq_false_iff];intro z;unfold iB at z;rw[Qg] at z;rw[Qt.mp z.1 e H] at Q;cases Q
end
section
variable{P:Nat->Option Df}{M M1:Mem}{m:aK}{w x:D}{fit:aB->Bool}{F E:cK}{Z:Env}{j:Nat}{a b c:GE}{N:Int}
def wF {h:Type}{k:h->aB}{v:h->D}{E:List h}{y:aB}(e:M[j]?=some (gy k v E)):getD M (au j) (bD y)=(E.find? λe=>decide (k e=y)).map v:=by
 unfold getD;rw[eV e];show(if isKey 78 (bD y)=true then cw _ (bD y) else none)=_;rw[if_pos (iw y),jd]
def mL {y:aB}{v:Int}(u:a Z M=.ok (.fn (au j)) M)(B:b Z M=.ok (bD y) M)(e:M[j]?=some (dF E))(h:lk E y=some v):b6 a b Z M=.ok (.int v) M:=by
 refine pV (x:=.non) u B ?_;rw[wF e];unfold lk at h;obtain⟨z,H,rfl⟩:=Qk.mp h;rw[H];rfl
def KZ (h:ae r λx M'=>x=z/\M'=M1):r=.ok z M1:=by
 obtain⟨a,M',e,rfl,rfl⟩:=du.mp h;exact e
def Gb (n:Nat)(h181:P 181=some {1,4,dQ})(hl:F.length<=1000):ag P (n+1) 181 [.lst (F.map aN)] M=.ok (.fn (au M.length)) (M++[dF (cT F)]):=by
 refine KZ (aH h181 rfl ?_);show ae (dQ (ag P n) [some (.lst (F.map aN)),none,none,none] M) _;refine b4 (c4 rfl) ?_;simp only[List.set];rw[aA,dh,fO,aq rfl,aO];refine{rfl,?_};refine dz (λi Z h=>h=M++[dF (cT (F.take i))]/\∃u v,Z=[some (.lst (F.map aN)),some (.fn (au M.length)),u,v]) (λ_ _ _ _=>rfl) ⟨rfl,none,none,rfl⟩ ?_ ?_
 ·rintro i d Z h hd ⟨rfl,u,v,rfl⟩;rw[Qv] at hd;obtain⟨e,y,rfl⟩:=Qk.mp hd;have B:=(P9.mp y).1;refine{_,rfl,?_};have z:(M++[dF (cT (F.take i))])[M.length]?=some (dF (cT (F.take i))):=`s
  refine b4 (vA rfl rfl rfl z (by have:=pd (F:=F.take i);rw[RA] at this;omega)) ?_
  refine{_,rfl,?_,_,_,rfl};rw[kZ rfl,<- sh y]
 ·rintro Z h ⟨rfl,u,v,rfl⟩;rw[P8,Rg (Qe _),bt];exact bC rfl ⟨rfl,rfl⟩
def Cf (n:Nat){k K:Nat}(h152:P 152=some {2,2,dP})(h182:P 182=some {4,8,d4})(hm:aC m)(h81:∀(M:Mem) (b:aB),dO m b=true->ag P (n+1) 81 [bD b,w] M=.ok (.bl (fit b)) M)
 (B:∀i<m.deeds.length,M[K+i]?=some (fb m (cj m i))) (L:M[k]?=some (dF E)) (hy:dO m y=true) (hv:lk E y=some v):ag P (n+2) 182 [b7 m K,w,.fn (au k),bD y] M=.ok (.bl (dw m fit E y v)) M:=by
 have ok:=n6 hy;have d6:=hm.d6;refine aj (aH h182 rfl ?_);show ae (d4 (ag P (n+1)) [some (b7 m K),some w,some (.fn (au k)),some (bD y),none,none,none,none] M) _;unfold d4;refine bu (bF (mL rfl rfl L hv)) ?_;simp only[List.set];have t1:ak (ax .le (aa 4) (gC (.int 0))) [some (b7 m K),some w,some (.fn (au k)),some (bD y),some (.int v),none,none,none] M=.ok (decide (v<=0)) M:=rfl;unfold dw;cases W:decide (v<=0) with
 | true =>
   rw[W] at t1;exact eR t1 rfl ⟨rfl,rfl⟩
 | false =>
   rw[W] at t1;refine bU t1 ?_;have t2:=bN (Z:=[some (b7 m K),some w,some (.fn (au k)),some (bD y),some (.int v),none,none,none]) ((aQ (af (a:=aa 3) rfl (af (a:=aa 1) (s:=a9) rfl rfl))).trans (h81 M y hy));cases X:fit y with
   | true =>
     rw[X] at t2;exact eR t2 rfl ⟨rfl,rfl⟩
   | false =>
     rw[X] at t2;refine bU t2 ?_;have H:∀j,(decide (v-(cst m j:Int)<=0)||decide (v-(cst m j:Int)<=(lk E (aV m j y)).getD 0))=!(decide (0<v-(cst m j:Int))&&decide ((lk E (aV m j y)).getD 0<v-(cst m j:Int))):=λj=>by
      rw[Rb,RJ,decide_eq_true_iff,decide_eq_true_iff,Sg,Bool.and_eq_false_iff,decide_eq_false_iff_not,decide_eq_false_iff_not];exact{λh=>`a,λh=>`a}
     rw[aA,dh,fO,aq rfl,aO];refine{rfl,?_};refine ic (λi Z u=>u=M/\(∀j<i,(decide (0<v-(cst m j:Int))&&decide ((lk E (aV m j y)).getD 0<v-(cst m j:Int)))=false)/\∃R S J,Z=[some (b7 m K),some w,some (.fn (au k)),some (bD y),some (.int v),R,S,J]) (λfl u=>fl=.ret (.bl false)/\u=M/\∃j<m.deeds.length,(decide (0<v-(cst m j:Int))&&decide ((lk E (aV m j y)).getD 0<v-(cst m j:Int)))=true) (λfl M h Z e=>by rw[h.1] at e;cases e) (λ_ _ _ _=>rfl) (λ_ _ _=>rfl) {rfl,(λ_ h=>absurd h (Ry _)),_,_,_,rfl} ?_ ?_ ?_
     ·rintro i d Z u hd ⟨rfl,I,R,S,J,rfl⟩;rw[Qv] at hd;obtain⟨i',ei,rfl⟩:=Qk.mp hd;obtain⟨Y,rfl⟩:i<m.deeds.length/\i=i':=by
       obtain⟨h1,h2⟩:=P9.mp ei;rw[Ru] at h1;rw[List.getElem_range] at h2;exact⟨h1,h2⟩
      refine{_,rfl,?_};have el:ai false .sub (aa 4) (aa 5) [some (b7 m K),some w,some (.fn (au k)),some (bD y),some (.int v),some (nD (cst m i)),some (.fn (au (K+i))),J] u=.ok (.int (v-(cst m i:Int))) u:=(d3 (aq rfl) (aq rfl)).trans rfl;refine bu (bF el) ?_;simp only[List.set];have e5:=zD h152 n (B i Y) hm (by rw[ok.1];exact bX hm) ok.2
      have U:=pX (Z:=[some (b7 m K),some w,some (.fn (au k)),some (bD y),some (.int v),some (nD (cst m i)),some (.fn (au (K+i))),some (.int (v-(cst m i:Int)))]) (a:=aa 2) (c:=gC (.int 0)) rfl L ((aQ (af (a:=aa 6) rfl (af (a:=aa 3) (s:=a9) rfl rfl))).trans e5) rfl L;rw[pN] at U;have tt:=pM (o:=.lt) U (b:=aa 7) rfl;have tq:=xU (M:=u) (Z:=[some (b7 m K),some w,some (.fn (au k)),some (bD y),some (.int v),some (nD (cst m i)),some (.fn (au (K+i))),some (.int (v-(cst m i:Int)))]) (a:=aa 7) (b:=gC (.int 0)) rfl rfl;have tb:=kL tq tt;rw[show y.map (bP (cj m i))=aV m i y from rfl] at tb;cases z:(decide (0<v-(cst m i:Int))&&decide ((lk E (aV m i y)).getD 0<v-(cst m i:Int))) with
      | true =>
        rw[z] at tb;exact eR tb rfl (.inr ⟨rfl,rfl,i,Y,z⟩)
      | false =>
        rw[z] at tb;refine bU tb (.inl {_,rfl,rfl,λk Q=>?_,_,_,_,rfl});rcases Nat.lt_succ_iff_lt_or_eq.mp Q with Q|rfl
        ·exact I k Q
        ·exact z
     ·rintro Z u ⟨rfl,I,R,S,J,rfl⟩;rw[P8,Ru] at I;rw[bt];refine bC rfl {congrArg D.bl ?_,rfl};rw[Qt.mpr λj O=>by rw[H,I j (RH.mp O)];rfl];rfl
     ·rintro fl u ⟨rfl,rfl,j,O,z⟩;refine{congrArg D.bl ?_,rfl}
      symm
      rw[Bool.false_or,Bool.eq_false_iff];intro q;rw[Qg] at q;have:=Qt.mp q.2 j (RH.mpr O);rw[H,z] at this;cases this
def Kq (h:e∈E):∃v,lk E e.1=some v:=by
 unfold lk;cases z:E.find? λx=>decide (x.1=e.1) with
 |none=>exact absurd (decide_eq_true rfl) (Sl.mp z e h)
 |some y=>exact⟨y.2,rfl⟩
def Ax:(E.any λe=>decide (e.1=y))=(lk E y).isSome:=by
 unfold lk;rw[RM,Rb,List.find?_isSome,RK]
def zA (n:Nat)(y:HasB0 P)(U:i7 P)(h14:P 14=some {2,5,c9})(h15:P 15=some {1,6,b8})(h151:P 151=some {1,2,dI})(h152:P 152=some {2,2,dP})(h176:P 176=some {2,3,fh})(h181:P 181=some {1,4,dQ})(h182:P 182=some {4,8,d4})(h183:P 183=some {4,7,kJ})(hm:aC m)
 (h80:∀M:Mem,ag P (n+11) 80 [m.d,w] M=.ok .non M) (h81:∀(M:Mem) (b:aB),dO m b=true->ag P (n+10) 81 [bD b,w] M=.ok (.bl (fit b)) M) (hl:F.length<=1000) (ll:∀e∈F,Loose e.1) :
 ae (ag P (n+12) 183 [m.d,w,.int N,.lst (F.map aN)] M) λd M'=>d=.bl (iB m fit N F)/\Sub M M':=by
 refine aH h183 rfl ?_;show ae (kJ (ag P (n+11)) [some m.d,some w,some (.int N),some (.lst (F.map aN)),none,none,none] M) _;unfold kJ;refine bu (uC ((eK (af rfl (af rfl rfl))).trans (h80 M))) ?_;have ek:ba false 2 (.tup [0,1]) (bK (aa 3)) (bg (aa 0)) [some m.d,some w,some (.int N),some (.lst (F.map aN)),none,none,none] M=.ok (.lst ((F.map (·.1)).map bD)) M:=by
  refine aj ?_;rw[dm,fO,aq rfl,aO];refine{rfl,eE (λd=>match d with|.tup [z,_]=>z|_=>.non) (ay (by rw[P8];omega)) rfl (λd hd=>?_) ?_}
  ·obtain⟨e,_,rfl⟩:=Qh.mp hd;exact{_,rfl,rfl}
  ·rw[Q1,Q1];exact bI.mpr {ay (by rw[P8];omega),rfl,rfl}
 have e1:=Gg y h14 h15 h176 (n+1) (M:=M) hm (L:=F.map (·.1)) (by rw[P8];omega) (λb hb=>by obtain⟨e,R,rfl⟩:=Qh.mp hb;exact ll e R)
 rw[List.all_map] at e1;have t1:=gQ (bN ((aQ (af (a:=aa 0) rfl (af (s:=a9) ek rfl))).trans e1));unfold iB;cases Q:F.all (λe=>dO m e.1) with
 | false =>
   exact eR (t1.trans (by rw[show F.all (dO m∘λx=>x.1)=false from Q];rfl)) rfl {rfl,.refl}
 | true =>
   refine bU (t1.trans (by rw[show F.all (dO m∘λx=>x.1)=true from Q];rfl)) ?_
   have bh:=Qt.mp Q;refine b4 (c4 ((aQ (af rfl rfl)).trans (Gb (n+10) h181 hl))) ?_;simp only[List.set];have h:=wV F;rw[AW];have bl:=pd (F:=F);generalize hE:cT F=E at h bl ⊢;generalize B:M++[dF E]=u;have J:u[M.length]?=some (dF E):=by rw[<- B];simp
   have s2:Sub M u:=by rw[<- B];exact .app
   have et:aJ .tuple (aX (ah 15 (ag P (n+11)) (aX (aa 0) a9)) a9) [some m.d,some w,some (.int N),some (.lst (F.map aN)),some (.fn (au M.length)),none,none] u=.ok (bD (aS m)) u:=by
    refine aj (bQ.mpr ?_);rw[af ((aQ (af rfl rfl)).trans (ki y h15 (n+2) hm)) rfl,aO];exact⟨rfl,rfl⟩
   refine bu (bF et) ?_;simp only[List.set];have t2:=Lq (Z:=[some m.d,some w,some (.int N),some (.lst (F.map aN)),some (.fn (au M.length)),some (bD (aS m)),none]) (n:=true) (a:=aa 5) rfl (b:=aa 4) rfl (E9 J);rw[Ax] at t2;rw[Bool.true_and];cases S:lk E (aS m) with
   | none =>
     rw[S] at t2;refine eR (by unfold eL;rw[t2];rfl) rfl {congrArg D.bl ?_,s2}
     rw[show(none:Option Int).getD (N-1)=N-1 from rfl,decide_eq_false `a];rfl
   | some O =>
     rw[S] at t2;have t3:ak (ax .lt (b6 (aa 4) (aa 5)) (aa 2)) [some m.d,some w,some (.int N),some (.lst (F.map aN)),some (.fn (au M.length)),some (bD (aS m)),none] u=.ok (decide (O<N)) u:=pM (o:=.lt) (mL rfl rfl J S) rfl;have t4:=pK t2 t3;show ae _ (ie λd M'=>d=D.bl (decide (N<=O)&&_)/\_);by_cases hN:O<N
     ·refine eR (t4.trans (by rw[decide_eq_true hN];rfl)) rfl {congrArg D.bl ?_,s2}
      rw[decide_eq_false `a];rfl
     ·refine bU (t4.trans (by rw[decide_eq_false hN];rfl)) ?_
      rw[decide_eq_true (show N<=O by omega),Bool.true_and]
      refine b4 (oj ((eK (af rfl rfl)).trans (tv y U h15 h151 (n+1) hm))) ?_;simp only[List.set];generalize H:u++m.deeds.map (fb m)=Y;have X:Sub u Y:=by rw[<- H];exact .app
      have I:∀i<m.deeds.length,Y[u.length+i]?=some (fb m (cj m i)):=λi hi=>by
       rw[<- H,QO (R9 _ _),Rk,Qv,Qq hi];rw[nX (Qq hi)];rfl
      have ec:=Lp (Z:=[some m.d,some w,some (.int N),some (.lst (F.map aN)),some (.fn (au M.length)),some (bD (aS m)),some (b7 m u.length)]) (j:=4) (ge:=ah 182 (ag P (n+11)) (aX (aa 7) (aX (aa 2) (aX (aa 5) (aX (aa 0) a9))))) (λe=>D.bl (dw m fit E e.1 ((lk E e.1).getD 0))) rfl (X.get J) `a (λd=>.bl (dw m fit E (yT d) ((lk E (yT d)).getD 0))) (λe _=>by rw[sW]) (λe R=>by
       obtain⟨v,W⟩:=Kq R;rw[W];exact(aQ (af rfl (af rfl (af rfl (af rfl rfl))))).trans (Cf (n+9) h152 h182 hm h81 I (X.get J) (bh (e.1,v) (h.one _ _ W)) W))
      refine bC (aj ?_) {rfl,s2.trans X};rw[bQ,af ec rfl,aO];refine q9.mpr {E.map λe=>dw m fit E e.1 ((lk E e.1).getD 0),?_,?_,rfl}
      ·rw[<- uX,Q1];rfl
      ·rw[List.all_map];rfl
end
variable{G:cK}
def dg (G:cK):Int:=(G.map (·.2)).sum
set_option tactic.hygienic true in
def FK (h:(lk G b).isSome=true):(hJ G b v).map (·.1)=G.map (·.1):=by
 unfold hJ;rw[if_pos h,Q1];refine RC λe _=>?_;show(if e.1=b then(b,v) else e).1=e.1;split
 ·next z=>exact z.symm
 ·rfl
def As:∀{G:cK}{b:aB}{v:Int},b∉G.map (·.1)->(G.map λe=>if e.1=b then(b,v) else e)=G
 |[],_,_,_=>rfl
 | e :: G, b, v, h => by
   rw[Q9,QZ,not_or] at h;rw[Q9,if_neg (Rf h.1),As h.2]
def vH:∀{G:cK}{b:aB}{u v:Int},(G.map (·.1)).Nodup->lk G b=some u->dg (G.map λe=>if e.1=b then(b,v) else e)=dg G-u+v
 |[],_,_,_,_,h=>by cases h
 | e :: G, b, u, v, nd, h => by
   rw[Q9,Rn] at nd;rw[gB] at h;unfold dg;rw[Q9];by_cases z:e.1=b
   ·rw[if_pos z] at h;cases h;rw[if_pos z,As (by rw[<- z];exact nd.1)]
    simp only[Q9,List.sum_cons];omega
   ·rw[if_neg z] at h;have:=vH (v:=v) nd.2 h;unfold dg at this;rw[if_neg z];simp only[Q9,List.sum_cons];rw[this];omega
def Ez:(lk G b).isSome=true↔b∈G.map (·.1):=by
 rw[<- Ax,RK,Qh];exact{λ⟨e,h,z⟩=>{e,h,of_decide_eq_true z},λ⟨e,h,z⟩=>{e,h,decide_eq_true z}}
structure iR (K:List aB) (G:cK):Prop where
 k:G.map (·.1)=K
 r:∀e∈G,0<=e.2/\e.2<=999
def EA (h:lk G b=some u):(b,u)∈G:=by
 obtain⟨e,j,rfl⟩:=Qk.mp h;have z:=List.find?_some j;have:e.1=b:=of_decide_eq_true z;rw[<- this];exact List.mem_of_find?_eq_some j
def iR.get (h:iR K G)(v:b∈K):∃u,lk G b=some u/\0<=u/\u<=999:=by
 obtain⟨u,j⟩:=Sh.mp (Ez.mpr (by rw[h.k];exact v))
 exact{u,j,h.r _ (EA j)}
def iR.low (h:iR K G)(nd:K.Nodup)(z:lk G b=some u)(B:0<=v)(F:v<u):iR K (hJ G b v)/\dg (hJ G b v)<dg G:=by
 have hs:(lk G b).isSome=true:=by rw[z];rfl
 have H:=(h.r _ (EA z)).2;refine{{(FK hs).trans h.k,λe j=>?_},?_}
 ·unfold hJ at j;rw[if_pos hs] at j;obtain⟨y,E,rfl⟩:=Qh.mp j;split
  ·exact{B,by show v<=999;omega}
  ·exact h.r y E
 ·unfold hJ;rw[if_pos hs,vH (by rw[h.k];exact nd) z];omega
def zt:∀{G:cK},(∀e∈G,0<=e.2/\e.2<=999)->0<=dg G/\dg G<=999*(G.length:Int)
 |[],_=>{Int.le_refl _,Int.le_refl _}
 | e :: G, h => by
   have:=zt λx j=>h x (Qu _ j);have:=h e QB;unfold dg at *;rw[Q9,List.sum_cons,RB];omega
def iR.sum (h:iR K G):0<=dg G/\dg G<=999*(K.length:Int):=by
 have:=zt h.r;rw[<- h.k,P8];exact this
end LD
namespace LD
open PySem
variable{G:cK}
section
variable{P:Nat->Option Df}{M M1:Mem}{m:aK}{w:D}{fit:aB->Bool}{A:fL}{fk:Nat}
def uB (hm:aC m)(all:AllIn m none (A.map pr)):(A.map (·.1)).Nodup/\(∀b∈A.map (·.1),∃q,bz m q b)/\aS m∈A.map (·.1)/\∀b∈A.map (·.1),∀i,i<m.deeds.length->aV m i b∈A.map (·.1):=by
 have e1:(un (A.map λa=>(a.1,a.2.1,0))).map pr=A.map pr:=by rw[nt,Q1];rfl
 have e2:(A.map λa=>(a.1,a.2.1,0)).map (·.1)=A.map (·.1):=by rw[Q1];rfl
 have:=Bc hm (by rw[e1];exact all)
 rw[e2] at this;exact this
def nH (u:Z[j]?.getD none=some (.fn (au fk)))(h:M[fk]?=some (lA A)):di b9 (aa j) Z M=.ok (dW (au fk) A.length b9) M/\dW (au fk) A.length b9 M=some ((A.map (·.1)).map bD):=by
 obtain⟨v,w2⟩:=pP u h;exact{v,by rw[w2,Q1];rfl}
def AY (hi:Z[i]?.getD none=some (.fn (au j)))(u:Z[k]?.getD none=some (bD b))(y:g Z M=.ok (.int v) M)(h:M[j]?=some (dF E))(hl:E.length<1000000):eM (aa i) (aa k) g Z M=.ok (.next Z) (M.set j (dF (hJ E b v))):=by
 rw[qS y (aq hi) (aq u) (eV h) (iw _) (by rw[P8];exact hl),show au j-5000=j from Rk _ _,zT];rfl
def HR (h:Z[0]?.getD none=some m.d)(j:Z[6]?.getD none=some (nD i))(hi:i<m.deeds.length):ao (ao (ao (aa 0) (gC (.int 2))) (aa 6)) (bW (gC (.int 1))) Z M=.ok (nD (cst m i)) M:=by
 have e1:=bq (aq (M:=M) h) (b:=gC (.int 2)) rfl rfl;have e2:=bq e1 (aq j) (oO hi);exact aj (eC.mpr (by rw[e2,aO];exact nV.mpr (cZ.mpr {1,rfl,_,iH,rfl,rfl})))
def Pz (h:a Z M=.ok (.int i) M)(u:b Z M=.ok (.int j) M1):ai false .add a b Z M=.ok (.int (i+j)) M1:=by
 unfold ai;rw[h];show Res.bind (b Z M) _=_;rw[u];rfl
def Hm (h:a Z M=.ok (.fn (au j)) M)(u:b Z M=.ok (bD y) M1)(e:M1[j]?=some (dF E))(B:lk E y=some v):b6 a b Z M=.ok (.int v) M1:=by
 have q:getD M1 (au j) (bD y)=some (.int v):=by
  rw[wF e];obtain⟨z,F,rfl⟩:=Qk.mp B;rw[F];rfl
 unfold b6;rw[h];show Res.bind (b Z M) _=_;rw[u];show cf M1 (getD M1 (au j) (bD y))=_;rw[q];rfl
def CU (O:HasB P)(hm:aC m)(h158:P 158=some {3,3,bS})(n:Nat)(nd:K.Nodup)(cl:∀b∈K,∀i,i<m.deeds.length->aV m i b∈K)(ok:∀b∈K,b.length=(aS m).length/\∀s∈b,cU m s)(F:b∈K)(hi:i<m.deeds.length)(hl:K.length<=100)
 (J:M[j]?=some (dF G)) (g:iR K G) (hs:dg G<=S) (R:fl=true->dg G+1<=S) (I:Sub B0 M) (Q:B0.length<=j)
 (kk:∀M' E B W,Sub B0 M'->M'[j]?=some (dF E)->iR K E->dg E<=S->(B=true->dg E+1<=S)->kf (.next [some m.d,some w,some (.fn (au fk)),some (.fn (au j)),some (bD b),some (.bl B),some (nD i),W]) M') :
 ae (EC (ag P (n+2)) [some m.d,some w,some (.fn (au fk)),some (.fn (au j)),some (bD b),some (.bl fl),some (nD i),x7] M) kf:=by
 obtain⟨z,M1,e1,rfl,s1⟩:=du.mp (kT O h158 n hm hi (by rw[(ok b F).1];exact bX hm) (ok b F).2)
 obtain⟨u,U,Y,u9⟩:=g.get (cl b F i hi);obtain⟨v,H,v0,v9⟩:=g.get F;have y:=s1.get J;refine b4 (c4 (Pz (HR rfl rfl hi) (Hm rfl ((aQ (af rfl (af rfl (af rfl rfl)))).trans e1) y U))) ?_;have t:=pM (o:=.lt) (Z:=[some m.d,some w,some (.fn (au fk)),some (.fn (au j)),some (bD b),some (.bl fl),some (nD i),some (.int ((cst m i:Int)+u))]) (a:=aa 7) (b:=b6 (aa 3) (aa 4)) rfl (mL rfl rfl y H);by_cases h:(cst m i:Int)+u<v
 ·rw[decide_eq_true h] at t;obtain⟨L,lt⟩:=g.low nd H (show 0<=(cst m i:Int)+u by omega) h
  have X:G.length=K.length:=by rw[<- g.k,P8]
  refine um t ?_;refine b4 (AY rfl rfl rfl y `a) ?_
  refine bu (bF rfl) ?_;show gG aF kf (.next _) _
  rw[bt];exact kk _ _ true _ ((I.trans s1).setq Q) (QI (d7 y)) L `a (λ_=>`a)
 ·rw[decide_eq_false h] at t;exact bU t (kk _ _ fl _ (I.trans s1) y g hs R)
def CT (X:HasB P)(hm:aC m)(h158:P 158=some {3,3,bS})(n:Nat)(L:B0[fk]?=some (lA A))(all:AllIn m none (A.map pr))(la:A.length<=60)
 (W:M[j]?=some (dF G)) (g:iR (A.map (·.1)) G) (Q:Sub B0 M) (hj:B0.length<=j)
 (kk:∀M' v u B z y,Sub B0 M'->M'[j]?=some (dF v)->iR (A.map (·.1)) v->(u=true->dg v+1<=dg G)->kf (.next [some m.d,some w,some (.fn (au fk)),some (.fn (au j)),B,some (.bl u),z,y]) M') :
 ae (EB (ag P (n+2)) [some m.d,some w,some (.fn (au fk)),some (.fn (au j)),x4,some (.bl fl),x6,x7] M) kf:=by
 obtain⟨nd,snd,_,cl⟩:=uB hm all;have ok:∀b∈A.map (·.1),b.length=(aS m).length/\∀s∈b,cU m s:=λb I=>by
  obtain⟨q,lq⟩:=snd b I;exact iD hm lq.1
 have d6:=hm.d6;refine bu (bF rfl) ?_;simp only[List.set];obtain⟨w1,_⟩:=nH (Z:=[some m.d,some w,some (.fn (au fk)),some (.fn (au j)),x4,some (.bl false),x6,x7]) (j:=2) rfl (Q.get L);rw[aA,dh,w1,aO];refine dz (λi Z M'=>∃v u B z y,Sub B0 M'/\M'[j]?=some (dF v)/\iR (A.map (·.1)) v/\dg v<=dg G/\(u=true->dg v+1<=dg G)/\Z=[some m.d,some w,some (.fn (au fk)),some (.fn (au j)),B,some (.bl u),z,y]) (λi Z M' ⟨_,_,_,_,_,s,_⟩=>(nH (Z:=[some (.fn (au fk))]) (j:=0) rfl (s.get L)).2) {G,false,_,_,_,Q,W,g,Int.le_refl _,(λh=>nomatch h),rfl} ?_ ?_
 ·rintro i d Z M1 hd ⟨E,f1,B,z,y,s1,e1,F,h1,t1,rfl⟩;rw[Qv] at hd;obtain⟨b,U,rfl⟩:=Qk.mp hd;have I:=QC U;refine{_,rfl,?_};rw[aA,dh,fA,rJ rfl,aO];refine{_,rfl,`a,?_}
  rw[RO];refine dz (λi Z M'=>∃v u z y,Sub B0 M'/\M'[j]?=some (dF v)/\iR (A.map (·.1)) v/\dg v<=dg G/\(u=true->dg v+1<=dg G)/\Z=[some m.d,some w,some (.fn (au fk)),some (.fn (au j)),some (bD b),some (.bl u),z,y]) (λ_ _ _ _=>rfl) {E,f1,_,_,s1,e1,F,h1,t1,rfl} ?_ ?_
  ·rintro i d Z R hd ⟨J,O,z,y,s2,e2,H,h2,t2,rfl⟩;obtain⟨Y,rfl⟩:=nB hd;refine{_,rfl,?_};exact CU X hm h158 n nd cl ok I Y (by rw[P8];omega) e2 H h2 t2 s2 hj λM' v u y a1 a2 a3 a4 S=>{_,rfl,v,u,_,_,a1,a2,a3,a4,S,rfl}
  ·rintro Z R ⟨J,O,z,y,s2,e2,H,h2,t2,rfl⟩;exact bt.mpr {_,rfl,J,O,_,_,_,s2,e2,H,h2,t2,rfl}
 ·rintro Z M1 ⟨E,f1,B,z,y,s1,e1,F,h1,t1,rfl⟩;exact bt.mpr (kk M1 E f1 _ _ _ s1 e1 F t1)
def Ce (ha:HasB P)(hm:aC m)(h158:P 158=some {3,3,bS})(h184:P 184=some {3,8,fF})(n:Nat)(h84:∀(M:Mem) (b:aB),dO m b=true->ag P (n+2) 84 [bD b,w] M=.ok (.bl (fit b)) M)(E:M[fk]?=some (lA A))(all:AllIn m none (A.map pr))(la:A.length<=60) :
 ae (ag P (n+3) 184 [m.d,w,.fn (au fk)] M) λd M'=>∃(k:Nat) (G:cK),d=.fn (au k)/\M.length<=k/\M'[k]?=some (dF G)/\iR (A.map (·.1)) G/\Sub M M':=by
 obtain⟨nd,snd,_,cl⟩:=uB hm all;have W:∀b∈A.map (·.1),dO m b=true:=λb H=>by
  obtain⟨q,lq⟩:=snd b H;obtain⟨ol,os⟩:=iD hm lq.1;unfold dO;rw[Qg];refine{beq_iff_eq.mpr ol,Qt.mpr λs hs=>?_};unfold tj;rw[Qg];exact{beq_iff_eq.mpr (os s hs).1,Qt.mpr λx hx=>decide_eq_true ((os s hs).2 x hx)}
 refine aH h184 rfl ?_;show ae (fF (ag P (n+2)) [some m.d,some w,some (.fn (au fk)),none,none,none,none,none] M) _;unfold fF;refine b4 (c4 rfl) ?_;simp only[List.set];obtain⟨w1,_⟩:=nH (Z:=[some m.d,some w,some (.fn (au fk)),some (.fn (au M.length)),none,none,none,none]) (j:=2) rfl (Sub.app.get E);rw[aA,dh,w1,aO];refine dz (λi Z M'=>∃G y,M'=M++[dF G]/\iR ((A.map (·.1)).take i) G/\Z=[some m.d,some w,some (.fn (au fk)),some (.fn (au M.length)),y,none,none,none]) (λi Z M' ⟨_,_,e,_⟩=>(nH (Z:=[some (.fn (au fk))]) (j:=0) rfl (by rw[e];exact Sub.app.get E)).2) {[],none,rfl,{rfl,λ_ h=>nomatch h},rfl} ?_ ?_
 ·rintro i d Z M1 hd ⟨G,y,rfl,g,rfl⟩;rw[Qv] at hd;obtain⟨b,B,rfl⟩:=Qk.mp hd;have H:=QC B;have hi:=(P9.mp B).1;refine{_,rfl,?_};have X:(M++[dF G])[M.length]?=some (dF G):=`s
  have gl:G.length<=60:=by
   have:=congrArg List.length g.k;rw[P8,RA,P8] at this;omega
  have Y:fC (ak (ah 84 (ag P (n+2)) (aX (aa 4) (aX (aa 1) a9)))) (gC (.int 0)) (gC (.int 999)) [some m.d,some w,some (.fn (au fk)),some (.fn (au M.length)),some (bD b),none,none,none] (M++[dF G])=.ok (.int (if fit b then 0 else 999)) (M++[dF G]):=ib (bN ((aQ (af rfl (af rfl rfl))).trans (h84 _ b (W b H)))) (λh=>by rw[h];rfl) (λh=>by rw[h];rfl)
  refine b4 (AY rfl rfl Y X `a) ?_
  have hn:lk G b=none:=by
   cases z:lk G b with
   |none=>rfl
   | some u =>
     have:=Ez.mp (show(lk G b).isSome=true by rw[z];rfl)
     rw[g.k] at this;obtain⟨j,hj,L⟩:=List.getElem_of_mem this;rw[RA] at hj;rw[List.getElem_take] at L;exact absurd (L.trans (P9.mp B).2.symm) ((List.pairwise_iff_getElem.mp nd) j i `a hi `a)
  refine{_,rfl,hJ G b (if fit b then 0 else 999),_,?_,{?_,λe v=>?_},rfl}
  ·rw[kZ rfl]
  ·unfold hJ;rw[hn,if_neg `d,QG,g.k,Ro,B];rfl
  ·unfold hJ at v;rw[hn,if_neg `d] at v
   rcases QH.mp v with v|v
   ·exact g.r e v
   ·rw[Qs.mp v];show 0<=(if fit b then(0:Int) else 999)/\(if fit b then(0:Int) else 999)<=999;split<;>decide
 ·rintro Z M1 ⟨G,y,rfl,g,rfl⟩;rw[P8,Rg (Qe _)] at g;rw[bt];refine bu (bF rfl) ?_;rw[aA];have s9:=g.sum;rw[P8] at s9;refine lr (λk Z M'=>∃G fl y Q R,Sub M M'/\M'[M.length]?=some (dF G)/\iR (A.map (·.1)) G/\(fl=true->dg G+1<=(k:Int))/\Z=[some m.d,some w,some (.fn (au fk)),some (.fn (au M.length)),y,some (.bl fl),Q,R]) ?_ (k:=60000) `d {G,true,_,_,_,.app,`s,g,λ_=>`a,rfl}
  rintro k Z M' ⟨S,fl,y,Q,R,O,J,F,t',rfl⟩;refine{λh=>?_,λh=>?_}
  ·refine bt.mpr (bC rfl {M.length,S,rfl,Qe _,J,F,O})
  ·have:=t' h;have s0:=F.sum;obtain⟨I,rfl⟩:∃I,k=I+1:={k-1,`a}
   refine{I,rfl,?_};exact CT ha hm h158 n E all la J F O (Qe _) λM2 U f2 y4 y6 y7 a1 a2 a3 a4=>.inl {_,rfl,U,f2,_,_,_,a1,a2,a3,λh=>by have:=a4 h;omega,rfl}
end
end LD
namespace LD
open PySem
def vf (d:D):Prop:=∃e:aB×Int,d=aN e/\Loose e.1
def eG (k:Nat)(xs:List D):Prop:=xs.length<=k/\∀x∈xs,vf x
def eG.app (h:eG k xs)(g:eG r ys):eG (k+r) (xs++ys):={by rw[QD];have:=h.1;have:=g.1;omega,λx j=>(QH.mp j).elim (h.2 x) (g.2 x)}
def eG.cut (h:eG k xs):eG k (cut xs i j):={Qo jy h.1,λx u=>h.2 x (wL u)}
def eG.one (h:vf x):eG 1 [x]:={Qe _,λy j=>by rw[Qs.mp j];exact h}
def eG.ex {k:Nat}:∀{xs:List D},(∀x∈xs,vf x)->∃F:cK,xs=F.map aN/\∀e∈F,Loose e.1
 |[],_=>{[],rfl,λ_ h=>nomatch h}
 | x :: xs, h => by
   obtain⟨e,rfl,le⟩:=h x QB;obtain⟨F,rfl,lf⟩:=eG.ex (k:=k) λy j=>h y (Qu _ j);exact{e::F,rfl,λy j=>(QZ.mp j).elim (λz=>z ▸ le) (lf y)}
section
variable{P:Nat->Option Df}{M:Mem}{m:aK}{p B:Nat}{a b:GE}{Z:Env}
def gP (h:a Z M=.ok (bD y) M)(j:b Z M=.ok (.int v) M):aM (aX a (aX b a9)) Z M=.ok (aN (y,v)) M:=mv (af h (af j rfl)) (Qp rfl)
def Ci (J:HasP0 P)(h185:P 185=some {3,13,eF})(n:Nat){F:cK}(hL:0<F.length)(hL2:F.length<=60)(hF:∀e∈F,f5 16 2 e.1/\0<e.1.length)(hw:m.words<=4)(hp:aD M p B)(hB:B<=700000) :
 ae (ag P (n+3) 185 [.cell p,m.d,.lst (F.map aN)] M) λd M'=>∃X:cK,d=.lst (X.map aN)/\X.length<=300/\(∀e∈X,Loose e.1)/\aD M' p (B+7)/\aZ p M M':=by
 have key:ae (ag P (n+3) 185 [.cell p,m.d,.lst (F.map aN)] M) λd M'=>∃xs,d=.lst xs/\eG 300 xs/\aD M' p (B+7)/\aZ p M M':=by
  have fo:eG 60 (F.map aN):={by rw[P8];exact hL2,λx Q=>by
   obtain⟨e,he,rfl⟩:=Qh.mp Q;exact{e,rfl,(hF e he).1.loose `d `d}}
  refine aH h185 rfl ?_;show ae (eF (ag P (n+2)) [some (.cell p),some m.d,some (.lst (F.map aN)),none,none,none,none,none,none,none,none,none,none] M) _;refine dC J n rfl rfl hp `a `d `d λkind M1 hk p1 k1=>?_
  refine dC J n rfl rfl p1 `a `d `d λplace M2 hpl p2 k2=>?_
  refine cF (k:=λd M'=>(∃v:Int,d=.int v)/\aD M' p (B+3)/\aZ p M M') ?_ ?_
  ·refine aI (C9 J n rfl rfl p2 `a `d `d rfl rfl) ?_
   rintro d M3 ⟨hd,p3,k3⟩;refine{?_,p3,(k1.trans k2).trans k3};simp only[QZ,List.not_mem_nil,or_false] at hd;rcases hd with rfl|rfl|rfl|rfl<;>exact{_,rfl}
  rintro _ M3 ⟨⟨more,rfl⟩,p3,k3⟩;refine dC J n rfl (by rw[oQ rfl,P8]) p3 `a hL `a λat_ M4 hat p4 k4=>?_
  simp only[List.set];obtain⟨e,ee⟩:∃e,F[at_]?=some e:={_,Qq hat};obtain⟨L,b0⟩:=hF e (QC ee);have bl:=L.l;have ei:ao (aa 2) (aa 6) [some (.cell p),some m.d,some (.lst (F.map aN)),some (nD kind),some (nD place),some (.int more),some (nD at_),none,none,none,none,none,none] M4=.ok (aN e) M4:=bq rfl rfl (by
   rw[wq,cY (by rw[P8];exact hat)]
   show(F.map aN)[at_]?=_;rw[Qv,ee];rfl)
  refine bu (by unfold aw;rw[ei];rfl) ?_
  refine dC J n rfl (pq (j:=1) (bq rfl rfl rfl) rfl) p4 `a `a `a λH M5 hwd p5 k5=>?_
  refine dC J n rfl (by rw[nN rfl,P8]) p5 `a b0 `a λE I hen p6 k6=>?_
  obtain⟨s,es⟩:∃s,e.1[E]?=some s:={_,Qq hen};have hs2:=L.s s (QC es);have ks:aZ p M I:=((k3.trans k4).trans k5).trans k6;have sl:∀{Z:Env}{M:Mem}{lo hi:GE}{l h:D}{hl hh:Bool},Z[2]?.getD none=some (.lst (F.map aN))->lo Z M=.ok l M->hi Z M=.ok h M->cJ hl l=true->cJ hh h=true->∃ys,b5 false hl hh (aa 2) lo hi Z M=.ok (.lst ys) M/\eG 60 ys:=λv el eh pl ph=>by
   obtain⟨i,j,e⟩:=Jb (aq v) el eh pl ph (by rw[P8];omega)
   exact{_,e,fo.cut}
  refine bH (gn rfl) (λ_=>?_) λ_=>?_
  ·obtain⟨K1,e1,q1⟩:=sl (Z:=[some (.cell p),some m.d,some (.lst (F.map aN)),some (nD kind),some (nD place),some (.int more),some (nD at_),some (bD e.1),some (.int e.2),some (nD H),some (nD E),none,none]) (hl:=false) (hh:=true) (lo:=gC .non) (hi:=aa 6) rfl rfl rfl rfl rfl;obtain⟨K2,e2,q2⟩:=sl (Z:=[some (.cell p),some m.d,some (.lst (F.map aN)),some (nD kind),some (nD place),some (.int more),some (nD at_),some (bD e.1),some (.int e.2),some (nD H),some (nD E),none,none]) (hl:=true) (hh:=false) (lo:=ai false .add (aa 6) (gC (.int 1))) (hi:=gC .non) rfl (pq rfl rfl) rfl rfl rfl;have q:=q1.app q2;exact bC (fH e1 e2 (by have:=q.1;omega)) {_,rfl,{Qo q.1 `d,q.2},p6.mono `a,ks}
  refine bH (gn rfl) (λ_=>?_) λ_=>?_
  ·have ec:ba false 2 (.tup [0,1]) (bK (aa 2)) (bg (aM (aX (aa 0) (aX (ai false .sub (aa 1) (gC (.int 1))) a9)))) [some (.cell p),some m.d,some (.lst (F.map aN)),some (nD kind),some (nD place),some (.int more),some (nD at_),some (bD e.1),some (.int e.2),some (nD H),some (nD E),none,none] I=.ok (.lst (F.map λe=>aN (e.1,e.2-1))) I:=by
    refine aj ?_;rw[dm,fO,aq rfl,aO];refine{rfl,eE (λd=>match d with|.tup [z,.int i]=>.tup [z,.int (i-1)]|_=>.non) (ay (by rw[P8];omega)) rfl (λd hd=>?_) ?_}
    ·obtain⟨x,_,rfl⟩:=Qh.mp hd;exact{_,rfl,Eq.trans (gP rfl ((d3 rfl rfl).trans rfl)) rfl}
    ·rw[Q1];exact bI.mpr {ay (by rw[P8];omega),rfl,rfl}
   have fo':eG 60 (F.map λe=>aN (e.1,e.2-1)):={by rw[P8];exact hL2,λx Q=>by
    obtain⟨e,he,rfl⟩:=Qh.mp Q;exact{(e.1,e.2-1),rfl,(hF e he).1.loose `d `d}}
   have q:=fo'.app fo;exact bC (fH ec rfl (by have:=q.1;omega)) {_,rfl,{Qo q.1 `d,q.2},p6.mono `a,ks}
  have lb:=L.loose `d `d
  have two:∀z:Option D,(∃o:aB,Loose o/\ai false .add (ai false .add (b5 false false true (aa 7) (gC .non) (aa 10)) (aM (aX (ai false .add (aM (aX (aa 9) a9)) (b5 false true false (ao (aa 7) (aa 10)) (gC (.int 1)) (gC .non))) a9))) (b5 false true false (aa 7) (ai false .add (aa 10) (gC (.int 1))) (gC .non)) [some (.cell p),some m.d,some (.lst (F.map aN)),some (nD kind),some (nD place),some (.int more),some (nD at_),some (bD e.1),some (.int e.2),some (nD H),some (nD E),z,none] I=.ok (bD o) I)/\
   (∃o:aB,Loose o/\ai false .add (ai false .add (b5 false false true (aa 7) (gC .non) (aa 10)) (aM (aX (ai false .add (ao (aa 7) (aa 10)) (aM (aX (gC (.int 0)) a9))) a9))) (b5 false true false (aa 7) (ai false .add (aa 10) (gC (.int 1))) (gC .non)) [some (.cell p),some m.d,some (.lst (F.map aN)),some (nD kind),some (nD place),some (.int more),some (nD at_),some (bD e.1),some (.int e.2),some (nD H),some (nD E),z,none] I=.ok (bD o) I)/\
   (∃o:aB,Loose o/\b5 false false true (aa 7) (gC .non) (bW (gC (.int 1))) [some (.cell p),some m.d,some (.lst (F.map aN)),some (nD kind),some (nD place),some (.int more),some (nD at_),some (bD e.1),some (.int e.2),some (nD H),some (nD E),z,none] I=.ok (bD o) I)/\
   ∃o:aB,Loose o/\ai false .add (aa 7) (b5 false false true (aa 7) (gC .non) (gC (.int 1))) [some (.cell p),some m.d,some (.lst (F.map aN)),some (nD kind),some (nD place),some (.int more),some (nD at_),some (bD e.1),some (.int e.2),some (nD H),some (nD E),z,none] I=.ok (bD o) I:=λz=>by
   generalize R:[some (.cell p),some m.d,some (.lst (F.map aN)),some (nD kind),some (nD place),some (.int more),some (nD at_),some (bD e.1),some (.int e.2),some (nD H),some (nD E),z,none]=U;have W:U[7]?.getD none=some (bD e.1):=by rw[<- R];rfl
   have v9:U[9]?.getD none=some (nD H):=by rw[<- R];rfl
   have S:U[10]?.getD none=some (nD E):=by rw[<- R];rfl
   have ei:=bq (aq W) (aq S) (by
    show bV (.tup (e.1.map av)) (.int (E:Int)) I=_;rw[jc,cY (by rw[P8];exact hen)]
    show(e.1.map av)[E]?=_;rw[Qv,es];rfl)
   obtain⟨i1,j1,x1⟩:=mw (hl:=false) (hh:=true) (xs:=e.1.map av) (aq (M:=I) W) (lo:=gC .non) rfl (aq (M:=I) S) rfl rfl;obtain⟨i2,j2,x2⟩:=mw (hl:=true) (hh:=false) (xs:=s.map nD) ei (lo:=gC (.int 1)) (hi:=gC .non) (l:=.int 1) (h:=.non) rfl rfl rfl rfl;obtain⟨i3,j3,x3⟩:=mw (hl:=true) (hh:=false) (xs:=e.1.map av) (aq (M:=I) W) (lo:=ai false .add (aa 10) (gC (.int 1))) (hi:=gC .non) (pq (i:=E) (j:=1) (aq S) rfl) rfl rfl rfl;obtain⟨i4,j4,x4⟩:=mw (hl:=false) (hh:=true) (xs:=e.1.map av) (aq (M:=I) W) (lo:=gC .non) (hi:=bW (gC (.int 1))) (l:=.non) (h:=.int (-1)) rfl rfl rfl rfl;obtain⟨i5,j5,x5⟩:=mw (hl:=false) (hh:=true) (xs:=e.1.map av) (aq (M:=I) W) (lo:=gC .non) (hi:=gC (.int 1)) (l:=.non) (h:=.int 1) rfl rfl rfl rfl;rw[LH] at x1 x2 x3 x4 x5;have c1:=jy (l:=e.1) (i:=i1) (j:=j1);have c2:=jy (l:=s) (i:=i2) (j:=j2);have c3:=jy (l:=e.1) (i:=i3) (j:=j3);have c5:=jy (l:=e.1) (i:=i5) (j:=j5);have mk:∀t:List Nat,t.length<=3->∃o:aB,Loose o/\D.tup ((((cut e.1 i1 j1).map av)++[av t])++(cut e.1 i3 j3).map av)=bD o:=λt ht=>by
    refine{cut e.1 i1 j1++[t]++cut e.1 i3 j3,?_,?_}
    ·refine f5.loose (k:=40) (r:=3) ?_ `d `d
     refine(((L.cut.mono (Qe _) `a).app (k':=1) {Qe _,λu hu=>?_}).app (L.cut.mono (Qe _) `a)).mono `a (Qe _)
     rw[Qs.mp hu];exact ht
    ·show _=D.tup (List.map av _);rw[QG,QG];rfl
   refine{?_,?_,{_,L.cut.loose `d `d,x4},?_}
   ·have y2:=ij (mv (s:=aX (aa 9) a9) (xs:=[nD H]) (af (aq v9) rfl) (Qp rfl)) x2 `o
    have O:=ij x1 (mv (s:=aX _ a9) (xs:=[_]) (af y2 rfl) (Qp rfl)) `o
    have y3:=ij O x3 `o
    obtain⟨o,lo,eo⟩:=mk (H::cut s i2 j2) (by rw[RB];omega)
    exact{o,lo,by rw[<- eo];exact y3}
   ·have y2:=ij (xs:=s.map nD) ei (mv (s:=aX (gC (.int 0)) a9) (xs:=[nD 0]) (af rfl rfl) (Qp rfl)) `o
    have O:=ij x1 (mv (s:=aX _ a9) (xs:=[_]) (af y2 rfl) (Qp rfl)) `o
    have y3:=ij O x3 `o
    obtain⟨o,lo,eo⟩:=mk (s++[0]) (by rw[QD,List.length_singleton];omega)
    refine{o,lo,?_};rw[<- eo,show av (s++[0])=D.tup (s.map nD++[nD 0]) by unfold av;rw[QG];rfl];exact y3
   ·have y5:=ij (a:=aa 7) (xs:=e.1.map av) (aq W) x5 `o
    exact{e.1++cut e.1 i5 j5,(L.app L.cut).loose `d `d,by show _=Res.ok (D.tup (List.map av _)) I;rw[QG];exact y5}
  refine bu (bF (x:=.lst [aN (e.1,e.2+more),aN (e.1,e.2-more),aN (e.1,0-e.2)]) (f7 (xs:=[aN (e.1,e.2+more),aN (e.1,e.2-more),aN (e.1,0-e.2)]) (af (gP rfl ((d3 (x:=.int e.2) (y:=.int more) rfl rfl).trans rfl)) (af (gP rfl ((d3 (x:=.int e.2) (y:=.int more) rfl rfl).trans rfl)) (af (gP rfl ((d3 (x:=.int 0) (y:=.int e.2) rfl rfl).trans rfl)) rfl))) (Qp rfl))) ?_;obtain⟨⟨o1,l1,f1⟩,_,⟨o3,l3,f3⟩,_⟩:=two (some (.lst [aN (e.1,e.2+more),aN (e.1,e.2-more),aN (e.1,0-e.2)]));refine bu (bF (fH (xs:=[aN (e.1,e.2+more),aN (e.1,e.2-more),aN (e.1,0-e.2)]) (ys:=[aN (o1,e.2),aN (o3,0)]) rfl (f7 (af (gP f1 rfl) (af (gP f3 rfl) rfl)) (Qp rfl)) (Qp rfl))) ?_;obtain⟨_,⟨o2,l2,f2⟩,_,⟨o4,l4,f4⟩⟩:=two (some (.lst ([aN (e.1,e.2+more),aN (e.1,e.2-more),aN (e.1,0-e.2)]++[aN (o1,e.2),aN (o3,0)])));refine bu (bF (fH (xs:=[aN (e.1,e.2+more),aN (e.1,e.2-more),aN (e.1,0-e.2)]++[aN (o1,e.2),aN (o3,0)]) (ys:=[aN (o2,0),aN ([],0),aN (o4,e.2)]) rfl (f7 (af (gP f2 rfl) (af (gP (y:=[]) rfl rfl) (af (gP f4 rfl) rfl))) (Qp rfl)) (Qp rfl))) ?_;simp only[List.set];generalize hxs:([aN (e.1,e.2+more),aN (e.1,e.2-more),aN (e.1,0-e.2)]++[aN (o1,e.2),aN (o3,0)])++[aN (o2,0),aN ([],0),aN (o4,e.2)]=xs;have xl:xs.length=8:=by rw[<- hxs];rfl
  have xo:∀x∈xs,vf x:=λx Q=>by
   rw[<- hxs] at Q;simp only[List.cons_append,Sn,QZ,List.not_mem_nil,or_false] at Q;rcases Q with rfl|rfl|rfl|rfl|rfl|rfl|rfl|rfl
   ·exact{_,rfl,lb}
   ·exact{_,rfl,lb}
   ·exact{_,rfl,lb}
   ·exact{_,rfl,l1}
   ·exact{_,rfl,l3}
   ·exact{_,rfl,l2}
   ·exact{_,rfl,{`d,λ_ h=>nomatch h}}
   ·exact{_,rfl,l4}
  refine cF (k:=λd M'=>vf d/\aD M' p (B+7)/\aZ p M M') ?_ ?_
  ·rw[eC,aq rfl,aO,g5,g5];refine bo.mpr {_,rfl,?_};rw[g5,cZ];refine aI (eB J n (many:=2) rfl rfl p6 `a `d `d) ?_
   rintro _ Y ⟨v,rfl,hv,p7,k7⟩;refine Kg.mpr {.inl `d,qj.mpr (cZ.mpr (Kl.mpr {`d,?_}))}
   have hr:∃r:Nat,((kind:Int)+5*(v:Int)) % 8=(r:Int)/\r<8:={(((kind:Int)+5*(v:Int)) % 8).toNat,`a,`a}
   obtain⟨r,er,hr⟩:=hr;refine{xs[r],?_,xo _ (Sa _),p7,ks.trans k7};rw[er,wq,cY `a]
   exact Qq _
  rintro y Y ⟨hy,p7,k7⟩;simp only[List.set];have O:=eG.one hy;obtain⟨K1,e1,q1⟩:=sl (Z:=[some (.cell p),some m.d,some (.lst (F.map aN)),some (nD kind),some (nD place),some (.int more),some (nD at_),some (bD e.1),some (.int e.2),some (nD H),some (nD E),some (.lst xs),some y]) (M:=Y) (hl:=false) (hh:=true) (lo:=gC .non) (hi:=aa 6) rfl rfl rfl rfl rfl;obtain⟨K2,e2,q2⟩:=sl (Z:=[some (.cell p),some m.d,some (.lst (F.map aN)),some (nD kind),some (nD place),some (.int more),some (nD at_),some (bD e.1),some (.int e.2),some (nD H),some (nD E),some (.lst xs),some y]) (M:=Y) (hl:=true) (hh:=false) (lo:=ai false .add (aa 6) (gC (.int 1))) (hi:=gC .non) rfl (pq (i:=at_) (j:=1) rfl rfl) rfl rfl rfl;have qa:=(q1.app O).app q2;have qb:=fo.app O;have qc:=O.app fo;have ly:a7 false (aX (aa 12) a9) [some (.cell p),some m.d,some (.lst (F.map aN)),some (nD kind),some (nD place),some (.int more),some (nD at_),some (bD e.1),some (.int e.2),some (nD H),some (nD E),some (.lst xs),some y] Y=.ok (.lst [y]) Y:=f7 (s:=aX (aa 12) a9) (xs:=[y]) (af rfl rfl) (Qp rfl);have ea:=fH (fH e1 ly (by have:=(q1.app O).1;omega)) e2 (by have:=qa.1;omega)
  have eb:=fH (a:=aa 2) (xs:=F.map aN) rfl ly (by have:=qb.1;omega)
  have ec:=fH (b:=aa 2) (ys:=F.map aN) ly rfl (by have:=qc.1;omega)
  have el:=f7 (s:=aX _ (aX _ (aX _ a9))) (af ea (af eb (af ec rfl))) (Qp rfl)
  match place,hpl with
  |0,_=>exact bC (bq el rfl rfl) {_,rfl,{Qo qa.1 `d,qa.2},p7,k7}
  |1,_=>exact bC (bq el rfl rfl) {_,rfl,{Qo qb.1 `d,qb.2},p7,k7}
  |2,_=>exact bC (bq el rfl rfl) {_,rfl,{Qo qc.1 `d,qc.2},p7,k7}
 obtain⟨d,M',e,xs,rfl,⟨xl,xo⟩,q,k⟩:=du.mp key;rw[e];obtain⟨X,rfl,lf⟩:=eG.ex (k:=0) xo;exact{X,rfl,by rw[P8] at xl;exact xl,lf,q,k}
end
structure yx (P:Nat->Option Df):Prop where
 b0:HasB0 P
 r0:i7 P
 b:HasB P
 n:DD P
 p:HasP P
 h14:P 14=some {2,5,c9}
 h15:P 15=some {1,6,b8}
 h35:P 35=some {3,6,fS}
 h44:P 44=some {2,5,ft}
 h79:P 79=some {2,2,jV}
 h80:P 80=some {2,2,j8}
 h81:P 81=some {2,2,gE}
 h83:P 83=some {2,8,iM}
 h84:P 84=some {2,2,gi}
 h151:P 151=some {1,2,dI}
 h152:P 152=some {2,2,dP}
 h158:P 158=some {3,3,bS}
 h159:P 159=some {2,8,fG}
 h160:P 160=some {2,3,fu}
 h165:P 165=some {3,11,g7}
 h166:P 166=some {2,6,jB}
 h167:P 167=some {2,7,og}
 h168:P 168=some {2,2,fv}
 h169:P 169=some {4,9,fE}
 h176:P 176=some {2,3,fh}
 h181:P 181=some {1,4,dQ}
 h182:P 182=some {4,8,d4}
 h183:P 183=some {4,7,kJ}
 h184:P 184=some {3,8,fF}
 h185:P 185=some {3,13,eF}
 h186:P 186=some {1,16,oh}
def jX (p q:Nat)(M:Mem)(x:D):Prop:=∃(N:Int) (y:D) (F:cK),x=.tup [.int N,y]/\(y=.lst (F.map aN)\/∃c,y=.cell c/\c≠p/\c≠q/\M[c]?=some (F.map aN))/\F.length<=1000/\∀e∈F,Loose e.1
def iP (p q k:Nat)(M:Mem):Prop:=∃j,M[q]?=some j/\j.length<=k/\∀x∈j,jX p q M x
def Bm:∀F:cK,dE (F.map aN) (F.map aN)=true
 |[]=>rfl
 | e :: F => by
   show(bJ (aN e) (aN e)&&dE (F.map aN) (F.map aN))=true;rw[Bm F];show((bJ (bD e.1) (bD e.1)&&(bJ (.int e.2) (.int e.2)&&true))&&true)=true;rw[sM,decide_eq_true rfl,Fi,beq_self_eq_true];rfl
def GH (b:aB):az (n+2) (bD b)=true:=by
 show(b.map av).all (az (n+1))=true;rw[Qt];intro x j;obtain⟨s,_,rfl⟩:=Qh.mp j;show(s.map nD).all (az n)=true;rw[Qt];intro y u;obtain⟨i,_,rfl⟩:=Qh.mp u;cases n<;>rfl
section
variable{P:Nat->Option Df}{M M':Mem}{m:aK}{p q k B:Nat}{ws:List D}{x y:D}{F:cK}{N:Int}{Z:Env}{a b:GE}
def G3 (h:ma M x F):bE .ne (.lst (F.map aN)) x M=some false:=by
 have j:az 64 (.lst (F.map aN))=true:=by
  show(F.map aN).all (az 63)=true;rw[Qt];intro y E;obtain⟨e,_,rfl⟩:=Qh.mp E;show(az 62 (bD e.1)&&(az 62 (.int e.2)&&true))=true;rw[GH];rfl
 have u:view M x=.lst (F.map aN):=by
  rcases h with rfl|⟨c,rfl,e⟩
  ·rfl
  ·show(match M[c]? with|some z=>D.lst z|none=>.cell c)=_
   rw[e]
 exact wQ (v:=true) (by exact j) (by rw[u];exact j) (by rw[u];exact Bm F)
def Ay (h:ma M x F)(hl:F.length<=1000)(j:a Z M=.ok x M):aJ (.list false) #[a] Z M=.ok (.lst (F.map aN)) M:=by
 have u:cE M x=some (F.map aN):=by
  rcases h with rfl|⟨c,rfl,e⟩
  ·rfl
  ·exact e
 refine aj (bQ.mpr ?_);rw[af j rfl,aO];show ae (match cE M x with|some xs=>bf false xs M|none=>.bad) _
 rw[u];exact bI.mpr {ay (by rw[P8];omega),rfl,rfl}
def jX.mono (h:jX p q M x)(g:∀c ds,c≠p->c≠q->M[c]?=some ds->M'[c]?=some ds):jX p q M' x:=by
 obtain⟨N,y,F,e,h,r⟩:=h;exact{N,y,F,e,h.imp id λ⟨c,e,h1,h2,e2⟩=>{c,e,h1,h2,g c _ h1 h2 e2},r}
def iP.keep (h:iP p q k M)(u:q≠p)(s:aZ p M M'):iP p q k M':=by
 obtain⟨j,e,l,o⟩:=h;exact{j,s.get e u,l,λx v=>(o x v).mono λc j h1 _ e=>s.get e h1}
def iP.sub (h:iP p q k M)(s:Sub M M'):iP p q k M':=by
 obtain⟨j,e,l,o⟩:=h;exact{j,s.get e,l,λx u=>(o x u).mono λc j _ _ e=>s.get e}
def iP.app (h:iP p q k M)(v:jX p q M x):∃ds,M[q]?=some ds/\ds.length<=k/\iP p q (k+1) (M.set q (ds++[x])):=by
 obtain⟨ds,e,l,o⟩:=h;have g:∀c u,c≠p->c≠q->M[c]?=some u->(M.set q (ds++[x]))[c]?=some u:=λc u _ h2 e=>by rw[Qj (Rf h2)];exact e
 refine{ds,e,l,ds++[x],QI (d7 e),by rw[QD,List.length_singleton];omega,λy j=>?_}
 rcases QH.mp j with j|j
 ·exact(o y j).mono g
 ·rw[Qs.mp j];exact v.mono g
def aD.subN (u:aD M p B)(s:Sub M M'):aD M' p B:=by
 obtain⟨c,j,a,st,e1,e2,r⟩:=u.ex;exact{c,j,a,st,s.get e1,s.get e2,r}
def HV (h1:a Z M=.ok y M)(h2:b Z M=.ok z M')(h3:bE o y z M'=some v):ax o a b Z M=.ok (.bl v) M':=by
 unfold ax;rw[h1];show(b Z M).bind _=_;rw[h2];show(cf M' (bE o y z M')).bind _=_;rw[h3];rfl
def KR (n:Nat)(h81:P 81=some {2,2,gE})(hm:aC m)(u:fJ m ws){b:aB}(j:dO m b=true):ag P (n+1) 81 [bD b,.tup ws] M=.ok (.bl (qN ws b)) M:=by
 obtain⟨v,os⟩:=n6 j;have:=bX hm;exact rC h81 n (ay (Qo nr (by rw[P8];omega))) (lB hm os u.2)
def A1 (n:Nat)(h84:P 84=some {2,2,gi})(hm:aC m)(u:fJ m ws){b:aB}(j:dO m b=true):ag P (n+1) 84 [bD b,.tup ws] M=.ok (.bl (qN ws b)) M:=by
 obtain⟨v,os⟩:=n6 j;have:=bX hm;exact xp h84 n (ay (Qo nr (by rw[P8];omega))) (lB hm os u.2)
def CB (h:yx P)(hm:aC m)(H:fJ m ws)(O:ma M y F)(hl:F.length<=1000)(ll:∀e∈F,Loose e.1)(k:∀M' R J,Sub M M'->kf (.next [x0,x1,x2,some m.d,x4,some (.tup ws),R,x7,x8,x9,x10,x11,x12,some (.int N),some y,J]) M') :
 ae (Ep (ag P 39) [x0,x1,x2,some m.d,x4,some (.tup ws),x6,x7,x8,x9,x10,x11,x12,some (.int N),some y,x15] M) kf:=by
 refine bu (bF (Ay O hl rfl)) ?_;obtain⟨v,z,e1,rfl,s1⟩:=du.mp (zA 27 h.b0 h.r0 h.h14 h.h15 h.h151 h.h152 h.h176 h.h181 h.h182 h.h183 hm (λM=>Ai h.b0 h.h15 h.h79 h.h80 27 hm H) (λM b E=>KR 36 h.h81 hm H E) hl ll);refine b4 (oj ((eK (af rfl (af rfl (af rfl (af rfl rfl))))).trans e1)) ?_;simp only[List.set];have u:ma z y F:=O.imp id λ⟨c,e,e2⟩=>{c,e,s1.get e2};obtain⟨S,j,e2,rfl,s2⟩:=du.mp (xn 36 h.b hm h.h158 h.h169 (λM b Q=>zG h.n 34 h.b h.h168 hm Q) (λM b E=>A1 37 h.h84 hm H E) u hl ll);have I:ma j y F:=u.imp id λ⟨c,e,e2⟩=>{c,e,s2.get e2};refine rL ?_ (k j _ _ (s1.trans s2));have t1:(ak (ax .ne (aa 6) (ah 169 (ag P 39) #[aa 3,aa 5,aa 13,aa 14]))) [x0,x1,x2,some m.d,x4,some (.tup ws),some (.bl (iB m (qN ws) N F)),x7,x8,x9,x10,x11,x12,some (.int N),some y,some (.lst (F.map aN))] z=.ok false j:=by
  unfold ak;rw[HV rfl ((aQ (af rfl (af rfl (af rfl (af rfl rfl))))).trans e2) (by cases iB m (qN ws) N F<;>rfl)];rfl
 have t2:(ak (ax .ne (aa 15) (aa 14))) [x0,x1,x2,some m.d,x4,some (.tup ws),some (.bl (iB m (qN ws) N F)),x7,x8,x9,x10,x11,x12,some (.int N),some y,some (.lst (F.map aN))] j=.ok false j:=bN (jz rfl rfl (G3 I));unfold eL;rw[gQ (bN rfl)];show Res.bind (ak (ax .ne (aa 6) (ah 169 (ag P 39) #[aa 3,aa 5,aa 13,aa 14])) _ z) _=_;rw[t1];exact t2
def rR (h:ae r λx M'=>x=z/\M'=M1):r=.ok z M1:=by
 obtain⟨a,M',e,rfl,rfl⟩:=du.mp h;exact e
def Gu:mR (.str "row") (.str "row")=some true:=`k
def CG:mR (.str "none") (.str "row")=some false:=`k
def jX.seq (h:jX p q M d):∃(N:Int) (y:D) (F:cK),d=.tup [.int N,y]/\ma M y F/\F.length<=1000/\∀e∈F,Loose e.1:=by
 obtain⟨N,y,F,e,h,r⟩:=h;exact{N,y,F,e,h.imp id λ⟨c,e,_,_,e2⟩=>⟨c,e,e2⟩,r}
structure ng (m:aK) (F:cK):Prop where
 l0:0<F.length
 l1:F.length<=60
 b:∀e∈F,f5 16 2 e.1/\0<e.1.length
def ng.loose (h:ng m F):∀e∈F,Loose e.1:=λb j=>(h.b b j).1.loose `d `d
section
variable(h:yx P){L:List aB}{x0 x2 x4 x6 x10 x11 x12 x13 x14 x15:Option D}{kf:Fl->Mem->Prop}
include h
theorem uF (hm:aC m)(hw:fJ m ws)(R:ng m F)(hq:p<q)(hk:k<=20)(hs:iP p q k M)(hp:aD M p B)(hB:B<=600000)
 (kk:∀M' I u E H z,aD M' p (B+40)->kf (.next [x0,some (.cell p),x2,some m.d,x4,some (.tup ws),I,some (.int N),some (.lst (F.map aN)),some (.cell q),x10,x11,u,E,H,z]) M') :
 ae (xX (ag P 39) [x0,some (.cell p),x2,some m.d,x4,some (.tup ws),x6,some (.int N),some (.lst (F.map aN)),some (.cell q),x10,x11,x12,x13,x14,x15] M) kf:=by
 unfold xX;rw[aA,dh,fA,cZ];refine{4,rfl,{`d,`d},?_}
 refine dz (λi Z M'=>aD M' p (B+8*i)/\iP p q (k+i) M'/\∃u,Z=[x0,some (.cell p),x2,some m.d,x4,some (.tup ws),x6,some (.int N),some (.lst (F.map aN)),some (.cell q),x10,x11,u,x13,x14,x15]) (λ_ _ _ _=>rfl) {hp,hs,_,rfl} ?_ ?_
 ·rintro i d Z J hd ⟨p1,s1,u,rfl⟩;obtain⟨hi,rfl⟩:=nB hd;refine{_,rfl,?_};obtain⟨_,O,e2,v,rfl,hv,p2,k2⟩:=du.mp (eB h.p.toHasP0 37 (j:=1) (g:=gC (.int 2)) (Z:=[x0,some (.cell p),x2,some m.d,x4,some (.tup ws),x6,some (.int N),some (.lst (F.map aN)),some (.cell q),x10,x11,some (nD i),x13,x14,x15]) rfl rfl p1 `a `d `d)
  obtain⟨y,W,Y,K,rfl,kl,kb,p3,k3⟩:=du.mp (Ci h.p.toHasP0 h.h185 36 R.l0 R.l1 R.b hm.w4 p2 `a)
  obtain⟨X,Q,dl,S⟩:=(s1.keep `a (k2.trans k3)).app {_,_,K,rfl,.inl rfl,`a,kb}
  have U:ai false .sub (aa 7) (ah 31 (ag P 39) #[aa 1,gI 2]) [x0,some (.cell p),x2,some m.d,x4,some (.tup ws),x6,some (.int N),some (.lst (F.map aN)),some (.cell q),x10,x11,some (nD i),x13,x14,x15] J=.ok (.int (N-v)) O:=by
   unfold ai;rw[aq rfl];show Res.bind (ah 31 (ag P 39) _ _ J) _=_;rw[e2];rfl
  refine b4 (m8 rfl (iA (fD U (fD ((aQ (af rfl (af rfl (af rfl rfl)))).trans Y) rfl)) (Qp rfl)) Q (RG dl (QE (show k+i<100000 by omega) (ay (Qe _))))) ?_
  exact{_,rfl,(p3.mono `a).setq hq,S,_,rfl}
 ·rintro Z J ⟨p1,s1,u,rfl⟩;rw[P8,Ru] at p1 s1;rw[bt];obtain⟨X,Q,dl,ho⟩:=s1;rw[aA,dh,fO,aq rfl,aO];refine{rfl,?_};refine dz (λi Z M'=>Sub J M'/\∃I E H z,Z=[x0,some (.cell p),x2,some m.d,x4,some (.tup ws),I,some (.int N),some (.lst (F.map aN)),some (.cell q),x10,x11,u,E,H,z]) (λi Z M' h=>h.1.get Q) {.refl,_,_,_,_,rfl} ?_ ?_
  ·rintro i y Z O hd ⟨s2,I,E,H,z,rfl⟩;obtain⟨N',y',F',rfl,hy,hl,ll⟩:=((ho y (QC hd)).mono λc U _ _ e=>s2.get e).seq;refine{_,rfl,?_};exact CB h hm hw hy hl ll λW I z S=>{_,rfl,s2.trans S,_,_,_,_,rfl}
  ·rintro Z O ⟨s2,I,E,H,z,rfl⟩;exact kk O _ _ _ _ _ ((p1.mono `a).subN s2)
theorem zm (hm:aC m)(R:fJ m ws)(few:¬ jG m none)(hL:ng m F)(Q:p<q)(hk:k<=18)(hs:iP p q k M)(hp:aD M p B)(hB:B<=600000)
 (kk:∀M' Y X u v z H,aD M' p (B+40)->kf (.next [x0,some (.cell p),x2,some m.d,x4,some (.tup ws),Y,some (.int N),some (.lst (F.map aN)),some (.cell q),x10,X,u,v,z,H]) M') :
 ae (zo (ag P 39) [x0,some (.cell p),x2,some m.d,x4,some (.tup ws),x6,some (.int N),some (.lst (F.map aN)),some (.cell q),x10,x11,x12,x13,x14,x15] M) kf:=by
 have t:=Cd (M:=M) 38 (λM=>zC h.b0 h.r0 h.h15 h.h151 h.h152 h.h165 h.h166 27 hm) (λM=>Ai h.b0 h.h15 h.h79 h.h80 27 hm R) (λM q b lq=>MX 37 h.h81 hm R lq) h.h167;cases e:ag P 39 167 [m.d,.tup ws] M with
 |bad=>rw[e] at t;exact t.elim
 |err y M1=>rw[e] at t;exact absurd t.2.1 few
 | ok d M1 =>
   rw[e] at t;obtain⟨ht,s1⟩:=t;refine b4 (oj ((eK (af rfl (af rfl rfl))).trans e)) ?_;have I:=hp.subN s1;have J:=hs.sub s1;rcases ht with⟨E,c,rfl,_⟩|⟨E,j,r,c,rfl,_,_,_,g1,g2,_,_,U,all,fe⟩
   ·refine bU (bN (jz (bq rfl rfl rfl) rfl (cn CG _))) ?_;exact uF h hm R hL Q `a J I hB λM' Y u v z H=>kk M' _ _ _ _ _ _
   ·refine um (bN (jz (bq rfl rfl rfl) rfl (cn Gu _))) ?_;have lq:q<M.length:=by obtain⟨ds,e,_⟩:=hs;exact d7 e
    have hE:(E.filter λx=>decide (x.2.1<=j.2.1)).map (λx=>D.tup [bD x.1,nD (j.2.1-x.2.1)])=((E.filter λx=>decide (x.2.1<=j.2.1)).map λx=>((x.1,((j.2.1-x.2.1:Nat):Int)):aB×Int)).map aN:=by rw[Q1];rfl
    rw[hE] at U;have hl:((E.filter λx=>decide (x.2.1<=j.2.1)).map λx=>((x.1,((j.2.1-x.2.1:Nat):Int)):aB×Int)).length<=1000:=by
     rw[P8];exact Qo (RZ _ _) `a
    have lo:∀e∈((E.filter λx=>decide (x.2.1<=j.2.1)).map λx=>((x.1,((j.2.1-x.2.1:Nat):Int)):aB×Int)),Loose e.1:=λb hb=>by
     obtain⟨x,hx,rfl⟩:=Qh.mp hb;have lq:=all.mem.mp (by rw[nt];exact Qh.mpr {x,(RI.mp hx).1,rfl})
     obtain⟨ol,os⟩:=iD hm lq.1;have:=bX hm;have:=hm.p2;show Loose x.1;exact{`a,λs hs=>by rw[(os s hs).1];omega}
    generalize ((E.filter λx=>decide (x.2.1<=j.2.1)).map λx=>((x.1,((j.2.1-x.2.1:Nat):Int)):aB×Int))=G at U hl lo;have o1:∀N:Int,jX p q M1 (.tup [.int N,.cell c]):=λN=>{N,_,G,rfl,.inr {c,rfl,`a,`a,U},hl,lo}
    obtain⟨ds,ed,dl,s2⟩:=J.app (o1 j.2.1);have eT:∀{a:GE}{N:Int}{O:Mem}{Z:Env},a Z O=.ok (.int N) O->Z[11]?.getD none=some (.tup [.str "row",nD j.2.1,.cell j.2.2,.cell c])->aM #[a,ao (aa 11) (gI 3)] Z O=.ok (.tup [.int N,.cell c]) O:=λh1 h2=>iA (af h1 (af (bq (aq h2) rfl rfl) rfl)) (Qp rfl);refine b4 (m8 rfl (eT (bq rfl rfl rfl) rfl) ed (RG dl (QE (show k<100000 by omega) (ay (Qe _))))) ?_
    obtain⟨ds2,W,S,s3⟩:=s2.app ((o1 ((j.2.1:Int)+1)).mono λc es _ h2 e=>by rw[Qj (Rf h2)];exact e)
    refine b4 (m8 rfl (eT (fw (bq rfl rfl rfl) rfl) rfl) W (RG S (QE (show k+1<100000 by omega) (ay (Qe _))))) ?_
    refine bt.mpr ?_;exact uF h hm R hL Q `a s3 ((I.setq Q).setq Q) hB λM' Y u v z H=>kk M' _ _ _ _ _ _
theorem xM (hm:aC m)(hw:fJ m ws)(few:¬ jG m none)(Q:ng m F)(U:aD M p B)(hB:B<=600000)
 (kk:∀M' Y z9 R v z E H I,aD M' p (B+40)->kf (.next [x0,some (.cell p),x2,some m.d,x4,some (.tup ws),Y,some (.int N),some (.lst (F.map aN)),z9,R,v,z,E,H,I]) M') :
 ae (wb (ag P 39) [x0,some (.cell p),x2,some m.d,x4,some (.tup ws),x6,some (.int N),some (.lst (F.map aN)),x9,x10,x11,x12,x13,x14,x15] M) kf:=by
 have lp:=U.lt;have lo:=Q.loose;have l1:=Q.l1;have pr:∀{Z:Env}{M:Mem}{a b:GE}{N:Int}{y:D},a Z M=.ok (.int N) M->b Z M=.ok y M->aM #[a,b] Z M=.ok (.tup [.int N,y]) M:=λh1 h2=>iA (af h1 (af h2 rfl)) (Qp rfl);have nil:∀{Z:Env}{M:Mem},a7 false a9 Z M=.ok (.lst []) M:=f7 rfl (Rv _);have one:∀{Z:Env}{M:Mem}{a b:GE}{N:Int}{y:aB},a Z M=.ok (bD y) M->b Z M=.ok (.int N) M->a7 false #[aM #[a,b]] Z M=.ok (.lst ([(y,N)].map aN)) M:=λh1 h2=>f7 (af (gP h1 h2) rfl) (Qp rfl);have u:∀{Z:Env}{M:Mem}{i:Int},bW (gC (.int i)) Z M=.ok (.int (-i)) M:=rfl;refine b4 (c4 (M':=M++[[.tup [.int N,.lst (F.map aN)],.tup [.int (N+1),.lst (F.map aN)],.tup [.int (N-1),.lst (F.map aN)],.tup [.int 0,.lst []],.tup [.int (-1),.lst []]]]) (x:=.cell M.length) ?_) ?_
 ·refine rR (sJ.mpr ?_);rw[af (pr rfl rfl) (af (pr (fw rfl rfl) rfl) (af (pr rfl rfl) (af (pr rfl nil) (af (pr (u) nil) rfl)))),aO];exact jb.mpr {ay (Qp rfl),rfl,rfl}
 generalize J:[D.tup [.int N,.lst (F.map aN)],.tup [.int (N+1),.lst (F.map aN)],.tup [.int (N-1),.lst (F.map aN)],.tup [.int 0,.lst []],.tup [.int (-1),.lst []]]=A;have W:A.length=5:=by rw[<- J];rfl
 have oA:∀x∈A,∃(N:Int) (F:cK),x=.tup [.int N,.lst (F.map aN)]/\F.length<=1000/\∀e∈F,Loose e.1:=by
  intro x j;rw[<- J] at j;simp only[QZ,List.not_mem_nil,or_false] at j;rcases j with rfl|rfl|rfl|rfl|rfl
  ·exact{_,F,rfl,`a,lo}
  ·exact{_,F,rfl,`a,lo}
  ·exact{_,F,rfl,`a,lo}
  ·exact{_,[],rfl,`d,λ_ h=>nomatch h}
  ·exact{_,[],rfl,`d,λ_ h=>nomatch h}
 clear J;have bl:Loose (aS m):=by
  obtain⟨ol,os⟩:=iD hm ((d8 hm).mpr rfl).1;have:=bX hm;have:=hm.p2;exact{`a,λs hs=>by rw[(os s hs).1];omega}
 have eb:∀{Z:Env}{M:Mem},Z[3]?.getD none=some m.d->aJ .tuple #[ah 42 (ag P 39) #[aa 3]] Z M=.ok (bD (aS m)) M:=λh3=>aj (bQ.mpr (by
  rw[af ((aQ (af (aq h3) rfl)).trans (fB h.b 38 hm)) rfl,aO];exact rn.mpr ⟨rfl,rfl⟩))
 refine b4 (c4 (eb rfl)) ?_;have S:a7 false #[aM #[bW (gI 3),a7 false #[aM #[aa 10,bW (gI 3)]]],aM #[bW (gI 3),a7 false #[aM #[aa 10,bW (gI 4)]]],aM #[gI 0,a7 false #[aM #[aa 10,gI 0]]],aM #[bW (gI 1),a7 false #[aM #[aa 10,gI 0]]]] [x0,some (.cell p),x2,some m.d,x4,some (.tup ws),x6,some (.int N),some (.lst (F.map aN)),some (.cell M.length),some (bD (aS m)),x11,x12,x13,x14,x15] (M++[A])
  = .ok (.lst [.tup [.int (-3),.lst ([(aS m,-3)].map aN)],.tup [.int (-3),.lst ([(aS m,-4)].map aN)],.tup [.int 0,.lst ([(aS m,0)].map aN)],.tup [.int (-1),.lst ([(aS m,0)].map aN)]]) (M++[A]):=
  f7 (af (pr u (one rfl u)) (af (pr u (one rfl u)) (af (pr rfl (one rfl rfl)) (af (pr u (one rfl rfl)) rfl)))) (Qp rfl)
 generalize O:[D.tup [.int (-3),.lst ([(aS m,-3)].map aN)],.tup [.int (-3),.lst ([(aS m,-4)].map aN)],.tup [.int 0,.lst ([(aS m,0)].map aN)],.tup [.int (-1),.lst ([(aS m,0)].map aN)]]=C at S;have X:C.length=4:=by rw[<- O];rfl
 have oC:∀x∈C,∃(N:Int) (F:cK),x=.tup [.int N,.lst (F.map aN)]/\F.length<=1000/\∀e∈F,Loose e.1:=by
  intro x j;have g:∀i:Int,∀e∈[(aS m,i)],Loose e.1:=λi e he=>by rw[Qs.mp he];exact bl
  rw[<- O] at j;simp only[QZ,List.not_mem_nil,or_false] at j;rcases j with rfl|rfl|rfl|rfl<;>exact{_,_,rfl,Qp rfl,g _}
 clear O;refine b4 (c4 (x:=.cell (M.length+1)) (M':=M++[A]++[A++C]) ((d3 rfl S).trans ?_)) ?_
 ·have eA:(M++[A])[M.length]?=some A:=`s
  show(match (M++[A])[M.length]?,(some C:Option (List D)) with|some x,some y=>bf true (x++y) (M++[A])|_,_=>.bad)=_
  rw[eA];refine rR (jb.mpr {ay (by rw[QD,W,X];decide),by rw[QD];rfl,rfl})
 refine zm h (k:=9) hm hw few Q (show p<M.length+1 by omega) `d {A++C,by rw[QO (by rw[QD];exact Qe _),QD];simp,by rw[QD,W,X];decide,λx j=>?_} U.app.app hB λM' Y v z E H I=>kk M' _ _ _ _ _ _ _ _
 obtain⟨N',F',rfl,hl,ll⟩:=(QH.mp j).elim (oA x) (oC x);exact{N',_,F',rfl,.inl rfl,hl,ll}
theorem yI (hm:aC m)(Y:fk≠p)(ef:M[fk]?=some (lA A))(all:AllIn m none (A.map pr))(la:A.length<=60)(hp:aD M p B)(hB:B<=500000)
 (kk:∀M' z5 z6 z7 z8 z9 J O Q R S U,aD M' p (B+600)->kf (.next [x0,some (.cell p),x2,some m.d,some (.fn (au fk)),z5,z6,z7,z8,z9,J,O,Q,R,S,U]) M') :
 ae (yJ (ag P 39) [x0,some (.cell p),x2,some m.d,some (.fn (au fk)),x5,x6,x7,x8,x9,x10,x11,x12,x13,x14,x15] M) kf:=by
 obtain⟨d,M1,e1,ws,rfl,hw,p1,k1⟩:=du.mp (zw h.p h.b h.h35 h.h44 h.h83 35 hm hp `a)
 refine b4 (c4 ((aQ (af rfl (af rfl rfl))).trans e1)) ?_;have I:=k1.get ef Y;obtain⟨d,H,e2,g,G,rfl,hg,eg,lG,s2⟩:=du.mp (Ce h.b hm h.h158 h.h184 36 (λM b X=>A1 37 h.h84 hm hw X) I all la);refine b4 (c4 ((aQ (af rfl (af rfl (af rfl rfl)))).trans e2)) ?_;have W:=s2.get I;have bA:∀b∈A.map (·.1),f5 16 2 b/\0<b.length:=λb X=>by
  obtain⟨x,E,rfl⟩:=Qh.mp X;have lq:=all.mem.mp (Qh.mpr ⟨x,E,rfl⟩);obtain⟨ol,os⟩:=iD hm lq.1;have:=bX hm;have:=u2 hm;have:=hm.p2;exact{{`a,λs hs=>by rw[(os s hs).1];omega},`a}
 have z0:aS m∈A.map (·.1):=by
  have z:=all.mem.mpr ((d8 hm).mpr rfl);obtain⟨x,E,e⟩:=Qh.mp z;exact Qh.mpr {x,E,congrArg Prod.fst e}
 obtain⟨N,hN,_⟩:=lG.get z0;have eb:aJ .tuple #[ah 42 (ag P 39) #[aa 3]] [x0,some (.cell p),x2,some m.d,some (.fn (au fk)),some (.tup ws),some (.fn (au g)),x7,x8,x9,x10,x11,x12,x13,x14,x15] H=.ok (bD (aS m)) H:=aj (bQ.mpr (by
  rw[af ((aQ (af (aq rfl) rfl)).trans (fB h.b 38 hm)) rfl,aO];exact rn.mpr ⟨rfl,rfl⟩))
 refine b4 (c4 (mL rfl eb eg hN)) ?_;have ec:ba false 1 (.one 0) (di b9 (aa 4)) (bg (aM #[aa 0,b6 (aa 7) (aa 0)])) [x0,some (.cell p),x2,some m.d,some (.fn (au fk)),some (.tup ws),some (.fn (au g)),some (.int N),x8,x9,x10,x11,x12,x13,x14,x15] H=.ok (.lst ((A.map λx=>((x.1,(lk G x.1).getD 0):aB×Int)).map aN)) H:=by
  obtain⟨w1,w2⟩:=pP (j:=4) (Z:=[x0,some (.cell p),x2,some m.d,some (.fn (au fk)),some (.tup ws),some (.fn (au g)),some (.int N),x8,x9,x10,x11,x12,x13,x14,x15]) rfl W;refine aj ?_;rw[dm,w1,aO];refine comp_map (ds:=A.map λx=>bD x.1) (λi v M'=>M'=H/\v=((A.take i).map λx=>((x.1,(lk G x.1).getD 0):aB×Int)).map aN) (ay (by rw[P8];omega)) (λi v M' h=>by rw[h.1];exact w2) ⟨rfl,rfl⟩ ?_ ?_
  ·rintro i d v M' hd _ ⟨rfl,rfl⟩;rw[Qv] at hd;obtain⟨x,E,rfl⟩:=Qk.mp hd;obtain⟨u,hu,_⟩:=lG.get (Qh.mpr {x,QC E,rfl});refine{_,rfl,?_};rw[gP rfl (mL rfl rfl eg hu),aO,Ro,E];refine{rfl,?_};simp[hu]
  ·rintro v M' _ ⟨rfl,rfl⟩;rw[P8,List.take_length];exact bI.mpr {ay (by rw[P8,P8];omega),rfl,rfl}
 refine b4 (c4 ec) ?_;refine xM h hm hw (all.few (by rw[P8];omega)) {?_,by rw[P8];exact la,λe he=>?_} (p1.subN s2) `a λM' z6 z9 J O Q R S U q=>kk M' _ _ _ _ _ _ _ _ _ _ _ (q.mono `a)
 ·rw[P8,<- P8];exact List.length_pos_of_mem z0
 ·obtain⟨x,E,rfl⟩:=Qh.mp he;exact bA x.1 (Qh.mpr ⟨x,E,rfl⟩)
theorem zg (ht:t<6)(hp:aD M p B)(hB:B<=400000)
 (kk:∀M' z3 z4 R S U W X u z E H I J,aD M' p (B+900)->kf (.next [x0,some (.cell p),some (nD t),z3,z4,R,S,U,W,X,u,z,E,H,I,J]) M') :
 ae (zk (ag P 39) [x0,some (.cell p),some (nD t),x3,x4,x5,x6,x7,x8,x9,x10,x11,x12,x13,x14,x15] M) kf:=by
 refine cF (k:=λd M'=>∃m:aK,d=m.d/\aC m/\aD M' p (B+300)) ?_ ?_
 ·rw[uG,bR,aQ (af rfl rfl)];refine aI (Gh h.p.toHasP0 38 hp) ?_;rintro _ Y ⟨rfl,p1,k1⟩;rw[bR];refine bo.mpr {_,rfl,cg.mpr ?_};refine aI (F2 h.p h.h160 33 ht p1 `a) ?_
  rintro d j ⟨m,e,hm,p2,_⟩;exact⟨m,e,hm,p2⟩
 rintro _ Y ⟨m,rfl,hm,p1⟩;have lp:=p1.lt;obtain⟨d,j,e2,s2,hc⟩:=du.mp (zI h.b h.h158 h.h159 36 hm);refine b4 (c4 ((aQ (af rfl (af (xu rfl rfl {`d,`d} `d) rfl))).trans e2)) ?_
 simp only[List.set];have p2:=p1.subN s2;rcases hc with⟨rfl,mn⟩|⟨O,A,rfl,hf,Q,_,all,few⟩
 ·rw[iC];exact kk j _ _ _ _ _ _ _ _ _ _ _ _ _ (p2.mono `a)
 ·have tl:(eL (ak (ax .isN (aa 4) gN)) (ak (ax .gt (gZ (aa 4)) (gI 60)))) [x0,some (.cell p),some (nD t),some m.d,some (.fn (au O)),x5,x6,x7,x8,x9,x10,x11,x12,x13,x14,x15] j=.ok (decide (60<A.length)) j:=by
   have el:gZ (aa 4) [x0,some (.cell p),some (nD t),some m.d,some (.fn (au O)),x5,x6,x7,x8,x9,x10,x11,x12,x13,x14,x15] j=.ok (nD A.length) j:=by
    unfold gZ;rw[aq rfl];show(match bB j (au O) with|some q=>Res.ok (D.int q.2.length) j|none=>.bad)=_
    rw[eV Q];show Res.ok (D.int ((A.map _).length:Int)) j=_;rw[P8]
   refine(pK rfl (bN (jz (v:=decide (60<A.length)) el rfl ?_))).trans rfl;show some (decide ((60:Int)<(A.length:Int)))=_;rw[show decide ((60:Int)<(A.length:Int))=decide (60<A.length) from decide_eq_decide.mpr `a]
  rw[iC,tl];cases hd:decide (60<A.length) with
  |true=>exact kk j _ _ _ _ _ _ _ _ _ _ _ _ _ (p2.mono `a)
  | false =>
    have:=of_decide_eq_false hd;exact yI h hm `a Q (all `d).1 `a p2 `a λM' R S U W X u z E H I J q=>kk M' _ _ _ _ _ _ _ _ _ _ _ _ _ (q.mono `a)
omit h in
theorem MM (h:yx P)(ns:List Int)(hn:ns.length<=63):∃M,ag P 40 186 [.frz (ns.map D.int)] []=.ok (.bl true) M:=by
 have I:ae (ag P 40 186 [.frz (ns.map D.int)] []) λd _=>d=.bl true:=by
  refine aH h.h186 rfl ?_;show ae (oh (ag P 39) [some (.frz (ns.map D.int)),none,none,none,none,none,none,none,none,none,none,none,none,none,none,none] []) _;unfold oh;refine cF (k:=λd M'=>d=.cell 1/\aD M' 1 0) ?_ ?_
  ·rw[aQ (af rfl rfl)];exact F6 h.p.toHasP0 38 hn
  rintro _ M1 ⟨rfl,p1⟩;rw[aA,dh,fA,cZ];refine{3,rfl,{`d,`d},?_}
  refine dz (λi Z M'=>aD M' 1 (900*i)/\∃J O Q R S U W X j u v z E H,Z=[some (.frz (ns.map D.int)),some (.cell 1),J,O,Q,R,S,U,W,X,j,u,v,z,E,H]) (λ_ _ _ _=>rfl) {p1,_,_,_,_,_,_,_,_,_,_,_,_,_,_,rfl} ?_ ?_
  ·rintro i d Z M' hd ⟨Y,J,O,Q,R,S,U,W,X,j,u,v,z,E,H,rfl⟩;obtain⟨hi,rfl⟩:=nB hd;refine{_,rfl,?_};exact zg h `a Y `a λM2 z3 z4 z5 z6 z7 z8 z9 z10 z11 z12 z13 z14 z15 p2=>{_,rfl,p2.mono `a,_,_,_,_,_,_,_,_,_,_,_,_,_,_,rfl}
  ·rintro Z M' ⟨Y,J,O,Q,R,S,U,W,X,j,u,v,z,E,H,rfl⟩;rw[bt];exact bC rfl rfl
 obtain⟨d,M,e,rfl⟩:=du.mp I;exact⟨M,e⟩
end
end
end LD
end
set_option maxHeartbeats 0
namespace K22
open PySem PySem.Spec PyProof.Rows L2 LD
noncomputable def top (i:Nat):Stmt:=PySem.Challenge.pw_leastdeeds_k22_which_floors_show.main.body.getD i (.Pass {0,0,0,0})
noncomputable def q0:Str×Tok:=("leastdeeds.wholes",255)
noncomputable def q1:Str×Tok:=("leastdeeds.machines",266)
noncomputable def q2:Str×Tok:=("leastdeeds.runs",415)
noncomputable def q3:Str×Tok:=("leastdeeds.works",491)
noncomputable def q4:Str×Tok:=("leastdeeds.least",513)
noncomputable def q5:Str×Tok:=("law_leastdeeds_k22_which_floors_show",594)
noncomputable def tb:List Ent:=[{0,"is_between",top 6,3,["thing","low","high"],70,q0,jD,false,none,0},
 {1,"is_word",top 13,2,["words","thing"],77,q1,mV,false,none,0},
 {2,"is_place",top 14,2,["places","thing"],84,q1,l6,false,none,0},
 {3,"is_cost",top 15,1,["thing"],91,q1,m5,false,none,0},
 {4,"is_tuple_of",top 16,2,["long","thing"],98,q1,gq,false,none,0},
 {5,"is_table",top 17,2,["words","thing"],103,q1,l5,false,none,0},
 {6,"is_double_table",top 18,2,["words","thing"],108,q1,fZ,false,none,0},
 {7,"is_turn",top 19,3,["words","places","parts","at","table","price"],115,q1,mW,false,none,0},
 {8,"is_join",top 20,3,["words","places","parts","at","other","table","price"],122,q1,mY,false,none,0},
 {9,"is_move",top 21,3,["words","places","parts","at","other","price"],129,q1,mX,false,none,0},
 {10,"is_put",top 22,3,["words","places","parts","at","word","price"],136,q1,pe,false,none,0},
 {11,"is_deed",top 24,3,["words","places","thing","sort","is_sort"],144,q1,mZ,false,none,0},
 {12,"is_machine",top 25,1,["thing","words","places","deeds"],149,q1,jC,false,none,0},
 {13,"need_machine",top 26,1,["thing"],156,q1,ig,true,none,0},
 {14,"is_beginning",top 27,2,["machine","thing","words","places","deeds"],161,q1,c9,false,none,0},
 {15,"beginnings",top 28,1,["machine","words","places","deeds","starts","place"],166,q1,b8,true,none,0},
 {20,"turned",top 30,2,["deed","standing","sort","at","table","price"],173,q2,lX,false,none,0},
 {21,"joined",top 31,2,["deed","standing","sort","at","other","table","price"],180,q2,lZ,false,none,0},
 {22,"moved",top 32,2,["deed","standing","sort","at","other","price"],187,q2,n9,false,none,0},
 {23,"put_in",top 33,2,["deed","standing","sort","at","word","price"],194,q2,lY,false,none,0},
 {24,"done",top 35,2,["deed","standing","new_word","at"],202,q2,qh,false,none,0},
 {176,"are_behaviours",top 36,2,["machine","things","many"],207,q2,fh,false,none,0},
 {79,"is_work",top 38,2,["machine","thing"],212,q3,jV,false,none,0},
 {80,"need_work",top 39,2,["machine","work"],219,q3,j8,true,none,0},
 {81,"ends_do",top 40,2,["ends","work"],224,q3,gE,false,none,0},
 {151,"priced_leads",top 43,1,["machine","starts"],229,q4,dI,true,none,0},
 {152,"led_to",top 44,2,["lead","ends"],234,q4,dP,false,none,0},
 {165,"next_level",top 45,3,["leads","levels","found","price","level","number","step_price","lead","ahead","ends","new_ends"],241,q4,g7,true,none,0},
 {166,"reached",top 46,2,["machine","bound","leads","empty_ends","found","levels"],249,q4,jB,true,none,242},
 {167,"least",top 47,2,["machine","work","found","best","price","row","floors"],254,q4,og,true,none,0},
 {181,"highest_floors",top 48,1,["floors","highest","ends","floor"],261,q4,dQ,false,none,0},
 {182,"floor_holds",top 49,4,["leads","work","highest","ends","floor","step_price","lead","rest"],268,q4,d4,false,none,0},
 {183,"shows",top 50,4,["machine","work","number","floors","highest","empty_ends","leads"],273,q4,kJ,true,none,0},
 {28,"_law_spread",top 52,2,["cell","at","primes","one","two","three"],280,q5,mh,false,none,0},
 {29,"_law_open",top 53,1,["script","cells","k","cell"],287,q5,j9,false,none,0},
 {30,"_law_anew",top 54,1,["pen"],294,q5,ka,false,none,0},
 {31,"_law_take",top 55,2,["pen","many","at","cell","found"],301,q5,oz,false,none,0},
 {67,"_law_is_whole",top 56,1,["thing"],308,q5,g8,false,none,0},
 {32,"_law_tab",top 57,2,["pen","words","kind","word","other","found"],313,q5,iY,false,none,0},
 {33,"_law_deed",top 58,3,["pen","words","places","kind","price","at","other"],318,q5,iy,false,none,0},
 {34,"_law_machine",top 59,4,["pen","words","places","most","deeds","k","again","deed"],325,q5,fT,false,none,0},
 {35,"_law_row",top 60,3,["pen","machine","most","kind","many","found"],330,q5,fS,false,none,0},
 {41,"_law_after",top 61,2,["deed","end","here","own"],337,q5,jE,false,none,0},
 {42,"_law_begins",top 62,1,["machine"],342,q5,iN,false,none,0},
 {44,"_law_ends",top 63,2,["machine","row","found","end","number"],349,q5,ft,false,none,0},
 {158,"_law_behind",top 64,3,["machine","here","number"],354,q5,bS,false,none,0},
 {159,"_law_costs",top 65,2,["machine","bound","found","due","price","here","number","deed"],361,q5,fG,false,none,0},
 {68,"_law_is_in",top 66,3,["thing","low","high"],368,q5,m7,false,none,0},
 {69,"_law_numbers",top 67,4,["thing","many","low","high"],373,q5,kK,false,none,0},
 {160,"_law_some_machine",top 68,2,["pen","turn","size"],380,q5,fu,false,none,0},
 {83,"_law_wanted",top 69,2,["pen","machine","kind","free","begins","ends","found","at"],385,q5,iM,false,none,0},
 {84,"_law_does",top 70,2,["here","work"],390,q5,gi,false,none,0},
 {168,"_law_is_behaviour",top 71,2,["machine","here"],395,q5,fv,false,none,0},
 {169,"_law_shown",top 72,4,["machine","work","number","floors","best","here","many","at","left"],402,q5,fE,false,none,0},
 {184,"_law_lacks",top 73,3,["machine","work","prices","found","here","turned_v","at","price"],409,q5,fF,false,none,0},
 {185,"_law_bent_floors",top 74,3,["pen","machine","floors","kind","place","more","at","here","many","word","end","some","bent"],414,q5,eF,false,none,0},
 {186,"law",top 75,1,["script","pen","turn","machine","prices","work","found","number","floors","lists","start","told","k","many","some","handed"],419,q5,oh,true,none,0}]
def rs:Rs:={[zb,D2,yZ,D7,D6,D5,NS,zd,IM,D1,zf,IL,IE,ID,II,IG,IP,IF,yV,yX,D3,IH,D4,D9,D8,NR],[Iw,vT],[yH,DM],[yQ,DU,DV,DR,Iv],[DH,DJ,DL,yD,DK,Ii,Ij,Ik,Ih,yF]}
def Mp:Dx rs:={⟨y8,BK,yY,BP,BO,BN,IK,zc,FU,BJ,ze,FT,FN,FL,FR,FP,FV,FO,yU,yW,BL,FQ,BM,BR,BQ,IJ,trivial⟩,⟨FI,Md,trivial⟩,⟨yG,Bz,trivial⟩,⟨yP,BH,BI,BG,FG,trivial⟩,⟨Bv,Bw,By,yC,Bx,Fy,Fz,FA,Fx,yE,trivial⟩}
noncomputable def te0:List (Str×En):=List.map (λx=>(x,En.bl)) ["all","any","bool","enumerate","int","isinstance","len","list","max","min","range","str","tuple","zip"]
def te1:List (Str×En):=[("LEAST_WORDS",.int 2),("MOST_BEHAVIOURS",.int 255),("MOST_COST",.int 3),("MOST_DEEDS",.int 6),("MOST_PLACES",.int 2),("MOST_WORDS",.int 4),("NEW_WORDS",.dct cS),("SORTS",.dct eJ),("NoMachine",.xc 3),("NoWork",.xc 6),("TooMany",.xc 8),("DeedError",.de)]
def te:List (Str×En):=te0++te1
def tbl:m9:={(tb.filter (·.q.isNone)).map (λe=>(e.x,if e.i==166 then En.fnD e.i else En.fn e.i e.r))++te,[],[],[("NEW_WORDS",cS),("SORTS",eJ)],[],[(127,12,14),(133,42,67),(141,29,31),(142,13,27),(149,40,45),(151,24,35),(153,13,90),(153,57,62),(156,14,16),(180,68,75),(192,12,29),(195,11,24),(226,12,30),(245,12,14),(261,11,20),(277,12,14),(286,12,14),(287,10,41),(287,11,40),(297,35,37),(315,12,36),(317,16,62),(322,16,83),(331,11,13),(347,12,14),(348,16,22),(353,20,26),(387,50,56),(388,16,97),(390,16,105)],[(124,18,27),(132,15,36),(133,16,31),(133,42,53),(135,19,29),(141,12,33),(149,16,27),(151,24,35),(153,29,40),(153,66,77),(156,14,16),(158,8,21),(161,12,25),(177,7,32),(177,36,55),(286,12,14),(291,15,32),(292,16,27),(293,19,29),(331,11,13),(335,8,18),(347,12,14),(349,8,19),(355,45,82),(356,27,38),(357,20,31),(382,29,40),(386,17,51),(387,25,36)],[],rs,tb}
def Pg:Nat->Option Df:=tbl.Pg
def Mq:∀c,tb.map (tbl.rd c)=tb.map λe=>some (e.b c):=λc=>by kernel_rfl
def tab:yq tbl:={Mp,Mq,by kernel_rfl,by kernel_rfl,λ_ _ _ _ _ _=>by kernel_rfl,λ_ _ _ _ _ _ _=>by kernel_rfl,λ_ _ _ _ _ _ _ _=>by kernel_rfl,λ_ _ _ _ _ _ _ _ _=>by kernel_rfl,λ_ _ _ _ _ _ _ _ _ _=>by kernel_rfl,λ_ _ _ _ _ _ _ _ _ _ _ _=>by kernel_rfl,by rw[show tbl.tb.filter (λe=>!(e.df==0))=[tb[28]] from by kernel_rfl];exact{{rfl,λ_ _ _ _ _ _ _ _=>{_,_,rfl,rfl,rfl,rfl}},trivial}}
def fa:Fa:=LD.wz (tb.map (λe=>(e.i,e.f))++[(666,1)]) [(3,37),(6,49),(8,61)] 24
def CQ:∀ns:List Int,ns.length<=63->∃M,ag Pg 40 186 [.frz (ns.map D.int)] []=.ok (.bl true) M:=MM (by repeat' (first|rfl|constructor))
end K22
open PySem PySem.W PyProof.Rows K22
set_option maxRecDepth 100000 in
set_option maxHeartbeats 0 in
theorem PySem.Challenge.cw_leastdeeds_k22_which_floors_show_holds : PySem.Challenge.rw_leastdeeds_k22_which_floors_show.Holds := by
 w_on;o_law
 refine PySem.W.holds_open (r:=K22.xQ) (q:=K22.kq) (loose:=K22.pO) (Xt:=fun s=>PySem.W.xlAt K22.kq [] s&&PySem.W.recOk (PySem.W.RowW.records K22.xQ.toRowW) s) (XP:=PySem.W.XL K22.kq []) (Yf:=K22.kH.obs) (Ya:=K22.kH.val) (YP:=K22.kH.says) (N:=5740) K22.MN K22.kH.of K22.kH.keeps (fun s e=>PySem.W.xl_of s (R1.mp e).1) PySem.W.XL.keeps `r `r `r (fun s e=>PySem.W.recFacts_of (R1.mp e).2) `r (by first|assumption|decide +kernel) `k ⟨rfl,rfl,rfl,rfl,rfl,`k⟩ ?hw ?hc
 case hw=>w_witness2
 refine L2.FE (l:=PySem.Challenge.rw_leastdeeds_k22_which_floors_show) (n:=63) (k:=84) (x:="script") (CX:=fun w=>LD.iS PySem.Challenge.rw_leastdeeds_k22_which_floors_show.prog w) (K:=K22.kh) (sp:=fun w=>LD.Ee (K22.kh w.params)) rfl `d rfl ⟨rfl,`d,`d,rfl⟩ (fun w h Y=>PySem.W.kIn_of Y) ?F (fun w H a ns hl hO hS=>⟨a,ns,rfl,hS,hO,hl,fun _=>rfl⟩) (fun _ _ _ _ _ z=>let⟨_,_,_,_,_,_,_,_,_,_,q⟩:=z;q)
 case F=>
  intro w mg fa h KX G hmg;have tk:LD.Bt (K22.kh w.params) K22.tb:=⟨by kernel_rfl,by kernel_rfl,by kernel_rfl,by kernel_rfl⟩
  obtain⟨m,fd,F⟩:=LD.FZ tk KX G (e:=K22.tb[56]) (Sa _) rfl rfl;have d_NEW_WORDS:=LD.v7 (x:="NEW_WORDS") (P:=w.params) (fa:=K22.fa) (fs:=LD.cS) (ad:=195) (es:=#[{hash:=PySem.PyData.keyHash w.params (PySem.Str.ofString "turn"),key:=PySem.Value.str (PySem.Str.ofString "turn") 466,val:=PySem.Value.ref 173},{hash:=PySem.PyData.keyHash w.params (PySem.Str.ofString "join"),key:=PySem.Value.str (PySem.Str.ofString "join") 467,val:=PySem.Value.ref 180},{hash:=PySem.PyData.keyHash w.params (PySem.Str.ofString "move"),key:=PySem.Value.str (PySem.Str.ofString "move") 468,val:=PySem.Value.ref 187},{hash:=PySem.PyData.keyHash w.params (PySem.Str.ofString "put"),key:=PySem.Value.str (PySem.Str.ofString "put") 469,val:=PySem.Value.ref 194}]) (n:=4) KX G (by kernel_rfl) (by kernel_rfl) (by exact LD.gD (LD.gD (LD.gD (LD.gD (LD.AJ))))) `k `d (by exact .cons ⟨rfl,rfl⟩ (.cons ⟨rfl,rfl⟩ (.cons ⟨rfl,rfl⟩ (.cons ⟨rfl,rfl⟩ (.nil)))))
  have d_SORTS:=LD.v7 (x:="SORTS") (P:=w.params) (fa:=K22.fa) (fs:=LD.eJ) (ad:=137) (es:=#[{hash:=PySem.PyData.keyHash w.params (PySem.Str.ofString "turn"),key:=PySem.Value.str (PySem.Str.ofString "turn") 370,val:=PySem.Value.ref 115},{hash:=PySem.PyData.keyHash w.params (PySem.Str.ofString "join"),key:=PySem.Value.str (PySem.Str.ofString "join") 371,val:=PySem.Value.ref 122},{hash:=PySem.PyData.keyHash w.params (PySem.Str.ofString "move"),key:=PySem.Value.str (PySem.Str.ofString "move") 372,val:=PySem.Value.ref 129},{hash:=PySem.PyData.keyHash w.params (PySem.Str.ofString "put"),key:=PySem.Value.str (PySem.Str.ofString "put") 373,val:=PySem.Value.ref 136}]) (n:=4) KX G (by kernel_rfl) (by kernel_rfl) (by exact LD.gD (LD.gD (LD.gD (LD.gD (LD.AJ))))) `k `d (by exact .cons ⟨rfl,rfl⟩ (.cons ⟨rfl,rfl⟩ (.cons ⟨rfl,rfl⟩ (.cons ⟨rfl,rfl⟩ (.nil)))))
  have TO:=fun base=>LD.FY (base:=base) (P:=PySem.Challenge.rw_leastdeeds_k22_which_floors_show.prog) (w:=w) (t:=K22.tbl) (fa:=K22.fa) KX G (by kernel_rfl) (LD.Im (by kernel_rfl)) (LD.J3 (by kernel_rfl)) (LD.Dd (by kernel_rfl)) ⟨rfl,rfl⟩ ⟨d_NEW_WORDS,d_SORTS,trivial⟩ trivial
  have tw:LD.AllP (fun q=>LD.Fp K22.fa (K22.kh w.params) mg q.1 q.2.1 q.2.2.1 q.2.2.2) K22.tbl.tw:=trivial
  have xf:LD.AllP (fun f=>LD.Fn K22.fa (K22.kh w.params) f) K22.tbl.xf:=trivial
  have ms:∀q∈K22.tbl.ms,LD.qm K22.fa (K22.kh w.params) q.1 q.2.1 q.2.2:=LD.Ki (by kernel_rfl)
  have e:=hmg.symm.trans m;cases e;exact⟨fd,fun s v=>by
   obtain⟨oc,od,kV,doc,pm,an,cdv,ct,osl,rfl,lk,hcd⟩:=F.ex;exact .of_eq rfl,fun base _ _=>LD.Ks (n:=39) (f:=186) (LD.B3 K22.tab tk KX G (TO base) tw.mem xf.mem ms (by kernel_rfl)) K22.CQ rfl F (LD.pW (e:=K22.tb[56]) (Qt.mp K22.tab.sc K22.tb[56] (Sa _))).1 rfl fun c n a b d s H E C hr=>LD.sZ (e:=K22.tb[56]) K22.tab (TO base) tw.mem xf.mem ms (Sa _) c n a b d s H E C hr⟩
