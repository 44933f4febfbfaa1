import PyProof.Rows.All
import Wide.All
import OpenK.AllK
import Wide.FinOn
import Lean
import PyProof.EqAt
import PyProof.EqKinds
import PyProof.TupleCall
import PyProof.StrOps
import PyProof.MeetsStr
import PyProof.StrLawsJoin
import PySem.Challenge.RW_leastdeeds_k51_changes_refused
set_option Elab.async false
set_option linter.all false
set_option maxRecDepth 100000
set_option tactic.hygienic false
set_option autoImplicit true
set_option relaxedAutoImplicit true
set_option genSizeOfSpec false
set_option genSizeOf false
set_option maxHeartbeats 0
set_option bootstrap.genMatcherCode false
set_option genSizeOf false
noncomputable section
local macro_rules(kind:=«term{_}»)|`({$a:term,*})=>`(⟨$a,*⟩)
local macro_rules(kind:=Lean.Parser.Term.quotedName)|x=>match x[0].isNameLit?.getD .anonymous|>.toString with|"a"=>`(by omega)|"d"=>`(by decide)|"s"=>`(by simp)|"o"=>`(by simp;omega)|"k"=>`(by decide +kernel)|"r"=>`(by rfl)|_=>Lean.Macro.throwUnsupported
local macro_rules|`(tactic|omega)=>`(tactic|first|(simp +arith;done)|lia|omega(config:={}))
abbrev tqa:=@PySem.wpAny_bind
abbrev tqb:=@PySem.wpAny_pure
abbrev tqf:=@PySem.wpAny_field
abbrev tqo:=@PySem.wpAny_holding
abbrev tqp:=@PySem.wpAny_truthy_bool
abbrev Q9:=@PySem.W.Frag
abbrev Ra:=@Bool.and_eq_true
abbrev Rb:=@List.getElem?_eq_some_iff
abbrev Rf:=@PySem.Heap.get?_push_of_some
abbrev Rg:=@PySem.Value
abbrev Rh:=@Nat.le_of_ble_eq_true
abbrev Rj:=@Nat.le_refl
abbrev Rk:=@List.mem_cons_of_mem
abbrev Rl:=@PySem.Shared
abbrev Rn:=@List.length_map
abbrev Ro:=@Option.some.inj
abbrev Rp:=@Nat.le_trans
abbrev Rq:=@List.all_eq_true
abbrev Ru:=@List.size_toArray
abbrev Rv:=@List.mem_cons
abbrev Rw:=@List.mem_cons_self
abbrev Rx:=@List.getElem?_set_ne
abbrev Ry:=@Option.map_eq_some_iff
abbrev Rz:=@PySem.Heap.lt_size
abbrev RA:=@List.mem_singleton
abbrev RB:=@PySem.Heap.get?_push_size
abbrev RD:=@Nat.lt_of_lt_of_le
abbrev RE:=@List.getElem?_eq_getElem
abbrev RF:=@List.getElem?_set_self
abbrev RH:=@List.mem_of_getElem?
abbrev RI:=@List.mem_map
abbrev RJ:=@beq_eq_false_iff_ne
abbrev RK:=@List.mem_append
abbrev RL:=@Bool.false_ne_true
abbrev RM:=@List.lookup_cons
abbrev RN:=@List.getElem?_append_left
abbrev RO:=@List.length_append
abbrev RS:=@PySem.World
abbrev RT:=@List.not_mem_nil
abbrev RX:=@Nat.ne_of_lt
abbrev RY:=@List.all_cons
abbrev RZ:=@Array.getElem?_eq_some_iff
abbrev R0:=@PySem.Program
abbrev R1:=@List.length_cons
abbrev R3:=@PyProof.Rows.slot_tuple_getitem
abbrev R4:=@Option.bind_eq_some_iff
abbrev R5:=@List.getElem?_map
abbrev R6:=@List.getElem?_cons_zero
abbrev R7:=@List.getElem?_cons_succ
abbrev R8:=@List.mem_append_right
abbrev R9:=@List.mem_of_mem_take
abbrev Sa:=@PySem.OsState
abbrev Sb:=@PySem.W.kia_one
abbrev Sd:=@PySem.W.SharedT
abbrev Se:=@List.length_take
abbrev Sf:=@PySem.Heap.get?_update_other
abbrev Sg:=@Option.getD_some
abbrev Sh:=@Nat.add_sub_cancel_left
abbrev Si:=@List.getElem?_append_right
abbrev Sj:=@Iff.rfl
abbrev Sk:=@List.map_cons
abbrev Sl:=@List.getElem_mem
abbrev Sm:=@PyProof.Rows.callWith_type1
abbrev Sn:=@Option.some.injEq
abbrev So:=@Ne.symm
abbrev Sq:=@List.getD_eq_getElem?_getD
abbrev Sr:=@Nat.ne_of_gt
abbrev Ss:=@Option.isNone_iff_eq_none
abbrev Su:=@PySem.W.mg_of
abbrev Sv:=@Nat.lt_irrefl
abbrev Sw:=@PySem.Around
abbrev Sx:=@List.mem_append_left
abbrev Sy:=@PySem.Obj.data_mapFields
abbrev Sz:=@List.take_of_length_le
abbrev SA:=@List.exists_of_findSome?_eq_some
abbrev SD:=@Int.toNat_natCast
abbrev SF:=@List.map_append
abbrev SG:=@List.getElem?_eq_none
abbrev SH:=@PySem.Env
abbrev SI:=@Nat.le_add_right
abbrev SJ:=@PySem.Heap.get?_update_self
abbrev SK:=@List.mem_of_mem_drop
abbrev SM:=@PySem.Params
abbrev SN:=@List.length_range
abbrev SO:=@PySem.Heap.size_push
abbrev SQ:=@List.replicate_succ
abbrev SR:=@Nat.le_succ
abbrev SU:=@PySem.W.callWith_K
abbrev SV:=@List.take_succ
abbrev SY:=@Int.emod_lt_of_pos
abbrev S0:=@List.findIdx?_eq_some_iff_getElem
abbrev S1:=@List.append_nil
abbrev S3:=@Int.emod_nonneg
abbrev S4:=@Bool.or_eq_true
abbrev S5:=@Bool.not_eq_true'
abbrev S6:=@PySem.DictEntry
abbrev S7:=@Array.length_toList
abbrev S8:=@PySem.W.InstAt
abbrev S9:=@PySem.F.plainAttrs_list
abbrev Ta:=@Option.bind_some
abbrev Tb:=@List.getElem?_replicate
abbrev Tc:=@Nat.zero_le
abbrev Td:=@List.nil_append
abbrev Te:=@List.mem_filter
abbrev Tf:=@Bool.eq_iff_iff
abbrev Tg:=@List.map_take
abbrev Ti:=@PySem.W.methodCall_KW
abbrev Tj:=@List.reverse_cons
abbrev Tn:=@List.flatten_cons
abbrev To:=@PySem.Paired
abbrev Tp:=@Bool.and_eq_true_iff
abbrev Tq:=@PySem.Obj.isFreed_of_fields
abbrev Tr:=@List.mem_of_find?_eq_some
abbrev Ts:=@PySem.mem_of_lookup
abbrev Tt:=@List.filterMap_cons
abbrev Tu:=@Int.toNat_of_nonneg
abbrev Tv:=@PySem.Heap.get?_none_of_le
abbrev Tw:=@beq_iff_eq
abbrev Tx:=@List.length_eq_zero_iff
namespace HD
open PySem PySem.W
noncomputable def iA (tb:String->Option Builtin)(p:R0)(w:RS)(n0:Nat)(ann:Option Rg):Nat->Sd->Thread->Option Sd
 |0,_,_=>none
 | n+1,s,t=>match through t with
   |true=>some s
   | false=>match stepOk n0 ann t with
     |false=>none
     | true=>match stepT (denote tb) p w s t with
       |some (s',t')=>iA tb p w n0 ann n s' t'
       |none=>none
theorem se {tb:String->Option Builtin}{p:R0}{w:RS}{n0:Nat}{ann:Option Rg}:∀{n:Nat}{s s':Sd}{t:Thread},iA tb p w n0 ann n s t=some s'->topRun tb p w n0 ann n s.abs t=some s'.abs
 |0,_,_,_,h=>by cases h
 | n+1,s,s',t,h=>by
   unfold iA at h;unfold topRun;cases he:through t with
   |true=>rw[he] at h;cases h;rfl
   | false=>
     rw[he] at h;cases hk:stepOk n0 ann t with
     |false=>rw[hk] at h;cases h
     | true=>
       rw[hk] at h;cases hs:stepT (denote tb) p w s t with
       |none=>rw[hs] at h;cases h
       |some r=>obtain⟨s2,t2⟩:=r;rw[hs] at h;rw[stepT_spec hs];exact se h
noncomputable def treeOf:List Obj->Nat->BT->BT
 |[],_,t=>t
 |o::r,n,t=>treeOf r (n+1) (t.ins n o)
def zk (P:SM)(os:Sa):Sd:={treeOf (boot_heap P).objs.toList 0 .nil,(boot_heap P).objs.toList.length,(boot_heap P).life,#[],boot_drawn,boot_toks,os}
def boot_abs (P:SM)(os:Sa):(zk P os).abs={boot_heap P,#[],boot_drawn,boot_toks,os}:=by kernel_rfl
noncomputable def lS (p q:R0)(loose:List Str)(Xt:Rl->Bool)(g0:Bool)(h0:Heap){α:Type}(Yf:Rl->α)(s:Rl):=
 ((staticsOk (importedModules p.main.body) h0 s.heap&&namesBound p s.heap&&gensDone s&&laidKept h0 s.heap),openSeen q loose (importedModules p.main.body) Xt g0 s,Yf s)
noncomputable def xA (tb:String->Option Builtin)(p:R0)(w:RS)(n0:Nat)(ann:Option Rg):Nat->Sd->Thread->Option (Sd×Thread)
 |0,s,t=>some (s,t)
 | n+1,s,t=>match through t with
   |true=>none
   | false=>match stepOk n0 ann t with
     |false=>none
     | true=>match stepT (denote tb) p w s t with
       |some (s',t')=>xA tb p w n0 ann n s' t'
       |none=>none
noncomputable def lN (tb:String->Option Builtin)(p:R0)(w:RS)(n0:Nat)(ann:Option Rg):Nat->Sd->Thread->Option (Flow×Sd×Code×Pos)
 |0,_,_=>none
 | n+1,s,t=>match endAt 1 t with
   |some f=>some (f,s,t.code,t.pos)
   | none=>match stepOk n0 ann t with
     |false=>none
     | true=>match stepT (denote tb) p w s t with
       |some (s',t')=>lN tb p w n0 ann n s' t'
       |none=>none
section
variable{tb:String->Option Builtin}{p:R0}{w:RS}{n0:Nat}{ann:Option Rg}
theorem Bv:∀{n:Nat}{s s':Sd}{t t':Thread},xA tb p w n0 ann n s t=some (s',t')->topGo tb p w n0 ann n s.abs t=some (s'.abs,t')
 |0,s,s',t,t',h=>by cases h;rfl
 | n+1,s,s',t,t',h=>by
   unfold xA at h;unfold topGo;cases he:through t with
   |true=>rw[he] at h;cases h
   | false=>
     rw[he] at h;cases hk:stepOk n0 ann t with
     |false=>rw[hk] at h;cases h
     | true=>
       rw[hk] at h;cases hs:stepT (denote tb) p w s t with
       |none=>rw[hs] at h;cases h
       |some q=>obtain⟨s2,t2⟩:=q;rw[hs] at h;rw[stepT_spec hs];exact Bv h
theorem ra:∀{n:Nat}{s s':Sd}{t:Thread}{f:Flow}{c:Code}{q:Pos},lN tb p w n0 ann n s t=some (f,s',c,q)->segRun tb p w n0 ann 1 n s.abs t=some (f,s'.abs,c,q)
 |0,_,_,_,_,_,_,h=>by cases h
 | n+1,s,s',t,f,c,q,h=>by
   unfold lN at h;unfold segRun;cases he:endAt 1 t with
   |some g=>rw[he] at h;cases h;rfl
   | none=>
     rw[he] at h;cases hk:stepOk n0 ann t with
     |false=>rw[hk] at h;cases h
     | true=>
       rw[hk] at h;cases hs:stepT (denote tb) p w s t with
       |none=>rw[hs] at h;cases h
       |some x=>obtain⟨s2,t2⟩:=x;rw[hs] at h;rw[stepT_spec hs];exact ra h
def vK {n3 N:Nat}{s s2:Sd}{env:Env}{c:Code}{p' p2 q:Pos}{b:List Stmt}{J:Nat}{α:Type}{f:Rl->α}{a:α}
 (h3:lN tb p w n0 ann n3 s (piecesOf (b.take J) env c p' [topFrame q])=some (.next,s2,c,p2))
 (h4:(topRun tb p w n0 ann N s2.abs (restOf (b.drop J) env c p2 [topFrame q])).map f=some a):(topRun tb p w n0 ann (n3+N) s.abs (restOf b env c p' [topFrame q])).map f=some a:=by
 obtain⟨r,e3,e4⟩:=Ry.mp h4;have k4:=piece_app (ra h3) e3;rw[List.take_append_drop] at k4;rw[k4];exact congrArg some e4
def BK {N:Nat}{s2:Sd}{t:Thread}{p' q:R0}{loose:List Str}{Xt:Rl->Bool}{g0:Bool}{h0:Heap}{α:Type}{Yf:Rl->α}{a b c}
 (h1:(iA tb p w n0 ann N s2 t).map (λs=>(lS p' q loose Xt g0 h0 Yf s.abs).1)=some a) (h2:(iA tb p w n0 ann N s2 t).map (λs=>(lS p' q loose Xt g0 h0 Yf s.abs).2.1)=some b)
 (h3:(iA tb p w n0 ann N s2 t).map (λs=>(lS p' q loose Xt g0 h0 Yf s.abs).2.2)=some c):(topRun tb p w n0 ann N s2.abs t).map (lS p' q loose Xt g0 h0 Yf)=some (a,b,c):=by
 obtain⟨r,e3,rfl⟩:=Ry.mp h1;rw[e3] at h2 h3;cases h2;cases h3;rw[se e3];rfl
def BL {n1 n2 N:Nat}{s s':Sd}{env:Env}{c:Code}{pos p' q:Pos}{t:Thread}{b:List Stmt}{J:Nat}{α:Type}{f:Rl->α}{a:α}
 (h1:(xA tb p w n0 ann n1 s t).map (·.2)=some {denote tb (.body b env),c,pos,[topFrame q]}) (h0:endAt 1 (blockOf b env c pos [topFrame q])=some .next)
 (h2:((xA tb p w n0 ann n1 s t).bind λx=>lN tb p w n0 ann n2 x.1 (piecesOf (b.take J) env c pos [topFrame q]))=some (.next,s',c,p'))
 (h3:(topRun tb p w n0 ann N s'.abs (restOf (b.drop J) env c p' [topFrame q])).map f=some a):(topRun tb p w n0 ann (n1+(1+(n2+N))) s.abs t).map f=some a:=by
 obtain⟨⟨s1,t1⟩,e1,e2⟩:=Ry.mp h1;have e2:t1={denote tb (.body b env),c,pos,[topFrame q]}:=e2;subst e2;rw[e1] at h2;have h2:lN tb p w n0 ann n2 s1 (piecesOf (b.take J) env c pos [topFrame q])=some (.next,s',c,p'):=h2
 obtain⟨r,e3,e4⟩:=Ry.mp h3;have k3:=piece_app (ra h2) e3;rw[List.take_append_drop] at k3;have hb:segRun tb p w n0 ann 1 1 s1.abs (blockOf b env c pos [topFrame q])=some (.next,s1.abs,c,pos):=by
  show(match endAt 1 (blockOf b env c pos [topFrame q]) with|some f=>some (f,s1.abs,c,pos)|none=>_)=_
  rw[h0]
 have k2:=piece_block hb k3;rw[go_top (Bv e1) k2];exact congrArg some e4
end
def wj {p q:R0}{loose:List Str}{Xt:Rl->Bool}{α:Type}{Yf:Rl->α}{Ya:RS->α}{N:Nat}{g0:Bool}{m0:Nat}{ann:Option Rg}
 (open_:∀w:RS,(fencedOpening treeTable p w N).map (λs=>(s.heap,s.gens,s.drawn,s.toks))=some (boot_heap w.params,Array.mk [],boot_drawn,boot_toks))
 (size:∀w:RS,((boot_heap w.params).isNs mainGlobals&&(Array.mk ([]:List GenState)).size==0,(boot_heap w.params).objs.size,(boot_heap w.params).nsMap mainGlobals "__annotations__")=(true,m0,ann))
 (run:∀(w:RS) (os:Sa),(topRun treeTable p w m0 ann N (zk w.params os).abs (topStub p)).map (lS p q loose Xt g0 (boot_heap w.params) Yf)=some (true,openGood q loose,Ya w)):LeftO p q loose Xt Yf Ya N g0:=λw=>by
 obtain⟨⟨h,gs,d,k,os⟩,e,e'⟩:=Ry.mp (open_ w);obtain⟨rfl,rfl,rfl,rfl⟩:h=boot_heap w.params/\gs=Array.mk []/\d=boot_drawn/\k=boot_toks:=by simpa using e'
 obtain⟨z1,z2,z3⟩:_/\_/\_:=by simpa only[Prod.mk.injEq] using size w
 obtain⟨s1,r,l⟩:=Ry.mp (run w os);obtain⟨l1,l2,l3⟩:_/\_/\_:=by simpa only[lS,Prod.mk.injEq] using l
 rw[boot_abs] at r;have t:topFrom treeTable p w N {boot_heap w.params,Array.mk [],boot_drawn,boot_toks,os}=some s1:=by
  unfold topFrom;dsimp only;rw[z1,z2,z3,r];show(match staticsOk (importedModules p.main.body) (boot_heap w.params) s1.heap&&namesBound p s1.heap&&gensDone s1&&laidKept (boot_heap w.params) s1.heap with|true=>_|false=>_)=_
  rw[l1]
 unfold openEnds;rw[e];show(topFrom treeTable p w N _).map _=_;rw[t];exact congrArg some (Prod.ext l2 l3)
end HD
namespace K51
open PySem
abbrev eN (P:SM)(x:Str)(n:Nat)(v:Rg):S6:={PyData.keyHash P x,.str x n,v}
noncomputable def rD (j:Nat)(s:Stmt):Stmt:=match s with
 |.ClassDef _ _ _ b _ _ _ _ _ _ _=>b.getD j s
 |_=>s
noncomputable def iH (i:Nat):Stmt:=PySem.Challenge.pw_leastdeeds_k51_changes_refused.main.body.getD i (.Pass {0,0,0,0})
noncomputable def tV (s:Stmt):Arguments:=match s with
 |.FunctionDef _ a _ _ _ _ _ _ _ _=>a
 |_=>{[],[],none,[],[],none,[]}
noncomputable def tU (s:Stmt):List Stmt:=match s with
 |.FunctionDef _ _ b _ _ _ _ _ _ _=>b
 |_=>[]
noncomputable def qt (s:Stmt):Scope:=match s with
 |.FunctionDef _ _ _ _ _ _ sc _ _ _=>sc
 |_=>{kind:=.function,names:=[],isGenerator:=false,isCoroutine:=false}
noncomputable def o1:Obj:={cls:=.type "tuple" ,data:=.seq #[]}
noncomputable def o2 (a:String)(b:Nat)(c:Int)(d:Nat)(e:Int):Obj:={cls:=.type "code" ,data:=.fields #[.str (Str.ofString a) b,.str (Str.ofString a) (b+1),.str ("/claim/cut.py") (b+2),.int c 0,.int 0 0,.int 0 0,.int 0 0,.int 0 0,.ref d,.bool false,.int 181 0,.ref (d+1),.none,.none,.none,.none,.int e 0,.int c 0,.str ("/claim/cut.py") (b+4)]}
noncomputable def o3 (a:Nat)(b:Nat)(c:String)(d:Nat):Obj:={cls:=.type "frame" ,slots:=#[some (.ref a),some (.ref 3),some (.ref b),none,some (.str (Str.ofString c) d),none,some (.ref 0)]}
def o4:Obj:={cls:=.type "builtin_function_or_method" ,data:=.fields #[.builtin "type.__prepare__" ,.type "type"]}
def o5 (P:SM)(a:Nat)(b:String)(c:Int)(d:Nat):Obj:={cls:=.type "dict" ,data:=.dict #[eN P "__module__" a (.str ("leastdeeds.errors") 194),eN P "__qualname__" (a+2) (.str (Str.ofString b) (a+1)),eN P "__firstlineno__" (a+4) (.int c (a+3)),eN P "__static_attributes__" (a+5) (.ref d)] 4}
def o6:Obj:={cls:=.none,data:=.fields #[]}
def o7 (P:SM)(a:Nat)(b:Int)(c:String)(d:Nat)(e:Nat)(f:String)(g:Nat)(h:Nat):Obj:={cls:=.type "dict" ,data:=.dict #[eN P "__module__" a (.str ("leastdeeds.errors") 194),eN P "__firstlineno__" (a+4) (.int b (a+3)),{hash:=PyData.keyHash P (Str.ofString c),key:=.str (Str.ofString c) d,val:=.ref e},{hash:=PyData.keyHash P (Str.ofString f),key:=.str (Str.ofString f) (d+2),val:=.ref g},eN P "__doc__" (d+3) (.none)] h}
def o8 (a:Nat)(b:Nat):Obj:={cls:=.type "getset_descriptor" ,data:=.fields #[.str ("__weakref__") a,.ref b,.builtin "ExceptionGroup.__weakref__" ,.none]}
def o9 (a:Nat):Obj:={cls:=.type "super" ,data:=.fields #[.ref a,.ref a,.ref a]}
def jo (a:Nat):Obj:={cls:=.type "builtin_function_or_method" ,data:=.fields #[.builtin "object.__init_subclass__" ,.ref a]}
def ki:Obj:={cls:=.type "tuple" ,data:=.seq #[.ref 31]}
def Ly (P:SM)(a:Nat)(b:String)(c:Int)(d:Nat):Obj:={cls:=.type "dict" ,data:=.dict #[eN P "__module__" a (.str ("leastdeeds.errors") 194),eN P "__qualname__" (a+2) (.str (Str.ofString b) (a+1)),eN P "__firstlineno__" (a+4) (.int c (a+3)),eN P "__init__" (a+12) (.ref d),eN P "__static_attributes__" (a+14) (.ref (d+1))] 5}
def Lx (a:Int)(b:Nat):Obj:={cls:=.none,data:=.fields #[.int a 0,.int 4 0,.ref b]}
def A4 (a:Nat)(b:String):Obj:={cls:=.type "tuple" ,data:=.seq #[.str ("self") a,.str (Str.ofString b) (a+1)]}
def kW (a:String)(b:String)(c:Nat)(d:Nat):Obj:={cls:=.none,data:=.func {name:=Str.ofString a,qualname:=Str.ofString b,params:=tV (rD c (iH d)),body:=PySem.FuncBody.stmts (tU (rD c (iH d))),scope:=qt (rD c (iH d)),globals:=0,closure:=[],defaults:=.none,kwdefaults:=.none,pyModule:=.none,code:=.none}}
def kU (a:String)(b:Nat)(c:String)(d:Int)(e:Int)(f:Nat)(g:Int)(h:Nat):Obj:={cls:=.type "code" ,data:=.fields #[.str (Str.ofString a) b,.str (Str.ofString c) (b+1),.str ("/claim/cut.py") (b+2),.int d 0,.int e 0,.int 0 0,.int 0 0,.int 3 0,.ref f,.bool true,.int 181 0,.ref (f+1),.none,.ref (f+2),.ref (f+3),.ref (f+4),.int g 0,.int d 0,.str ("/claim/cut.py") h]}
def kT (a:String)(b:String)(c:Nat)(d:Nat)(e:String)(f:Nat)(g:Nat):Obj:={cls:=.type "function" ,data:=.func {name:=Str.ofString a,qualname:=Str.ofString b,params:=tV (rD c (iH d)),body:=PySem.FuncBody.stmts (tU (rD c (iH d))),scope:=qt (rD c (iH d)),globals:=3,closure:=[],defaults:=.none,kwdefaults:=.none,pyModule:=.str (Str.ofString e) f,code:=.ref g}}
def sG (a:String)(b:Nat):Obj:={cls:=.type "tuple" ,data:=.seq #[.str (Str.ofString a) b]}
def kg (a:String)(b:Nat)(c:Nat)(d:Nat)(e:Nat):Obj:={cls:=.type "type" ,data:=.cls {name:=Str.ofString a,bases:=[.ref 31],mro:=[.ref b,.ref 31,.type "ValueError" ,.type "Exception" ,.type "BaseException" ,.type "object"],ns:=c,qualname:=Str.ofString a},slots:=#[some (.ref d),none,some (.str (Str.ofString a) e),some (.str (Str.ofString a) (e+8)),some (.builtin "ValueError.__new__"),some (.bool true)]}
def mO (P:SM)(a:Nat)(b:Int)(c:Nat):Obj:={cls:=.type "dict" ,data:=.dict #[eN P "__module__" a (.str ("leastdeeds.errors") 194),eN P "__firstlineno__" (a+4) (.int b (a+3)),eN P "__static_attributes__" (a+5) (.ref c),eN P "__doc__" (a+6) (.none)] 2}
def Pb (P:SM)(a:Nat)(b:Nat):Obj:={cls:=.type "dict" ,data:=.dict #[eN P "turn" a (.ref b),eN P "join" (a+1) (.ref (b+7)),eN P "move" (a+2) (.ref (b+14)),eN P "put" (a+3) (.ref (b+21))] 4}
def Fx (a:String)(b:Nat)(c:String)(d:String):Obj:={cls:=.type "tuple" ,data:=.seq #[.str (Str.ofString a) b,.str (Str.ofString c) (b+1),.str (Str.ofString d) (b+2)]}
def o23 (P:SM):Obj:={cls:=.type "dict" ,data:=.dict #[eN P "__module__" 773 (.str ("leastdeeds.shop") 764),eN P "__firstlineno__" 777 (.int 170 776),eN P "__init__" 786 (.ref 423),eN P "row" 793 (.ref 430),eN P "cost" 800 (.ref 437),eN P "behaviour" 807 (.ref 444),eN P "least" 814 (.ref 451),eN P "put" 823 (.ref 458),eN P "out" 831 (.ref 465),eN P "back" 838 (.ref 472),eN P "change" 846 (.ref 479),eN P "give" 855 (.ref 486),eN P "__static_attributes__" 859 (.ref 487),eN P "__dict__" 861 (.ref 490),eN P "__weakref__" 863 (.ref 491),eN P "__doc__" 864 (.none)] 4}
def o24:Obj:={cls:=.type "type" ,data:=.cls {name:="Shop" ,bases:=[.type "object"],mro:=[.ref 489,.type "object"],ns:=488,qualname:="Shop"},slots:=#[none,none,some (.str ("Shop") 766),some (.str ("Shop") 774),some (.builtin "object.__new__"),some (.bool true)]}
def o25:Obj:={cls:=.type "type" ,data:=.cls {name:="DeedError" ,bases:=[.type "ValueError"],mro:=[.ref 31,.type "ValueError" ,.type "Exception" ,.type "BaseException" ,.type "object"],ns:=30,qualname:="DeedError" ,subclasses:=[.ref 51,.ref 70,.ref 89,.ref 101,.ref 113,.ref 125,.ref 137,.ref 149,.ref 161,.ref 173,.ref 185,.ref 197,.ref 209,.ref 221]},slots:=#[some (.ref 22),none,some (.str ("DeedError") 196),some (.str ("DeedError") 204),some (.builtin "ValueError.__new__"),some (.bool true)]}
def la (i:Nat):Str×Nat×Nat×List Str×Bool:=match iH i with
 |.FunctionDef x a _ _ _ _ sc _ _ p=>(x,p.line,a.args.length,sc.names.filterMap (λq=>match q.2 with|.local=>some q.1|_=>none),sc.names.any (λq=>match q.2 with|.cell=>true|_=>false)||i==68)
 |_=>("",0,0,[],false)
def kN (i:Nat):Nat:=bif (la i).2.2.2.2 then 0 else(la i).2.2.2.1.length
def Bo (i:Nat):Nat:=bif (la i).2.2.2.2 then 5 else 7
noncomputable def ow:Nat->Nat->Nat->Nat->List (Nat×Nat×Nat)
 |0,_,_,_=>[]
 |n+1,i,e,t=>(i,e,t)::ow n (i+1) (e+Bo i) (t+kN i+6)
def qu:Nat×Nat×Nat->List Rg:=λ(i,e,_)=>[.int (la i).2.1 0,.int 0 0,.ref (e+Bo i-2)]
def qv (P:SM):Nat×Nat×Nat->S6:=λ(i,e,t)=>{PyData.keyHash P (la i).1,.str (la i).1 (t+kN i+5),.ref (e+Bo i-1)}
def F7 (c:Rg)(i g:Nat)(m d:Rg):Obj:={cls:=c,data:=.func {name:=(la i).1,qualname:=(la i).1,params:=tV (iH i),body:=.stmts (tU (iH i)),scope:=qt (iH i),globals:=g,closure:=[],defaults:=.none,kwdefaults:=.none,pyModule:=m,code:=d}}
def kO (m:Str)(k:Nat):Nat×Nat×Nat->List Obj:=λ(i,e,t)=>
 let x:=(la i).1
 let l:Rg:=.int (la i).2.1 0
 let q:=t+kN i
 let c:=λ(a:Rg) (b:Rg) (d:Nat)=>({cls:=.type "code",data:=.fields #[.str x t,.str x (t+1),.str "/claim/cut.py" (t+2),l,.int (la i).2.2.1 0,.int 0 0,.int 0 0,.int 3 0,.ref e,.bool true,.int 181 0,.ref (e+1),.none,a,b,.ref (e+d),.int (q+3:Nat) 0,l,.str "/claim/cut.py" (q+4)]}:Obj)
 [o1,{cls:=.none,data:=.fields #[]}]++bif (la i).2.2.2.2 then [F7 .none i 0 .none .none,c .none .none 2,F7 (.type "function") i 3 (.str m k) (.ref (e+3))] else [{cls:=.type "tuple",data:=.seq (((la i).2.2.2.1.zipIdx (t+3)).map λp=>.str p.1 p.2).toArray},o1,F7 .none i 0 .none .none,c (.ref (e+2)) (.ref (e+3)) 4,F7 (.type "function") i 3 (.str m k) (.ref (e+5))]
def qw:Nat×Nat×Nat->List Addr:=λ(i,e,_)=>[e+Bo i-2,e+Bo i-1]
def FP:=ow 1 0 15 187
def FO:=ow 1 18 224 467
def FN:=ow 10 26 231 490
def FL:=ow 1 37 298 591
def FK:=ow 7 38 305 602
def FJ:=ow 4 46 348 655
def FI:=ow 4 51 377 713
def FH:=ow 1 56 403 750
def FG:=ow 29 60 494 869
def Pf:List Rg:=FP.flatMap qu++[.int 5 0,.int 0 0,.ref 27,.int 7 0,.int 0 0,.ref 40,.int 12 0,.int 0 0,.ref 59,.int 17 0,.int 0 0,.ref 78,.int 22 0,.int 0 0,.ref 97,.int 24 0,.int 0 0,.ref 109,.int 26 0,.int 0 0,.ref 121,.int 28 0,.int 0 0,.ref 133]
def Pe:List Rg:=Pf++[.int 30 0,.int 0 0,.ref 145,.int 32 0,.int 0 0,.ref 157,.int 34 0,.int 0 0,.ref 169,.int 36 0,.int 0 0,.ref 181,.int 38 0,.int 0 0,.ref 193,.int 40 0,.int 0 0,.ref 205,.int 42 0,.int 0 0,.ref 217]++FO.flatMap qu++FN.flatMap qu++FL.flatMap qu
def kt2:List Rg:=Pe++FK.flatMap qu++FJ.flatMap qu++FI.flatMap qu++FH.flatMap qu++[.int 170 0,.int 0 0,.ref 415]++FG.flatMap qu
def Pk (P:SM):List S6:=[eN P "__doc__" 166 (.none),eN P "__package__" 167 (.none),eN P "__loader__" 168 (.builtin "__main__.__loader__#opaque"),eN P "__spec__" 169 (.none),eN P "__annotations__" 170 (.ref 6),eN P "__builtins__" 171 (.ref 4),eN P "__file__" 173 (.str "/claim/cut.py" 172),eN P "__cached__" 174 (.none)]++FP.map (qv P)++[eN P "DeedError" 213 (.ref 31),eN P "NoRow" 238 (.ref 51),eN P "NoRule" 263 (.ref 70),eN P "NoStep" 288 (.ref 89),eN P "NoMachine" 304 (.ref 101),eN P "TooLong" 320 (.ref 113),eN P "NoWord" 336 (.ref 125),eN P "NoWork" 352 (.ref 137)]
def Pj (P:SM):List S6:=Pk P++[eN P "NoBound" 368 (.ref 149),eN P "TooMany" 384 (.ref 161),eN P "NoPlace" 400 (.ref 173),eN P "NoDeed" 416 (.ref 185),eN P "Nothing" 432 (.ref 197),eN P "NoText" 448 (.ref 209),eN P "NoLine" 464 (.ref 221)]++FO.map (qv P)++[eN P "LEAST_WORDS" 479 (.int 2 478),eN P "MOST_WORDS" 481 (.int 4 480),eN P "MOST_PLACES" 483 (.int 2 482),eN P "MOST_DEEDS" 485 (.int 6 484),eN P "MOST_COST" 487 (.int 3 486),eN P "LONGEST_ROW" 489 (.int 40 488)]++FN.map (qv P)++[eN P "SORTS" 590 (.ref 297)]++FL.map (qv P)
def Ph (P:SM):List S6:=Pj P++FK.map (qv P)++FJ.map (qv P)++[eN P "NEW_WORDS" 712 (.ref 376)]++FI.map (qv P)++FH.map (qv P)++[eN P "Shop" 866 (.ref 489)]++FG.map (qv P)
def kg3 (P:SM):List S6:=Ph P++[eN P "law" 1136 (.ref 685)]
noncomputable def Pp (P:SM):List Obj:=[o1,{cls:=.none,data:=.fields Pf.toArray},o2 "<module>" 182 1 11 185,o3 13 3 "__main__" 164]++FP.flatMap (kO "__main__" 164)++[{cls:=.type "tuple",data:=.seq #[.type "ValueError"]},o4,o5 P 203 "DeedError" 5 29,o1,o6,o2 "DeedError" 198 5 25 201,o3 27 24 "leastdeeds.errors" 194,o1,o7 P 203 5 "__static_attributes__" 208 29 "__weakref__" 32 3,{cls:=.type "type",data:=.cls {name:="DeedError",bases:=[.type "ValueError"],mro:=[.ref 31,.type "ValueError",.type "Exception",.type "BaseException",.type "object"],ns:=30,qualname:="DeedError",subclasses:=[.ref 51,.ref 70,.ref 89,.ref 101,.ref 113,.ref 125,.ref 137]},slots:=#[some (.ref 22),none,some (.str "DeedError" 196),some (.str "DeedError" 204),some (.builtin "ValueError.__new__"),some (.bool true)]},o8 209 31,o9 31,jo 31,ki,o4,Ly P 221 "NoRow" 7 48,o1,Lx 9 47,o2 "NoRow" 216 7 38 219,o3 40 37 "leastdeeds.errors" 194,o1,o6,A4 229 "place",o1,kW "__init__" "NoRow.__init__" 0 3,kU "__init__" 226 "NoRow.__init__" 9 2 42 231 232,kT "__init__" "NoRow.__init__" 0 3 "leastdeeds.errors" 194 47,sG "place" 234,o7 P 221 7 "__init__" 233 48 "__static_attributes__" 49 2,kg "NoRow" 51 50 35 214,o9 51,jo 51,ki,o4,Ly P 246 "NoRule" 12 67,o1,Lx 14 66,o2 "NoRule" 241 12 57 244,o3 59 56 "leastdeeds.errors" 194,o1,o6,A4 254 "number",o1,kW "__init__" "NoRule.__init__" 0 4,kU "__init__" 251 "NoRule.__init__" 14 2 61 256 257,kT "__init__" "NoRule.__init__" 0 4 "leastdeeds.errors" 194 66,sG "number" 259,o7 P 246 12 "__init__" 258 67 "__static_attributes__" 68 2,kg "NoRule" 70 69 54 239,o9 70,jo 70,ki,o4,Ly P 271 "NoStep" 17 86,o1,Lx 19 85,o2 "NoStep" 266 17 76 269,o3 78 75 "leastdeeds.errors" 194,o1,o6,A4 279 "place",o1,kW "__init__" "NoStep.__init__" 0 5,kU "__init__" 276 "NoStep.__init__" 19 2 80 281 282,kT "__init__" "NoStep.__init__" 0 5 "leastdeeds.errors" 194 85,sG "place" 284,o7 P 271 17 "__init__" 283 86 "__static_attributes__" 87 2,kg "NoStep" 89 88 73 264,o9 89,jo 89,ki,o4,o5 P 296 "NoMachine" 22 99,o1,o6,o2 "NoMachine" 291 22 95 294,o3 97 94 "leastdeeds.errors" 194,o1,mO P 296 22 99,kg "NoMachine" 101 100 92 289,o9 101,jo 101,ki,o4,o5 P 312 "TooLong" 24 111,o1,o6,o2 "TooLong" 307 24 107 310,o3 109 106 "leastdeeds.errors" 194,o1,mO P 312 24 111,kg "TooLong" 113 112 104 305,o9 113,jo 113,ki,o4,o5 P 328 "NoWord" 26 123,o1,o6,o2 "NoWord" 323 26 119 326,o3 121 118 "leastdeeds.errors" 194,o1,mO P 328 26 123,kg "NoWord" 125 124 116 321,o9 125,jo 125,ki,o4,o5 P 344 "NoWork" 28 135,o1,o6,o2 "NoWork" 339 28 131 342,o3 133 130 "leastdeeds.errors" 194,o1,mO P 344 28 135,kg "NoWork" 137 136 128 337,o9 137,jo 137]
def Po (P:SM):List Obj:=(((Pp P).set 1 ({cls:=.none,data:=.fields Pe.toArray})).set 20 (o25))++[ki,o4,o5 P 360 "NoBound" 30 147,o1,o6,o2 "NoBound" 355 30 143 358,o3 145 142 "leastdeeds.errors" 194,o1,mO P 360 30 147,kg "NoBound" 149 148 140 353,o9 149,jo 149,ki,o4,o5 P 376 "TooMany" 32 159,o1,o6,o2 "TooMany" 371 32 155 374,o3 157 154 "leastdeeds.errors" 194,o1,mO P 376 32 159,kg "TooMany" 161 160 152 369,o9 161,jo 161,ki,o4,o5 P 392 "NoPlace" 34 171,o1,o6,o2 "NoPlace" 387 34 167 390,o3 169 166 "leastdeeds.errors" 194,o1,mO P 392 34 171,kg "NoPlace" 173 172 164 385,o9 173,jo 173,ki,o4,o5 P 408 "NoDeed" 36 183,o1,o6,o2 "NoDeed" 403 36 179 406,o3 181 178 "leastdeeds.errors" 194,o1,mO P 408 36 183,kg "NoDeed" 185 184 176 401,o9 185,jo 185,ki,o4,o5 P 424 "Nothing" 38 195,o1,o6,o2 "Nothing" 419 38 191 422,o3 193 190 "leastdeeds.errors" 194,o1,mO P 424 38 195,kg "Nothing" 197 196 188 417,o9 197,jo 197,ki,o4,o5 P 440 "NoText" 40 207,o1,o6,o2 "NoText" 435 40 203 438,o3 205 202 "leastdeeds.errors" 194,o1,mO P 440 40 207,kg "NoText" 209 208 200 433,o9 209,jo 209,ki,o4,o5 P 456 "NoLine" 42 219,o1,o6,o2 "NoLine" 451 42 215 454,o3 217 214 "leastdeeds.errors" 194,o1,mO P 456 42 219,kg "NoLine" 221 220 212 449,o9 221,jo 221]++FO.flatMap (kO "leastdeeds.wholes" 465)++FN.flatMap (kO "leastdeeds.machines" 476)++[Pb P 582 275]++FL.flatMap (kO "leastdeeds.machines" 476)
noncomputable def Pn (P:SM):List Obj:=((Po P).set 1 ({cls:=.none,data:=.fields kt2.toArray}))++FK.flatMap (kO "leastdeeds.machines" 476)++FJ.flatMap (kO "leastdeeds.runs" 653)++[Pb P 704 354]++FI.flatMap (kO "leastdeeds.runs" 653)++FH.flatMap (kO "leastdeeds.alike" 748)++[o1,o4,{cls:=.type "dict",data:=.dict #[eN P "__module__" 773 (.str "leastdeeds.shop" 764),eN P "__qualname__" 775 (.str "Shop" 774),eN P "__firstlineno__" 777 (.int 170 776),eN P "__init__" 786 (.ref 423),eN P "row" 793 (.ref 430),eN P "cost" 800 (.ref 437),eN P "behaviour" 807 (.ref 444),eN P "least" 814 (.ref 451),eN P "put" 823 (.ref 458),eN P "out" 831 (.ref 465),eN P "back" 838 (.ref 472),eN P "change" 846 (.ref 479),eN P "give" 855 (.ref 486),eN P "__static_attributes__" 859 (.ref 487)] 14},o1,{cls:=.none,data:=.fields #[.int 172 0,.int 4 0,.ref 422,.int 178 0,.int 4 0,.ref 429,.int 181 0,.int 4 0,.ref 436,.int 184 0,.int 4 0,.ref 443,.int 187 0,.int 4 0,.ref 450,.int 190 0,.int 4 0,.ref 457,.int 199 0,.int 4 0,.ref 464,.int 204 0,.int 4 0,.ref 471,.int 209 0,.int 4 0,.ref 478,.int 213 0,.int 4 0,.ref 485]},o2 "Shop" 768 170 413 771,o3 415 412 "leastdeeds.shop" 764,o1,o6,Fx "self" 781 "machine" "row",o1,kW "__init__" "Shop.__init__" 0 58,kU "__init__" 778 "Shop.__init__" 172 3 417 784 785,kT "__init__" "Shop.__init__" 0 58 "leastdeeds.shop" 764 422,o1,o6,sG "self" 790,o1,kW "row" "Shop.row" 1 58,kU "row" 787 "Shop.row" 178 1 424 791 792,kT "row" "Shop.row" 1 58 "leastdeeds.shop" 764 429,o1,o6,sG "self" 797,o1,kW "cost" "Shop.cost" 2 58,kU "cost" 794 "Shop.cost" 181 1 431 798 799,kT "cost" "Shop.cost" 2 58 "leastdeeds.shop" 764 436,o1,o6,sG "self" 804,o1,kW "behaviour" "Shop.behaviour" 3 58,kU "behaviour" 801 "Shop.behaviour" 184 1 438 805 806,kT "behaviour" "Shop.behaviour" 3 58 "leastdeeds.shop" 764 443,o1,o6,sG "self" 811,o1,kW "least" "Shop.least" 4 58,kU "least" 808 "Shop.least" 187 1 445 812 813,kT "least" "Shop.least" 4 58 "leastdeeds.shop" 764 450,o1,o6,Fx "self" 818 "place" "number",o1,kW "put" "Shop.put" 5 58,kU "put" 815 "Shop.put" 190 3 452 821 822,kT "put" "Shop.put" 5 58 "leastdeeds.shop" 764 457,o1,o6,A4 827 "place",o1,kW "out" "Shop.out" 6 58,kU "out" 824 "Shop.out" 199 2 459 829 830,kT "out" "Shop.out" 6 58 "leastdeeds.shop" 764 464,o1,o6,sG "self" 835,o1,kW "back" "Shop.back" 7 58,kU "back" 832 "Shop.back" 204 1 466 836 837,kT "back" "Shop.back" 7 58 "leastdeeds.shop" 764 471,o1,o6,A4 842 "row",o1,kW "change" "Shop.change" 8 58,kU "change" 839 "Shop.change" 209 2 473 844 845,kT "change" "Shop.change" 8 58 "leastdeeds.shop" 764 478,o1,o6,Fx "self" 850 "row" "start",o1,kW "give" "Shop.give" 9 58,kU "give" 847 "Shop.give" 213 2 480 853 854,kT "give" "Shop.give" 9 58 "leastdeeds.shop" 764 485,Fx "earlier" 856 "machine" "standing",o23 P,o24,{cls:=.type "getset_descriptor",data:=.fields #[.str "__dict__" 860,.ref 489,.builtin "function.__dict__",.builtin "function.__dict__#set"]},o8 862 489,o9 489,jo 489]++FG.flatMap (kO "law_leastdeeds_k51_changes_refused" 867)
def Pm:List Addr:=[30,31,47,48,50,51,69,70,88,89,100,101,112,113,124,125,136,137,148,149,160,161,172,173,184,185,196,197,208,209,220,221,297,376,422,423,429,430,436,437,443,444,457,458,464,465,471,472,478,479,485,486,488,489]++FP.flatMap qw++FO.flatMap qw++FN.flatMap qw++FL.flatMap qw++FK.flatMap qw++FJ.flatMap qw++FI.flatMap qw++FH.flatMap qw++FG.flatMap qw
def kh:SM->Q9:=λP=>[(2,{cls:=.none,data:=.dict #[]}),
 (3,{cls:=.type "dict",data:=.dict (eN P "__name__" 165 (.str "law_leastdeeds_k51_changes_refused" 867)::kg3 P).toArray 92}),
 (684,{cls:=.type "code",data:=.fields #[.str "law" 1131,.str "law" 1132,.str "/claim/cut.py" 1133,.int 462 0,.int 1 0,.int 0 0,.int 0 0,.int 3 0,.ref 681,.bool true,.int 181 0,.ref 682,.none,.none,.none,.ref 683,.int 1134 0,.int 462 0,.str "/claim/cut.py" 1135]}),
 (685,{cls:=.type "function",data:=.func {name:="law",qualname:="law",params:=tV (iH 89),body:=PySem.FuncBody.stmts (tU (iH 89)),scope:=qt (iH 89),globals:=3,closure:=[],defaults:=.none,kwdefaults:=.none,pyModule:=.str "law_leastdeeds_k51_changes_refused" 867,code:=.ref 684}})]++List.map (λa=>(a,(Pn P).getD (a-11) o1)) Pm
def L8:List Addr:=[2,3,684,685]++Pm
def Qk:∀P,L8=(kh P).map (·.1):=λ_=>by kernel_rfl
noncomputable def kq:R0:=PySem.W.view PySem.Challenge.pw_leastdeeds_k51_changes_refused [0,2,3,4,5,6,7,8,9,10,11,12,13,14,15,16,18,20,21,22,23,24,25,26,27,28,29,30,31,32,33,34,35,36,37,38,39,40,41,42,43,44,46,47,48,49,50,51,52,53,54,56,58,60,61,62,63,64,65,66,67,68,69,70,71,72,73,74,75,76,77,78,79,80,81,82,83,84,85,86,87,88,89]
abbrev kH:PySem.W.Hook:=PySem.W.kHook kh L8 Qk
def qs:List Str:=["SORTS","NEW_WORDS"]
abbrev yP:=PySem.Challenge.rw_leastdeeds_k51_changes_refused.row
abbrev kX:Rl->Bool:=λs=>PySem.W.xlAt kq [] s&&PySem.W.recOk (PySem.W.RowW.records yP.toRowW) s
def F3 (P:SM)(os:Sa):Sd:={HD.treeOf ((((PySem.W.boot_heap P).objs.toList.set 3 ({cls:=.type "dict",data:=.dict (eN P "__name__" 165 (.str "leastdeeds.errors" 194)::Pk P).toArray 18})))++Pp P) 0 .nil,140,{},#[],{},353,os}
def F2 (P:SM)(os:Sa):Sd:={HD.treeOf ((((PySem.W.boot_heap P).objs.toList.set 3 ({cls:=.type "dict",data:=.dict (eN P "__name__" 165 (.str "leastdeeds.machines" 476)::Pj P).toArray 44})))++Po P) 0 .nil,305,{},#[],{},602,os}
def F1 (P:SM)(os:Sa):Sd:={HD.treeOf ((((PySem.W.boot_heap P).objs.toList.set 3 ({cls:=.type "dict",data:=.dict (eN P "__name__" 165 (.str "law_leastdeeds_k51_changes_refused" 867)::Ph P).toArray 91})))++Pn P) 0 .nil,681,{},#[],{},1131,os}
def kE:Env:={scope:=PySem.Challenge.pw_leastdeeds_k51_changes_refused.main.scope,locals:=mainNs,globals:=mainNs,cells:=[],code:=.ref 13,frame:=some 14}
def kP (w:RS)(os:Sa):=HD.xA treeTable PySem.Challenge.pw_leastdeeds_k51_changes_refused w 11 (some (.ref 6)) 12 (HD.zk w.params os) (PySem.W.topStub PySem.Challenge.pw_leastdeeds_k51_changes_refused)
def FX (w:RS)(os:Sa):=(kP w os).bind λx=>HD.lN treeTable PySem.Challenge.pw_leastdeeds_k51_changes_refused w 11 (some (.ref 6)) 1812 x.1 (PySem.W.piecesOf ((PySem.W.behindTheImports PySem.Challenge.pw_leastdeeds_k51_changes_refused).take 10) kE (.body (PySem.W.behindTheImports PySem.Challenge.pw_leastdeeds_k51_changes_refused) kE) {0,0,0,0} [PySem.W.topFrame {0,0,0,0}])
def FU (w:RS)(os:Sa):Option (Flow×Sd×Code×Pos):=some (.next,F3 w.params os,(.body (PySem.W.behindTheImports PySem.Challenge.pw_leastdeeds_k51_changes_refused) kE),{28,0,29,8})
def FW (w:RS)(os:Sa):=HD.lN treeTable PySem.Challenge.pw_leastdeeds_k51_changes_refused w 11 (some (.ref 6)) 2010 (F3 w.params os) (PySem.W.piecesOf (((PySem.W.behindTheImports PySem.Challenge.pw_leastdeeds_k51_changes_refused).drop 10).take 28) kE (.body (PySem.W.behindTheImports PySem.Challenge.pw_leastdeeds_k51_changes_refused) kE) {28,0,29,8} [PySem.W.topFrame {0,0,0,0}])
def FT (w:RS)(os:Sa):Option (Flow×Sd×Code×Pos):=some (.next,F2 w.params os,(.body (PySem.W.behindTheImports PySem.Challenge.pw_leastdeeds_k51_changes_refused) kE),{91,0,98,44})
def FV (w:RS)(os:Sa):=HD.lN treeTable PySem.Challenge.pw_leastdeeds_k51_changes_refused w 11 (some (.ref 6)) 1998 (F2 w.params os) (PySem.W.piecesOf ((((PySem.W.behindTheImports PySem.Challenge.pw_leastdeeds_k51_changes_refused).drop 10).drop 28).take 51) kE (.body (PySem.W.behindTheImports PySem.Challenge.pw_leastdeeds_k51_changes_refused) kE) {91,0,98,44} [PySem.W.topFrame {0,0,0,0}])
def FR (w:RS)(os:Sa):Option (Flow×Sd×Code×Pos):=some (.next,F1 w.params os,(.body (PySem.W.behindTheImports PySem.Challenge.pw_leastdeeds_k51_changes_refused) kE),{452,0,461,15})
def kR (w:RS)(os:Sa):=HD.iA treeTable PySem.Challenge.pw_leastdeeds_k51_changes_refused w 11 (some (.ref 6)) 5979 (F1 w.params os) (PySem.W.restOf ((((PySem.W.behindTheImports PySem.Challenge.pw_leastdeeds_k51_changes_refused).drop 10).drop 28).drop 51) kE (.body (PySem.W.behindTheImports PySem.Challenge.pw_leastdeeds_k51_changes_refused) kE) {452,0,461,15} [PySem.W.topFrame {0,0,0,0}])
abbrev L1 (P:SM)(s:Sd):=HD.lS PySem.Challenge.pw_leastdeeds_k51_changes_refused kq qs kX true (PySem.W.boot_heap P) (λs=>L8.map s.heap.get?) s.abs
def F0 (w:RS)(os:Sa):=(kR w os).map λs=>(L1 w.params s).1
def FZ (w:RS)(os:Sa):=(kR w os).map λs=>(L1 w.params s).2.1
def FY (w:RS)(os:Sa):=(kR w os).map λs=>(L1 w.params s).2.2
def F6 (w:RS):=some true
def F5 (w:RS):=some (PySem.W.openGood kq qs)
def F4 (w:RS):=some ((kh w.params).map λp=>some p.2)
def _root_.PySem.W.Fast.tw108541471025564459:R0:=PySem.Challenge.pw_leastdeeds_k51_changes_refused
def _root_.PySem.W.Fast.te108541471025564459:PySem.Challenge.pw_leastdeeds_k51_changes_refused=PySem.W.Fast.tw108541471025564459:=rfl
def _root_.PySem.W.Fast.tw14595398476242854986:SM->Q9:=K51.kh
def _root_.PySem.W.Fast.te14595398476242854986:K51.kh=PySem.W.Fast.tw14595398476242854986:=rfl
def _root_.PySem.W.Fast.tw17609018671453600209:SM->Sa->Sd:=K51.F3
def _root_.PySem.W.Fast.te17609018671453600209:K51.F3=PySem.W.Fast.tw17609018671453600209:=rfl
def _root_.PySem.W.Fast.tw13602754760058247019:SM->Sa->Sd:=K51.F2
def _root_.PySem.W.Fast.te13602754760058247019:K51.F2=PySem.W.Fast.tw13602754760058247019:=rfl
def _root_.PySem.W.Fast.tw6351824420394955442:SM->Sa->Sd:=K51.F1
def _root_.PySem.W.Fast.te6351824420394955442:K51.F1=PySem.W.Fast.tw6351824420394955442:=rfl
noncomputable def Qt:F0=F0:=rfl
name_quick kq1_51 for F0 by Qt
noncomputable def Qs:FZ=FZ:=rfl
name_quick kq2_51 for FZ by Qs
noncomputable def Qv:F5=F5:=rfl
name_quick kg2_51 for F5 by Qv
noncomputable def Qr:FY=FY:=rfl
name_quick kq3_51 for FY by Qr
noncomputable def Qu:F4=F4:=rfl
name_quick kg3_51 for F4 by Qu
noncomputable def Qq:FX=FX:=rfl
name_quick kua51 for FX by Qq
noncomputable def Qn:FU=FU:=rfl
name_quick kva51 for FU by Qn
noncomputable def Qp:FW=FW:=rfl
name_quick kub51 for FW by Qp
noncomputable def Qm:FT=FT:=rfl
name_quick kvb51 for FT by Qm
noncomputable def Qo:FV=FV:=rfl
name_quick kuc51 for FV by Qo
noncomputable def Ql:FR=FR:=rfl
name_quick kvc51 for FR by Ql
def Bn:∀(w:RS) (os:Sa),PySem.W.Fast.kua51 (w.withFollow "special-get-raises" false) os=PySem.W.Fast.kva51 (w.withFollow "special-get-raises" false) os:=λw os=>by kernel_rfl
def D6:∀(w:RS) (os:Sa),PySem.W.Fast.kua51 (w.withFollow "special-get-raises" true) os=PySem.W.Fast.kva51 (w.withFollow "special-get-raises" true) os:=λw os=>by kernel_rfl
def ka0:∀(w:RS) (os:Sa),FX w os=FU w os:=λw os=>by
 rw[PySem.W.Fast.kua51_eq,PySem.W.Fast.kva51_eq];exact PySem.W.byRow2 "special-get-raises" (P:=λw=>PySem.W.Fast.kua51 w os=PySem.W.Fast.kva51 w os) (λw=>Bn w os) (λw=>D6 w os) w
def Bm:∀(w:RS) (os:Sa),PySem.W.Fast.kub51 (w.withFollow "special-get-raises" false) os=PySem.W.Fast.kvb51 (w.withFollow "special-get-raises" false) os:=λw os=>by kernel_rfl
def D5:∀(w:RS) (os:Sa),PySem.W.Fast.kub51 (w.withFollow "special-get-raises" true) os=PySem.W.Fast.kvb51 (w.withFollow "special-get-raises" true) os:=λw os=>by kernel_rfl
def ka1:∀(w:RS) (os:Sa),FW w os=FT w os:=λw os=>by
 rw[PySem.W.Fast.kub51_eq,PySem.W.Fast.kvb51_eq];exact PySem.W.byRow2 "special-get-raises" (P:=λw=>PySem.W.Fast.kub51 w os=PySem.W.Fast.kvb51 w os) (λw=>Bm w os) (λw=>D5 w os) w
def Bl:∀(w:RS) (os:Sa),PySem.W.Fast.kuc51 (w.withFollow "special-get-raises" false) os=PySem.W.Fast.kvc51 (w.withFollow "special-get-raises" false) os:=λw os=>by kernel_rfl
def D4:∀(w:RS) (os:Sa),PySem.W.Fast.kuc51 (w.withFollow "special-get-raises" true) os=PySem.W.Fast.kvc51 (w.withFollow "special-get-raises" true) os:=λw os=>by kernel_rfl
def ka2:∀(w:RS) (os:Sa),FV w os=FR w os:=λw os=>by
 rw[PySem.W.Fast.kuc51_eq,PySem.W.Fast.kvc51_eq];exact PySem.W.byRow2 "special-get-raises" (P:=λw=>PySem.W.Fast.kuc51 w os=PySem.W.Fast.kvc51 w os) (λw=>Bl w os) (λw=>D4 w os) w
def Bj:∀(w:RS) (os:Sa),PySem.W.Fast.kq1_51 (w.withFollow "special-get-raises" false) os=F6 (w.withFollow "special-get-raises" false):=λw os=>by kernel_rfl
def D2:∀(w:RS) (os:Sa),PySem.W.Fast.kq1_51 (w.withFollow "special-get-raises" true) os=F6 (w.withFollow "special-get-raises" true):=λw os=>by kernel_rfl
def kl1:∀(w:RS) (os:Sa),F0 w os=F6 w:=λw os=>by
 rw[PySem.W.Fast.kq1_51_eq];exact PySem.W.byRow2 "special-get-raises" (P:=λw=>PySem.W.Fast.kq1_51 w os=F6 w) (λw=>Bj w os) (λw=>D2 w os) w
def Bi:∀(w:RS) (os:Sa),PySem.W.Fast.kq2_51 (w.withFollow "special-get-raises" false) os=PySem.W.Fast.kg2_51 (w.withFollow "special-get-raises" false):=λw os=>by kernel_rfl
def D1:∀(w:RS) (os:Sa),PySem.W.Fast.kq2_51 (w.withFollow "special-get-raises" true) os=PySem.W.Fast.kg2_51 (w.withFollow "special-get-raises" true):=λw os=>by kernel_rfl
def kl2:∀(w:RS) (os:Sa),FZ w os=F5 w:=λw os=>by
 rw[PySem.W.Fast.kq2_51_eq,PySem.W.Fast.kg2_51_eq];exact PySem.W.byRow2 "special-get-raises" (P:=λw=>PySem.W.Fast.kq2_51 w os=PySem.W.Fast.kg2_51 w) (λw=>Bi w os) (λw=>D1 w os) w
def Bh:∀(w:RS) (os:Sa),PySem.W.Fast.kq3_51 (w.withFollow "special-get-raises" false) os=PySem.W.Fast.kg3_51 (w.withFollow "special-get-raises" false):=λw os=>by kernel_rfl
def D0:∀(w:RS) (os:Sa),PySem.W.Fast.kq3_51 (w.withFollow "special-get-raises" true) os=PySem.W.Fast.kg3_51 (w.withFollow "special-get-raises" true):=λw os=>by kernel_rfl
def kl3:∀(w:RS) (os:Sa),FY w os=F4 w:=λw os=>by
 rw[PySem.W.Fast.kq3_51_eq,PySem.W.Fast.kg3_51_eq];exact PySem.W.byRow2 "special-get-raises" (P:=λw=>PySem.W.Fast.kq3_51 w os=PySem.W.Fast.kg3_51 w) (λw=>Bh w os) (λw=>D0 w os) w
def kp:∀(w:RS) (os:Sa),(kP w os).map (·.2)=some {denote treeTable (.body (PySem.W.behindTheImports PySem.Challenge.pw_leastdeeds_k51_changes_refused) kE),(.body (PySem.W.behindTheImports PySem.Challenge.pw_leastdeeds_k51_changes_refused) kE),{0,0,0,0},[PySem.W.topFrame {0,0,0,0}]}:=λw os=>by kernel_rfl
def Ob:PySem.W.LeftO yP.prog kq qs kX kH.obs kH.val 11812:=HD.wj (m0:=11) (ann:=some (.ref 6)) (PySem.W.boot_open `r `d (λ_=>rfl)) (λw=>by kernel_rfl) λw os=>HD.BL (J:=10) (kp w os) (by kernel_rfl) (ka0 w os) (HD.vK (J:=28) (ka1 w os) (HD.vK (J:=51) (ka2 w os) (HD.BK (kl1 w os) (kl2 w os) (kl3 w os))))
end K51
namespace L2
open PySem PySem.Spec PyProof.Rows
abbrev Key:=Sum Int Str
noncomputable def tS:Key->Rg->Bool
 |.inl k,v=>Value.isInt k v
 |.inr x,v=>Value.isStrOf x v
noncomputable def Qj (w:RS):Key->Int
 |.inl k=>hashInt k
 |.inr x=>hashStr w x
def c8:∀{k:Key}{v:Rg},tS k v=true->(∃i t,k=Sum.inl i/\v=Value.int i t)\/(∃x t,k=Sum.inr x/\v=Value.str x t)
 | .inl i,v,h=>by
   obtain⟨t,e⟩:=Value.isInt_shape h;exact .inl ⟨i,t,rfl,e⟩
 | .inr x,v,h=>by
   obtain⟨t,e⟩:=Value.isStrOf_shape h;exact .inr ⟨x,t,rfl,e⟩
def kn (x:Str)(t:Tok):tS (.inr x) (.str x t)=true:=by simp[tS,Value.isStrOf]
def L6 (a b:Int):decide ((Sum.inl a:Key)=Sum.inl b)=(a==b):=by
 by_cases e:a=b
 ·subst e;simp
 ·have h:¬ (Sum.inl a:Key)=Sum.inl b:=λq=>e (Sum.inl.inj q);rw[decide_eq_false h];exact(RJ.mpr e).symm
def L3 (a b:Str):decide ((Sum.inr a:Key)=Sum.inr b)=decide (a=b):=by
 by_cases e:a=b
 ·subst e;simp
 ·have h:¬ (Sum.inr a:Key)=Sum.inr b:=λq=>e (Sum.inr.inj q);rw[decide_eq_false h,decide_eq_false e]
def L5 (a:Int)(b:Str):decide ((Sum.inl a:Key)=Sum.inr b)=false:=decide_eq_false (λq=>nomatch q)
def L4 (a:Str)(b:Int):decide ((Sum.inr a:Key)=Sum.inl b)=false:=decide_eq_false (λq=>nomatch q)
def kZ (prog:R0)(w:RS):PySem.KeyKind prog w Key where
 is:=tS
 hash:=Qj w
 inj:=λv a b F B=>by
  rcases c8 F with⟨i,t,rfl,rfl⟩|⟨x,t,rfl,rfl⟩
  ·rcases c8 B with⟨j,u,rfl,e⟩|⟨y,u,rfl,e⟩
   ·injection e with e1 _;rw[e1]
   ·exact nomatch e
  ·rcases c8 B with⟨j,u,rfl,e⟩|⟨y,u,rfl,e⟩
   ·exact nomatch e
   ·injection e with e1 _;rw[e1]
 byValue:=λk v h=>by
  rcases c8 h with⟨i,t,rfl,rfl⟩|⟨x,t,rfl,rfl⟩<;>rfl
 pyHash:=λz h=>by
  rcases c8 z with⟨i,t,rfl,rfl⟩|⟨x,t,rfl,rfl⟩
  ·exact wpAny_pyHash_int h
  ·exact wpAny_pyHash_str h
 eqBool:=λI z h=>by
  rcases c8 I with⟨i,t,rfl,rfl⟩|⟨x,t,rfl,rfl⟩
  ·rcases c8 z with⟨j,u,rfl,rfl⟩|⟨y,u,rfl,rfl⟩
   ·rw[L6] at h;exact wpAny_eqBool_int h
   ·rw[L5] at h;exact SeqAt.EqAt.int_str i t y u _ _ _ _ h
  ·rcases c8 z with⟨j,u,rfl,rfl⟩|⟨y,u,rfl,rfl⟩
   ·rw[L4] at h;exact SeqAt.EqAt.str_int x t j u _ _ _ _ h
   ·rw[L3] at h;exact wpAny_eqBool_str h
 «strs»:=λk x t v h=>by
  rcases c8 h with⟨i,u,rfl,e⟩|⟨y,u,rfl,e⟩
  ·exact nomatch e
  ·injection e with e1 _
   subst e1;cases v<;>rfl
inductive V where
 |non|bl (b:Bool)|int (i:Int)|str (x:Str)|byt (b:Array UInt8)|flt (b:UInt64)|ref (a:Addr)|ty (n:String)
 deriving DecidableEq
def RelV:V->Rg->Prop
 |.non,u=>u=Value.none
 |.bl b,u=>u=Value.bool b
 |.int i,u=>∃t,u=Value.int i t
 |.str x,u=>∃t,u=Value.str x t
 |.byt b,u=>∃t,u=Value.bytes b t
 |.flt b,u=>∃t,u=Value.float b t
 |.ref a,u=>u=Value.ref a
 |.ty n,u=>u=Value.type n
abbrev Vals:List V->List Rg->Prop:=To RelV
def Vals.length (r:Vals xs us):xs.length=us.length:=Paired.length r
noncomputable def Vals.get:∀{xs:List V}{us:List Rg}{i:Nat}{x:V},Vals xs us->xs[i]?=some x->∃u,us[i]?=some u/\RelV x u
 |_,_,_,_,.nil,e=>by simp at e
 |_,_,0,_,.cons r _,e=>by simp at e;subst e;exact{_,rfl,r}
 | _,_,i+1,x,.cons _ t,e=>by
   obtain⟨u,h1,h2⟩:=Vals.get t (by simpa using e)
   exact{u,by simpa using h1,h2}
noncomputable def Vals.set (r:RelV x u):∀{xs:List V}{us:List Rg} (i:Nat),Vals xs us->Vals (xs.set i x) (us.set i u)
 |_,_,_,.nil=>.nil
 |_,_,0,.cons _ t=>.cons r t
 |_,_,i+1,.cons q t=>.cons q (Vals.set r i t)
noncomputable def Vals.append:∀{xs ys:List V}{us ws:List Rg},Vals xs us->Vals ys ws->Vals (xs++ys) (us++ws)
 |_,_,_,_,.nil,s=>s
 |_,_,_,_,.cons r t,s=>.cons r (Vals.append t s)
noncomputable def Vals.take:∀{xs:List V}{us:List Rg} (n:Nat),Vals xs us->Vals (xs.take n) (us.take n)
 |_,_,0,_=>.nil
 |_,_,_+1,.nil=>.nil
 |_,_,n+1,.cons r t=>.cons r (Vals.take n t)
noncomputable def Vals.drop:∀{xs:List V}{us:List Rg} (n:Nat),Vals xs us->Vals (xs.drop n) (us.drop n)
 |_,_,0,r=>r
 |_,_,_+1,.nil=>.nil
 |_,_,n+1,.cons _ t=>Vals.drop n t
def j0:Option V->Option Rg->Prop
 |some v,some u=>RelV v u
 |none,none=>True
 |_,_=>False
def KV {j:Type}:List (j×V)->List (j×Rg)->Prop:=To λ(p:j×V) (q:j×Rg)=>p.1=q.1/\RelV p.2 q.2
noncomputable def kV:Key->V
 |.inl i=>.int i
 |.inr x=>.str x
inductive HO where
 |lst (xs:List V)
 |tup (xs:List V)
 |dK (kvs:List (Key×V))|dT (kvs:List (List Key×V))
 |set (S:Int->Bool) (n:Nat)
 |ins (C dx:Addr) (fs:List (Str×V))
 |own (x:Addr)
 |xd (fs:List (Str×V))
 |met (f x:Addr)
 |rng (lo hi:Int)
 |frz (o:Obj) (u:HO)
 |tbl (ps:Array Rg)
 |ext (φ:Heap->Prop)
 |dn (es:List S6)
abbrev Hp:=Addr->Option HO
noncomputable def upd (H:Hp)(a:Addr)(o:HO):Hp:=λb=>if b=a then some o else H b
def bI:upd H a o a=some o:=by unfold upd;rw[if_pos rfl]
def ay (h:b≠a):upd H a o b=H b:=by unfold upd;rw[if_neg h]
def aX {H:Hp}(h:H a=some o)(h':H b=none):a≠b:=by
 intro e;subst e;rw[h] at h';cases h'
section
variable(P:R0)(w:RS)
noncomputable def d9 (H:Hp)(h:Heap)(a:Addr):HO->Prop
 |.lst xs=>xs.length<=sizeLine/\∃(j:List Rg) (n:Nat),Vals xs j/\h.get? a=some {cls:=.type "list",data:=.seq j.toArray n}
 |.tup xs=>xs.length<=sizeLine/\∃j:List Rg,Vals xs j/\IsTup h a j.toArray
 |.dK y=>y.length<=sizeLine/\(a==sysModules)=false/\∃B,KV y B/\h.DictOf (kZ P w) a B
 |.dT y=>y.length<=sizeLine/\(a==sysModules)=false/\∃xs:List (List Key×Addr×Rg),
  To (λ(p:List Key×V) (q:List Key×Addr×Rg)=>p.1=q.1/\H q.2.1=some (.tup (p.1.map kV))/\RelV p.2 q.2.2) y xs/\
  ∃o es F,h.get? a=some o/\o.ExactDict/\o.data=.dict es F/\es.toList=xs.map (entryOfKey (tupleKind (kZ P w)))/\(xs.map (·.1)).Nodup
 |.set S n=>h.SetOf (intKind P w) a S n
 |.ins C dx fs=>H dx=some (.own a)/\fs.length<=1000/\dx≠a/\h.get? a=some (PySem.W.instObj C dx)/\
  ∃mA,h.Ns1 dx mA/\(∀f,j0 (fs.lookup f) (mA f))/\PySem.Within mA (fs.map (·.1))
 |.own _=>∃o,h.get? a=some o
 |.xd fs=>∃mA,h.Ns1 a mA/\∀f,j0 (fs.lookup f) (mA f)
 |.rng lo hi=>∃t u v,h.get? a=some {cls:=.type "range",data:=.fields #[.int lo t,.int hi u,.int 1 v]}
 |.frz o u=>h.get? a=some o/\d9 H h a u
 |.tbl ps=>h.get? a=some {cls:=.none,data:=.fields ps}
 |.met f x=>h.get? a=some (PySem.W.methodObj (.ref f) (.ref x))
 |.ext z=>z h/\(∃o,h.get? a=some o)/\∀h1 h2:Heap,z h1->(∀o,h1.get? a=some o->h2.get? a=some o)->z h2
 |.dn es=>es.length<=sizeLine/\(a==sysModules)=false/\∃o,h.get? a=some o/\o.ExactDict/\o.data=.dict es.toArray es.length
def eD (H:Hp)(h:Heap):Prop:=∀a o,H a=some o->d9 P w H h a o
end
section
variable{P:R0}{w:RS}{H H':Hp}{h h':Heap}{a:Addr}{o:HO}
def d9.lt (x:d9 P w H h a o):a<h.objs.size:=by
 cases o with
 |lst xs=>obtain⟨_,_,_,_,e⟩:=x;exact Rz e
 |tup xs=>obtain⟨_,_,_,p⟩:=x;exact p.lt
 |dK j=>obtain⟨_,_,_,_,o,_,_,e,_⟩:=x;exact Rz e
 |dT j=>obtain⟨_,_,_,_,o,_,_,e,_⟩:=x;exact Rz e
 |set S n=>obtain⟨o,_,_,_,e,_⟩:=x;exact Rz e
 |ins C dx fs=>obtain⟨_,_,_,e,_⟩:=x;exact Rz e
 |own y=>obtain⟨_,e⟩:=x;exact Rz e
 |xd fs=>obtain⟨_,⟨_,_,_,e,_⟩,_⟩:=x;exact Rz e
 |rng lo hi=>obtain⟨_,_,_,e⟩:=x;exact Rz e
 |frz ob u=>obtain⟨e,_⟩:=x;exact Rz e
 |tbl ps=>exact Rz (x)
 |met f y=>exact Rz (x)
 |ext z=>obtain⟨_,⟨_,e⟩,_⟩:=x;exact Rz e
 |dn es=>obtain⟨_,_,_,e,_⟩:=x;exact Rz e
noncomputable def To.mapP {j y:Type}{F G:j->y->Prop}:∀{l₁:List j}{l₂:List y},To F l₁ l₂->(∀a b,F a b->G a b)->To G l₁ l₂
 |_,_,.nil,_=>.nil
 |_,_,.cons r t,f=>.cons (f _ _ r) (To.mapP t f)
def d9.stay (x:d9 P w H h a o)(k:∀b u,(b=a\/H b=some (.own a))->h.get? b=some u->h'.get? b=some u)
 (ho:∀b,H b=some (.own a)->H' b=some (.own a)) (I:∀b xs,H b=some (.tup xs)->H' b=some (.tup xs)):d9 P w H' h' a o:=by
 induction o with
 |lst xs=>obtain⟨z,B,n,r,e⟩:=x;exact{z,B,n,r,k _ _ (.inl rfl) e}
 |tup xs=>obtain⟨z,B,r,ob,e,c⟩:=x;exact{z,B,r,ob,k _ _ (.inl rfl) e,c}
 |dK F=>obtain⟨z,y,L,r,ob,es,j,e,c⟩:=x;exact{z,y,L,r,ob,es,j,k _ _ (.inl rfl) e,c}
 | dT F=>
   obtain⟨z,y,xs,r,ob,es,j,e,c⟩:=x;exact{z,y,xs,To.mapP r λp q z=>{z.1,I _ _ z.2.1,z.2.2},ob,es,j,k _ _ (.inl rfl) e,c}
 |set S n=>obtain⟨ob,es,j,t,e,c⟩:=x;exact{ob,es,j,t,k _ _ (.inl rfl) e,c}
 | ins C dx fs=>
   obtain⟨d,z,ne,e,mA,⟨od,es,j,e2,c⟩,r⟩:=x;exact{ho _ d,z,ne,k _ _ (.inl rfl) e,mA,{od,es,j,k _ _ (.inr d) e2,c},r}
 |own y=>obtain⟨ob,e⟩:=x;exact{ob,k _ _ (.inl rfl) e}
 |xd fs=>obtain⟨mA,⟨od,es,j,e,c⟩,r⟩:=x;exact{mA,{od,es,j,k _ _ (.inl rfl) e,c},r}
 |rng lo hi=>obtain⟨t,u,v,e⟩:=x;exact{t,u,v,k _ _ (.inl rfl) e}
 |frz ob u J=>obtain⟨e,q⟩:=x;exact{k _ _ (.inl rfl) e,J q}
 | tbl ps=>
   have e:=x;exact k a _ (.inl rfl) e
 | met f y=>
   have e:=x;exact k a _ (.inl rfl) e
 |ext M=>obtain⟨p,⟨o,e⟩,st⟩:=x;exact{st _ _ p λo q=>k _ _ (.inl rfl) q,{o,k _ _ (.inl rfl) e},st}
 |dn es=>obtain⟨z,y,o,e,c⟩:=x;exact{z,y,o,k _ _ (.inl rfl) e,c}
def eD.lt (x:eD P w H h)(e:H a=some o):a<h.objs.size:=(x a o e).lt
def eD.fresh (x:eD P w H h)(e:h.objs.size<=a):H a=none:=by
 cases q:H a with
 |none=>rfl
 |some u=>exact absurd (RD (x.lt q) e) (Sv _)
def eD.kept (x:eD P w H h)(k:∀b u,h.get? b=some u->h'.get? b=some u):eD P w H h':=λa o e=>
 (x a o e).stay (λb u _ q=>k b u q) (λ_ q=>q) λ_ _ q=>q
def eD.laid (x:eD P w H h)(k:∀b u,h.get? b=some u->h'.get? b=some u)(y:h.objs.size<=a)(new:d9 P w (upd H a o) h' a o):eD P w (upd H a o) h':=λb u e=>by
 have hn:=x.fresh y;by_cases j:b=a
 ·subst j;rw[bI] at e;cases e;exact new
 ·rw[ay j] at e;exact(x b u e).stay (λc v _ q=>k c v q) (λc q=>by rw[ay (aX q hn)];exact q) λc xs q=>by rw[ay (aX q hn)];exact q
end
def Rd (H:Hp)(a:Addr)(u:HO):Prop:=H a=some u\/∃o,H a=some (.frz o u)
def Rd.ok (r:Rd H a u)(x:eD P w H h):d9 P w H h a u:=by
 rcases r with r|⟨o,r⟩
 ·exact x a u r
 ·obtain⟨_,q⟩:=x a _ r;exact q
def GC:Option HO->Prop
 |some (.lst _)=>True
 |some (.dK _)=>True
 |some (.dT _)=>True
 |some (.set _ _)=>True
 |some (.ins _ _ _)=>True
 |some (.ext _)=>True
 |some (.dn _)=>True
 |_=>False
section
variable{P:R0}{w:RS}{H:Hp}{h h':Heap}{x e:Addr}{o':HO}
def eD.write (ok:eD P w H h)(mu:GC (H x))(he:e=x\/H e=some (.own x))(k:∀b u,b≠e->h.get? b=some u->h'.get? b=some u)(L:∃u,h'.get? e=some u)
 (new:d9 P w (upd H x o') h' x o'):eD P w (upd H x o') h':=λb u q=>by
 have B:∀c y,H c=some (.own y)->c≠x:=λc y r z=>by subst z;rw[r] at mu;exact mu
 have F:∀c xs,H c=some (.tup xs)->c≠x:=λc xs r z=>by subst z;rw[r] at mu;exact mu
 by_cases I:b=x
 ·subst I;rw[bI] at q;cases q;exact new
 ·rw[ay I] at q;by_cases j:b=e
  ·have M:H b=some (.own x):=by
    rcases he with z|z
    ·exact absurd (j.trans z) I
    ·rw[j];exact z
   rw[q] at M;cases M;obtain⟨v,O⟩:=L;exact{v,by rw[j];exact O}
  ·refine(ok b u q).stay (λc v J r=>k c v ?_ r) (λc r=>by rw[ay (B c b r)];exact r) λc xs r=>by rw[ay (F c xs r)];exact r
   rcases J with rfl|J
   ·exact j
   ·rintro rfl;rcases he with z|z
    ·exact B c b J z
    ·rw[J] at z;cases z;exact I rfl
end
structure Un (fs ex:List Addr) (H H':Hp) (h h':Heap):Prop where
 keep:∀b o,h.get? b=some o->H b=none->b∉fs->b∉ex->h'.get? b=some o
 slot:∀b o,h.get? b=some o->H b=none->b∈fs->b∉ex->∃sl,h'.get? b=some {o with slots:=sl}
 free:∀b o,h.get? b=some o->H b=none->b∉ex->H' b=none
 there:∀b o,h.get? b=some o->b∉ex->∃o',h'.get? b=some o'
 tups:∀b xs,H b=some (.tup xs)->H' b=some (.tup xs)
 frzs:∀b o u,H b=some (.frz o u)->H' b=some (.frz o u)
 tbls:∀b ps,H b=some (.tbl ps)->∃more,H' b=some (.tbl (ps++more))
section
variable{fs fs' ex ex':List Addr}{H H1 H2:Hp}{h h1 h2 h':Heap}{a x e:Addr}{o:HO}
def Un.any (u:Un fs ex H H1 h h1)(q:h.get? b=some ob)(n:H b=none)(y:b∉ex):∃sl,h1.get? b=some {ob with slots:=sl}:=by
 by_cases j:b∈fs
 ·exact u.slot b ob q n j y
 ·exact{ob.slots,u.keep b ob q n j y}
def Un.kept (k:∀b u,h.get? b=some u->h'.get? b=some u):Un fs ex H H h h':=
 {λb ob q _ _ _=>k b ob q,λb ob q _ _ _=>{ob.slots,k b ob q},λ_ _ _ n _=>n,λb ob q _=>{ob,k b ob q},λ_ _ q=>q,λ_ _ _ q=>q,λ_ ps q=>{#[],by rw[q];simp}}
def Un.refl:Un fs ex H H h h:=Un.kept λ_ _ q=>q
def Un.laid (k:∀b u,h.get? b=some u->h'.get? b=some u)(j:h.objs.size<=a)(hn:H a=none):Un fs ex H (upd H a o) h h' where
 keep:=λb u q _ _ _=>k b u q
 slot:=λb u q _ _ _=>{u.slots,k b u q}
 free:=λb u q n _=>by rw[ay (RX (RD (Rz q) j))];exact n
 there:=λb u q _=>{u,k b u q}
 tups:=λb xs q=>by rw[ay (aX q hn)];exact q
 frzs:=λb u xs q=>by rw[ay (aX q hn)];exact q
 tbls:=λb ps q=>{#[],by rw[ay (aX q hn),q];simp}
def Un.write (mu:GC (H x))(he:e=x\/H e=some (.own x))(k:∀b u,b≠e->h.get? b=some u->h'.get? b=some u)(y:∃u,h'.get? e=some u):Un fs ex H (upd H x o) h h':=by
 have F:∀b,H b=none->b≠x:=λb n z=>by subst z;rw[n] at mu;exact mu
 have B:∀b,H b=none->b≠e:=λb n z=>by
  subst z;rcases he with r|r
  ·exact F b n r
  ·rw[n] at r;cases r
 have hm:∀b u,H b=some u->¬ GC (some u)->b≠x:=λb u q nm z=>by subst z;rw[q] at mu;exact nm mu
 refine{λb u q n _ _=>k b u (B b n) q,λb u q n _ _=>{u.slots,k b u (B b n) q},λb u q n _=>by rw[ay (F b n)];exact n,λb u q _=>?_,
  λb xs q=>by rw[ay (hm b _ q λz=>z)];exact q,λb u xs q=>by rw[ay (hm b _ q λz=>z)];exact q,λb ps q=>{#[],by rw[ay (hm b _ q λz=>z),q];simp}}
 by_cases j:b=e
 ·subst j;exact y
 ·exact{u,k b u j q}
end
noncomputable def Fh (h:Heap)(H:Hp):List Addr:=(List.range h.objs.size).filter λa=>(H a).isSome
def mX (h:Heap)(H:Hp):Heap:=PySem.W.hideAll h (Fh h H)
def Bt (h:Heap)(H:Hp):(mX h H).objs.size=h.objs.size:=PySem.W.hideAll_size _ _
def Ed (e:h.get? b=some o)(n:H b=none):(mX h H).get? b=some o:=
 PySem.W.hideAll_get _ e λhm=>by
  have q:(H b).isSome=true:=(Te.mp hm).2;rw[n] at q;simp at q
def Ip (e:(mX h H).get? b=some o):h.get? b=some o/\H b=none:=by
 have j:=PySem.W.of_hideAll (Fh h H) e;refine{j,?_};cases q:H b with
 |none=>rfl
 | some x=>
   have hm:b∈Fh h H:=Te.mpr {List.mem_range.mpr (Rz j),by simp[q]}
   have z:(mX h H).get? b=none:=PySem.W.hideAll_none (Fh h H) hm;rw[z] at e;cases e
structure Mod (K:Q9) (mg:Str->Option Rg) (base:Heap):Prop where
 kin:K.In base
 glob:base.Ns mainGlobals mg
 blt:∃mb,base.Ns builtinsNs mb/\∀x:Str,x≠"__name__"->mb x=bootBuiltins x
 nolimit:base.NoLimit
structure Cx where
 prog:R0
 w:RS
 K:Q9
 mg:Str->Option Rg
 base:Heap
 A:Sw
 N:List Str
 s₀:Rl
 H₀:Hp
 env:Env
 outer:List Env
 stack:List Env
 ex:List Addr
 fn:Str->Bool
 calm:Bool
 pn:List (Addr×Obj)
 xe:Rg->Rl->Prop
noncomputable def gm (l:List Env):List Addr:=l.filterMap (·.frame)
abbrev Cx.fs (X:Cx):List Addr:=gm X.outer
def wb (sc:Scope)(x:Str):Prop:=sc.names.lookup x=some .local\/sc.names.lookup x=some .cell\/sc.names.lookup x=some .free
def Loc (sc:Scope)(x:Str):Prop:=sc.names.lookup x=some .local\/sc.names.lookup x=some .cell
def Look (env:Env)(h:Heap)(m:Str->Option Rg)(x:Str)(u:Rg):Prop:=
 (env.kindOf x=some .local/\m x=some u)\/((env.kindOf x=some .cell\/env.kindOf x=some .free)/\∃c,env.cells.lookup x=some c/\h.IsCell c (some u))
structure Cx.Ok (X:Cx):Prop where
 mod:Mod X.K X.mg X.base
 kind:X.env.scope.kind=.function
 glob:X.env.globals=mainGlobals
 blt:X.env.builtins=builtinsNs
 above:X.s₀.heap.objs.size<=X.env.locals
 inj:∀x y c,X.env.cells.lookup x=some c->X.env.cells.lookup y=some c->x=y
 has:∀x,(X.env.kindOf x=some .cell\/X.env.kindOf x=some .free)->∃c,X.env.cells.lookup x=some c
 cab:∀x c,X.fn x=true->X.env.cells.lookup x=some c->X.s₀.heap.objs.size<=c
 hd:X.calm=true->X.A.handled=none
 frames:X.A.frames=some X.stack
 stk:X.stack=X.outer\/(X.stack=X.env::X.outer/\X.env.frame=some X.env.locals)
 exf:∀b∈X.ex,b≠X.env.locals/\∀x c,X.env.cells.lookup x=some c->c≠b
 bs:∀b o,X.base.get? b=some o->X.s₀.heap.get? b=some o/\X.H₀ b=none
 bsz:X.base.objs.size<=X.s₀.heap.objs.size
 noex:∀b o,X.base.get? b=some o->b∉X.ex
 exfs:∀b∈X.ex,b∉X.fs
 funs:X.s₀.heap.FunFrames X.base X.outer
 frf:∀b∈X.fs,X.H₀ b=none
structure Inv (X:Cx) (pins:List (Addr×Obj)) (σ:List (Option V)) (H:Hp) (s:Rl):Prop where
 ok:X.Ok
 os:s.os=X.s₀.os
 bare:AllBare s.gens
 base:Un X.fs X.ex X.H₀ H X.s₀.heap s.heap
 loc:∃m,s.heap.Ns X.env.locals m/\∀(i:Nat) (x:Str) (v:V),X.N[i]?=some x->σ[i]?=some (some v)->wb X.env.scope x->∃u,RelV v u/\Look X.env s.heap m x u
 cell:∀x c,X.env.cells.lookup x=some c->∃v,s.heap.IsCell c v
 free:H X.env.locals=none
 freeC:∀x c,X.env.cells.lookup x=some c->H c=none
 pin:∀p∈X.pn++pins,s.heap.get? p.1=some p.2/\H p.1=none/\p.1≠X.env.locals/\p.1∉X.fs/\∀v,p.2.data≠.cell v
 hok:eD X.prog X.w H s.heap
 len:σ.length=X.N.length
section
variable{X:Cx}{pins:List (Addr×Obj)}{σ:List (Option V)}{H H':Hp}{s:Rl}{h':Heap}
def Cx.Ok.nofr (ok:X.Ok)(e:X.base.get? b=some o):b∉X.fs:=λj=>by
 have:=(ok.funs.mem j).1;rw[e] at this;cases this
def Inv.bs (I:Inv X pins σ H s):∀b o,X.base.get? b=some o->s.heap.get? b=some o/\H b=none:=λb o e=>
 {I.base.keep b o (I.ok.bs b o e).1 (I.ok.bs b o e).2 (I.ok.nofr e) (I.ok.noex b o e),I.base.free b o (I.ok.bs b o e).1 (I.ok.bs b o e).2 (I.ok.noex b o e)}
def Inv.bk (I:Inv X pins σ H s):∀b o,X.base.get? b=some o->s.heap.get? b=some o:=λb o e=>(I.bs b o e).1
def Inv.mod (I:Inv X pins σ H s):Mod X.K X.mg X.base:=I.ok.mod
def Inv.kIn (I:Inv X pins σ H s):X.K.In s.heap:=I.ok.mod.kin.keeps I.bk
def Inv.lt (I:Inv X pins σ H s):X.env.locals<s.heap.objs.size:=let{_,hn,_}:=I.loc;hn.lt
def Inv.sz (I:Inv X pins σ H s):X.s₀.heap.objs.size<=s.heap.objs.size:=Rp I.ok.above (Nat.le_of_lt I.lt)
def Inv.nofs (I:Inv X pins σ H s)(h:s.heap.objs.size<=a):a∉X.fs:=λj=>by
 obtain⟨_,o,ho,_⟩:=I.ok.funs.mem j;exact absurd (RD (Rz ho) (Rp I.sz h)) (Sv _)
def Inv.cne (I:Inv X pins σ H s):∀x c,X.env.cells.lookup x=some c->c≠X.env.locals:=λx c e z=>by
 obtain⟨v,o,ho,hd⟩:=I.cell x c e;obtain⟨m,⟨o',es,B,y,j,_⟩,_⟩:=I.loc;rw[z,y] at ho;cases ho;rw[j] at hd;cases hd
def Inv.funs (I:Inv X pins σ H s):s.heap.FunFrames X.base X.outer:=by
 have all:∀(l:List Env),(∀b∈gm l,b∈X.fs)->X.s₀.heap.FunFrames X.base l->s.heap.FunFrames X.base l:=by
  intro l;induction l with
  |nil=>intro _ _;trivial
  | cons env r B=>
    intro hs hl;obtain⟨hk,⟨L,o,hf,hn,ho,hd⟩,hr⟩:=hl;have j:=hs L (by unfold gm;rw[Tt,hf];exact Rw)
    obtain⟨sl,e⟩:=I.base.slot L o ho (I.ok.frf L j) j λz=>I.ok.exfs L z j;exact{hk,{L,_,hf,hn,e,hd},B (λb y=>hs b (by unfold gm;rw[Tt,hf];exact Rk _ y)) hr}
 exact all X.outer (λ_ y=>y) I.ok.funs
def Inv.stack (I:Inv X pins σ H s):s.heap.FunFrames X.base X.stack:=by
 rcases I.ok.stk with e|⟨e,hf⟩
 ·rw[e];exact I.funs
 ·rw[e];obtain⟨m,hn,_⟩:=I.loc;refine .cons (by rw[I.ok.kind];decide) hf hn ?_ I.funs
  exact Tv (Rp I.ok.bsz I.ok.above)
def Inv.stkSub (I:Inv X pins σ H s):∀b∈gm X.stack,b∈X.env.locals::X.fs:=λb j=>by
 rcases I.ok.stk with e|⟨e,hf⟩
 ·rw[e] at j;exact Rk _ j
 ·rw[e] at j;unfold gm at j;rw[Tt,hf] at j;exact j
def Inv.stkFree (I:Inv X pins σ H s):∀b∈gm X.stack,H b=none:=λb j=>by
 rcases Rv.mp (I.stkSub b j) with e|j
 ·rw[e];exact I.free
 ·obtain⟨_,o,ho,_⟩:=I.ok.funs.mem j;exact I.base.free b o ho (I.ok.frf b j) λz=>I.ok.exfs b z j
def Inv.step {ch:List Addr}(I:Inv X pins σ H s)
 (B:∀b∈ch,(b∈X.ex\/X.s₀.heap.objs.size<=b)/\b≠X.env.locals/\(∀x c,X.env.cells.lookup x=some c->c≠b)/\∀p∈X.pn++pins,p.1≠b)
 (keep:∀b o,b≠X.env.locals->b∉X.fs->b∉ch->s.heap.get? b=some o->H b=none->h'.get? b=some o)
 (slot:∀b o,b≠X.env.locals->b∈X.fs->b∉ch->s.heap.get? b=some o->H b=none->∃sl,h'.get? b=some {o with slots:=sl}) (free:∀b o,b∉ch->s.heap.get? b=some o->H b=none->H' b=none)
 (there:∀b o,b∉ch->s.heap.get? b=some o->∃o',h'.get? b=some o')
 (tups:∀b xs,H b=some (.tup xs)->H' b=some (.tup xs)) (frzs:∀b o u,H b=some (.frz o u)->H' b=some (.frz o u)) (tbls:∀b ps,H b=some (.tbl ps)->∃more,H' b=some (.tbl (ps++more)))
 (ns:∀m,s.heap.Ns X.env.locals m->h'.Ns X.env.locals m) (hok:eD X.prog X.w H' h') (Y:AllBare g') :
 Inv X pins σ H' {s with heap:=h',gens:=g',drawn:=d',toks:=t'}:=by
 have M:∀b o,X.s₀.heap.get? b=some o->b≠X.env.locals:=λb o e=>RX (RD (Rz e) I.ok.above);have J:∀b o,X.s₀.heap.get? b=some o->b∉X.ex->b∉ch:=λb o e j L=>by
  rcases(B b L).1 with z|z
  ·exact j z
  ·exact absurd (RD (Rz e) z) (Sv _)
 have y:∀x c,X.env.cells.lookup x=some c->∀v,s.heap.IsCell c v->h'.IsCell c v:=λx c e v ⟨o,ho,hd⟩=>by
  have F:=λz=>(B c z).2.2.1 x c e rfl;by_cases R:c∈X.fs
  ·obtain⟨sl,q⟩:=slot c o (I.cne x c e) R F ho (I.freeC x c e);exact{_,q,hd}
  ·exact{o,keep c o (I.cne x c e) R F ho (I.freeC x c e),hd}
 refine{I.ok,I.os,Y,{λb o e n L j=>?_,λb o e n L j=>?_,λb o e n j=>?_,λb o e j=>?_,λb xs e=>tups b xs (I.base.tups b xs e),λb o xs e=>frzs b o xs (I.base.frzs b o xs e),λb ps e=>?_},?_,λx c e=>?_,?_,λx c e=>?_,λp S=>?_,hok,I.len}
 ·exact keep b o (M b o e) L (J b o e j) (I.base.keep b o e n L j) (I.base.free b o e n j)
 ·obtain⟨sl,e1⟩:=I.base.slot b o e n L j;obtain⟨O,e2⟩:=slot b _ (M b o e) L (J b o e j) e1 (I.base.free b o e n j);exact⟨O,e2⟩
 ·obtain⟨o',e1⟩:=I.base.there b o e j;exact free b o' (J b o e j) e1 (I.base.free b o e n j)
 ·obtain⟨o',e1⟩:=I.base.there b o e j;exact there b o' (J b o e j) e1
 ·obtain⟨m1,e1⟩:=I.base.tbls b ps e;obtain⟨m2,e2⟩:=tbls b _ e1;exact{m1++m2,by rw[e2,Array.append_assoc]}
 ·obtain⟨m,hn,hl⟩:=I.loc;refine{m,ns m hn,λi x v e1 e2 W=>?_};obtain⟨u,r,l⟩:=hl i x v e1 e2 W;refine{u,r,?_};rcases l with l|⟨k,c,e,z⟩
  ·exact .inl l
  ·exact .inr {k,c,e,y x c e _ z}
 ·obtain⟨v,z⟩:=I.cell x c e;exact{v,y x c e v z}
 ·obtain⟨m,⟨o,_,_,ho,_⟩,_⟩:=I.loc;exact free _ o (λz=>(B _ z).2.1 rfl) ho I.free
 ·obtain⟨v,o,ho,hd⟩:=I.cell x c e;exact free c o (λz=>(B c z).2.2.1 x c e rfl) ho (I.freeC x c e)
 ·obtain⟨e,n,ne,U,d⟩:=I.pin p S;have F:=λz=>(B p.1 z).2.2.2 p S rfl;exact{keep p.1 p.2 ne U F e n,free p.1 p.2 F e n,ne,U,d}
def Inv.un {t':Nat}(I:Inv X pins σ H s)(u:Un X.fs [] H H' s.heap h')(hok:eD X.prog X.w H' h'):Inv X pins σ H' {s with heap:=h',toks:=t'}:=by
 obtain⟨m,⟨o,es,M,ho,r⟩,_⟩:=id I.loc;obtain⟨sl,J⟩:=u.any ho I.free `s
 exact I.step (ch:=[]) (λ_ z=>nomatch z) (λb o _ F _ e n=>u.keep b o e n F `s) (λb o _ F _ e n=>u.slot b o e n F `s) (λb o _ e n=>u.free b o e n `s) (λb o _ e=>u.there b o e `s) u.tups u.frzs u.tbls (λO hm=>by
  obtain⟨o',B,y,j,L⟩:=hm;rw[ho] at j;cases j;exact{_,B,y,J,L}) hok I.bare
def Inv.call {M:Drawn}{ch:List Addr}(I:Inv X pins σ H s)(u:Un (gm X.stack) ch H H' s.heap h')(hok:eD X.prog X.w H' h')(R:AllBare g')
 (y:∀b∈ch,(b∈X.ex\/X.s₀.heap.objs.size<=b)/\b≠X.env.locals/\(∀x c,X.env.cells.lookup x=some c->c≠b)/\∀p∈X.pn++pins,p.1≠b) :
 Inv X pins σ H' {s with heap:=h',gens:=g',drawn:=M,toks:=t'}:=by
 obtain⟨m,⟨o,es,U,ho,r⟩,_⟩:=id I.loc;obtain⟨sl,L⟩:=u.any ho I.free λz=>(y _ z).2.1 rfl;exact I.step y (λb o L O j e n=>u.keep b o e n (λz=>(Rv.mp (I.stkSub b z)).elim L O) j) (λb o _ _ j e n=>u.any e n j) (λb o j e n=>u.free b o e n j) (λb o j e=>u.there b o e j) u.tups u.frzs u.tbls (λW hm=>by
  obtain⟨o',J,F,B,S⟩:=hm;rw[ho] at B;cases B;exact{_,J,F,L,S}) hok R
def Inv.turned {j:Addr}(I:Inv X pins σ H s)(k:∀b o,b≠j->s.heap.get? b=some o->h'.get? b=some o)(hn:H j=none)(F:j≠X.env.locals)
 (h1:j∈X.ex\/X.s₀.heap.objs.size<=j) (h2:∀x c,X.env.cells.lookup x=some c->c≠j) (h3:∀p∈X.pn++pins,p.1≠j):Inv X pins σ H {s with heap:=h',toks:=t'}:=by
 have B:∀b u,H b=some u->b≠j:=λb u e z=>by rw[z,hn] at e;cases e
 refine I.step (ch:=[j]) (λb L=>?_) (λb o _ _ y e _=>k b o (λz=>y (by simp[z])) e) (λb o _ _ y e _=>{o.slots,k b o (λz=>y (by simp[z])) e}) (λ_ _ _ _ n=>n)
  (λb o y e=>{o,k b o (λz=>y (by simp[z])) e}) (λ_ _ e=>e) (λ_ _ _ e=>e) (λb ps e=>{#[],by rw[e];simp}) (λm hm=>?_) (λb u e=>?_) I.bare
 ·have e:b=j:=by simpa using L
  subst e;exact⟨h1,F,h2,h3⟩
 ·obtain⟨o,es,J,ho,r⟩:=hm;exact{o,es,J,k _ o (So F) ho,r}
 ·refine(I.hok b u e).stay (λc v y q=>k c v ?_ q) (λ_ q=>q) λ_ _ q=>q;rcases y with z|z
  ·rw[z];exact B b u e
  ·exact B c _ z
def Inv.tok (I:Inv X pins σ H s)(t:Nat):Inv X pins σ H {s with toks:=t}:=I.un Un.refl I.hok
def Inv.kept (I:Inv X pins σ H s)(k:∀b u,s.heap.get? b=some u->h'.get? b=some u):Inv X pins σ H {s with heap:=h',toks:=t'}:=I.un (Un.kept k) (I.hok.kept k)
def Inv.laid (I:Inv X pins σ H s)(k:∀b u,s.heap.get? b=some u->h'.get? b=some u)(j:s.heap.objs.size<=a)(new:d9 X.prog X.w (upd H a o) h' a o) :
 Inv X pins σ (upd H a o) {s with heap:=h',toks:=t'}:=I.un (Un.laid k j (I.hok.fresh j)) (I.hok.laid k j new)
def Inv.write (I:Inv X pins σ H s)(mu:GC (H x))(he:e=x\/H e=some (.own x))(k:∀b u,b≠e->s.heap.get? b=some u->h'.get? b=some u)(j:∃u,h'.get? e=some u)
 (new:d9 X.prog X.w (upd H x o) h' x o):Inv X pins σ (upd H x o) {s with heap:=h',toks:=t'}:=I.un (Un.write mu he k j) (I.hok.write mu he k j new)
def Inv.pins_of (I:Inv X pins σ H s)(h:∀p∈j,s.heap.get? p.1=some p.2/\H p.1=none/\p.1≠X.env.locals/\p.1∉X.fs/\∀v,p.2.data≠.cell v):Inv X j σ H s:=
 {I.ok,I.os,I.bare,I.base,I.loc,I.cell,I.free,I.freeC,λp y=>(RK.mp y).elim (λz=>I.pin p (Sx _ z)) (h p),I.hok,I.len}
def pj {N:List Str}(y:N.Nodup){i j:Nat}(a:N[i]?=some x)(b:N[j]?=some x):i=j:=by
 obtain⟨h1,e1⟩:=Rb.mp a;obtain⟨h2,e2⟩:=Rb.mp b;exact(List.getElem_inj y).mp (e1.trans e2.symm)
def sg {M:Model}(I:Inv X pins σ H s)(hN:X.N.Nodup)(hi:X.N[i]?=some x)(J:Loc X.env.scope x)(r:RelV v u)
 (h:∀s',Inv X pins (σ.set i (some v)) H s'->(∃a,Heap.SameBut a s.heap s'.heap/\(a=X.env.locals\/X.env.cells.lookup x=some a))->Q () s') (hf:X.fn x=true\/X.env.scope.names.lookup x=some .local:=by first|exact .inl rfl|exact .inr rfl|assumption):wpAny M A (storeName X.env x u) Q E s:=by
 obtain⟨m,hn,hl⟩:=id I.loc;have hcls:(X.env.scope.kind==.class||(X.env.scope.kind==.module&&X.env.locals != X.env.globals))=false:=by rw[I.ok.kind];rfl
 have O:i<σ.length:=by rw[I.len];exact(Rb.mp hi).1
 have cne:=I.cne;have B:∀{a:Addr}{h':Heap},(∃o,s.heap.get? a=some o/\H a=none)->Heap.SameBut a s.heap h'->eD X.prog X.w H h':=λ{a h'} ha hs b ob e=>by
  obtain⟨_,_,L⟩:=ha;refine(I.hok b ob e).stay (λc w' F q=>(hs.2 c ?_).trans q) (λ_ q=>q) λ_ _ q=>q;rintro rfl;rcases F with rfl|F
  ·rw[L] at e;cases e
  ·rw[L] at F;cases F
 rcases J with hk|hk
 ·refine wpAny_storeName_local hk hn (λh' hn' hs=>?_) hcls;obtain⟨oL,_,_,hoL,_⟩:=id hn;refine h _ {I.ok,I.os,I.bare,{λb o e n R J=>?_,λb o e n R J=>?_,I.base.free,λb o e J=>?_,I.base.tups,I.base.frzs,I.base.tbls},{_,hn',λj y v' e1 e2 e3=>?_},λy c e=>?_,I.free,I.freeC,λp hp=>?_,B ⟨oL,hoL,I.free⟩ hs,by simpa using I.len} {_,hs,.inl rfl}
  ·exact(hs.2 b (RX (RD (Rz e) I.ok.above))).trans (I.base.keep b o e n R J)
  ·obtain⟨sl,e1⟩:=I.base.slot b o e n R J;exact{sl,(hs.2 b (RX (RD (Rz e) I.ok.above))).trans e1}
  ·obtain⟨o',e1⟩:=I.base.there b o e J;exact{o',(hs.2 b (RX (RD (Rz e) I.ok.above))).trans e1}
  ·by_cases U:j=i
   ·subst U;rw[hi] at e1;cases e1;rw[RF O] at e2;cases e2;exact{u,r,.inl {hk,`s}}
   ·rw[Rx (So U)] at e2;obtain⟨u',r',q⟩:=hl j y v' e1 e2 e3;refine{u',r',?_};rcases q with⟨k,e⟩|⟨k,c,e,z⟩
    ·refine .inl {k,?_};have:y≠x:=λe=>U (pj hN e1 (e ▸ hi));simp[this,e]
    ·exact .inr {k,c,e,z.sameBut hs (cne y c e)}
  ·obtain⟨w',z⟩:=I.cell y c e;exact{w',z.sameBut hs (cne y c e)}
  ·obtain⟨e,n,ne,nf,d⟩:=I.pin p hp;exact{(hs.2 p.1 ne).trans e,n,ne,nf,d}
 ·have S:X.fn x=true:=by
   rcases hf with z|z
   ·exact z
   ·rw[z] at hk;cases hk
  obtain⟨c,F⟩:=I.ok.has x (.inl hk);obtain⟨w',z⟩:=I.cell x c F;refine wpAny_storeName_cell I.ok.kind hk F z (λh' W hs=>?_);obtain⟨oc,hoc,hocd⟩:=id z;refine h {s with heap:=h'} {I.ok,I.os,I.bare,{λb o e n R J=>?_,λb o e n R J=>?_,I.base.free,λb o e J=>?_,I.base.tups,I.base.frzs,I.base.tbls},{m,hn.sameBut hs (So (cne x c F)),λj y v' e1 e2 e3=>?_},λy c' e=>?_,I.free,I.freeC,λp hp=>?_,B {oc,hoc,I.freeC x c F} hs,by simpa using I.len} {c,hs,.inr F}
  ·exact(hs.2 b (RX (RD (Rz e) (I.ok.cab x c S F)))).trans (I.base.keep b o e n R J)
  ·obtain⟨sl,e1⟩:=I.base.slot b o e n R J;exact{sl,(hs.2 b (RX (RD (Rz e) (I.ok.cab x c S F)))).trans e1}
  ·obtain⟨o',e1⟩:=I.base.there b o e J;exact{o',(hs.2 b (RX (RD (Rz e) (I.ok.cab x c S F)))).trans e1}
  ·by_cases U:j=i
   ·subst U;rw[hi] at e1;cases e1;rw[RF O] at e2;cases e2;exact{u,r,.inr {.inl hk,c,F,W}}
   ·rw[Rx (So U)] at e2;obtain⟨u',r',q⟩:=hl j y v' e1 e2 e3;refine{u',r',?_};rcases q with q|⟨k,c',e,z'⟩
    ·exact .inl q
    ·refine .inr {k,c',e,z'.sameBut hs ?_};rintro rfl;exact U (pj hN e1 (I.ok.inj _ _ _ e F ▸ hi))
  ·by_cases Y:c'=c
   ·subst Y;exact{_,W}
   ·obtain⟨w2,z2⟩:=I.cell y c' e;exact{w2,z2.sameBut hs Y}
  ·obtain⟨e,n,ne,nf,d⟩:=I.pin p hp;refine{(hs.2 p.1 ?_).trans e,n,ne,nf,d};intro q;rw[q,hoc] at e;have q':=Ro e;exact d w' (by rw[<- q'];exact hocd)
def uy (I:Inv X pins σ H s)(y:X.N.Nodup)(hi:X.N[i]?=some x)(z:Loc X.env.scope x)(r:RelV v u)
 (h:∀s',Inv X pins (σ.set i (some v)) H s'->Q () s') (hf:X.fn x=true\/X.env.scope.names.lookup x=some .local:=by first|exact .inl rfl|exact .inr rfl|assumption):wpAny M A (storeName X.env x u) Q E s:=
 sg I y hi z r (λs' j _=>h s' j) hf
def Inv.call' (I:Inv X pins σ H s)(ho:s'.os=s.os)(u:Un (gm X.stack) ch H H' s.heap s'.heap)(hok:eD X.prog X.w H' s'.heap)(y:AllBare s'.gens)
 (j:∀b∈ch,(b∈X.ex\/X.s₀.heap.objs.size<=b)/\b≠X.env.locals/\(∀x c,X.env.cells.lookup x=some c->c≠b)/\∀p∈X.pn++pins,p.1≠b):Inv X pins σ H' s':=by
 obtain⟨h',B,z,F,o'⟩:=s';have e:=ho;subst e;exact I.call u hok y j
end
abbrev XK:=Rg->Option Addr->Hp->Prop
abbrev St:=List (Option V)
abbrev VK:=V->Hp->Prop
abbrev TE:=St->Hp->VK->Prop
abbrev TT:=St->Hp->(Bool->Hp->Prop)->Prop
abbrev TA:=St->Hp->(List V->Hp->Prop)->Prop
structure Ends where
 nx:St->Hp->Prop
 rt:VK
 bk:St->Hp->Prop:=λ_ _=>False
 ct:St->Hp->Prop:=λ_ _=>False
abbrev TS:=Ends->St->Hp->Prop
def EP (X:Cx)(pins:List (Addr×Obj))(σ:St)(Q:VK)(u:Rg)(s':Rl):Prop:=∃v H',Inv X pins σ H' s'/\RelV v u/\Q v H'
def TP (X:Cx)(pins:List (Addr×Obj))(σ:St)(Q:Bool->Hp->Prop)(b:Bool)(s':Rl):Prop:=∃H',Inv X pins σ H' s'/\Q b H'
def AP (X:Cx)(pins:List (Addr×Obj))(σ:St)(Q:List V->Hp->Prop)(us:List Rg)(s':Rl):Prop:=∃j H',Inv X pins σ H' s'/\Vals j us/\Q j H'
def SP (X:Cx)(pins:List (Addr×Obj))(D:Ends)(f:Flow)(s':Rl):Prop:=
 match f with
 |.next=>∃j H',Inv X pins j H' s'/\D.nx j H'
 |.brk=>∃j H',Inv X pins j H' s'/\D.bk j H'
 |.cont=>∃j H',Inv X pins j H' s'/\D.ct j H'
 |.ret u=>∃v j H',Inv X pins j H' s'/\RelV v u/\D.rt v H'
def PE (X:Cx)(e:Expr)(t:TE):Prop:=
 ∀(pins:List (Addr×Obj)) (s:Rl) (σ:St) (H:Hp) (Q:VK),Inv X pins σ H s->t σ H Q->wpAny (model X.prog X.w) X.A (eval e X.env) (EP X pins σ Q) X.xe s
def PT (X:Cx)(e:Expr)(t:TT):Prop:=
 ∀(pins:List (Addr×Obj)) (s:Rl) (σ:St) (H:Hp) (Q:Bool->Hp->Prop),Inv X pins σ H s->t σ H Q->wpAny (model X.prog X.w) X.A (isTrue e X.env (eval e X.env)) (TP X pins σ Q) X.xe s
def PW (X:Cx)(e:Expr)(t:TT):Prop:=
 ∀(whole:Sem Rg) (pins:List (Addr×Obj)) (s:Rl) (σ:St) (H:Hp) (Q:Bool->Hp->Prop),Inv X pins σ H s->t σ H Q->wpAny (model X.prog X.w) X.A (isTrue e X.env whole) (TP X pins σ Q) X.xe s
def PW.pt (h:PW X e t):PT X e t:=h _
def PA (X:Cx)(es:List Expr)(t:TA):Prop:=
 ∀(pos:Pos) (pins:List (Addr×Obj)) (s:Rl) (σ:St) (H:Hp) (Q:List V->Hp->Prop),Inv X pins σ H s->t σ H Q->wpAny (model X.prog X.w) X.A (spliced (backTo pos (starEach es X.env))) (AP X pins σ Q) X.xe s
def PS (X:Cx)(st:Stmt)(t:TS):Prop:=
 ∀(pins:List (Addr×Obj)) (s:Rl) (σ:St) (H:Hp) (D:Ends),Inv X pins σ H s->t D σ H->wpAny (model X.prog X.w) X.A (exec st X.env) (SP X pins D) X.xe s
def lu (X:Cx)(st:List Stmt)(t:TS):Prop:=
 ∀(pins:List (Addr×Obj)) (s:Rl) (σ:St) (H:Hp) (D:Ends),Inv X pins σ H s->t D σ H->wpAny (model X.prog X.w) X.A (execs st X.env) (SP X pins D) X.xe s
def aV {j:Type}{t:Sem j}{Q Q':j->Rl->Prop}{M:Model}{A:Sw}{E:Rg->Rl->Prop}{s:Rl}(h:wpAny M A t Q E s)(y:∀a s,Q a s->Q' a s):wpAny M A t Q' E s:=wpAny_mono h y λ_ _ x=>x
section
variable{X:Cx}
def CG (i:Nat):TE:=λσ H Q=>∃v,σ[i]?=some (some v)/\Q v H
def tC (v:V):TE:=λ_ H Q=>Q v H
def qf (F:X.N[i]?=some x)(J:wb X.env.scope x)(hd:(x==("__debug__":Str))=false:=by decide)(z:(x==("__classdict__":Str))=false:=by decide):PE X (.Name x pos) (CG i):=by
 intro pins s σ H Q I h;obtain⟨v,e,h⟩:=h;obtain⟨m,hn,hl⟩:=I.loc;obtain⟨u,r,l⟩:=hl i x v F e J;have y:EP X pins σ Q u s:=⟨v,H,I,r,h⟩;rcases l with⟨hk,hm⟩|⟨hk,c,B,j⟩
 ·exact wpAny_Name (wpAny_loadName_local I.ok.kind hk hn hm y) hd
 ·rcases hk with hk|hk
  ·exact wpAny_Name (wpAny_loadName_cell I.ok.kind hk B j y) hd
  ·exact wpAny_Name (wpAny_loadName_free I.ok.kind hk B j y z) hd
def AQ {i j pos}:PE X (.Constant (.int i) j pos) (tC (.int i)):=λ_ _ _ H _ I h=>wpAny_Constant_int {.int i,H,I.tok _,{_,rfl},h}
def yq {b j pos}:PE X (.Constant (.bool b) j pos) (tC (.bl b)):=λ_ _ _ H _ I h=>Constant_bool {.bl b,H,I,rfl,h}
def Le {j pos}:PE X (.Constant .none j pos) (tC .non):=λ_ _ _ H _ I h=>Constant_none {.non,H,I,rfl,h}
def K9 {x j pos}:PE X (.Constant (.str x) j pos) (tC (.str x)):=λ_ _ _ H _ I h=>Calls.Constant_str {.str x,H,I.tok _,{_,rfl},h}
def Gl (X:Cx)(x:Str):Prop:=X.env.kindOf x=some .globalImplicit
def fL (I:Inv X pins σ H s)(j:Gl X x)(hm:X.mg x=some u)(h:Q u s)
 (hd:(x==("__debug__":Str))=false:=by decide):wpAny (model X.prog X.w) X.A (eval (.Name x pos) X.env) Q E s:=
 Calls.Name_function_global I.ok.kind j (Calls.loadGlobal_global (by rw[I.ok.glob];exact I.mod.glob.keeps I.bk) hm h) hd
def hX (I:Inv X pins σ H s)(j:Gl X x)(hm:X.mg x=none)(y:bootBuiltins x=some u)(h:Q u s)
 (hn:x≠"__name__":=by decide) (hd:(x==("__debug__":Str))=false:=by decide):wpAny (model X.prog X.w) X.A (eval (.Name x pos) X.env) Q E s:=by
 obtain⟨z,h1,h2⟩:=I.mod.blt;exact Calls.Name_function_global I.ok.kind j (Calls.loadGlobal_builtin (by rw[I.ok.glob];exact I.mod.glob.keeps I.bk) hm (by rw[I.ok.blt];exact h1.keeps I.bk) ((h2 x hn).trans y) h) hd
def iE (j:Gl X x)(hm:X.mg x=some u)(r:RelV v u)(hd:(x==("__debug__":Str))=false:=by decide):PE X (.Name x pos) (tC v):=
 λ_ _ _ H _ I h=>fL I j hm ⟨v,H,I,r,h⟩ hd
def xb (j:Gl X x)(hm:X.mg x=none)(y:bootBuiltins x=some u)(r:RelV v u)(hn:x≠"__name__":=by decide)(hd:(x==("__debug__":Str))=false:=by decide):PE X (.Name x pos) (tC v):=
 λ_ _ _ H _ I h=>hX I j hm y ⟨v,H,I,r,h⟩ hn hd
variable{a b:Expr}{ta tb:TE}{pos:Pos}
variable{tA tB':TT}{rest:List Expr}
def dX (t u:TT):TT:=λσ H Q=>t σ H λc H1=>if c=true then u σ H1 Q else Q false H1
def cV (t u:TT):TT:=λσ H Q=>t σ H λc H1=>if c=true then Q true H1 else u σ H1 Q
def bo (t:TT):TT:=λσ H Q=>t σ H λc H1=>Q (!c) H1
def HZ (j:PT X a tA):PW X (.BoolOp .And [a] pos) tA:=by
 intro y pins s σ H Q I h;refine isTrue_and (aV (j pins s σ H Q I h) λc s1 e=>?_);cases c with
 |true=>exact isTrue_and_nil e
 |false=>exact e
def KS (j:PT X a tA):PW X (.BoolOp .Or [a] pos) tA:=by
 intro y pins s σ H Q I h;refine isTrue_or (aV (j pins s σ H Q I h) λc s1 e=>?_);cases c with
 |false=>exact isTrue_or_nil e
 |true=>exact e
def KU (z:PT X a tA)(B:PW X (.BoolOp .And (b::rest) pos) tB'):PW X (.BoolOp .And (a::b::rest) pos) (dX tA tB'):=by
 intro F pins s σ H Q I h;refine isTrue_and (aV (z pins s σ H _ I h) λc s1 ⟨H1,j,y⟩=>?_);cases c with
 |true=>exact B F pins s1 σ H1 Q j y
 |false=>exact⟨H1,j,y⟩
def NS (z:PT X a tA)(B:PW X (.BoolOp .Or (b::rest) pos) tB'):PW X (.BoolOp .Or (a::b::rest) pos) (cV tA tB'):=by
 intro F pins s σ H Q I h;refine isTrue_or (aV (z pins s σ H _ I h) λc s1 ⟨H1,j,y⟩=>?_);cases c with
 |true=>exact⟨H1,j,y⟩
 |false=>exact B F pins s1 σ H1 Q j y
def KW (j:PT X a tA):PT X (.UnaryOp .Not a pos) (bo tA):=by
 intro pins s σ H Q I h;exact isTrue_not (j pins s σ H (λc H1=>Q (!c) H1) I h)
def NF (ta tb:TE):TE:=λσ H Q=>ta σ H λx H1=>∃c,x=.bl c/\if c=true then tb σ H1 Q else Q (.bl false) H1
def PK (ta tb:TE):TE:=λσ H Q=>ta σ H λx H1=>∃c,x=.bl c/\if c=true then Q (.bl true) H1 else tb σ H1 Q
def NB (ta:TE):TE:=λσ H Q=>ta σ H λx H1=>∃c,x=.bl c/\Q (.bl (!c)) H1
def Lb {op}(h:PE X a t):PE X (.BoolOp op [a] pos) t:=λpins s σ H Q I j=>BoolOp_one (h pins s σ H Q I j)
def Li (z:PE X a ta)(B:PE X (.BoolOp .And (b::rest) pos) tb):PE X (.BoolOp .And (a::b::rest) pos) (NF ta tb):=by
 intro pins s σ H Q I h;refine BoolOp_and (aV (z pins s σ H _ I h) λv s1 ⟨x,H1,y,r1,j⟩=>?_);obtain⟨c,rfl,j⟩:=j;cases r1;refine tqp ?_;cases c with
 |true=>exact B pins s1 σ H1 Q y j
 |false=>exact{.bl false,H1,y,rfl,j}
def NU (z:PE X a ta)(B:PE X (.BoolOp .Or (b::rest) pos) tb):PE X (.BoolOp .Or (a::b::rest) pos) (PK ta tb):=by
 intro pins s σ H Q I h;refine BoolOp_or (aV (z pins s σ H _ I h) λv s1 ⟨x,H1,y,r1,j⟩=>?_);obtain⟨c,rfl,j⟩:=j;cases r1;refine tqp ?_;cases c with
 |false=>exact B pins s1 σ H1 Q y j
 |true=>exact{.bl true,H1,y,rfl,j}
def Lc (z:PE X a ta):PE X (.UnaryOp .Not a pos) (NB ta):=by
 intro pins s σ H Q I h;refine UnaryOp_ (aV (z pins s σ H _ I h) λv s1 ⟨x,H1,y,r1,j⟩=>?_);obtain⟨c,rfl,j⟩:=j;cases r1;exact not_of (tqp {.bl (!c),H1,y,rfl,j})
def tIf (t:TT)(ta tb:TE):TE:=λσ H Q=>t σ H λc H1=>if c=true then ta σ H1 Q else tb σ H1 Q
def u2 (F:PT X c tA)(z:PE X a ta)(B:PE X b tb):PE X (.IfExp c a b pos) (tIf tA ta tb):=by
 intro pins s σ H Q I h;refine wpAny_IfExp (aV (F pins s σ H _ I h) λd s1 ⟨H1,j,y⟩=>?_);cases d with
 |true=>exact z pins s1 σ H1 Q j y
 |false=>exact B pins s1 σ H1 Q j y
end
def cE (K:Q9)(H:Hp)(a:Addr)(xs:List V):Prop:=
 Rd H a (.lst xs)\/
  ∃(o:Obj) (j:Array Rg) (n:Nat),K.lookup a=some o/\o.cls=.type "list"/\o.dict=none/\o.data=.seq j n/\j.size<=sizeLine/\Vals xs j.toList
def dI (K:Q9)(H:Hp)(a:Addr)(xs:List V):Prop:=
 Rd H a (.tup xs)\/
  ∃(o:Obj) (j:Array Rg) (n:Nat),K.lookup a=some o/\o.cls=.type "tuple"/\o.data=.seq j n/\j.size<=sizeLine/\Vals xs j.toList
noncomputable def QR:Rg->Option V
 |.none=>some .non
 |.bool b=>some (.bl b)
 |.int i _=>some (.int i)
 |.str x _=>some (.str x)
 |.bytes b _=>some (.byt b)
 |.float b _=>some (.flt b)
 |.ref a=>some (.ref a)
 |.type n=>some (.ty n)
 |_=>none
def RelV.abs (r:RelV x u):QR u=some x:=by
 cases x with
 |non=>cases r;rfl
 |bl _=>cases r;rfl
 |int _=>obtain⟨t,rfl⟩:=r;rfl
 |str _=>obtain⟨t,rfl⟩:=r;rfl
 |byt _=>obtain⟨t,rfl⟩:=r;rfl
 |flt _=>obtain⟨t,rfl⟩:=r;rfl
 |ref _=>cases r;rfl
 |ty _=>cases r;rfl
def RelV.inj (r:RelV x u)(q:RelV y u):x=y:=Ro (r.abs.symm.trans q.abs)
noncomputable def Vals.inj:∀{xs ys:List V}{us:List Rg},Vals xs us->Vals ys us->xs=ys
 |_,_,_,.nil,.nil=>rfl
 |_,_,_,.cons r t,.cons j y=>by rw[r.inj j,Vals.inj t y]
section
variable{X:Cx}{pins:List (Addr×Obj)}{σ:St}{H:Hp}{s:Rl}{a:Addr}{xs ys:List V}
def cE.of {K:Q9}(h:H a=some (.lst xs)):cE K H a xs:=.inl (.inl h)
def dI.of {K:Q9}(h:H a=some (.tup xs)):dI K H a xs:=.inl (.inl h)
def Inv.list (I:Inv X pins σ H s)(h:cE X.K H a xs):∃j:List Rg,Vals xs j/\PlainL s.heap a j.toArray/\xs.length<=sizeLine:=by
 rcases h with h|⟨o,j,n,hk,y,hd,hs,B,r⟩
 ·obtain⟨z,j,n,r,e⟩:=h.ok I.hok;exact{j,r,{_,n,e,rfl,rfl,rfl},z}
 ·refine{j.toList,r,{o,n,I.kIn a o hk,y,hd,by simpa using hs},?_}
  have e:=r.length;simp only[S7] at e;omega
def Inv.tuple (I:Inv X pins σ H s)(h:dI X.K H a xs):∃j:List Rg,Vals xs j/\IsTup s.heap a j.toArray/\xs.length<=sizeLine:=by
 rcases h with h|⟨o,j,n,hk,y,hs,B,r⟩
 ·obtain⟨z,j,r,p⟩:=h.ok I.hok;exact⟨j,r,p,z⟩
 ·refine{j.toList,r,{o,I.kIn a o hk,y,n,by simpa using hs},?_}
  have e:=r.length;simp only[S7] at e;omega
def Inv.list_inj (I:Inv X pins σ H s)(h:cE X.K H a xs)(h':cE X.K H a ys):xs=ys:=by
 obtain⟨y,r,⟨o,n,e,_,_,d⟩,_⟩:=I.list h;obtain⟨j,F,⟨o',J,B,_,_,z⟩,_⟩:=I.list h';rw[e] at B;cases B;rw[d] at z;injection z with d1 _
 have:y=j:=by simpa using congrArg Array.toList d1
 subst this;exact r.inj F
def Inv.tuple_inj (I:Inv X pins σ H s)(h:dI X.K H a xs)(h':dI X.K H a ys):xs=ys:=by
 obtain⟨y,r,⟨o,e,_,n,d⟩,_⟩:=I.tuple h;obtain⟨j,F,⟨o',B,_,J,z⟩,_⟩:=I.tuple h';rw[e] at B;cases B;rw[d] at z;injection z with d1 _
 have:y=j:=by simpa using congrArg Array.toList d1
 subst this;exact r.inj F
end
section
variable{X:Cx}{st:Stmt}{rest:List Stmt}{t u:TS}{e:Expr}{te:TE}{pos:Pos}
def Fj:TS:=λD σ H=>D.nx σ H
def PH (t u:TS):TS:=λD σ H=>t {D with nx:=u D} σ H
def wY:lu X [] Fj:=λ_ _ σ H _ I h=>wpAny_execs_nil ⟨σ,H,I,h⟩
def oZ (h1:PS X st t)(h2:lu X rest u):lu X (st::rest) (PH t u):=by
 intro pins s σ H D I h;refine wpAny_execs_cons (aV (h1 pins s σ H {D with nx:=u D} I h) λf s1 q=>?_)
 cases f with
 | next=>
   obtain⟨j,H',y,q⟩:=q;exact h2 pins s1 j H' D y q
 |ret v=>exact q
 |brk=>exact q
 |cont=>exact q
def Ib:PS X (.Pass pos) Fj:=λ_ _ σ H _ I h=>wpAny_Pass ⟨σ,H,I,h⟩
def Inv.quiet (I:Inv X pins σ H s):interactive X.env=false:=by simp[interactive,I.ok.kind]
def NC (te:TE):TS:=λD σ H=>te σ H λ_ H1=>D.nx σ H1
def nF (he:PE X e te)(hs:swapsWith e none pos.line X.env=pure false:=by rfl):PS X (.Expr e pos) (NC te):=by
 intro pins s σ H D I h;exact wpAny_Expr_any (aV (he pins s σ H _ I h) (by rintro v s1 ⟨x,H1,j,r1,y⟩;exact⟨σ,H1,j,y⟩)) I.quiet hs
def PJ (te:TE):TS:=λD σ H=>te σ H D.rt
def AL (he:PE X e te):PS X (.Return (some e) pos) (PJ te):=by
 intro pins s σ H D I h;exact wpAny_Return_some (aV (he pins s σ H _ I h) (by rintro v s1 ⟨x,H1,j,r1,y⟩;exact⟨x,σ,H1,j,r1,y⟩))
def Nz:TS:=λD _ H=>D.rt .non H
def Ia:PS X (.Return none pos) Nz:=λ_ _ σ H _ I h=>wpAny_Return_none {.non,σ,H,I,rfl,h}
def PN (c:TT)(t u:TS):TS:=λD σ H=>c σ H λb H1=>if b=true then t D σ H1 else u D σ H1
def NT (F:PT X c tc)(z:lu X a t)(B:lu X b u):PS X (.If c a b pos) (PN tc t u):=by
 intro pins s σ H D I h;refine wpAny_If (aV (F pins s σ H _ I h) λd s1 ⟨H1,j,y⟩=>?_);cases d with
 |true=>exact z pins s1 σ H1 D j y
 |false=>exact B pins s1 σ H1 D j y
end
abbrev TG:=V->St->Hp->(St->Hp->Prop)->Prop
abbrev xS:=List V->St->Hp->(St->Hp->Prop)->Prop
def PG (X:Cx)(j:Expr)(t:TG):Prop:=
 ∀(pins:List (Addr×Obj)) (s:Rl) (σ:St) (H:Hp) (v:V) (u:Rg) (Q:St->Hp->Prop),Inv X pins σ H s->RelV v u->t v σ H Q->
  wpAny (model X.prog X.w) X.A (assign j X.env u) (λ_ s'=>∃y H',Inv X pins y H' s'/\Q y H') X.xe s
def wc (X:Cx)(ts:List Expr)(t:xS):Prop:=
 ∀(pins:List (Addr×Obj)) (s:Rl) (σ:St) (H:Hp) (z:List V) (y:List Rg) (Q:St->Hp->Prop),Inv X pins σ H s->Vals z y->t z σ H Q->
  wpAny (model X.prog X.w) X.A (assignInOrder ((assignEach ts X.env).map (·.2)) y) (λ_ s'=>∃j H',Inv X pins j H' s'/\Q j H') X.xe s
abbrev Nc:=V->V->V->Hp->(Hp->Prop)->Prop
def Ng (X:Cx)(t:Nc):Prop:=
 ∀(pins:List (Addr×Obj)) (s:Rl) (σ:St) (H:Hp) (o i v:V) (y j u:Rg) (Q:Hp->Prop),Inv X pins σ H s->RelV o y->RelV i j->RelV v u->t o i v H Q->
  wpAny (model X.prog X.w) X.A (setItem y j u) (λ_ s'=>∃H',Inv X pins σ H' s'/\Q H') X.xe s
section
variable{X:Cx}{pos:Pos}
def Of (i:Nat):TG:=λv σ H Q=>Q (σ.set i (some v)) H
def rh (y:X.N.Nodup)(hi:X.N[i]?=some x)(z:Loc X.env.scope x)(hf:X.fn x=true\/X.env.scope.names.lookup x=some .local:=by first|exact .inl rfl|exact .inr rfl|assumption):PG X (.Name x pos) (Of i):=by
 intro pins s σ H v u Q I r h;exact wpAny_assign_Name (uy I y hi z r (λs' j=>{_,H,j,h}) hf)
noncomputable def bE:xS:=λj σ H Q=>j=[]/\Q σ H
def ia (t:TG)(u:xS):xS:=λy σ H Q=>∃v r,y=v::r/\t v σ H λj H'=>u r j H' Q
def w6:wc X [] bE:=by
 intro pins s σ H y j Q I r h;obtain⟨e,h⟩:=h;subst e;cases r;exact assignInOrder_nil ⟨σ,H,I,h⟩
def pf (h1:PG X e t)(h2:wc X es u)
 (hs:(assignEach (e::es) X.env).map (·.2)=assign e X.env::(assignEach es X.env).map (·.2):=by rfl):wc X (e::es) (ia t u):=by
 intro pins s σ H J F Q I r h;obtain⟨v,vr,e1,h⟩:=h;subst e1;cases r with
 | cons r B=>
   rw[hs];refine assignInOrder_cons (aV (h1 pins s σ H _ _ _ I r h) λ_ s1 ⟨j,H1,y,z⟩=>?_);exact h2 pins s1 j H1 _ _ Q y B z
def bt (K:Q9)(n:Nat)(t:xS):TG:=λv σ H Q=>∃a xs,v=.ref a/\dI K H a xs/\xs.length=n/\t xs σ H Q
def uY (F:X.calm=true)(h:wc X es t)
 (hn:(assignEach es X.env).length=n:=by rfl) (j:(assignEach es X.env).findIdx? (·.1)=none:=by rfl):PG X (.Tuple es k pos) (bt X.K n t):=by
 intro pins s σ H v u Q I r y;obtain⟨a,xs,e1,J,hl,y⟩:=y;subst e1;cases r;obtain⟨O,z,L,R⟩:=I.tuple J;refine assign_Tuple_tuple (I.ok.hd F) L (by simp[hn,<- hl,z.length]) j λh' M=>?_
 have B:=I.kept (t':=s.toks) λb o e=>M b o (RX (Rz e)) e;exact h pins _ σ H xs _ Q B (by simpa using z) y
def Qz (to y:TE)(t:Nc):TG:=λv σ H Q=>to σ H λo H1=>y σ H1 λi H2=>t o i v H2 λj=>Q σ j
def K5 (ho:PE X o to)(hi:PE X i ti)(hs:Ng X t)
 (M:∀v,assign (.Subscript o i pos) X.env v=(do
  let j <- holding [v] (eval o X.env)
  let z <- holding [v,j] (eval i X.env)
  standAt pos
  holding [v,j,z] (setItem j z v)
  release [v,j,z] []):=by intro _;rfl):PG X (.Subscript o i pos) (Qz to ti t):=by
 intro pins s σ H v u Q I r h;rw[M];refine tqa (tqo (aV (ho pins s σ H _ I h) λj s1 ⟨x,H1,F,r1,O⟩=>?_));refine tqa (tqo (aV (hi pins s1 σ H1 _ F O) λz s2 ⟨y,H2,J,r2,R⟩=>?_));refine tqa (wpAny_standAt (tqa (tqo (aV (hs pins s2 σ H2 x y v j z u _ J r1 r2 r R) λ_ U ⟨B,L,S⟩=>?_))));exact wpAny_release ⟨σ,B,L,S⟩
def PV (te:TE)(g:TG):TS:=λD σ H=>te σ H λx H1=>g x σ H1 D.nx
def uV (he:PE X e te)(y:PG X tg g)(hs:swapsWithSole [tg] e pos.line X.env=pure false:=by rfl)(z:swappedStores [tg] e X.env=pure none:=by rfl)
 (h1:(assignEach [tg] X.env).map (·.2)=[assign tg X.env]:=by rfl):PS X (.Assign [tg] e pos) (PV te g):=by
 intro pins s σ H D I h;refine wpAny_Assign_stores (aV (he pins s σ H _ I h) λv s1 ⟨x,H1,j,r1,B⟩=>?_) hs z;rw[h1];exact aV (y pins s1 σ H1 x v _ j r1 B) λ_ s2 q=>q
end
section
variable{X:Cx}{pos:Pos}
def J7 (c:TT)(tb:TS):TS:=λD σ H=>∃W:Nat->St->Hp->Prop,(∃m,W m σ H)/\∀m σ H,W m σ H->
 c σ H λb H1=>if b=true then ∃N:St->Hp->Prop,(∀j H',N j H'->∃y,y<m/\W y j H')/\tb {D with nx:=N,ct:=N,bk:=D.nx} σ H1 else D.nx σ H1
def Dk (Y:PassesOwn (model X.prog X.w) X.A X.env X.xe)(hc:PT X c tc)(hb:lu X body tb):PS X (.While c body [] pos) (J7 tc tb):=by
 intro pins s σ H D I h;obtain⟨W,⟨m0,w0⟩,turn⟩:=h;refine wpAny_While (codeAny_whileLoop (λn s'=>∃B H',Inv X pins B H' s'/\W n B H') ?_ m0 ⟨σ,H,I,w0⟩);rintro n s1 ⟨y,H1,I1,w1⟩;refine wpAny_passesOwn Y (aV (hc pins s1 y H1 _ I1 (turn n y H1 w1)) λb s2 ⟨H2,S,F⟩=>?_);cases b with
 | true=>
   obtain⟨N,U,F⟩:=F;rw[if_pos rfl];refine wpAny_passesOwn Y (aV (hb pins s2 y H2 _ S F) λf s3 J=>?_);cases f with
   | next=>
     obtain⟨j,z,L,O⟩:=J;obtain⟨M,hm,R⟩:=U j z O;exact⟨M,hm,j,z,L,R⟩
   | cont=>
     obtain⟨j,z,L,O⟩:=J;obtain⟨M,hm,R⟩:=U j z O;exact⟨M,hm,j,z,L,R⟩
   |brk=>exact J
   |ret v=>exact J
 | false=>
   rw[if_neg RL];exact wpAny_execs_nil ⟨y,H2,S,F⟩
end
structure It where
 go:Nat->Hp->Prop
 yld:Nat->Hp->V->Hp->Prop
 stop:Nat->Hp->Prop
def f6 (X:Cx)(pins:List (Addr×Obj))(H:Hp)(b:Addr):Prop:=
 H b=none/\b≠X.env.locals/\b∉X.fs/\(b∈X.ex\/X.s₀.heap.objs.size<=b)/\(∀x c,X.env.cells.lookup x=some c->c≠b)/\∀p∈X.pn++pins,p.1≠b
def Inv.fpOk (I:Inv X pins σ H s)(j:s.heap.objs.size<=b)(hn:H' b=none):f6 X pins H' b:=by
 refine{hn,Sr (RD I.lt j),I.nofs j,.inr (Rp I.sz j),λx c e z=>?_,λp y z=>?_}
 ·obtain⟨v,q⟩:=I.cell x c e;exact absurd (RD q.lt (by rw[z];exact j)) (Sv _)
 ·exact absurd (RD (Rz (I.pin p y).1) (by rw[z];exact j)) (Sv _)
structure Turn (P:R0) (w:RS) (K:Q9) (tg:Expr) (J:It) (fp:List Addr) (it:Addr) (tn:Nat->Heap->Prop):Prop where
 mem:it∈fp
 obj:∀i h,tn i h->∀b∈fp,∃o,h.get? b=some o/\∀v,o.data≠.cell v
 keep:∀i h h',tn i h->(∀b∈fp,∀o,h.get? b=some o->h'.get? b=some o)->tn i h'
 item:∀(X:Cx),X.prog=P->X.w=w->X.K=K->X.calm=true->∀(i:Nat) (pins:List (Addr×Obj)) (s:Rl) (σ:St) (H:Hp) (E:Rg->Rl->Prop),Inv X pins σ H s->(∀b∈fp,f6 X pins H b)->tn i s.heap->J.go i H->
  wpAny (model P w) X.A (pyNext (.ref it)) (λr s1=>∃u,r=some u/\
   wpAny (model P w) X.A (letOwnedTupleGo tg (.ref it) u) (λ_ s2=>∃x H',Inv X pins σ H' s2/\RelV x u/\J.yld i H x H'/\tn (i+1) s2.heap/\∀b∈fp,H' b=none) E s1) E s
 done:∀(X:Cx),X.prog=P->X.w=w->X.K=K->X.calm=true->∀(i:Nat) (pins:List (Addr×Obj)) (s:Rl) (σ:St) (H:Hp) (E:Rg->Rl->Prop),Inv X pins σ H s->(∀b∈fp,f6 X pins H b)->tn i s.heap->J.stop i H->
  wpAny (model P w) X.A (pyNext (.ref it)) (λr s1=>r=none/\Inv X pins σ H s1) E s
 self:∀(A:Sw) (i:Nat) (s:Rl) (Q:Rg->Rl->Prop) (E:Rg->Rl->Prop),tn i s.heap->Q (.ref it) s->wpAny (model P w) A (pyIter (.ref it)) Q E s
abbrev TI:=St->Hp->(It->Hp->Prop)->Prop
def Nh (X:Cx)(pins:List (Addr×Obj))(σ:St)(tg:Expr)(R:It->Hp->Prop)(j:Rg)(s2:Rl):Prop:=
 ∃(z:Addr) (y:List Addr) (B:Nat->Heap->Prop) (J:It) (H':Hp),j=.ref z/\Inv X pins σ H' s2/\Turn X.prog X.w X.K tg J y z B/\B 0 s2.heap/\(∀b∈y,f6 X pins H' b)/\R J H'
def PI (X:Cx)(tg j:Expr)(y:TI):Prop:=
 ∀(pins:List (Addr×Obj)) (s:Rl) (σ:St) (H:Hp) (R:It->Hp->Prop),Inv X pins σ H s->y σ H R->
  wpAny (model X.prog X.w) X.A (eval j X.env) (λv s1=>wpAny (model X.prog X.w) X.A (pyIter v) (Nh X pins σ tg R) X.xe s1) X.xe s
def tZ (ho:s.heap.get? it=some o)(y:o.cls=.type n)(hd:o.data=.fields vs)
 (hn:["enumerate","zip","dict_itemiterator","dict_reverseitemiterator","odict_iterator","itertools.zip_longest","itertools.pairwise"].contains n=false) (j:Q () s):wpAny M A (letOwnedTupleGo tg (.ref it) u) Q E s:=by
 cases tg<;>first
  |exact tqb j
  |(cases u<;>first
   |exact tqb j
   | (refine tqa (wpAny_load ho ?_)
      rw[y,hd];show wpAny M A (if (["enumerate","zip","dict_itemiterator","dict_reverseitemiterator","odict_iterator","itertools.zip_longest","itertools.pairwise"].contains n&&vs[0]?==some (rawInt _))=true then _ else _) Q E s;rw[if_neg (by intro h;rw[hn,Bool.false_and] at h;cases h)]
      exact tqb j))
def Nl (K:Q9)(a:Addr):It:=
 {λi H=>∃xs x,cE K H a xs/\xs[i]?=some x,λi H x H'=>H'=H/\∀xs,cE K H a xs->xs[i]?=some x,λi H=>∃xs,cE K H a xs/\xs.length<=i}
def Nj (K:Q9)(a:Addr):It:=
 {λi H=>∃xs x,dI K H a xs/\xs[i]?=some x,λi H x H'=>H'=H/\∀xs,dI K H a xs->xs[i]?=some x,λi H=>∃xs,dI K H a xs/\xs.length<=i}
def GG (lo:Int)(n:Nat):It:={λi _=>i<n,λi H x H'=>H'=H/\x=.int (lo+i),λi _=>n<=i}
def zV {K:Q9}(a y:Addr):Turn P w K tg (Nl K a) [y] y (λi h=>h.IsListIter y a i) where
 mem:=`s
 obj:=λi h st b j=>by
  have e:b=y:=by simpa using j
  subst e;obtain⟨o,e,c,d⟩:=st;exact{o,e,λv z=>by rw[d] at z;cases z}
 keep:=λi h h' st k=>st.at λo e=>k y `s o e
 item:=by
  intro X S Y R hc i pins s σ H E I hf st U;subst S Y R;obtain⟨xs,x,F,hx⟩:=U;obtain⟨its,rv,p,hz⟩:=I.list F;obtain⟨u,hu,ru⟩:=rv.get hx;obtain⟨J,f1,f2,L,M,O⟩:=hf y `s
  refine wpAny_pyNext_list_item st p.isList (by simpa using hu) λh' B sb=>?_
  have I1:=I.turned (t':=s.toks) (λb o j e=>(sb.2 b j).trans e) J f1 L M O;obtain⟨o,e,c,d⟩:=id B;exact{u,rfl,tZ e c d `d {x,H,I1,ru,{rfl,λys hy=>by rw[I.list_inj hy F];exact hx},B,λb j=>(hf b j).1}}
 done:=by
  intro X S Y R hc i pins s σ H E I hf st U;subst S Y R;obtain⟨xs,F,hx⟩:=U;obtain⟨its,rv,p,hz⟩:=I.list F;obtain⟨J,f1,f2,L,M,O⟩:=hf y `s
  have hl:=rv.length;exact wpAny_pyNext_list_end (I.ok.hd hc) st p.isList `o λh' eb=>{rfl,I.turned (λb o j e=>eb b o j e) J f1 L M O}
 self:=λ_ _ _ _ _ st h=>wpAny_pyIter_listiter st h
def xW {K:Q9}(a y:Addr):Turn P w K tg (Nj K a) [y] y (λi h=>h.IsTupleIter y a i) where
 mem:=`s
 obj:=λi h st b j=>by
  have e:b=y:=by simpa using j
  subst e;obtain⟨o,e,c,d⟩:=st;exact{o,e,λv z=>by rw[d] at z;cases z}
 keep:=λi h h' st k=>st.at λo e=>k y `s o e
 item:=by
  intro X S Y R hc i pins s σ H E I hf st U;subst S Y R;obtain⟨xs,x,F,hx⟩:=U;obtain⟨its,rv,p,hz⟩:=I.tuple F;obtain⟨u,hu,ru⟩:=rv.get hx;obtain⟨J,f1,f2,L,M,O⟩:=hf y `s
  refine wpAny_pyNext_tuple_item st (p) (by simpa using hu) λh' B sb=>?_
  have I1:=I.turned (t':=s.toks) (λb o j e=>(sb.2 b j).trans e) J f1 L M O;obtain⟨o,e,c,d⟩:=id B;exact{u,rfl,tZ e c d `d {x,H,I1,ru,{rfl,λys hy=>by rw[I.tuple_inj hy F];exact hx},B,λb j=>(hf b j).1}}
 done:=by
  intro X S Y R hc i pins s σ H E I hf st U;subst S Y R;obtain⟨xs,F,hx⟩:=U;obtain⟨its,rv,p,hz⟩:=I.tuple F;obtain⟨J,f1,f2,L,M,O⟩:=hf y `s
  have hl:=rv.length;exact wpAny_pyNext_tuple_end (I.ok.hd hc) st (p) `o λh' eb=>{rfl,I.turned (λb o j e=>eb b o j e) J f1 L M O}
 self:=λ_ _ _ _ _ st h=>wpAny_pyIter_tupleiter st h
def xX {K:Q9}(j:Addr)(lo:Int)(n:Nat):Turn P w K tg (GG lo n) [j] j (λi h=>IsRangeIter h j (lo+(i:Nat)*1) ((n:Int)-(i:Nat)) 1) where
 mem:=`s
 obj:=λi h st b y=>by
  have e:b=j:=by simpa using y
  subst e;exact{_,st,λv z=>by
   have z':=z;cases z'}
 keep:=λi h h' st k=>k j `s _ st
 item:=by
  intro X R Y O S i pins s σ H E I hf st U;subst R Y O;obtain⟨F,f1,f2,J,L,M⟩:=hf j `s
  have W:=Walks.range (prog:=X.prog) (w:=X.w) (I.ok.hd S) j lo 1 n;refine W.item i s _ _ U st λv h' tk hv B kk=>?_;obtain⟨t,rfl⟩:=hv;have I1:Inv X pins σ H {s with heap:=h',toks:=tk}:=I.turned (λb o y e=>kk b o (by simpa using y) e) F f1 J L M
  refine{_,rfl,tZ B rfl rfl `d {.int (lo+i),H,I1,{t,?_},⟨rfl,rfl⟩,B,λb y=>(hf b y).1}}
  rw[Int.mul_one]
 done:=by
  intro X R Y O S i pins s σ H E I hf st U;subst R Y O;obtain⟨F,f1,f2,J,L,M⟩:=hf j `s
  exact wpAny_pyNext_range_end (I.ok.hd S) st (by have:n<=i:=U;omega) λh' eb=>{rfl,I.turned (λb o y e=>eb b o y e) F f1 J L M}
 self:=λ_ _ _ _ _ st h=>wpAny_pyIter_rangeiter st h
section
variable{X:Cx}{tg:Expr}
def Oe (K:Q9)(tl:TE):TI:=λσ H R=>tl σ H λx H1=>∃a,x=.ref a/\(∃xs,cE K H1 a xs)/\R (Nl K a) H1
def Qy (K:Q9)(tl:TE):TI:=λσ H R=>tl σ H λx H1=>∃a,x=.ref a/\(∃xs,dI K H1 a xs)/\R (Nj K a) H1
def Ih (hl:PE X l tl):PI X tg l (Oe X.K tl):=by
 intro pins s σ H R I h;refine aV (hl pins s σ H _ I h) ?_;rintro v s1 ⟨x,H1,j,r1,F⟩;obtain⟨a,e,⟨xs,z⟩,q⟩:=F;subst e;cases r1;obtain⟨B,L,p,J⟩:=j.list z;refine wpAny_pyIter_list p.isList ?_;refine{s1.heap.objs.size,[s1.heap.objs.size],_,_,H1,rfl,j.kept λb o e=>Rf _ e,zV a _,{_,RB _ rfl,rfl,rfl},λb y=>?_,q};have e:b=s1.heap.objs.size:=by simpa using y
 subst e;exact j.fpOk (Rj _) (j.hok.fresh (Rj _))
def K0 (hl:PE X l tl):PI X tg l (Qy X.K tl):=by
 intro pins s σ H R I h;refine aV (hl pins s σ H _ I h) ?_;rintro v s1 ⟨x,H1,j,r1,F⟩;obtain⟨a,e,⟨xs,z⟩,q⟩:=F;subst e;cases r1;obtain⟨B,L,p,J⟩:=j.tuple z;refine wpAny_pyIter_tuple (p) ?_;refine{s1.heap.objs.size,[s1.heap.objs.size],_,_,H1,rfl,j.kept λb o e=>Rf _ e,xW a _,{_,RB _ rfl,rfl,rfl},λb y=>?_,q};have e:b=s1.heap.objs.size:=by simpa using y
 subst e;exact j.fpOk (Rj _) (j.hok.fresh (Rj _))
def Dg {lo hi:Int}(I:Inv X pins σ H s)(h1:-(2^62)<=lo)(h2:lo<2^62)(h3:-(2^62)<=hi)(h4:hi<2^62)
 (q:R (GG lo (hi-lo).toNat) H):wpAny (model X.prog X.w) X.A (pyIter (.ref s.heap.objs.size)) (Nh X pins σ tg R) E {s with heap:=s.heap.push {cls:=.type "range",data:=.fields #[.int lo t,.int hi u,.int 1 v]},toks:=tk}:=by
 refine wpAny_pyIter_range (IsRange.new ..) (small_one h1 h2 h3 h4) ?_;have j:Inv X pins σ H {s with heap:=s.heap.push {cls:=.type "range",data:=.fields #[.int lo t,.int hi u,.int 1 v]},toks:=tk}:=I.kept λb o e=>Rf _ e
 refine{(s.heap.push {cls:=.type "range",data:=.fields #[.int lo t,.int hi u,.int 1 v]}).objs.size,[(s.heap.push {cls:=.type "range",data:=.fields #[.int lo t,.int hi u,.int 1 v]}).objs.size],_,_,H,rfl,
  j.kept λb o e=>Rf _ e,xX _ lo (hi-lo).toNat,?_,λb y=>?_,q}
 ·have e1:lo+((0:Nat):Int)*1=lo:=`s
  have e2:(((hi-lo).toNat:Nat):Int)-((0:Nat):Int)=Builtin.Range.rangeSize lo hi 1:=by rw[rangeSize_one];split<;>omega
  rw[e1,e2];exact RB _ rfl
 ·have e:b=(s.heap.push {cls:=.type "range",data:=.fields #[.int lo t,.int hi u,.int 1 v]}).objs.size:=by simpa using y
  subst e;exact j.fpOk (Rj _) (j.hok.fresh (Rj _))
def Od (ta:TA):TI:=λσ H R=>ta σ H λy H1=>∃j:Int,y=[.int j]/\-(2^62)<=j/\j<2^62/\R (GG 0 j.toNat) H1
def AO {ta:TA}{p pos:Pos}(F:Gl X "range")(hm:X.mg "range"=none)(B:PA X [a] ta)(hs:starEach [a] X.env=[(false,eval a X.env)]:=by rfl):PI X tg (.Call (.Name "range" p) [a] [] pos) (Od ta):=by
 intro pins s σ H R I h;refine Call_ (hX I F hm boot_range (Sm (aV (B pos pins s σ H _ I h) λM s1 ⟨O,H1,z,r1,y⟩=>?_) hs rfl));obtain⟨j,e,y,J,q⟩:=y;subst e;cases r1 with
 | cons r L=>
   cases L;obtain⟨t,rfl⟩:=r;exact call_range_1 (Dg z `a `a y J (by simpa using q))
def PQ (wi:TI)(g:TG)(tb:TS):TS:=λD σ H=>wi σ H λJ H1=>∃W:Nat->Nat->St->Hp->Prop,(∃m,W 0 m σ H1)/\∀i m σ H,W i m σ H->
 (J.stop i H/\D.nx σ H)\/(J.go i H/\∃N:St->Hp->Prop,(∀σ' H',N σ' H'->∃m',m'<m/\W (i+1) m' σ' H')/\∀x H',J.yld i H x H'->g x σ H' λσ2 H2=>tb {D with nx:=N,ct:=N,bk:=D.nx} σ2 H2)
noncomputable def qe (j:List Addr)(h:Heap):List (Addr×Obj):=j.filterMap λb=>(h.get? b).map λo=>(b,o)
def jw (j:b∈fp)(e:h.get? b=some o):(b,o)∈qe fp h:=List.mem_filterMap.mpr {b,j,by rw[e];rfl}
def AZ (z:p∈qe fp h):p.1∈fp/\h.get? p.1=some p.2:=by
 obtain⟨b,y,e⟩:=List.mem_filterMap.mp z;cases q:h.get? b with
 |none=>rw[q] at e;cases e
 | some o=>
   rw[q] at e;have j:=Ro e;subst j;exact⟨y,q⟩
def Inv.pinned (I:Inv X pins σ H s)(hf:∀b∈y,f6 X pins H b)(ho:∀b∈y,∃o,s.heap.get? b=some o/\∀v,o.data≠.cell v):Inv X (pins++qe y s.heap) σ H s:=
 I.pins_of λp L=>(RK.mp L).elim (λz=>I.pin p (R8 _ z)) λz=>by
  obtain⟨B,e⟩:=AZ z;obtain⟨F,f1,J,_⟩:=hf p.1 B;obtain⟨o,j,d⟩:=ho p.1 B;rw[e] at j;cases j;exact⟨e,F,f1,J,d⟩
def Inv.unpinned (I:Inv X (pins++pl) σ H s):Inv X pins σ H s:=I.pins_of λp j=>I.pin p (R8 _ (Sx _ j))
def KY (hp:PassesOwn (model X.prog X.w) X.A X.env X.xe)(hc:X.calm=true)(hi:PI X tg iter wi)(hg:PG X tg g)(F:lu X body tb)
 (hs:∀x,foldedSetIterable iter X.env x=pure x:=by intro _;rfl):PS X (.For tg iter body [] pos) (PQ wi g tb):=by
 intro pins s σ H D I h;refine wpAny_For (aV (hi pins s σ H _ I h) λv s1 h1=>aV h1 λitv s2 h2=>?_) hs;obtain⟨it,U,tn,J,H2,e,I2,T,st2,f2,W,⟨m0,w0⟩,turn⟩:=h2;subst e;have L:∀{H':Hp},(∀b∈U,H' b=none)->∀b∈U,f6 X pins H' b:=λhn b F=>{hn b F,(f2 b F).2};refine codeAny_forLoop_any (λn s'=>∃i M H',Inv X pins M H' s'/\tn i s'.heap/\(∀b∈U,H' b=none)/\W i n M H') ?_ m0 {0,σ,H2,I2,st2,λb F=>(f2 b F).1,w0};rintro n s3 ⟨i,O,H3,I3,st3,Y,w3⟩;rcases turn i n O H3 w3 with⟨stop,qn⟩|⟨go,N,hN,step⟩
 ·refine wpAny_passesOwn hp (aV (T.done X rfl rfl rfl hc i pins s3 O H3 X.xe I3 (L Y) st3 stop) λr s4 ⟨hr,I4⟩=>?_);subst hr;exact wpAny_execs_nil ⟨O,H3,I4,qn⟩
 ·refine wpAny_passesOwn hp (aV (T.item X rfl rfl rfl hc i pins s3 O H3 X.xe I3 (L Y) st3 go) λr s4 ⟨u,hr,h4⟩=>?_);subst hr;refine wpAny_passesOwn hp (aV h4 λ_ s5 ⟨x,H5,I5,r5,y5,S,fr5⟩=>?_);have I5':=I5.pinned (L fr5) (T.obj _ _ S);refine wpAny_passesOwn hp (aV (hg _ s5 O H5 x u _ I5' r5 (step x H5 y5)) λ_ s6 ⟨σ6,H6,I6,q6⟩=>?_);refine wpAny_passesOwn hp (aV (F _ s6 σ6 H6 _ I6 q6) λf s7 R=>?_);have B:∀{j:St}{y:Hp},Inv X (pins++qe U s5.heap) j y s7->N j y->∃m,m<n/\∃i M H',Inv X pins M H' s7/\tn i s7.heap/\(∀b∈U,H' b=none)/\W i m M H':=λ{j y} z n7=>by
   obtain⟨m',hm,w7⟩:=hN j y n7;refine{m',hm,i+1,j,y,z.unpinned,T.keep _ _ _ S λb F o e=>(z.pin (b,o) (R8 _ (R8 _ (jw F e)))).1,λb F=>?_,w7};obtain⟨o,e,d⟩:=T.obj _ _ S b F;exact(z.pin (b,o) (R8 _ (R8 _ (jw F e)))).2.1
  cases f with
  |next=>obtain⟨j,y,z,n7⟩:=R;exact B z n7
  |cont=>obtain⟨j,y,z,n7⟩:=R;exact B z n7
  |brk=>obtain⟨j,y,z,R⟩:=R;exact⟨j,y,z.unpinned,R⟩
  |ret v=>obtain⟨x7,j,y,z,r7,R⟩:=R;exact⟨x7,j,y,z.unpinned,r7,R⟩
end
abbrev R2:=V->V->Hp->VK->Prop
def bU (X:Cx)(f:Rg->Rg->Sem Rg)(r:R2):Prop:=
 ∀(pins:List (Addr×Obj)) (s:Rl) (σ:St) (H:Hp) (x y:V) (v u:Rg) (Q:VK),Inv X pins σ H s->RelV x v->RelV y u->r x y H Q->
  wpAny (model X.prog X.w) X.A (f v u) (EP X pins σ Q) X.xe s
def Nb (X:Cx)(f:Rg->Sem Rg)(r:V->Hp->VK->Prop):Prop:=
 ∀(pins:List (Addr×Obj)) (s:Rl) (σ:St) (H:Hp) (x:V) (v:Rg) (Q:VK),Inv X pins σ H s->RelV x v->r x H Q->
  wpAny (model X.prog X.w) X.A (f v) (EP X pins σ Q) X.xe s
def cq (X:Cx)(f:Rg)(r:List V->Hp->VK->Prop):Prop:=
 ∀(pins:List (Addr×Obj)) (s:Rl) (σ:St) (H:Hp) (xs:List V) (j:List Rg) (Q:VK),Inv X pins σ H s->Vals xs j->r xs H Q->
  wpAny (model X.prog X.w) X.A (call f j) (EP X pins σ Q) X.xe s
def QT (X:Cx)(r:V->Hp->(Bool->Hp->Prop)->Prop):Prop:=
 ∀(pins:List (Addr×Obj)) (s:Rl) (σ:St) (H:Hp) (x:V) (v:Rg) (Q:Bool->Hp->Prop),Inv X pins σ H s->RelV x v->r x H Q->
  wpAny (model X.prog X.w) X.A (truthy v) (TP X pins σ Q) X.xe s
def Ae (r:R2)(ta tb:TE):TE:=λσ H Q=>ta σ H λx H1=>tb σ H1 λy H2=>r x y H2 Q
def tUn (r:V->Hp->VK->Prop)(ta:TE):TE:=λσ H Q=>ta σ H λx H1=>r x H1 Q
def rI (C:Int->Int->Prop)(g:Int->Int->V):R2:=λx y H Q=>∃i j,x=.int i/\y=.int j/\C i j/\Q (g i j) H
def sD (g:Int->Int->V):R2:=λx y H Q=>∃i j,x=.int i/\y=.int j/\Q (g i j) H
def rU (g:Int->V):V->Hp->VK->Prop:=λx H Q=>∃i,x=.int i/\Q (g i) H
section
variable{X:Cx}{a b c:Expr}{ta tb tc:TE}{pos:Pos}
def EH (J:PE X a ta)(L:PE X b tb){R:V->V->Hp->Prop}(I:Inv X pins σ H s)
 (h:ta σ H λx H1=>tb σ H1 λy H2=>R x y H2) {f:Rg->Rg->Sem Rg}
 (hf:∀v u s2 x y H2,Inv X pins σ H2 s2->RelV x v->RelV y u->R x y H2->wpAny (model X.prog X.w) X.A (f v u) Q X.xe s2) :
 wpAny (model X.prog X.w) X.A (eval a X.env) (λv j=>wpAny (model X.prog X.w) X.A (eval b X.env) (λu z=>wpAny (model X.prog X.w) X.A (f v u) Q X.xe z) X.xe j) X.xe s:=by
 refine aV (J pins s σ H _ I h) ?_;rintro v s1 ⟨x,H1,B,r1,M⟩;refine aV (L pins s1 σ H1 _ B M) ?_;rintro u s2 ⟨y,H2,F,r2,O⟩;exact hf v u s2 x y H2 F r1 r2 O
def NV {r:R2}(ho:bU X (binaryOp op) r)(z:PE X a ta)(B:PE X b tb):PE X (.BinOp a op b pos) (Ae r ta tb):=by
 intro pins s σ H Q I h;exact wpAny_BinOp (EH z B I h λv u s2 x y H2 j F J q=>ho pins s2 σ H2 x y v u Q j F J q)
def Ft (ho:Nb X (unaryOp op) r)(y:PE X a ta):PE X (.UnaryOp op a pos) (tUn r ta):=by
 intro pins s σ H Q I h;exact UnaryOp_ (aV (y pins s σ H _ I h) (by rintro v s1 ⟨x,H1,j,r1,z⟩;exact ho pins s1 σ H1 x v Q j r1 z))
def Fv {g:Int->Int->Int}
 (rule:∀(i j:Int) (t u:Tok) (s:Rl) (Q:Rg->Rl->Prop) (E:Rg->Rl->Prop),C i j->Q (.int (g i j) s.toks) {s with toks:=s.toks+1}->wpAny (model X.prog X.w) X.A (f (.int i t) (.int j u)) Q E s) :
 bU X f (rI C λi j=>.int (g i j)):=by
 intro pins s σ H x y v u Q I B F h;obtain⟨i,j,rfl,rfl,z,q⟩:=h;obtain⟨t,rfl⟩:=B;obtain⟨J,rfl⟩:=F;exact rule i j t J s _ _ z {.int (g i j),H,I.tok _,{_,rfl},q}
def Ls {g:Int->Int->Int}
 (rule:∀(i j:Int) (t u:Tok) (s:Rl) (Q:Rg->Rl->Prop) (E:Rg->Rl->Prop),Q (.int (g i j) s.toks) {s with toks:=s.toks+1}->wpAny (model X.prog X.w) X.A (f (.int i t) (.int j u)) Q E s) :
 bU X f (sD λi j=>.int (g i j)):=by
 intro pins s σ H x y v u Q I z B h;obtain⟨i,j,rfl,rfl,q⟩:=h;obtain⟨t,rfl⟩:=z;obtain⟨F,rfl⟩:=B;exact rule i j t F s _ _ {.int (g i j),H,I.tok _,{_,rfl},q}
def yv {g:Int->Int->Bool}
 (rule:∀(i j:Int) (t u:Tok) (s:Rl) (Q:Rg->Rl->Prop) (E:Rg->Rl->Prop),Q (.bool (g i j)) s->wpAny (model X.prog X.w) X.A (f (.int i t) (.int j u)) Q E s) :
 bU X f (sD λi j=>.bl (g i j)):=by
 intro pins s σ H x y v u Q I z B h;obtain⟨i,j,rfl,rfl,q⟩:=h;obtain⟨t,rfl⟩:=z;obtain⟨F,rfl⟩:=B;exact rule i j t F s _ _ {.bl (g i j),H,I,rfl,q}
def Nq (i j:Int):Prop:=0<j/\j<1073741824
def Np (i j:Int):Prop:=0<=j/\j<=1000000/\i.natAbs<2^64
def ES (i j:Int):Prop:=(-(2^64)<i/\i<2^64)\/(-(2^64)<j/\j<2^64)
def ES.ok {i j:Int}(h:ES i j):IntMulOk i j:=by
 rcases h with⟨h1,h2⟩|⟨h1,h2⟩
 ·exact .of_left (intBits_le_64 h1 h2)
 ·exact .of_right (intBits_le_64 h1 h2)
def Lr:bU X (binaryOp .Add) (sD λi j=>.int (i+j)):=Ls λ_ _ _ _ _ _ _ q=>add_int q
def Lk:bU X (binaryOp .Sub) (sD λi j=>.int (i-j)):=Ls λ_ _ _ _ _ _ _ q=>sub_int q
def Ln:bU X (binaryOp .Mult) (rI ES λi j=>.int (i*j)):=Fv λ_ _ _ _ _ _ _ y q=>mul_int q y.ok
def Im:bU X (binaryOp .FloorDiv) (rI Nq λi j=>.int (i / j)):=Fv λi j _ _ _ _ _ y q=>by
 have h1:=y.1;have h2:=y.2;exact floordiv_int `a (by rw[Int.fdiv_eq_ediv_of_nonneg i `a];exact q) (.inl (PyProof.noPylong_small `a))
def Lo:bU X (binaryOp .Mod) (rI (λ_ j=>0<j) λi j=>.int (i % j)):=Fv λi j _ _ _ _ _ y q=>by
 have h1:=y;exact mod_int' `a (by rw[Int.fmod_eq_emod_of_nonneg i `a];exact q)
def Lm:bU X (binaryOp .Pow) (rI Np λi j=>.int (i^j.toNat)):=Fv λ_ _ _ _ _ _ _ y q=>pow_int_small y.1 y.2.1 y.2.2 q
def unI {g:Int->Int}
 (rule:∀(i:Int) (t:Tok) (s:Rl) (Q:Rg->Rl->Prop) (E:Rg->Rl->Prop),Q (.int (g i) s.toks) {s with toks:=s.toks+1}->wpAny (model X.prog X.w) X.A (f (.int i t)) Q E s) :
 Nb X f (rU λi=>.int (g i)):=by
 intro pins s σ H x v Q I j h;obtain⟨i,rfl,q⟩:=h;obtain⟨t,rfl⟩:=j;exact rule i t s _ _ {.int (g i),H,I.tok _,{_,rfl},q}
def zI:Nb X (unaryOp .USub) (rU λi=>.int (-i)):=unI λ_ _ _ _ _ q=>neg_int q
end
noncomputable def Kh:V->V->Bool
 |.non,.non=>true|.non,.int _=>true|.int _,.non=>true|.non,.bl _=>true|.bl _,.non=>true|.non,.str _=>true|.str _,.non=>true
 |.int _,.int _=>true|.bl _,.bl _=>true|.str _,.str _=>true|.byt _,.byt _=>true
 |.int _,.str _=>true|.str _,.int _=>true|.bl _,.str _=>true|.str _,.bl _=>true
 |_,_=>false
def rEq:R2:=λx y H Q=>Kh x y=true/\Q (.bl (decide (x=y))) H
def rNe:R2:=λx y H Q=>Kh x y=true/\Q (.bl (!decide (x=y))) H
def xG {i j:Int}:decide (V.int i=V.int j)=(i==j):=by
 rw[Tf];simp
def BH:decide (V.bl i=V.bl j)=(i==j):=by
 rw[Tf];simp
def nW:decide (V.str i=V.str j)=(i==j):=by
 rw[Tf];simp
def xH:decide (V.byt i=V.byt j)=(i.toList==j.toList):=by
 rw[Tf];cases i;cases j;simp
section
variable{X:Cx}{a b c:Expr}{ta tb tc:TE}{pos:Pos}
def bD (I:Inv X pins σ H s)(q:Q (.bl k) H)(e:k=k'):EP X pins σ Q (.bool k') s:=by
 subst e;exact{.bl k,H,I,rfl,q}
def N6:bU X (compareOp .Eq) rEq:=by
 intro pins s σ H x y v u Q I F z h;obtain⟨hs,q⟩:=h;cases x with
 | non=>
   cases F;cases y with
   |non=>cases z;exact PySem.EqNone.eq_none_none (bD I q `s)
   |bl j=>cases z;exact PySem.EqNone.eq_none_bool (bD I q `s)
   |int j=>obtain⟨B,rfl⟩:=z;exact PySem.EqNone.eq_none_int (bD I q `s)
   |str j=>obtain⟨B,rfl⟩:=z;exact PySem.EqNone.eq_none_str (bD I q `s)
   |_=>exact absurd (hs) RL
 | bl i=>
   cases F;cases y with
   |non=>cases z;exact PySem.EqNone.eq_bool_none (bD I q `s)
   |bl j=>cases z;exact eq_bool (bD I q BH)
   |str j=>obtain⟨B,rfl⟩:=z;exact PySem.EqMixed.eq_bool_str (bD I q `s)
   |_=>exact absurd (hs) RL
 | int i=>
   obtain⟨t,rfl⟩:=F;cases y with
   |non=>cases z;exact PySem.EqNone.eq_int_none (bD I q `s)
   |int j=>obtain⟨B,rfl⟩:=z;exact eq_int (bD I q xG)
   |str j=>obtain⟨B,rfl⟩:=z;exact PySem.EqMixed.eq_int_str (bD I q `s)
   |_=>exact absurd (hs) RL
 | str i=>
   obtain⟨t,rfl⟩:=F;cases y with
   |non=>cases z;exact PySem.EqNone.eq_str_none (bD I q `s)
   |bl j=>cases z;exact PySem.EqMixed.eq_str_bool (bD I q `s)
   |int j=>obtain⟨B,rfl⟩:=z;exact PySem.EqMixed.eq_str_int (bD I q `s)
   |str j=>obtain⟨B,rfl⟩:=z;exact eq_str (bD I q nW)
   |_=>exact absurd (hs) RL
 | byt i=>
   obtain⟨t,rfl⟩:=F;cases y with
   |byt j=>obtain⟨B,rfl⟩:=z;exact PySem.W.eq_bytes (bD I q xH)
   |_=>exact absurd (hs) RL
 |_=>cases y<;>exact absurd (hs) RL
def N1:bU X (compareOp .NotEq) rNe:=by
 intro pins s σ H x y v u Q I F z h;obtain⟨hs,q⟩:=h;cases x with
 | non=>
   cases F;cases y with
   |non=>cases z;exact PySem.EqNone.ne_none_none (bD I q `s)
   |bl j=>cases z;exact PySem.EqNone.ne_none_bool (bD I q `s)
   |int j=>obtain⟨B,rfl⟩:=z;exact PySem.EqNone.ne_none_int (bD I q `s)
   |str j=>obtain⟨B,rfl⟩:=z;exact PySem.EqNone.ne_none_str (bD I q `s)
   |_=>exact absurd (hs) RL
 | bl i=>
   cases F;cases y with
   |non=>cases z;exact PySem.EqNone.ne_bool_none (bD I q `s)
   |bl j=>cases z;exact ne_bool (bD I q (congrArg not BH))
   |str j=>obtain⟨B,rfl⟩:=z;exact PySem.EqMixed.ne_bool_str (bD I q `s)
   |_=>exact absurd (hs) RL
 | int i=>
   obtain⟨t,rfl⟩:=F;cases y with
   |non=>cases z;exact PySem.EqNone.ne_int_none (bD I q `s)
   |int j=>obtain⟨B,rfl⟩:=z;exact ne_int (bD I q (congrArg not xG))
   |str j=>obtain⟨B,rfl⟩:=z;exact PySem.EqMixed.ne_int_str (bD I q `s)
   |_=>exact absurd (hs) RL
 | str i=>
   obtain⟨t,rfl⟩:=F;cases y with
   |non=>cases z;exact PySem.EqNone.ne_str_none (bD I q `s)
   |bl j=>cases z;exact PySem.EqMixed.ne_str_bool (bD I q `s)
   |int j=>obtain⟨B,rfl⟩:=z;exact PySem.EqMixed.ne_str_int (bD I q `s)
   |str j=>obtain⟨B,rfl⟩:=z;exact ne_str (bD I q (congrArg not nW))
   |_=>exact absurd (hs) RL
 | byt i=>
   obtain⟨t,rfl⟩:=F;cases y with
   |byt j=>obtain⟨B,rfl⟩:=z;exact PySem.W.ne_bytes (bD I q (congrArg not xH))
   |_=>exact absurd (hs) RL
 |_=>cases y<;>exact absurd (hs) RL
def N2:bU X (compareOp .Lt) (sD λi j=>.bl (decide (i<j))):=yv λ_ _ _ _ _ _ _ q=>lt_int q
def N3:bU X (compareOp .LtE) (sD λi j=>.bl (decide (i<=j))):=yv λ_ _ _ _ _ _ _ q=>le_int q
def N4:bU X (compareOp .Gt) (sD λi j=>.bl (decide (j<i))):=yv λ_ _ _ _ _ _ _ q=>gt_int q
def N5:bU X (compareOp .GtE) (sD λi j=>.bl (decide (j<=i))):=yv λ_ _ _ _ _ _ _ q=>ge_int q
def AX:bU X (compareOp .In) (λx y H Q=>∃i j,x=.str i/\y=.str j/\Q (.bl (!(Builtin.Str.occurrences j i 0 j.length 1).isEmpty)) H):=by
 intro pins s σ H x y v u Q I z B h;obtain⟨i,j,rfl,rfl,q⟩:=h;obtain⟨t,rfl⟩:=z;obtain⟨F,rfl⟩:=B;exact in_str (bD I q rfl)
def Lp:bU X (compareOp .Is) (λx y H Q=>y=.non/\Q (.bl (decide (x=.non))) H):=by
 intro pins s σ H x y v u Q I j z h;obtain⟨rfl,q⟩:=h;cases z;refine is_none_gen (bD I q ?_);cases x<;>first
  |(cases j;rfl)
  |(obtain⟨t,rfl⟩:=j;rfl)
def Il:bU X (compareOp .IsNot) (λx y H Q=>y=.non/\Q (.bl (!decide (x=.non))) H):=by
 intro pins s σ H x y v u Q I j z h;obtain⟨rfl,q⟩:=h;cases z;refine isnot_none_gen (bD I q ?_);cases x<;>first
  |(cases j;rfl)
  |(obtain⟨t,rfl⟩:=j;rfl)
def u5:bU X (compareOp .NotIn) (λx y H Q=>∃i j,x=.str i/\y=.str j/\Q (.bl (!(!(Builtin.Str.occurrences j i 0 j.length 1).isEmpty))) H):=by
 intro pins s σ H x y v u Q I z B h;obtain⟨i,j,rfl,rfl,q⟩:=h;obtain⟨t,rfl⟩:=z;obtain⟨F,rfl⟩:=B;exact notIn_str (bD I q rfl)
def w9 {r:R2}(ho:bU X (compareOp op) r)(z:PE X a ta)(B:PE X b tb)(hm:behindInMarks op b=false):PE X (.Compare a [op] [b] pos) (Ae r ta tb):=by
 intro pins s σ H Q I h;exact wpAny_Compare1 (EH z B I h λv u s2 x y H2 j F J q=>ho pins s2 σ H2 x y v u Q j F J q) hm
def Fi (t:TE):TT:=λσ H Q=>t σ H λx H'=>∃k,x=.bl k/\Q k H'
def wX (ho:bU X (compareOp op) r)(L:PE X a ta)(M:PE X b tb)(hm:behindInMarks op b=false):PT X (.Compare a [op] [b] pos) (Fi (Ae r ta tb)):=by
 intro pins s σ H Q I h;refine wpAny_isTrue_Compare1 (aV (L pins s σ H _ I h) λv s1 ⟨x,H1,B,r1,O⟩=>aV (M pins s1 σ H1 _ B O) λu s2 ⟨y,H2,F,r2,R⟩=>
  aV (ho pins s2 σ H2 x y v u _ F r1 r2 R) λc W ⟨z,j,J,U,k,e,S⟩=>?_) hm
 subst e;cases U;exact tqp ⟨j,J,S⟩
def uu (r r':R2)(ta tb tc:TE):TE:=λσ H Q=>ta σ H λx H1=>tb σ H1 λy H2=>r x y H2 λz j=>∃k,z=.bl k/\
 (if k=true then tc σ j λF B=>r' y F B Q else Q (.bl false) j)
def Dp (ho:bU X (compareOp op) r)(j:bU X (compareOp op') r')(S:PE X a ta)(U:PE X b tb)(W:PE X c tc)
 (hm:lastMarks [op,op'] [b,c]=false:=by with_unfolding_all rfl):PE X (.Compare a [op,op'] [b,c] pos) (uu r r' ta tb tc):=by
 intro pins s σ H Q I h;refine Compare_chain (aV (S pins s σ H _ I h) λv s1 ⟨x,H1,M,r1,Y⟩=>chain_link (aV (U pins s1 σ H1 _ M Y) λu s2 ⟨y,H2,O,r2,q2⟩=>
  aV (ho pins s2 σ H2 x y v u _ O r1 r2 q2) λd s3 ⟨z,B,F,r3,k,e,J⟩=>?_)) hm
 subst e;cases r3;refine tqp ?_;cases k with
 |false=>exact ite_ff {.bl false,B,F,rfl,J}
 |true=>exact ite_tt (chain_last (aV (W pins s3 σ B _ F J) (by rintro w' s4 ⟨z',L,R,r4,q4⟩;exact j pins s4 σ L y z' u w' Q R r2 r4 q4)))
def Dj (ho:bU X (compareOp op) r)(j:bU X (compareOp op') r')(Y:PE X a ta)(hb:PE X b tb)(hc:PE X c tc)
 (hm:lastMarks [op,op'] [b,c]=false:=by with_unfolding_all rfl):PT X (.Compare a [op,op'] [b,c] pos) (Fi (uu r r' ta tb tc)):=by
 intro pins s σ H Q I h;refine isTrue_chain (aV (Y pins s σ H _ I h) λv s1 ⟨x,H1,O,r1,q1⟩=>test_link (aV (hb pins s1 σ H1 _ O q1) λu s2 ⟨y,H2,R,r2,q2⟩=>
  aV (ho pins s2 σ H2 x y v u _ R r1 r2 q2) λd s3 ⟨z,B,F,r3,k,e,J⟩=>?_)) hm
 subst e;cases r3;refine tqp ?_;cases k with
 | false=>
   obtain⟨k',W,q'⟩:=J;cases W;exact ite_ff ⟨B,F,q'⟩
 | true=>
   refine ite_tt (test_last (aV (hc pins s3 σ B _ F J) λw' s4 ⟨z',L,S,r4,q4⟩=>aV (j pins s4 σ L y z' u w' _ S r2 r4 q4) λd' s5 ⟨z2,M,U,r5,k2,e2,q5⟩=>?_));subst e2;cases r5;exact tqp ⟨M,U,q5⟩
def EL (K:Q9)(x:V)(H:Hp)(k:Bool):Prop:=
 match x with
 |.non=>k=false
 |.bl b=>k=b
 |.int i=>k=(i != 0)
 |.str y=>y.length<=sizeLine/\k=((y.length:Int) != 0)
 |.byt y=>y.size<=sizeLine/\k=((y.size:Int) != 0)
 |.ref p=>(∃xs,cE K H p xs/\k=!xs.isEmpty)\/(∃xs,dI K H p xs/\k=!xs.isEmpty)\/∃kvs,H p=some (.dK kvs)/\k=!kvs.isEmpty
 |_=>False
def yT {κ:Type}{kvs:List (κ×V)}{vs:List (κ×Rg)}(r:KV kvs vs):(!vs.isEmpty)=!kvs.isEmpty:=by
 cases r<;>rfl
def qz {xs:List V}{its:List Rg}(r:Vals xs its):(!its.toArray.isEmpty)=!xs.isEmpty:=by
 cases r<;>simp
def jT:(sizeLine:Nat)<2^63:=by rw[sizeLine_eq];decide
def J4:QT X (λx H Q=>∃k,EL X.K x H k/\Q k H):=by
 intro pins s σ H x v Q I rx h;obtain⟨k,e,q⟩:=h;have hl:=jT;have hs:=sizeLine_eq;cases x with
 | non=>
   cases rx;have e':=e;subst e';exact truthy_none ⟨H,I,q⟩
 | bl b=>
   cases rx;have e':=e;subst e';exact tqp ⟨H,I,q⟩
 | int i=>
   obtain⟨t,rfl⟩:=rx;have e':=e;subst e';exact PySem.P.truthy_int ⟨H,I,q⟩
 | str y=>
   obtain⟨t,rfl⟩:=rx;obtain⟨hy,e'⟩:y.length<=sizeLine/\k=((y.length:Int) != 0):=e;subst e';exact PySem.P.truthy_str `a {H,I.tok _,q}
 | byt y=>
   obtain⟨t,rfl⟩:=rx;obtain⟨hy,e'⟩:y.size<=sizeLine/\k=((y.size:Int) != 0):=e;subst e';exact PySem.W.truthy_bytes `a {H,I.tok _,q}
 | ref p=>
   cases rx;have e':=e;rcases e' with⟨xs,hx,e'⟩|⟨xs,hx,e'⟩|⟨kvs,hx,e'⟩
   ·subst e';obtain⟨its,r,pl,hz⟩:=I.list hx;have hlen:=r.length;exact wpAny_truthy_list pl.isList (by simp only[Ru];omega) {H,I.tok _,by rw[qz r];exact q}
   ·subst e';obtain⟨its,r,pl,hz⟩:=I.tuple hx;have hlen:=r.length;exact truthy_tuple pl (by simp only[Ru];omega) {H,I.tok _,by rw[qz r];exact q}
   ·subst e';obtain⟨hz,hS,vs,r,m⟩:kvs.length<=sizeLine/\(p==sysModules)=false/\∃vs,KV kvs vs/\s.heap.DictOf (kZ X.prog X.w) p vs:=I.hok p _ hx;have hlen:=Paired.length r;exact wpAny_truthy_dict hS m `a {H,I.tok _,by rw[yT r];exact q}
 |_=>exact(e).elim
def Di (y:PE X a ta)(he:∀whole,isTrue a X.env whole=(do let v <- whole;standAt a.pos;holding [v] (truthy v))) :
 PT X a (λσ H Q=>ta σ H λx H'=>∃k,EL X.K x H' k/\Q k H'):=by
 intro pins s σ H Q I h;exact isTrue_plain (aV (y pins s σ H _ I h) (by rintro v s1 ⟨x,H1,j,r1,z⟩;exact J4 pins s1 σ H1 x v Q j r1 z)) (he _)
def yu:bU X (binaryOp .Add) (λx y H Q=>∃i j,x=.str i/\y=.str j/\i.length+j.length<=sizeLine/\Q (.str (i++j)) H):=by
 intro pins s σ H x y v u Q I B F h;obtain⟨i,j,rfl,rfl,z,q⟩:=h;obtain⟨t,rfl⟩:=B;obtain⟨J,rfl⟩:=F;exact add_str (λJ tk=>{.str (i++j),H,I.tok _,{_,rfl},q}) z
def vals1 (r:Vals [x] us):∃u,us=[u]/\RelV x u:=by
 cases r with
 |cons r1 r2=>cases r2;exact{_,rfl,r1}
def vals2 (r:Vals [x,y] us):∃u j,us=[u,j]/\RelV x u/\RelV y j:=by
 cases r with
 | cons r1 r2=>
   cases r2 with
   |cons z B=>cases B;exact{_,_,rfl,r1,z}
def BV:cq X (.type "int") (λxs H Q=>(∃i,xs=[.int i]/\Q (.int i) H)\/∃k,xs=[.bl k]/\Q (.int (if k then 1 else 0)) H):=by
 intro pins s σ H xs j Q I r h;rcases h with⟨i,rfl,q⟩|⟨k,rfl,q⟩
 ·obtain⟨u,rfl,t,rfl⟩:=vals1 r;exact call_int_int {.int i,H,I,{_,rfl},q}
 ·obtain⟨u,rfl,r1⟩:=vals1 r;cases r1;exact call_int_bool {.int (if k then 1 else 0),H,I.tok _,{_,rfl},q}
end
structure pL (h:Heap) (x dx C:Addr) (mA:Str->Option Rg):Prop where
 obj:h.get? x=some (PySem.W.instObj C dx)
 ns:h.Ns1 dx mA
 ne:dx≠x
set_option tactic.hygienic true in
def sL {h:Heap}(n:h.Ns1 dx mA):∃od,h.get? dx=some od/\∀name,PySem.W.lookIn name od=some (mA name):=by
 obtain⟨o,es,I,ho,hd,hk,_,hm⟩:=n;refine{o,ho,λname=>?_};have e:=hm name;unfold nsFind findBy at e;rw[<- Array.find?_toList] at e;unfold PySem.W.lookIn;rw[hd];dsimp only;split
 ·rename_i y q;rw[q] at e;exact congrArg some e
 ·rename_i q;rw[q] at e;have a:es.toList.any (·.refKey)=false:=by
   rw[List.any_eq_false];intro y F;obtain⟨z,t,j⟩:=hk y (Array.mem_toList_iff.mp F);simp[DictEntry.refKey,j]
  have B:¬ es.toList.any (·.refKey)=true:=by rw[a];exact RL
  rw[if_neg B];exact congrArg some e
def pL.look (I:pL h x dx C mA):∃od,S8 h x (PySem.W.instObj C dx) C (some od)/\∀name,PySem.W.lookIn name od=some (mA name):=
 let⟨od,ho,hl⟩:=sL I.ns
 {od,⟨I.obj,rfl,rfl,ho⟩,hl}
section
variable{prog:R0}{w:RS}{A:Sw}{E:Rg->Rl->Prop}{s:Rl}{K:Q9}{x dx C f:Addr}{mA:Str->Option Rg}{name:Str}{v:Rg}
def get_map (X:K.In s.heap)(I:pL s.heap x dx C mA)(z:PySem.W.plainGet K C name=true)(hh:PySem.W.hasDictIn K C=true)
 (y:PySem.W.findIn K (.ref C) name=some none) (B:mA name=some v) (j:PySem.W.handedIn v=true) (h:Q v {s with toks:=s.toks+1}) :
 wpAny (model prog w) A (getAttr (.ref x) name expr) Q E s:=by
 obtain⟨od,J,hl⟩:=I.look;exact PySem.W.get_value X J (PySem.W.plainGet_of z).1 (PySem.W.findObj_own hh y rfl (by rw[hl,B])) j h
def Ee (X:K.In s.heap)(I:pL s.heap x dx C mA)(j:PySem.W.plainGet K C name=true)
 (hf:PySem.W.findIn K (.ref C) name=some (some (.ref f))) (y:PySem.W.isFn K (.ref f)=true) (z:mA name=none) (h:Q (.ref f,[.ref x]) s) :
 wpAny (model prog w) A (getMethod (.ref x) name pl) Q E s:=by
 obtain⟨od,J,hl⟩:=I.look;exact PySem.W.method_fn X J (PySem.W.plainGet_of j).1 (PySem.W.plainGet_of j).2 hf (Tw.mp y) (by show(PySem.W.lookIn name od).map (·.isSome)=some false;rw[hl,z];rfl) h
def HJ (X:K.In s.heap)(I:pL s.heap x dx C mA)
 (hs:PySem.W.findIn K (.ref C) "__setattr__"=some (some (.builtin "object.__setattr__"))) (U:PySem.W.plainOver K C=true) (Y:PySem.W.takerIn K C name=some none) (hh:PySem.W.hasDictIn K C=true)
 (hw:PySem.Within mA ns) (hsz:ns.length<=sizeLine)
 (h:∀h',pL h' x dx C (λy=>if y=name then some v else mA y)->Heap.SameBut dx s.heap h'->Q () {s with heap:=h',toks:=s.toks+2}) :
 wpAny (model prog w) A (setAttr (.ref x) name v) Q E s:=by
 obtain⟨od,J,hl⟩:=I.look;refine PySem.W.set_plain X J hs (PySem.W.osa_open X J U Y λb=>?_);obtain⟨cd,S,F⟩:=PySem.W.any_some hh;have hx:=I.obj;refine tqa (tqb (tqa (tqa (wpAny_loadPart hx (tqa (PySem.W.Looks.here (PySem.W.looks_clsIn X S) ?_))))));rw[F];refine tqb (tqa (tqb (tqa ?_)));refine wpAny_nsSet1 I.ns λh' j z=>?_;obtain⟨oD,R,O,M,L,B⟩:=j.count (PySem.Within.cons name v hw);refine tqa (wpAny_lookBehind M (by rw[L];exact pastItsLine_dict (Rp B (by rw[R1];omega))) ?_)
 exact tqb (h _ {(z.2 _ (So I.ne)).trans I.obj,j,I.ne} z)
def DN (X:K.In s.heap)(hm:PySem.W.makesIn K C=true)
 (hi:PySem.W.findIn K (.ref C) "__init__"=some (some (.ref f))) (hf:PySem.W.typeIn K (.ref f)=some (.type "function"))
 (h:codeAny (model prog w) (A.under (.builtin "type.__call__" {.ref C::vs,kw})) (.call (.ref f) {.ref (s.heap.objs.size+1)::vs,kw}) (PySem.W.InitBack (s.heap.objs.size+1) R)
  {s with heap:=(s.heap.push PySem.W.emptyDict).push (PySem.W.instObj C s.heap.objs.size)}) :
 codeAny (model prog w) A (.call (.ref C) ⟨vs,kw⟩) R s:=by
 obtain⟨j,g,d,t,os⟩:=s;exact PySem.W.make_core (PySem.W.makes_of X hm) (PySem.W.looks_findIn X hi) (λself=>PySem.W.bind_fn X self hf) (.inl rfl) h
end
noncomputable def cY (f:Str)(v:V):List (Str×V)->List (Str×V)
 |[]=>[(f,v)]
 |(g,x)::r=>if g=f then(g,v)::r else(g,x)::cY f v r
theorem oq (f g:Str)(v:V):∀fs:List (Str×V),(cY f v fs).lookup g=if g=f then some v else fs.lookup g
 | []=>by
   show List.lookup g [(f,v)]=_;by_cases h:g=f
   ·have j:=Tw.mpr h;simp only[List.lookup,j,if_pos h]
   ·have j:=RJ.mpr h;simp only[List.lookup,j,if_neg h]
 | (k,x)::r=>by
   have y:=oq f g v r;rw[show cY f v ((k,x)::r)=(if k=f then(k,v)::r else(k,x)::cY f v r) from rfl];by_cases hk:k=f
   ·rw[if_pos hk];by_cases h:g=k
    ·have j:=Tw.mpr h;simp only[List.lookup,j,if_pos (h.trans hk)]
    ·have j:=RJ.mpr h;simp only[List.lookup,j,if_neg (λe:g=f=>h (e.trans hk.symm))]
   ·rw[if_neg hk];by_cases h:g=k
    ·have j:=Tw.mpr h;simp only[List.lookup,j,if_neg (λe:g=f=>hk (h.symm.trans e))]
    ·have j:=RJ.mpr h;simp only[List.lookup,j];exact y
theorem mU (f:Str)(v:V):∀fs:List (Str×V),f∈(cY f v fs).map (·.1)/\∀g,g∈fs.map (·.1)->g∈(cY f v fs).map (·.1)
 |[]=>{by simp[cY],λg h=>by simp at h}
 | (k,x)::r=>by
   obtain⟨j,y⟩:=mU f v r;rw[show cY f v ((k,x)::r)=(if k=f then(k,v)::r else(k,x)::cY f v r) from rfl];by_cases hk:k=f
   ·rw[if_pos hk];subst hk;exact{`s,λg h=>by simpa using h}
   ·rw[if_neg hk];refine{?_,λg h=>?_}
    ·rw[Sk];exact Rk _ j
    ·rw[Sk] at h ⊢;rcases Rv.mp h with e|e
     ·exact Rv.mpr (.inl e)
     ·exact Rk _ (y g e)
noncomputable def ot (f:Str)(v:V):∀fs:List (Str×V),(cY f v fs).length<=fs.length+1
 |[]=>by simp[cY]
 | (k,x)::r=>by
   have j:=ot f v r;rw[show cY f v ((k,x)::r)=(if k=f then(k,v)::r else(k,x)::cY f v r) from rfl];by_cases hk:k=f
   ·rw[if_pos hk,R1,R1];omega
   ·rw[if_neg hk,R1,R1];omega
def j0.some_of (r:j0 (some v) o):∃u,o=some u/\RelV v u:=by
 cases o with
 |none=>exact(r).elim
 |some u=>exact⟨u,rfl,r⟩
def j0.none_of (r:j0 none o):o=none:=by
 cases o with
 |none=>rfl
 |some u=>exact(r).elim
def Bu (r:RelV v u):PySem.W.handedIn u=true:=by
 cases v with
 |non=>cases (r);rfl
 |bl b=>cases (r);rfl
 |int i=>obtain⟨t,e⟩:=(r);cases e;rfl
 |str x=>obtain⟨t,e⟩:=(r);cases e;rfl
 |byt b=>obtain⟨t,e⟩:=(r);cases e;rfl
 |flt b=>obtain⟨t,e⟩:=(r);cases e;rfl
 |ref a=>cases (r);rfl
 |ty n=>cases (r);rfl
section
variable{P:R0}{w:RS}{H H':Hp}{h h':Heap}{a C dx:Addr}{fs fs':List (Str×V)}
def nO (hok:eD P w H h)(e:H a=some (.ins C dx fs)):∃mA,pL h a dx C mA/\(∀f,j0 (fs.lookup f) (mA f))/\PySem.Within mA (fs.map (·.1))/\fs.length<=1000/\H dx=some (.own a):=by
 obtain⟨d,z,ne,ob,mA,n,r,q⟩:=(hok a _ e);exact{mA,⟨ob,n,ne⟩,r,q,z,d}
end
structure je (K:Q9) (C:Addr):Prop where
 pg:PySem.W.plainGet K C Str.empty=true
 hd:PySem.W.hasDictIn K C=true
 po:PySem.W.plainOver K C=true
 sa:PySem.W.findIn K (.ref C) "__setattr__"=some (some (.builtin "object.__setattr__"))
def je.get {K:Q9}(c:je K C)(f:Str):PySem.W.plainGet K C f=true:=c.pg
def j5 (K:Q9)(C:Addr)(f:Str):Prop:=PySem.W.findIn K (.ref C) f=some none
def j5.taker {K:Q9}(n:j5 K C f):PySem.W.takerIn K C f=some none:=by
 unfold PySem.W.takerIn;rw[show PySem.W.findIn K (.ref C) f=some none from n];rfl
structure Meth (K:Q9) (C:Addr) (m:Str) (f:Addr):Prop where
 at_:PySem.W.findIn K (.ref C) m=some (some (.ref f))
 fn:PySem.W.isFn K (.ref f)=true
 kp:PySem.W.keepIn K (.ref f)=true
section
variable{X:Cx}{pins:List (Addr×Obj)}{σ:St}{H:Hp}{s:Rl}{a C dx:Addr}{fs:List (Str×V)}{f:Str}{v:V}{A:Sw}{E:Rg->Rl->Prop}
def yV (I:Inv X pins σ H s)(e:H a=some (.ins C dx fs))(c:je X.K C)(n:j5 X.K C f)(l:fs.lookup f=some v)
 (h:∀u s',Inv X pins σ H s'->RelV v u->Q u s'):wpAny (model X.prog X.w) A (getAttr (.ref a) f b) Q E s:=by
 obtain⟨mA,O,r,_,_,_⟩:=nO I.hok e;obtain⟨u,y,j⟩:=j0.some_of (by rw[<- l];exact r f)
 exact get_map I.kIn O (c.get f) c.hd n y (Bu j) (h u _ (I.tok _) j)
def jx (I:Inv X pins σ H s)(e:H a=some (.ins C dx fs))(c:je X.K C)(k:Meth X.K C m g)(l:fs.lookup m=none)
 (h:Q (.ref g,[.ref a]) s):wpAny (model X.prog X.w) A (getMethod (.ref a) m pl) Q E s:=by
 obtain⟨mA,O,r,_,_,_⟩:=nO I.hok e;have hn:=j0.none_of (by rw[<- l];exact r m)
 exact Ee I.kIn O (c.get m) k.at_ k.fn hn h
def yh (I:Inv X pins σ H s)(e:H a=some (.ins C dx fs))(c:je X.K C)(n:j5 X.K C f)(hl:fs.length<1000)(R:RelV y u)
 (h:∀s',Inv X pins σ (upd H a (.ins C dx (cY f y fs))) s'->Q () s'):wpAny (model X.prog X.w) A (setAttr (.ref a) f u) Q E s:=by
 obtain⟨mA,O,r,B,_,ho⟩:=nO I.hok e;have M:(fs.map (·.1)).length<=sizeLine:=by rw[Rn,sizeLine_eq];omega
 refine HJ I.kIn O c.sa c.po n.taker c.hd B M λh' j S=>h _ ?_;have hd:∃o,h'.get? dx=some o:=let{o,_,_,F,_}:=j.ns;⟨o,F⟩
 refine I.write (by rw[e];exact True.intro) (.inr ho) (λb q J z=>(S.2 b J).trans z) hd ?_
 refine{by rw[ay O.ne];exact ho,?_,O.ne,j.obj,_,j.ns,λg=>?_,λg L=>?_}
 ·have:=ot f y fs;omega
 ·show j0 ((cY f y fs).lookup g) (if g=f then some u else mA g);rw[oq];by_cases q:g=f
  ·rw[if_pos q,if_pos q];exact R
  ·rw[if_neg q,if_neg q];exact r g
 ·by_cases q:g=f
  ·rw[q];exact(mU f y fs).1
  ·refine(mU f y fs).2 g (B g λz=>L ?_);show(if g=f then some u else mA g)=none;rw[if_neg q];exact z
def Inv.made (I:Inv X pins σ H s):Inv X pins σ (upd (upd H s.heap.objs.size (.own (s.heap.objs.size+1))) (s.heap.objs.size+1) (.ins C s.heap.objs.size []))
 {s with heap:=(s.heap.push PySem.W.emptyDict).push (PySem.W.instObj C s.heap.objs.size)}:=by
 have e1:(s.heap.push PySem.W.emptyDict).get? s.heap.objs.size=some PySem.W.emptyDict:=RB s.heap rfl;have e2:((s.heap.push PySem.W.emptyDict).push (PySem.W.instObj C s.heap.objs.size)).get? (s.heap.objs.size+1)=some (PySem.W.instObj C s.heap.objs.size):=by
  have:=RB (s.heap.push PySem.W.emptyDict) (o:=PySem.W.instObj C s.heap.objs.size) rfl
  rwa [SO] at this
 have z:(s.heap.push PySem.W.emptyDict).Ns s.heap.objs.size (λ_=>none):={PySem.W.emptyDict,#[],_,e1,rfl,(λe he=>absurd he `s),λ_=>rfl}
 have j:=I.laid (o:=.own (s.heap.objs.size+1)) (t':=s.toks) (λb u q=>Rf _ q) (Rj _) {_,e1};refine j.laid (λb u q=>Rf _ q) (Nat.le_of_eq (SO _ _)) ?_;have ne:s.heap.objs.size≠s.heap.objs.size+1:=RX (Nat.lt_succ_self _);refine{by rw[ay ne,bI],Tc _,ne,e2,λ_=>none,(Heap.Ns1.of_empty z).at λo q=>Rf _ q,λ_=>True.intro,λy B=>absurd rfl B}
def xN (y:attributeBase e f env (eval e env)=eval e env)
 (h:wpAny (model prog w) A (eval e env) (λo j=>wpAny (model prog w) A (getAttr o f true) Q E j) E s):wpAny (model prog w) A (eval (.Attribute e f pos) env) Q E s:=
 Attribute_any_ h (by rw[arm_eval_Attribute,y])
end
def PR (K:Q9)(ta:TE)(f:Str):TE:=λσ H Q=>ta σ H λx H1=>∃a C dx fs v,x=.ref a/\H1 a=some (.ins C dx fs)/\je K C/\j5 K C f/\fs.lookup f=some v/\Q v H1
def PX (K:Q9)(ta tv:TE)(f:Str):TS:=λD σ H=>tv σ H λy H1=>ta σ H1 λx H2=>∃a C dx fs,x=.ref a/\H2 a=some (.ins C dx fs)/\je K C/\j5 K C f/\fs.length<1000/\
 D.nx σ (upd H2 a (.ins C dx (cY f y fs)))
section
variable{X:Cx}{o e value:Expr}{f:Str}{pos pos' tpos:Pos}{ta tv:TE}
def Lh (he:PE X e ta)(z:attributeBase e f X.env (eval e X.env)=eval e X.env):PE X (.Attribute e f pos) (PR X.K ta f):=by
 intro pins s σ H Q I h;refine xN z (aV (he pins s σ H _ I h) λu s1 ⟨x,H1,j,F,a,C,dx,fs,v,ex,ea,c,n,l,q⟩=>?_);subst ex;obtain rfl:u=Value.ref a:=F;exact yV j ea c n l λJ s2 y B=>⟨v,H1,y,B,q⟩
def KZ (F:PE X o ta)(J:PE X value tv)(hs:swapsWith value (some (.Attribute o f pos')) pos.line X.env=pure false):PS X (.Assign [.Attribute o f pos'] value pos) (PX X.K ta tv f):=by
 intro pins s σ H D I h;refine plainObj_wpAny_Assign_Attribute (aV (J pins s σ H _ I h) λu s1 ⟨y,H1,j,R,q⟩=>aV (F pins s1 σ H1 _ j q) λL s2 ⟨x,H2,z,O,a,C,dx,fs,ex,ea,c,n,l,M⟩=>?_) hs;subst ex;obtain rfl:L=Value.ref a:=O;exact yh z ea c n l R λS B=>{σ,_,B,M}
end
section
variable{X:Cx}{pins:List (Addr×Obj)}{σ:St}{H:Hp}{s:Rl}{A:Sw}{E:Rg->Rl->Prop}{Q:Rg->Rl->Prop}{c:Rg}{b:Bool}
inductive jm (K:Q9) (H:Hp):V->Rg->Prop where
 |non:jm K H .non (.type "NoneType")
 |bl (x:Bool):jm K H (.bl x) (.type "bool")
 |int (i:Int):jm K H (.int i) (.type "int")
 |str (x:Str):jm K H (.str x) (.type "str")
 |flt (x:UInt64):jm K H (.flt x) (.type "float")
 |lst {a:Addr}{xs:List V} (e:H a=some (.lst xs)):jm K H (.ref a) (.type "list")
 |frz {a:Addr}{o:Obj}{xs:List V} (e:H a=some (.frz o (.lst xs))):jm K H (.ref a) (.type "list")
 |tup {a:Addr}{xs:List V} (e:H a=some (.tup xs)):jm K H (.ref a) (.type "tuple")
 |dK {a:Addr}{kvs:List (Key×V)} (e:H a=some (.dK kvs)):jm K H (.ref a) (.type "dict")
 |dT {a:Addr}{kvs:List (List Key×V)} (e:H a=some (.dT kvs)):jm K H (.ref a) (.type "dict")
 |ins {a C dx:Addr}{fs:List (Str×V)} (e:H a=some (.ins C dx fs)) (cl:je K C) (ha:PySem.W.findIn K (.ref C) "__class__"=some (some (.builtin "object.__class__")))
  (hn:PySem.W.specialIn K (.builtin "object.__class__") "__get__"=some (some (.builtin "getset_descriptor.__get__"))) (htk:PySem.W.takesIn K (.builtin "object.__class__")=some true)
  (hm:PySem.W.mroIn K C (.type "object")=some true):jm K H (.ref a) (.ref C)
def ko (I:Inv X pins σ H s)(j:RelV x u)(ty:jm X.K H x t)(e:PySem.W.kitOne X.K t c=some b)(h:∀tk,Q (.bool b) {s with toks:=tk}) :
 wpAny (model X.prog X.w) A (call (.builtin "isinstance") [u,c]) Q E s:=by
 cases ty with
 |non=>cases (j);exact Sb PySem.W.kitx_none I.kIn True.intro e (λz=>nomatch z) h
 |bl y=>cases (j);exact Sb PySem.W.kitx_bool I.kIn True.intro e (λz=>nomatch z) h
 |int i=>obtain⟨t,q⟩:=(j);cases q;exact Sb PySem.W.kitx_int I.kIn True.intro e (λz=>nomatch z) h
 |str y=>obtain⟨t,q⟩:=(j);cases q;exact Sb PySem.W.kitx_str I.kIn True.intro e (λz=>nomatch z) h
 |flt y=>obtain⟨t,q⟩:=(j);cases q;exact Sb PySem.W.kitx_float I.kIn True.intro e (λz=>nomatch z) h
 | @lst a xs ea=>
   cases (j);obtain⟨_,_,n,_,h1⟩:=(I.hok a _ ea);exact Sb PySem.W.kitx_list I.kIn {_,h1,rfl} e (λz=>nomatch z) h
 | @frz a ob xs ea=>
   cases (j);obtain⟨_,_,_,n,_,h1⟩:=(I.hok a _ ea);exact Sb PySem.W.kitx_list I.kIn {_,h1,rfl} e (λz=>nomatch z) h
 | @tup a xs ea=>
   cases (j);obtain⟨_,_,_,p⟩:=(I.hok a _ ea);obtain⟨o,h1,h2,_⟩:=p;exact Sb PySem.W.kitx_tuple I.kIn ⟨o,h1,h2⟩ e (λz=>nomatch z) h
 | @dK a F ea=>
   cases (j);obtain⟨_,_,R,_,p⟩:=(I.hok a _ ea);obtain⟨o,es,L,h1,h2,_⟩:=p;exact Sb PySem.W.kitx_dict I.kIn ⟨o,h1,h2.1⟩ e (λz=>nomatch z) h
 | @dT a F ea=>
   cases (j);obtain⟨_,_,xs,_,o,es,L,h1,h2,_⟩:=(I.hok a _ ea);exact Sb PySem.W.kitx_dict I.kIn ⟨o,h1,h2.1⟩ e (λz=>nomatch z) h
 | @ins a C dx fs ea cl M hn B hm=>
   cases (j);obtain⟨mA,O,_⟩:=nO I.hok ea;obtain⟨od,J,_⟩:=O.look;exact Sb (PySem.W.kitx_own (cl.get _) cl.hd M hn B hm) I.kIn J e (λz=>nomatch z) h
end
structure bL (k:Nat) (A:Sw):Prop where
 hd:A.handled=none
 dp:A.depth+3*k+5<recursionLimit
 un:A.units+16*k+200<cLine
 gd:A.guards=some []
def bL.mono (r:bL k A)(h:j<=k):bL j A:={r.hd,by have:=r.dp;omega,by have:=r.un;omega,r.gd}
def bL.deeper (r:bL (k+1) A)(env:Env):bL k (A.deeper env):=
 {r.hd,by have:=r.dp;show A.depth+1+3*k+5<_;omega,by have:=r.un;show A.units+3+16*k+200<_;omega,r.gd}
def yG {A:Sw}:(A.under (.builtin "type.__call__" {.ref C::us,kw})).depth=A.depth+1:=by
 first|rfl|simp[Around.under,Code.weight,Code.isCreation,Code.isGuard,Code.isCaller,Code.frames,Code.isFrame,guardIds]
def yF {A:Sw}:(A.under (.builtin "type.__call__" {.ref C::us,kw})).units=A.units+1:=by
 first|rfl|simp[Around.under,Code.cUnits,Code.frames,Code.isFrame]
def bL.make (r:bL (k+1) A)(C:Addr)(us:List Rg)(j:List (Str×Rg)):bL k (A.under (.builtin "type.__call__" {.ref C::us,j})):=
 {r.hd,by have:=r.dp;rw[yG];omega,by have:=r.un;rw[yF];omega,r.gd}
def bL.depth (r:bL k A):A.depth<recursionLimit:=by have:=r.dp;omega
def bL.units (r:bL k A):A.units+64<cLine:=by have:=r.un;omega
def CH:TA:=λ_ H Q=>Q [] H
def ND (ta:TE)(j:TA):TA:=λσ H Q=>ta σ H λx H1=>j σ H1 λxs H2=>Q (x::xs) H2
section
variable{X:Cx}{e:Expr}{es:List Expr}{te:TE}{t:TA}{pos:Pos}
def dz:PA X [] CH:=λ_ _ _ _ H Q I h=>Calls.spliced_nil {[],H,I,.nil,h}
def bM (z:PE X e te)(hr:PA X es t)(hs:starEach (e::es) X.env=(false,eval e X.env)::starEach es X.env:=by rfl):PA X (e::es) (ND te t):=by
 intro pos pins s σ H Q I h;rw[hs];refine Calls.spliced_cons (aV (z pins s σ H _ I h) λu s1 ⟨x,H1,j,r1,B⟩=>?_);exact aV (hr pos pins s1 σ H1 _ j B) (by rintro J s2 ⟨xs,H2,y,r2,F⟩;exact{x::xs,H2,y,.cons r1 r2,F})
def PF (t:TA):TE:=λσ H Q=>t σ H λxs H1=>xs.length<=sizeLine/\∀p,H1 p=none->Q (.ref p) (upd H1 p (.tup xs))
def PL (t:TA):TE:=λσ H Q=>t σ H λxs H1=>xs.length<=sizeLine/\∀p,H1 p=none->Q (.ref p) (upd H1 p (.lst xs))
def K8 {x1}(h:PA X es t):PE X (.Tuple es x1 pos) (PF t):=by
 intro pins s σ H Q I y;refine wpAny_Tuple_spliced (aV (h pos pins s σ H _ I y) λB s1 ⟨xs,H1,j,r,z,q⟩=>{by rw[<- r.length];exact z,?_})
 have hf:=j.hok.fresh (Rj _);refine{.ref s1.heap.objs.size,upd H1 s1.heap.objs.size (.tup xs),j.laid (λb u e=>Rf _ e) (Rj _) ?_,rfl,q _ hf};exact{z,B,r,{_,RB _ rfl,rfl,_,rfl}}
def Lf (h:PA X es t):PE X (.List es pos) (PL t):=by
 intro pins s σ H Q I y;refine wpAny_List_spliced (aV (h pos pins s σ H _ I y) λB s1 ⟨xs,H1,j,r,z,q⟩=>{by rw[<- r.length];exact z,?_})
 have hf:=j.hok.fresh (Rj _);refine{.ref s1.heap.objs.size,upd H1 s1.heap.objs.size (.lst xs),j.laid (λb u e=>Rf _ e) (Rj _) ?_,rfl,q _ hf};exact{z,B,0,r,RB _ rfl}
end
abbrev Sp:=List V->Hp->VK->XK->Prop
abbrev we:=List Env->Hp->Rl->XK->Rg->Rl->Prop
structure pN (P:R0) (w:RS) (K:Q9) (mg:Str->Option Rg) (base:Heap) (A:Sw) (outer:List Env) (s:Rl) (H:Hp):Prop where
 frames:A.frames=some outer
 mod:Mod K mg base
 bs:∀b o,base.get? b=some o->s.heap.get? b=some o/\H b=none
 bsz:base.objs.size<=s.heap.objs.size
 funs:s.heap.FunFrames base outer
 frf:∀b∈gm outer,H b=none
 hok:eD P w H s.heap
 bare:AllBare s.gens
def CE (outer:List Env)(P:R0)(w:RS)(H:Hp)(s:Rl)(Q:VK)(u:Rg)(s':Rl):Prop:=
 ∃v H',s'.os=s.os/\AllBare s'.gens/\Un (gm outer) [] H H' s.heap s'.heap/\eD P w H' s'.heap/\RelV v u/\Q v H'
def CR (CX:we)(outer:List Env)(P:R0)(w:RS)(H:Hp)(s:Rl)(Q:VK)(E:XK)(r:Result)(s':Rl):Prop:=
 match r with
 |.ok (.ret u)=>CE outer P w H s Q u s'
 |.ok _=>False
 |.error e=>CX outer H s E e s'
structure iw (P:R0) (w:RS) (K:Q9) (mg:Str->Option Rg) (base:Heap) (CX:we) (k:Nat) (f:Addr) (fd:FuncData) (ps:List Str) (sp:Sp):Prop where
 len:∀vs H Q E,sp vs H Q E->vs.length=ps.length
 run:∀(A:Sw) (outer:List Env) (s:Rl) (H:Hp) (args:Args) (us:List Rg) (vs:List V) (Q:VK) (E:XK),bL k A->pN P w K mg base A outer s H->BindsTo s fd args (ps.zip us)->Vals vs us->sp vs H Q E->
  codeAny (model P w) A (.call (.ref f) args) (CR CX outer P w H s Q E) s
def pN.make {K:Q9}(e:pN P w K mg base A outer s H)(C:Addr)(us:List Rg)(j:List (Str×Rg)) :
 pN P w K mg base (A.under (.builtin "type.__call__" {.ref C::us,j})) outer s H:={by first|exact e.frames|(simpa[Around.under,Code.envs,Code.isFrame,pushEnvs] using e.frames),e.mod,e.bs,e.bsz,e.funs,e.frf,e.hok,e.bare}
section
variable{X:Cx}{pins:List (Addr×Obj)}{σ:St}{H:Hp}{s s':Rl}
def Inv.env0 (I:Inv X pins σ H s):pN X.prog X.w X.K X.mg X.base X.A X.stack s H:=
 {I.ok.frames,I.ok.mod,I.bs,Rp I.ok.bsz I.sz,I.stack,I.stkFree,I.hok,I.bare}
def Inv.after (I:Inv X pins σ H s)(h:CE X.stack X.prog X.w H s Q u s'):EP X pins σ Q u s':=by
 obtain⟨v,H',os,bare,un,hok,r,q⟩:=h;obtain⟨y,g,d,t,j⟩:=s';obtain rfl:j=s.os:=os;exact{v,H',I.call un hok bare (λb z=>absurd z `s),r,q}
end
def yb (sp:Sp)(dvs:List V)(E:XK)(t:TA):TE:=λσ H Q=>t σ H λvs H1=>sp (vs++dvs) H1 Q E
def ya (C:Addr)(m:Str)(sp:Sp)(dvs:List V)(E:XK)(ta:TE)(t:TA):TE:=λσ H Q=>ta σ H λx H1=>∃a dx fs,x=.ref a/\H1 a=some (.ins C dx fs)/\fs.lookup m=none/\
 t σ H1 λj H2=>sp (x::(j++dvs)) H2 Q E
def Binds (K:Q9)(fd:FuncData)(ps:List Str)(ds:List Rg):Prop:=
 ∀(s:Rl) (j:List Rg),K.In s.heap->(j++ds).length=ps.length->BindsTo s fd {j,[]} (ps.zip (j++ds))
def Binds.all {K:Q9}(h:∀us:List Rg,us.length=ps.length->bindArgs fd {us,[]}=pure (ps.zip us)):Binds K fd ps []:=λs us _ hl=>by
 rw[S1] at hl ⊢;exact .of_eq (h us hl)
def Passes (CX:we)(X:Cx)(E:XK):Prop:=∀(pins:List (Addr×Obj)) (σ:St) (H:Hp) (s:Rl) (e:Rg) (s':Rl),Inv X pins σ H s->CX X.stack H s E e s'->X.xe e s'
section
variable{X:Cx}{CX:we}{k:Nat}{f C:Addr}{fd:FuncData}{ps:List Str}{sp:Sp}{dvs:List V}{ds:List Rg}{E:XK}{x m:Str}{p pos apos:Pos}{e o:Expr}{es:List Expr}{ta:TE}{t:TA}
def mC (F:iw X.prog X.w X.K X.mg X.base CX k f fd ps sp)(hr:bL k X.A)(y:Binds X.K fd ps ds)(hd:Vals dvs ds)(z:Passes CX X E)
 (I:Inv X pins σ H s) (r:Vals vs us) (h:sp (vs++dvs) H Q E):wpAny (model X.prog X.w) X.A (call (.ref f) us) (EP X pins σ Q) X.xe s:=by
 have r2:=r.append hd;have hl:(us++ds).length=ps.length:=by rw[<- r2.length];exact F.len _ _ _ _ h
 refine wpAny_call (codeAny_mono (F.run X.A X.stack s H {us,[]} (us++ds) (vs++dvs) Q E hr I.env0 (y s us I.kIn hl) r2 h) λr s' j=>?_);cases r with
 |error e=>exact z pins σ H s e s' I j
 | ok fl=>
   cases fl with
   |ret u=>exact I.after j
   |next=>exact False.elim j
   |brk=>exact False.elim j
   |cont=>exact False.elim j
def Ij (F:iw X.prog X.w X.K X.mg X.base CX k f fd ps sp)(hr:bL k X.A)(L:Gl X x)(hm:X.mg x=some (.ref f))(hk:PySem.W.keepIn X.K (.ref f)=true)(J:Binds X.K fd ps ds)(hd:Vals dvs ds)(M:Passes CX X E)
 (B:PA X (e::es) t) (j:(x==("__debug__":Str))=false:=by decide) (he:starEach (e::es) X.env=(false,eval e X.env)::starEach es X.env:=by rfl) (y:(backTo pos (starEach es X.env)).any (·.1)=false:=by rfl) :
 PE X (.Call (.Name x p) (e::es) [] pos) (yb sp dvs E t):=by
 intro pins s σ H Q I h;refine wpAny_Call_Name_kw (fL I L hm ?_ j);refine SU I.ok.mod.kin hk (aV (B pos pins s σ H _ I h) λO s1 ⟨R,H1,z,r,q⟩=>{z.kIn,?_}) he y;exact mC F hr J hd M z r q
def Dq (F:iw X.prog X.w X.K X.mg X.base CX k f fd ps sp)(hr:bL k X.A)(z:Gl X x)(hm:X.mg x=some (.ref f))(hk:PySem.W.keepIn X.K (.ref f)=true)(y:Binds X.K fd ps ds)(hd:Vals dvs ds)(B:Passes CX X E)
 (j:(x==("__debug__":Str))=false:=by decide):PE X (.Call (.Name x p) [] [] pos) (yb sp dvs E CH):=by
 intro pins s σ H Q I h;refine wpAny_Call_Name_kw (fL I z hm ?_ j);exact PySem.W.callWith_K0 I.kIn hk (mC F hr y hd B I .nil h)
def Ii (he:PE X o ta)(c:je X.K C)(hm:Meth X.K C m f)(F:iw X.prog X.w X.K X.mg X.base CX k f fd ps sp)(hr:bL k X.A)(M:Binds X.K fd ps ds)(hd:Vals dvs ds)(R:Passes CX X E)(L:PA X (e::es) t)
 (y:starEach (e::es) X.env=(false,eval e X.env)::starEach es X.env:=by rfl) (j:(backTo pos (starEach es X.env)).any (·.1)=false:=by rfl)
 (O:eval (.Call (.Attribute o m apos) (e::es) [] pos) X.env=(do
  let J <- eval o X.env
  standAt apos.atName
  let(f,first) <- holding [J] (getMethod J m pl)
  callWith pos f first (backTo pos (starEach (e::es) X.env)) (backToKw pos (keywordEach [] X.env))):=by rfl) :
 PE X (.Call (.Attribute o m apos) (e::es) [] pos) (ya C m sp dvs E ta t):=by
 intro pins s σ H Q I h;refine Ti (aV (he pins s σ H _ I h) λu s1 ⟨x,H1,z,U,a,dx,fs,ex,ea,l,q⟩=>?_) O;subst ex;obtain rfl:u=Value.ref a:=U;refine jx z ea c hm l ?_;refine SU I.ok.mod.kin hm.kp (aV (L pos pins s1 σ H1 _ z q) λY s2 ⟨vs,H2,B,r,S⟩=>{B.kIn,?_}) y j;exact mC (vs:=.ref a::vs) F hr M hd R B (.cons rfl r) S
def Dn (he:PE X o ta)(c:je X.K C)(hm:Meth X.K C m f)(F:iw X.prog X.w X.K X.mg X.base CX k f fd ps sp)(hr:bL k X.A)(z:Binds X.K fd ps ds)(hd:Vals dvs ds)(J:Passes CX X E)
 (B:eval (.Call (.Attribute o m apos) [] [] pos) X.env=(do
  let y <- eval o X.env
  standAt apos.atName
  let(f,first) <- holding [y] (getMethod y m pl)
  callWith pos f first (backTo pos (starEach [] X.env)) (backToKw pos (keywordEach [] X.env))):=by rfl) :
 PE X (.Call (.Attribute o m apos) [] [] pos) (ya C m sp dvs E ta CH):=by
 intro pins s σ H Q I h;refine Ti (aV (he pins s σ H _ I h) λu s1 ⟨x,H1,j,L,a,dx,fs,ex,ea,l,q⟩=>?_) B;subst ex;obtain rfl:u=Value.ref a:=L;refine jx j ea c hm l ?_;exact PySem.W.callWith_K0 j.kIn hm.kp (mC (vs:=[.ref a]) F hr z hd J j (.cons rfl .nil) q)
structure Mk (K:Q9) (C f:Addr):Prop where
 makes:PySem.W.makesIn K C=true
 init:PySem.W.findIn K (.ref C) "__init__"=some (some (.ref f))
 fn:PySem.W.isFn K (.ref f)=true
 kp:PySem.W.keepIn K (.ref C)=true
end
structure gZ (N P:List Str) (sc:Scope):Prop where
 kind:sc.kind=.function
 co:sc.isCoroutine=false
 gen:sc.isGenerator=false
 nd:N.Nodup
 pre:N.take P.length=P
 par:∀x∈P,sc.names.lookup x=some .local\/sc.names.lookup x=some .cell
 nofree:∀y∈sc.names,y.2≠.free
noncomputable def sX {j:Str->Option NameKind}:∀{binds:List (Str×Rg)}{m:Str->Option Rg},(∀v,(x,v)∉binds)->bindL j binds m x=m x
 |[],_,_=>rfl
 | (n,v)::r,m,h=>by
   unfold bindL;rw[sX λw y=>h w (Rk _ y)];split
   ·have:x≠n:=by rintro rfl;exact h v Rw
    simp[this]
   ·rfl
noncomputable def sZ {j:Str->Option NameKind}:∀{binds:List (Str×Rg)}{m:Str->Option Rg},(∀v,(x,v)∉binds)->bindC j binds m x=m x
 |[],_,_=>rfl
 | (n,v)::r,m,h=>by
   unfold bindC;rw[sZ λw y=>h w (Rk _ y)];split
   ·rfl
   ·have:x≠n:=by rintro rfl;exact h v Rw
    simp[this]
theorem sY {j:Str->Option NameKind}:∀{P:List Str}{vs:List Rg}{i:Nat}{m:Str->Option Rg},P.Nodup->P[i]?=some x->vs[i]?=some v->j x=some .local->
 bindL j (P.zip vs) m x=some v
 |[],_,_,_,_,h,_,_=>by simp at h
 |_::_,[],_,_,_,_,h,_=>by simp at h
 | p::P,w::vs,0,m,nd,h1,h2,hk=>by
   simp at h1 h2;subst h1;subst h2;show bindL j ((p,w)::P.zip vs) m p=_;unfold bindL;rw[sX λv y=>(List.nodup_cons.mp nd).1 (List.of_mem_zip y).1,if_pos hk];simp
 | p::P,w::vs,i+1,m,nd,h1,h2,hk=>by
   unfold bindL;exact sY (List.nodup_cons.mp nd).2 (by simpa using h1) (by simpa using h2) hk
theorem s8 {j:Str->Option NameKind}:∀{P:List Str}{vs:List Rg}{i:Nat}{m:Str->Option Rg},P.Nodup->P[i]?=some x->vs[i]?=some v->j x≠some .local->
 bindC j (P.zip vs) m x=some v
 |[],_,_,_,_,h,_,_=>by simp at h
 |_::_,[],_,_,_,_,h,_=>by simp at h
 | p::P,w::vs,0,m,nd,h1,h2,hk=>by
   simp at h1 h2;subst h1;subst h2;show bindC j ((p,w)::P.zip vs) m p=_;unfold bindC;rw[sZ λv y=>(List.nodup_cons.mp nd).1 (List.of_mem_zip y).1,if_neg hk];simp
 | p::P,w::vs,i+1,m,nd,h1,h2,hk=>by
   unfold bindC;exact s8 (List.nodup_cons.mp nd).2 (by simpa using h1) (by simpa using h2) hk
noncomputable def start (N:List Str)(vs:List V):St:=vs.map some++List.replicate (N.length-vs.length) none
noncomputable def eV (CX:we)(P:R0)(w:RS)(K:Q9)(mg:Str->Option Rg)(base:Heap)(N:List Str)(qual:Str)(j:Scope)(f:Addr)(cd:Rg)(A:Sw)(outer:List Env)(s:Rl)(H:Hp)(E:XK):Cx where
 prog:=P
 w:=w
 K:=K
 mg:=mg
 base:=base
 A:=A.deeper (envOfC qual j s.heap.objs.size f cd)
 N:=N
 s₀:=s
 H₀:=H
 env:=envOfC qual j s.heap.objs.size f cd
 outer:=outer
 stack:=envOfC qual j s.heap.objs.size f cd::outer
 ex:=[]
 calm:=true
 fn:=λ_=>true
 pn:=[]
 xe:=λe s'=>wpAny (model P w) (A.deeper (envOfC qual j s.heap.objs.size f cd)) (leaving (envOfC qual j s.heap.objs.size f cd) e) (λ_ y=>CX outer H s E e y) (λz y=>CX outer H s E z y) s'
def vP {sc:Scope}(h:sc.names.lookup x=some .cell):∃c,(cellsFrom n sc.names []).lookup x=some c:=by
 have q:=PySem.W.cellsFrom_some sc.names n [] (.inl h);exact Option.isSome_iff_exists.mp q
def Bq {K:Q9}
 (S:gZ N ps scope) (hd:A.handled=none) (j:pN P w K mg base A outer s H) (hl:vs.length=ps.length) (r:Vals vs us)
 (x:InCallC s s.heap.objs.size (bindL (envOfC qual scope s.heap.objs.size f cd).kindOf (ps.zip us) λ_=>none) (cellsFrom (s.heap.objs.size+1) scope.names []) (bindC (envOfC qual scope s.heap.objs.size f cd).kindOf (ps.zip us) λ_=>none) s1) :
 Inv (eV CX P w K mg base N qual scope f cd A outer s H E) [] (start N vs) H s1:=by
 have O:ps.length<=N.length:=by have:=congrArg List.length S.pre;rw[Se] at this;omega
 obtain⟨h1,tk,rfl,hk⟩:=x.done;have F:∀b:Addr,b∉(eV CX P w K mg base N qual scope f cd A outer s H E).ex:=λb z=>absurd (show b∈([]:List Addr) from z) `s
 refine{{j.mod,S.kind,rfl,rfl,Rj _,λy z c h1 h2=>?_,λy B=>?_,λy c _ h=>?_,λ_=>hd,Around.frames_deeper j.frames,.inr ⟨rfl,rfl⟩,λb z=>absurd z (F b),j.bs,j.bsz,λb _ _=>F b,λb z=>absurd z (F b),j.funs,j.frf},
  rfl,j.bare,Un.kept hk,{_,x.toInCall.ns,λi y v h1 h2 h3=>?_},λy c h=>{_,x.cell y c h},j.hok.fresh (Rj _),λy c h=>?_,λp I=>absurd (show p∈([]:List (Addr×Obj)) from I) `s,j.hok.kept hk,?_}
 ·exact name_of_addr x.apart (Ts h1) (Ts h2)
 ·have B:=B;rcases B with B|B
  ·exact vP B
  ·exact absurd rfl (S.nofree _ (Ts B))
 ·exact Nat.le_of_lt (x.above y c (Ts h))
 ·have hi:i<vs.length:=by
   unfold start at h2;by_cases hi:i<vs.length
   ·exact hi
   ·rw[Si (by simpa using hi)] at h2
    rw[Tb] at h2;split at h2<;>cases h2
  have M:vs[i]?=some v:=by
   unfold start at h2;rw[RN (by simpa using hi),R5] at h2
   cases e:vs[i]? with
   |none=>rw[e] at h2;cases h2
   |some a=>rw[e] at h2;cases h2;rfl
  obtain⟨u,L,R⟩:=r.get M;have I:ps[i]?=some y:=by
   rw[<- S.pre,List.getElem?_take_of_lt `a];exact h1
  have J:ps.Nodup:=by rw[<- S.pre];exact S.nd.sublist (List.take_sublist _ _)
  refine{u,R,?_};rcases S.par y (RH I) with k|k
  ·exact .inl {k,sY J I L k}
  ·obtain⟨c,e⟩:=vP k;refine .inr {.inl k,c,e,?_};have q:=x.cell y c e;rw[s8 J I L (by show scope.names.lookup y≠_;rw[k];decide)] at q
   exact q
 ·exact j.hok.fresh (Nat.le_of_lt (x.above y c (Ts h)))
 ·unfold start;show _=N.length;rw[RO,Rn,List.length_replicate];omega
def Og {K:Q9}{dV kV L pm j ct oc:Rg}
 (lk:K.lookup f=some {oc,od,.func (PySem.W.fnOf name qual params body scope dV kV L pm an j ct),osl}) (U:PySem.W.codeIn K j qual=true) (S:gZ N ps scope)
 (len:∀vs H Q E,sp vs H Q E->vs.length=ps.length)
 (B:∀(A:Sw) (outer:List Env) (s:Rl) (H:Hp) (vs:List V) (Q:VK) (E:XK),bL k (A.deeper (envOfC qual scope s.heap.objs.size f j))->sp vs H Q E->
  ∃t,lu (eV CX P w K mg base N qual scope f j A outer s H E) body t/\t {nx:=λ_ H'=>Q .non H',rt:=Q} (start N vs) H) :
 iw P w K mg base CX (k+1) f (PySem.W.fnOf name qual params body scope dV kV L pm an j ct) ps sp:=by
 refine{len,λA outer s H args us vs Q E hr M hb r R=>?_};have hl:=len _ _ _ _ R;have KX:=M.mod.kin.keeps λb o e=>(M.bs b o e).1;have Y:=M.mod.nolimit.keeps λb o e=>(M.bs b o e).1;have F:∀y∈ps.zip us,scope.names.lookup y.1=some .local\/(scope.names.lookup y.1=some .cell/\((cellsFrom (s.heap.objs.size+1) scope.names []).lookup y.1).isSome=true):=λ⟨n,v⟩ hy=>by
  rcases S.par n (List.of_mem_zip hy).1 with q|q
  ·exact .inl q
  ·exact .inr {q,PySem.W.cellsFrom_some _ _ _ (.inl q)}
 refine codeAny_call_function hr.depth (KX _ _ lk) rfl S.co S.gen rfl (PySem.W.codeRec_of KX U) (hb _ _ _ _ ?_);refine wpAny_newFunctionEnv_cells S.kind F λenv he s1 x=>?_;subst he;refine{Y.keeps x.toInCall.keep,codeAny_func ?_};obtain⟨t,ht,hq⟩:=B A outer s H vs Q E (hr.deeper _) R;have I:Inv (eV CX P w K mg base N qual scope f j A outer s H E) [] (start N vs) H s1:=Bq S hr.hd M hl r x;refine wpAny_mono (ht [] s1 (start N vs) H _ I hq) (λfl s' hs=>?_) λe s' hs=>hs;have O:∀{z:St}{H':Hp}{v:V}{u:Rg},Inv (eV CX P w K mg base N qual scope f j A outer s H E) [] z H' s'->RelV v u->Q v H'->CE outer P w H s Q u s':=
  λ{z H' v u} J rv q=>⟨v,H',J.os,J.bare,J.base,J.hok,rv,q⟩
 cases fl with
 | ret u=>
   obtain⟨v,z,H',J,rv,q⟩:=hs;exact O J rv q
 | next=>
   obtain⟨z,H',J,q⟩:=hs;exact O (v:=V.non) J rfl q
 | brk=>
   obtain⟨_,_,_,q⟩:=hs;exact False.elim q
 | cont=>
   obtain⟨_,_,_,q⟩:=hs;exact False.elim q
section
variable{X:Cx}{x:Str}{p pos:Pos}{e:Expr}{es:List Expr}{t:TA}{id T:String}{r:List V->Hp->VK->Prop}
def O5 (r:List V->Hp->VK->Prop)(t:TA):TE:=λσ H Q=>t σ H λj H1=>r j H1 Q
def jO (F:cq X (.builtin id) r)(J:Gl X x)(hm:X.mg x=none)(L:bootBuiltins x=some (.builtin id))(B:PA X (e::es) t)(hn:x≠"__name__":=by decide)(j:(x==("__debug__":Str))=false:=by decide)
 (he:starEach (e::es) X.env=(false,eval e X.env)::starEach es X.env:=by rfl) (y:(backTo pos (starEach es X.env)).any (·.1)=false:=by rfl):PE X (.Call (.Name x p) (e::es) [] pos) (O5 r t):=by
 intro pins s σ H Q I h;refine wpAny_Call_Name_kw (hX I J hm L ?_ hn j);exact PyProof.Rows.callWith_builtin1 (aV (B pos pins s σ H _ I h) (by rintro O s1 ⟨R,H1,z,r1,M⟩;exact F pins s1 σ H1 R O Q z r1 M)) he y
def sF (F:cq X (.type T) r)(J:Gl X x)(hm:X.mg x=none)(L:bootBuiltins x=some (.type T))(B:PA X (e::es) t)(hn:x≠"__name__":=by decide)(j:(x==("__debug__":Str))=false:=by decide)
 (he:starEach (e::es) X.env=(false,eval e X.env)::starEach es X.env:=by rfl) (y:(backTo pos (starEach es X.env)).any (·.1)=false:=by rfl):PE X (.Call (.Name x p) (e::es) [] pos) (O5 r t):=by
 intro pins s σ H Q I h;refine wpAny_Call_Name_kw (hX I J hm L ?_ hn j);exact Sm (aV (B pos pins s σ H _ I h) (by rintro O s1 ⟨R,H1,z,r1,M⟩;exact F pins s1 σ H1 R O Q z r1 M)) he y
end
end L2
namespace HT
open PySem PyProof.Rows
section
variable{prog:R0}{w:RS}{A:Sw}{E:Rg->Rl->Prop}{s:Rl}
def Js (W:IsTup s.heap t vs.toArray)(S:IsTup s.heap b ws.toArray)(R:vs≠[])
 (h1:ws=[]->Q (.ref t) s) (h2:ws≠[]->Q (.ref s.heap.objs.size) {s with heap:=s.heap.push {cls:=.type "tuple",data:=.seq (vs++ws).toArray}})
 (hsz:vs.length+ws.length<=sizeLine):wpAny (model prog w) A (binaryOp .Add (.ref t) (.ref b)) Q E s:=by
 obtain⟨⟨cls,O,data,sl⟩,ho,U,n,hd⟩:=id W;obtain⟨⟨M,y,I,z⟩,j,J,n2,L⟩:=id S;subst U hd J L;have e:vs.toArray++ws.toArray=(vs++ws).toArray:=`s
 by_cases B:ws=[]
 ·exact concat_meets {_,ho,rfl} {_,j,rfl} noFill_tuple_add seq_tuple_add PySem.F.slot_tuple_add PySem.F.entry_tuple_add (PySem.F.args_tuple_add_2 _ _)
   (tuple_addW1 t b vs.toArray ws.toArray n n2 O y sl z (by simpa using R) (by simp[B])) {ho,j,h1 B}
 ·refine concat_meets {_,ho,rfl} {_,j,rfl} noFill_tuple_add seq_tuple_add PySem.F.slot_tuple_add PySem.F.entry_tuple_add (PySem.F.args_tuple_add_2 _ _)
   (tuple_addW2 t b vs.toArray ws.toArray n n2 O y sl z (by simpa using R) (by simpa using B) (by rw[Ru,Ru];exact hsz)) {ho,j,?_}
  rw[e];exact h2 B
noncomputable def aL (n d:Nat):Option Int->Nat
 |none=>d
 |some v=>if v<0 then(v+(n:Int)).toNat else min v.toNat n
def xK (v:Int)(n d:Nat):(if v<0 then max (v+(n:Int)) 0 else min v (n:Int))=((aL n d (some v):Nat):Int):=by
 show(if v<0 then max (v+(n:Int)) 0 else min v (n:Int))=(((if v<0 then(v+(n:Int)).toNat else min v.toNat n):Nat):Int);by_cases j:v<0
 ·simp only[if_pos j];omega
 ·simp only[if_neg j];omega
def zp (lo hi:Option Int)(n:Nat):Builtin.Slice.sliceAdjust lo hi 1 (n:Int)=(((aL n 0 lo:Nat):Int),((aL n n hi:Nat):Int)):=by
 refine Prod.ext ?_ ?_
 ·cases lo with
  |none=>rfl
  |some v=>exact xK v n 0
 ·cases hi with
  |none=>rfl
  |some v=>exact xK v n n
def yo (i j:Nat):Builtin.Slice.slicePlaces (i:Int) (j:Int) 1=j-i:=by
 unfold Builtin.Slice.slicePlaces;split<;>omega
def pX (p:IsPart v o)(h:Q o s):wpAny (model prog w) A (Builtin.Slice.slicePartIndex v) Q E s:=by
 cases p with
 |none=>exact slicePart_none h
 |int i t=>exact slicePart_int h
def jK {lo hi:Option Int}{Q:Int×Int×Nat->Rl->Prop}(hs:s.heap.IsSliceOf sl vl vu .none)(pl:IsPart vl lo)(pu:IsPart vu hi)
 (h:Q (((aL n 0 lo:Nat):Int),1,aL n n hi-aL n 0 lo) s):wpAny (model prog w) A (Builtin.Slice.sliceApplied (.ref sl) (pure (n:Int))) Q E s:=by
 obtain⟨os,y,z,j⟩:=id hs;refine tqa (tqa (tqf y j rfl (tqa (tqf y j rfl (tqa (tqf y j rfl (tqb ?_)))))));refine tqa (slicePart_none ?_);rw[if_neg `d]
 refine tqa (pX pl (tqa (pX pu (tqa (tqb ?_)))));show wpAny _ _ (match Builtin.Slice.sliceAdjust lo hi 1 (n:Int) with|(lo,hi)=>pure (lo,(1:Int),Builtin.Slice.slicePlaces lo hi 1)) _ _ s
 rw[zp lo hi n];show wpAny _ _ (pure (((aL n 0 lo:Nat):Int),(1:Int),Builtin.Slice.slicePlaces ((aL n 0 lo:Nat):Int) ((aL n n hi:Nat):Int) 1)) _ _ s;rw[yo];exact tqb h
def Dm (xs:Array Rg)(i k:Nat):((List.range k).filterMap λ(m:Nat)=>xs[((i:Int)+(m:Int)*1).toNat]?).toArray=((xs.toList.drop i).take k).toArray:=by
 have e:(λ(m:Nat)=>xs[((i:Int)+(m:Int)*1).toNat]?)=λm=>xs[i+m]?:=by
  funext m
  have:((i:Int)+(m:Int)*1).toNat=i+m:=`a
  rw[this]
 rw[e];have:=pick_run xs i k;rw[List.filterMap_map] at this;have e2:((λx=>xs[x]?)∘λx=>i+x)=λm=>xs[i+m]?:=rfl;rw[e2] at this;rw[this]
def og {lo hi:Option Int}(y:IsTup s.heap t items)(hs:s.heap.IsSliceOf sl vl vu .none)(pl:IsPart vl lo)(pu:IsPart vu hi)
 (L:¬ (aL items.size 0 lo=0/\aL items.size items.size hi=items.size))
 (h:Q (.ref s.heap.objs.size) {s with heap:=s.heap.push {cls:=.type "tuple",data:=.seq ((items.toList.drop (aL items.size 0 lo)).take (aL items.size items.size hi-aL items.size 0 lo)).toArray}})
 (hsz:items.size<=sizeLine):wpAny (model prog w) A (getItem (.ref t) (.ref sl)) Q E s:=by
 have j:sizeOk (.seq ((items.toList.drop (aL items.size 0 lo)).take (aL items.size items.size hi-aL items.size 0 lo)).toArray):=by
  show((items.toList.drop (aL items.size 0 lo)).take (aL items.size items.size hi-aL items.size 0 lo)).toArray.size<=sizeLine;rw[Ru,Se,List.length_drop,S7];omega
 obtain⟨os,I,B,J⟩:=id hs;have z:s.TypeIs (.ref sl) "slice":=⟨os,I,B⟩;unfold getItem;try with_reducible refine tqo ?_
 first|refine tqa (tqb ?_)|skip
 refine tqa (wpAny_sequenceKey y.typeIs `d ?_)
 refine tqa (wpAny_callSpecial?_slot y.typeIs R3
  (wpAny_call_entry R3 y.typeIs entry_tuple_getitem ?_ (args_tuple_getitem _ _)))
 show wpAny _ _ (Builtin.Tuple.tupleItemsOf (.ref t) >>= _) _ _ s;refine tqa (tupleItemsOf_ y ?_);refine tqa (wpAny_typeOf z ?_);rw[if_pos `d]
 refine tqa (jK hs pl pu ?_);have F:¬ ((((aL items.size 0 lo:Nat):Int)==0&&(1:Int)==1&&(aL items.size items.size hi-aL items.size 0 lo)==items.size)=true):=by
  intro q;rw[Ra,Ra] at q;have M:=eq_of_beq q.1.1;have O:=eq_of_beq q.2;exact L {`a,`a}
 show wpAny _ _ (if (((aL items.size 0 lo:Nat):Int)==0&&(1:Int)==1&&(aL items.size items.size hi-aL items.size 0 lo)==items.size)=true then _ else _) _ _ s;rw[if_neg F,Dm];first
  |exact tqa (wpAny_newObj_type (tqb {_,rfl,tqb h}) j)
  |exact tqa (wpAny_newObj_type (tqa (tqb (tqb {_,rfl,tqb h}))) j)
  |exact tqa (tqa (wpAny_newObj_type (tqb (tqb {_,rfl,tqb h})) j))
  |exact tqa (tqa (wpAny_newObj_type (tqb {_,rfl,tqb h}) j))
end
end HT
namespace L2
open PySem PySem.Spec PyProof.Rows
abbrev TO:=St->Hp->(Option Int->Hp->Prop)->Prop
def PO (X:Cx)(e:Option Expr)(t:TO):Prop:=
 ∀(pins:List (Addr×Obj)) (s:Rl) (σ:St) (H:Hp) (Q:Option Int->Hp->Prop),Inv X pins σ H s->t σ H Q->
  wpAny (model X.prog X.w) X.A (evalPart e X.env) (λu s'=>∃o H',Inv X pins σ H' s'/\IsPart u o/\Q o H') X.xe s
def Hg:TO:=λ_ H Q=>Q none H
def NA (t:TE):TO:=λσ H Q=>t σ H λx H1=>∃i,x=.int i/\Q (some i) H1
section
variable{X:Cx}{e:Expr}{te:TE}{lo hi:Option Expr}{tl th:TO}{pos p2:Pos}
def Ie:PO X none Hg:=by
 intro pins s σ H Q I h;rw[evalPart_none];exact tqb {none,H,I,.none,h}
def Ic (h:PE X e te):PO X (some e) (NA te):=by
 intro pins s σ H Q I y;rw[evalPart_some];refine aV (h pins s σ H _ I y) ?_;rintro u s1 ⟨x,H1,j,r1,z⟩;obtain⟨i,rfl,q⟩:=z;obtain⟨t,rfl⟩:=r1;exact{some i,H1,j,.int i t,q}
def mj (X:Cx)(r:V->Option Int->Option Int->Hp->VK->Prop):Prop:=
 ∀(pins:List (Addr×Obj)) (s:Rl) (σ:St) (H:Hp) (x:V) (v j y:Rg) (lo hi:Option Int) (sl:Addr) (Q:VK),Inv X pins σ H s->RelV x v->s.heap.IsSliceOf sl j y .none->IsPart j lo->IsPart y hi->r x lo hi H Q->
  ∃T id,typeLookup (.type T) "__getitem__"=pure (some (.builtin id))/\s.TypeIs v T/\wpAny (model X.prog X.w) X.A (getItem v (.ref sl)) (EP X pins σ Q) X.xe s
def mj.or (h:mj X r)(h':mj X r'):mj X (λx lo hi H Q=>r x lo hi H Q\/r' x lo hi H Q):=by
 intro pins s σ H x v y z lo hi sl Q I j hs pl pu q;rcases q with q|q
 ·exact h pins s σ H x v y z lo hi sl Q I j hs pl pu q
 ·exact h' pins s σ H x v y z lo hi sl Q I j hs pl pu q
def tSl (r:V->Option Int->Option Int->Hp->VK->Prop)(te:TE)(tl th:TO):TE:=λσ H Q=>te σ H λx H1=>tl σ H1 λl H2=>th σ H2 λu j=>r x l u j Q
def u1 (hr:mj X r)(he:PE X e te)(hl:PO X lo tl)(U:PO X hi th):PE X (.Subscript e (.Slice lo hi none p2) pos) (tSl r te tl th):=by
 intro pins s σ H Q I h;refine Subscript_ (aV (he pins s σ H _ I h) λv s1 ⟨x,H1,F,r1,W⟩=>?_);refine wpAny_Slice (aV (hl pins s1 σ H1 _ F W) λy s2 ⟨l,H2,J,pl,Y⟩=>aV (U pins s2 σ H2 _ J Y) λz j ⟨u,B,L,pu,q3⟩=>?_);rw[evalPart_none];refine tqb ?_;have M:Inv X pins σ B {j with heap:=j.heap.push {cls:=.type "slice",data:=.fields #[y,z,.none]}}:=L.kept λb ob q=>Rf _ q
 obtain⟨T,id,O,S,R⟩:=hr pins {j with heap:=j.heap.push {cls:=.type "slice",data:=.fields #[y,z,.none]}} σ B x v y z l u j.heap.objs.size Q M r1 (Heap.IsSliceOf.new ..) pl pu q3
 exact tail_any S O R (by with_unfolding_all rfl)
def rO (xs:List V)(lo hi:Option Int):List V:=(xs.drop (HT.aL xs.length 0 lo)).take (HT.aL xs.length xs.length hi-HT.aL xs.length 0 lo)
def oz (xs:List V)(lo hi:Option Int):(rO xs lo hi).length<=xs.length:=by
 unfold rO;rw[Se,List.length_drop];omega
def KH (K:Q9):V->Option Int->Option Int->Hp->VK->Prop:=λx lo hi H Q=>∃a xs,x=.ref a/\dI K H a xs/\
 ¬ (HT.aL xs.length 0 lo=0/\HT.aL xs.length xs.length hi=xs.length)/\∀p,H p=none->Q (.ref p) (upd H p (.tup (rO xs lo hi)))
def Kc:mj X (KH X.K):=by
 intro pins s σ H x v M O lo hi sl Q I L hs pl pu h;obtain⟨a,xs,rfl,J,F,q⟩:=h;cases L;obtain⟨y,r,z,B⟩:=I.tuple J;have j:y.toArray.size=xs.length:=by rw[Ru];exact r.length.symm
 refine{"tuple",_,R3.lookup,z.typeIs,?_};refine HT.og z hs pl pu (by rw[j];exact F) ?_ (by rw[j];exact B)
 rw[j];refine{.ref s.heap.objs.size,_,I.laid (λb ob q=>Rf _ q) (Rj _) ?_,rfl,q _ (I.hok.fresh (Rj _))};exact{Rp (oz xs lo hi) B,_,(r.drop (HT.aL xs.length 0 lo)).take (HT.aL xs.length xs.length hi-HT.aL xs.length 0 lo),IsTup.new _ _}
def NR (K:Q9):R2:=λx y H Q=>∃a b xs ys,x=.ref a/\y=.ref b/\dI K H a xs/\dI K H b ys/\xs≠[]/\xs.length+ys.length<=sizeLine/\
 (ys=[]->Q (.ref a) H)/\(ys≠[]->∀p,H p=none->Q (.ref p) (upd H p (.tup (xs++ys))))
def Vals.nil_iff (r:Vals xs us):us=[]↔xs=[]:=by
 cases r with
 |nil=>simp
 |cons _ _=>simp
def Io:bU X (binaryOp .Add) (NR X.K):=by
 intro pins s σ H x y v u Q I S U h;obtain⟨a,b,xs,ys,rfl,rfl,F,J,L,j,O,R⟩:=h;cases S;cases U;obtain⟨M,r1,p1,_⟩:=I.tuple F;obtain⟨B,r2,p2,_⟩:=I.tuple J;refine HT.Js p1 p2 (λz=>L (r1.nil_iff.mp z)) (λz=>{.ref a,H,I,rfl,O (r2.nil_iff.mp z)}) (λz=>?_) (by rw[<- r1.length,<- r2.length];exact j)
 refine{.ref s.heap.objs.size,_,I.laid (λb ob q=>Rf _ q) (Rj _) ?_,rfl,R (λw=>z (r2.nil_iff.mpr w)) _ (I.hok.fresh (Rj _))};exact{by rw[RO];exact j,_,r1.append r2,IsTup.new _ _}
end
def bG (n:Nat)(i:Int):Option Nat:=if 0<=i then(if i<n then some i.toNat else none) else if -(n:Int)<=i then some (i+n).toNat else none
def tf {y:Type}(xs:List y)(i:Int):Option y:=(bG xs.length i).bind λj=>xs[j]?
def xv {n:Nat}{i:Int}{j:Nat}(h:bG n i=some j):seqIndex? i n=some j/\j<n/\-(n:Int)<=i/\i<n:=by
 unfold bG at h;by_cases y:0<=i
 ·rw[if_pos y] at h;by_cases h1:i<n
  ·rw[if_pos h1] at h;have e:=Ro h;exact{by rw[seqIndex_of y h1,e],`a,`a,h1}
  ·rw[if_neg h1] at h;cases h
 ·rw[if_neg y] at h;by_cases h1:-(n:Int)<=i
  ·rw[if_pos h1] at h;have e:=Ro h;exact{by rw[seqIndex_neg `a h1,e],`a,h1,`a}
  ·rw[if_neg h1] at h;cases h
def rV {y:Type}{xs:List y}{i:Int}{v:y}(h:tf xs i=some v):∃j,seqIndex? i xs.length=some j/\xs[j]?=some v/\j<xs.length/\-(xs.length:Int)<=i/\i<xs.length:=by
 unfold tf at h;cases e:bG xs.length i with
 |none=>rw[e] at h;cases h
 | some j=>
   rw[e] at h;obtain⟨h1,h2,h3,h4⟩:=xv e;exact⟨j,h1,h,h2,h3,h4⟩
def lr (b:Expr):Prop:=∀o i,subscripted b false o i=operate [o,i] (getItem o i)
def lA (X:Cx)(r:R2):Prop:=
 ∀(value j:Expr) (pins:List (Addr×Obj)) (s:Rl) (σ:St) (H:Hp) (x y:V) (v u:Rg) (Q:VK),Inv X pins σ H s->RelV x v->RelV y u->r x y H Q->
  subscripted j false v u=operate [v,u] (getItem v u)->wpAny (model X.prog X.w) X.A (subscriptTail value j v u) (EP X pins σ Q) X.xe s
def GD (X:Cx)(id:String)(r:V->List V->Hp->VK->Prop):Prop:=
 ∀(pins:List (Addr×Obj)) (s:Rl) (σ:St) (H:Hp) (x:V) (xs:List V) (v:Rg) (j:List Rg) (Q:VK),Inv X pins σ H s->RelV x v->Vals xs j->r x xs H Q->
  wpAny (model X.prog X.w) X.A (call (.builtin id) (v::j)) (EP X pins σ Q) X.xe s
section
variable{X:Cx}{a b:Expr}{ta tb:TE}{pos:Pos}
def lA.or (h:lA X r)(h':lA X r'):lA X (λx y H Q=>r x y H Q\/r' x y H Q):=by
 intro value j pins s σ H x y v u Q I z B q hs;rcases q with q|q
 ·exact h value j pins s σ H x y v u Q I z B q hs
 ·exact h' value j pins s σ H x y v u Q I z B q hs
def Fu (hr:lA X r)(z:PE X a ta)(B:PE X b tb)(hs:lr b):PE X (.Subscript a b pos) (Ae r ta tb):=by
 intro pins s σ H Q I h;exact Subscript_ (EH z B I h λv u s2 x y H2 j F J q=>hr a b pins s2 σ H2 x y v u Q j F J q (hs _ _))
def KP (K:Q9):R2:=λx y H Q=>∃p xs i v,x=.ref p/\y=.int i/\cE K H p xs/\tf xs i=some v/\Q v H
def KN (K:Q9):R2:=λx y H Q=>∃p xs i v,x=.ref p/\y=.int i/\dI K H p xs/\tf xs i=some v/\Q v H
def KO:R2:=λx y H Q=>∃z i c,x=.str z/\y=.int i/\z.length<=sizeLine/\tf z.cps.toList i=some c/\Q (.str {#[c]}) H
def IJ:lA X (KP X.K):=by
 intro value M pins s σ H x y v u Q I W Y h hs;obtain⟨p,xs,i,z,rfl,rfl,U,he,q⟩:=h;cases W;obtain⟨t,rfl⟩:=Y;obtain⟨J,r,pl,hz⟩:=I.list U;obtain⟨j,h1,h2,h3,h4,S⟩:=rV he;obtain⟨w,O,L⟩:=r.get h2;have hl:=r.length;have hn:=jT;have B:EP X pins σ Q w s:=⟨z,H,I,L,q⟩;by_cases R:0<=i
 ·have F:i.toNat=j:=by
   rw[seqIndex_of R S] at h1;exact Ro h1
  exact item_listR pl.isList R `a (by rw[F];simpa using O) B hs
 ·have F:(i+(J.toArray.size:Int)).toNat=j:=by
   rw[seqIndex_neg `a h4] at h1
   rw[Ru,<- hl];exact Ro h1
  exact subscriptTail_builtinR pl.isList.typeIs slot_list_getitem.lookup
   (wpAny_getItem_list_neg pl.isList `a (by rw[Ru]<;>omega) `a (by rw[F];simpa using O) ⟨rfl,B⟩) hs
def L9:lA X (KN X.K):=by
 intro value J pins s σ H x y v u Q I R S h hs;obtain⟨p,xs,i,z,rfl,rfl,M,he,q⟩:=h;cases R;obtain⟨t,rfl⟩:=S;obtain⟨O,r,pl,W⟩:=I.tuple M;obtain⟨j,h1,h2,h3,h4,U⟩:=rV he;obtain⟨w,L,F⟩:=r.get h2;have hl:=r.length;have hn:=jT;have B:EP X pins σ Q w s:=⟨z,H,I,F,q⟩;exact subscriptTail_builtinR pl.typeIs slot_tuple_getitem.lookup
  (getItem_tuple pl `a `a (by rw[Ru,<- hl];exact h1) (by simpa using L) ⟨rfl,B⟩) hs
def Ma:lA X KO:=by
 intro value B pins s σ H x y v u Q I J L h hs;obtain⟨z,i,c,rfl,rfl,M,he,q⟩:=h;obtain⟨t,rfl⟩:=J;obtain⟨O,rfl⟩:=L;obtain⟨j,h1,h2,h3,h4,F⟩:=rV he;have hl:z.cps.toList.length=z.length:=by simp[Str.length]
 rw[hl] at h1 h4 F;have hn:=jT;exact tail_any (typeIs_str s z t) slot_str_getitem.lookup (getItem_str (by
  have e1:decide (i < -(2^63:Int))=false:=decide_eq_false `a
  have e2:decide (i≥2^63)=false:=decide_eq_false `a
  rw[e1,e2,Bool.or_false]) (by rw[h1];simpa using h2) {.str {#[c]},H,I.tok _,{_,rfl},q}) hs
def KQ (K:Q9):R2:=λx y H Q=>KP K x y H Q\/KN K x y H Q\/KO x y H Q
def Mb:lA X (KQ X.K):=IJ.or (L9.or Ma)
def yE (its:List Rg)(n j:Nat)(u:Rg):Obj.mapSeq (·.setIfInBounds j u) {cls:=.type "list",data:=.seq its.toArray n}={cls:=.type "list",data:=.seq (its.set j u).toArray n}:=by
 simp[Obj.mapSeq]
def Inv.lst (I:Inv X pins σ H s)(h:H p=some (.lst xs)) :
 ∃(j:List Rg) (n:Nat),Vals xs j/\s.heap.get? p=some {cls:=.type "list",data:=.seq j.toArray n}/\xs.length<=sizeLine:=by
 obtain⟨z,j,n,r,e⟩:=I.hok p _ h;exact⟨j,n,r,e,z⟩
def Inv.lstUpd {pins:List (Addr×Obj)}{σ:St}{H:Hp}{s:Rl}{p:Addr}{xs ys:List V}{j its':List Rg}{n n':Nat}{f:Obj->Obj}(I:Inv X pins σ H s)(h:H p=some (.lst xs))
 (ho:s.heap.get? p=some {cls:=.type "list",data:=.seq j.toArray n}) (hf:f {cls:=.type "list",data:=.seq j.toArray n}={cls:=.type "list",data:=.seq its'.toArray n'}) (r:Vals ys its') (hz:ys.length<=sizeLine) (t:Nat) :
 Inv X pins σ (upd H p (.lst ys)) {s with heap:=s.heap.update p f,toks:=t}:=by
 have e:(s.heap.update p f).get? p=some {cls:=.type "list",data:=.seq its'.toArray n'}:=by
  rw[SJ f ho (by rw[hf]<;>rfl),hf]
 refine I.write (by rw[h];trivial) (.inl rfl) (λb u y q=>(Sf _ _ (So y)).trans q) {_,e} ?_
 exact⟨hz,its',n',r,e⟩
def Fs:V->V->V->Hp->(Hp->Prop)->Prop:=λo i v H Q=>∃p xs k j,o=.ref p/\i=.int k/\H p=some (.lst xs)/\bG xs.length k=some j/\Q (upd H p (.lst (xs.set j v)))
def set_list:Ng X Fs:=by
 intro pins s σ H o i v S R u Q I ro M O h;obtain⟨p,xs,k,j,rfl,rfl,F,J,q⟩:=h;cases ro;obtain⟨t,rfl⟩:=M;obtain⟨y,n,r,ho,L⟩:=I.lst F;obtain⟨h1,h2,h3,h4⟩:=xv J;have hl:=r.length;have hn:=jT;have z:Inv X pins σ (upd H p (.lst (xs.set j v))) {s with heap:=s.heap.update p (Obj.mapSeq (·.setIfInBounds j u))}:=
  I.lstUpd F ho (yE y n j u) (r.set O j) (by rw[List.length_set];exact L) s.toks
 by_cases B:0<=k
 ·have hk:k.toNat=j:=by
   rw[seqIndex_of B h4] at h1;exact Ro h1
  exact PySem.W.ki_setAt ho B `a (by rw[Ru,<- hl];exact h4) (by rw[hk];exact{_,z,q})
 ·have hk:(k+(y.toArray.size:Int)).toNat=j:=by
   rw[seqIndex_neg `a h3] at h1
   rw[Ru,<- hl];exact Ro h1
  exact PySem.W.ki_setBack ho `a (by rw[Ru,<- hl];exact h3) `a (by rw[hk];exact{_,z,q})
def uI (lo hi:Option Int)(n:Nat):(sliceBounds lo hi none n).1=((HT.aL n 0 lo:Nat):Int)/\(sliceBounds lo hi none n).2.1=((HT.aL n n hi:Nat):Int)/\(sliceBounds lo hi none n).2.2=1:=by
 refine{?_,?_,rfl}
 ·cases lo with
  |none=>simp[sliceBounds,HT.aL]
  | some i=>
    simp only[sliceBounds,HT.aL,Option.getD_none,show(1:Int) > 0 by decide,if_true]
    by_cases h:i<0
    ·simp only[h,if_true]<;>omega
    ·simp only[h,if_false]<;>omega
 ·cases hi with
  |none=>simp[sliceBounds,HT.aL]
  | some i=>
    simp only[sliceBounds,HT.aL,Option.getD_none,show(1:Int) > 0 by decide,if_true]
    by_cases h:i<0
    ·simp only[h,if_true]<;>omega
    ·simp only[h,if_false]<;>omega
def tG (j:List Rg)(lo hi:Option Int):slicePick j.toArray lo hi none=((j.drop (HT.aL j.length 0 lo)).take (HT.aL j.length j.length hi-HT.aL j.length 0 lo)).toArray:=by
 obtain⟨h1,h2,h3⟩:=uI lo hi j.toArray.size;unfold slicePick;rw[h1,h2,h3];simp only[sliceRange_one,pick_run,Ru]<;>rfl
def KI (K:Q9):V->Option Int->Option Int->Hp->VK->Prop:=λx lo hi H Q=>∃a xs,x=.ref a/\cE K H a xs/\∀p,H p=none->Q (.ref p) (upd H p (.lst (rO xs lo hi)))
def HH:mj X (KI X.K):=by
 intro pins s σ H x v L M lo hi sl Q I J hs pl pu h;obtain⟨a,xs,rfl,z,q⟩:=h;cases J;obtain⟨F,r,y,B⟩:=I.list z;have j:=r.length;refine{"list",_,slot_list_getitem.lookup,y.isList.typeIs,?_};refine wpAny_getItem_list_slice y.isList hs pl pu .none `s ?_ (by rw[Ru]<;>omega)
 rw[tG,<- j];refine{.ref s.heap.objs.size,_,I.laid (λb ob q=>Rf _ q) (Rj _) ?_,rfl,q _ (I.hok.fresh (Rj _))};exact{Rp (oz xs lo hi) B,_,0,(r.drop (HT.aL xs.length 0 lo)).take (HT.aL xs.length xs.length hi-HT.aL xs.length 0 lo),RB _ rfl}
def vS:cq X (.builtin "len") (λxs H Q=>∃p ys,xs=[.ref p]/\(cE X.K H p ys\/dI X.K H p ys)/\Q (.int ys.length) H):=by
 intro pins s σ H xs L Q I r h;obtain⟨p,ys,rfl,y,q⟩:=h;obtain⟨u,rfl,J⟩:=vals1 r;cases J;have hn:=jT;rcases y with y|y
 ·obtain⟨z,B,pl,F⟩:=I.list y;have j:=B.length;exact Calls.call_len_list pl.isList (by simp only[Ru]<;>omega) {.int ys.length,H,I.tok _,{s.toks+1,by rw[Ru,j]},q}
 ·obtain⟨z,B,pl,F⟩:=I.tuple y;have j:=B.length;exact len_tuple pl (by simp only[Ru]<;>omega) {.int ys.length,H,I.tok _,{s.toks+1,by rw[Ru,j]},q}
def vR:cq X (.builtin "len") (λxs H Q=>∃z,xs=[.str z]/\z.length<=sizeLine/\Q (.int z.length) H):=by
 intro pins s σ H xs y Q I r h;obtain⟨z,rfl,j,q⟩:=h;obtain⟨u,rfl,t,rfl⟩:=vals1 r;have hn:=jT;exact len_str `a {.int z.length,H,I.tok _,{_,rfl},q}
def cq.or (h:cq X f r)(h':cq X f r'):cq X f (λxs H Q=>r xs H Q\/r' xs H Q):=by
 intro pins s σ H xs j Q I rs q;rcases q with q|q
 ·exact h pins s σ H xs j Q I rs q
 ·exact h' pins s σ H xs j Q I rs q
def vQ:cq X (.type "list") (λxs H Q=>∃p ys,xs=[.ref p]/\(cE X.K H p ys\/dI X.K H p ys)/\∀l,H l=none->Q (.ref l) (upd H l (.lst ys))):=by
 intro pins s σ H xs R Q I r h;obtain⟨p,ys,rfl,J,q⟩:=h;obtain⟨u,rfl,O⟩:=vals1 r;cases O;have B:∀(j:List Rg),Vals ys j->ys.length<=sizeLine->∀(h':Heap) (y:Nat),(∀b o',s.heap.get? b=some o'->h'.get? b=some o')->
  h'.get? s.heap.objs.size=some {cls:=.type "list",dict:=none,data:=.seq j.toArray y,slots:=#[]}->EP X pins σ Q (.ref s.heap.objs.size) {s with heap:=h'}:=λj z L h' y kp e=>
  {.ref s.heap.objs.size,_,I.laid kp (Rj _) (show d9 X.prog X.w _ h' _ (.lst ys) from⟨L,j,y,z,e⟩),rfl,q _ (I.hok.fresh (Rj _))}
 rcases J with J|J
 ·obtain⟨j,z,pl,L⟩:=I.list J;have F:=z.length;obtain⟨o,ho,M,n,hd⟩:=pl.isList;exact call_list_seq p (.inl rfl) ho M hd (λh' y kp e=>B j z L h' y kp e) (by simp only[Ru]<;>omega)
 ·obtain⟨j,z,pl,L⟩:=I.tuple J;have F:=z.length;obtain⟨o,ho,M,n,hd⟩:=pl;exact call_list_seq p (.inr rfl) ho M hd (λh' y kp e=>B j z L h' y kp e) (by simp only[Ru]<;>omega)
def tK:cq X (.type "tuple") (λxs H Q=>∃p ys,xs=[.ref p]/\((cE X.K H p ys/\∀l,H l=none->Q (.ref l) (upd H l (.tup ys)))\/(dI X.K H p ys/\Q (.ref p) H))):=by
 intro pins s σ H xs O Q I r h;obtain⟨p,ys,rfl,h⟩:=h;obtain⟨u,rfl,M⟩:=vals1 r;cases M;rcases h with⟨y,q⟩|⟨y,q⟩
 ·obtain⟨j,z,pl,J⟩:=I.list y;have F:=z.length;refine call_tuple_list pl.isList (λh' kp=>?_) (by simp only[Ru]<;>omega)
  have B:=I.kept (t':=s.toks) kp;have L:Inv X pins σ (upd H h'.objs.size (.tup ys)) {s with heap:=h'.push {cls:=.type "tuple",data:=.seq j.toArray}}:=
   B.laid (λb o e=>Rf _ e) (Rj _) ({J,j,z,IsTup.new _ _})
  exact{.ref h'.objs.size,_,L,rfl,q _ (B.hok.fresh (Rj _))}
 ·obtain⟨j,z,pl,J⟩:=I.tuple y;exact call_tuple_same pl {.ref p,H,I,rfl,q}
def J2 (K:Q9)(T:String)(x:V)(H:Hp):Prop:=match x with
 |.str _=>T="str"
 |.int _=>T="int"
 |.ref p=>(T="list"/\∃xs,cE K H p xs)\/(T="tuple"/\∃o,K.lookup p=some o/\o.cls=.type "tuple"/\o.dict=none)\/
  (T="dict"/\((∃kvs,H p=some (.dK kvs))\/(∃kvs,H p=some (.dT kvs))\/∃es,H p=some (.dn es)))\/(T="set"/\∃S n,H p=some (.set S n))
 |_=>False
def zT (I:Inv X pins σ H s)(r:RelV x v)(ty:J2 X.K T x H) :
 s.TypeIs v T/\∀a,v=.ref a->∃ob,s.heap.get? a=some ob/\ob.dict=none:=by
 cases x with
 | str z=>
   obtain⟨t,rfl⟩:=r;cases (ty);exact{typeIs_str s z t,λ_ e=>nomatch e}
 | int i=>
   obtain⟨t,rfl⟩:=r;cases (ty);exact{typeIs_int s i t,λ_ e=>nomatch e}
 | ref p=>
   cases r;rcases ty with⟨rfl,xs,B⟩|⟨rfl,o,hk,y,hd⟩|⟨rfl,hk⟩|⟨rfl,S,n,hk⟩
   ·obtain⟨F,_,pl,_⟩:=I.list B;refine{pl.isList.typeIs,λa e=>?_};cases e;obtain⟨o,n,e,c,hd,_⟩:=pl;exact⟨o,e,hd⟩
   ·refine{{o,I.kIn p o hk,y},λa e=>?_};cases e;exact{o,I.kIn _ o hk,hd}
   ·have z:∃o,s.heap.get? p=some o/\o.ExactDict:=by
     rcases hk with⟨j,hk⟩|⟨j,hk⟩|⟨es,hk⟩
     rotate_left 2
     ·obtain⟨_,_,o,e,ex,_⟩:=I.hok p _ hk;exact⟨o,e,ex⟩
     ·obtain⟨_,_,_,_,o,_,_,e,ex,_⟩:=I.hok p _ hk;exact⟨o,e,ex⟩
     ·obtain⟨_,_,_,_,o,_,_,e,ex,_⟩:=I.hok p _ hk;exact⟨o,e,ex⟩
    obtain⟨o,e,ex⟩:=z;refine{⟨o,e,ex.1⟩,λa e2=>?_};cases e2;exact⟨o,e,ex.2.1⟩
   ·obtain⟨o,_,_,_,e,ex,_⟩:=I.hok p _ hk;refine{⟨o,e,ex.1⟩,λa e2=>?_};cases e2;exact⟨o,e,ex.2.1⟩
 |_=>exact False.elim ty
def PU (K:Q9)(T:String)(r:V->List V->Hp->VK->Prop)(to:TE):TE:=λσ H Q=>to σ H λx H1=>J2 K T x H1/\r x [] H1 Q
def tBM (K:Q9)(T:String)(r:V->List V->Hp->VK->Prop)(to:TE)(t:TA):TE:=λσ H Q=>to σ H λx H1=>J2 K T x H1/\t σ H1 λxs H2=>r x xs H2 Q
variable{o e:Expr}{es:List Expr}{to:TE}{t:TA}{name:Str}{apos cpos:Pos}{T id:String}{r:V->List V->Hp->VK->Prop}
def AR (F:PlainAttrs T)(slot:Slot T name id)(z:typeOf (.builtin id)=pure (.type "method_descriptor"))(hm:GD X id r)(ho:PE X o to)
 (j:attributeBase o name X.env (eval o X.env)=eval o X.env:=by rfl) (y:(apos.endLine==cpos.line)=true:=by rfl):PE X (.Call (.Attribute o name apos) [] [] cpos) (PU X.K T r to):=by
 intro pins s σ H Q I h;refine wpAny_Call_method0_late j y (aV (ho pins s σ H _ I h) λv s1 ⟨x,H1,B,r1,ty,J⟩=>?_);obtain⟨h1,h2⟩:=zT B r1 ty;exact{T,id,F,slot,z,h1,h2,Calls.callWith_builtin rfl (PySem.evalArgs_none (hm pins s1 σ H1 x [] v [] Q B r1 .nil J))}
def yp (R:PlainAttrs T)(slot:Slot T name id)(F:typeOf (.builtin id)=pure (.type "method_descriptor"))(hm:GD X id r)(ho:PE X o to)(O:PA X (e::es) t)
 (y:attributeBase o name X.env (eval o X.env)=eval o X.env:=by rfl)
 (B:((backTo cpos (starEach (e::es) X.env)).all (λx=>!x.1)&&(backToKw cpos (keywordEach [] X.env)).all (λx=>x.1.isSome)
  && decide ((e::es).length+([]:List Keyword).length+(if ([]:List Keyword).isEmpty then 0 else 1)<30))=true:=by rfl)
 (z:(apos.endLine==cpos.line)=true:=by rfl) (hs:starEach (e::es) X.env=(false,eval e X.env)::starEach es X.env:=by rfl) (j:(backTo cpos (starEach es X.env)).any (·.1)=false:=by rfl) :
 PE X (.Call (.Attribute o name apos) (e::es) [] cpos) (tBM X.K T r to t):=by
 intro pins s σ H Q I h;refine wpAny_Call_method_late y B z rfl (aV (ho pins s σ H _ I h) λv s1 ⟨x,H1,J,r1,ty,S⟩=>?_);obtain⟨h1,h2⟩:=zT J r1 ty;refine{T,id,R,slot,F,h1,h2,?_};have L:=O cpos pins s1 σ H1 _ J S;rw[hs] at L ⊢;refine Calls.callWith_builtin (by show(false||(backTo cpos (starEach es X.env)).any (·.1))=false;rw[j]<;>rfl) (Calls.evalArgs_plain ?_)
 exact aV L (by rintro W s2 ⟨Y,H2,M,r2,U⟩;exact hm pins s2 σ H2 x Y v W Q M r1 r2 U)
end
def Ni (X:Cx)(id:String)(r:V->List V->Hp->VK->Prop):Prop:=
 ∀(pins:List (Addr×Obj)) (s:Rl) (σ:St) (H:Hp) (x:V) (xs:List V) (v:Rg) (j:List Rg) (Q:VK),Inv X pins σ H s->RelV x v->Vals xs j->r x xs H Q->
  wpAny (model X.prog X.w) X.A (call (.builtin id) (v::j)) (EP X pins σ Q) X.xe s
def Vals.one:∀{x:V}{us:List Rg},Vals [x] us->∃u,us=[u]/\RelV x u
 |_,_,.cons r .nil=>{_,rfl,r}
def Vals.zero:∀{us:List Rg},Vals [] us->us=[]
 |_,.nil=>rfl
def Vals.dropLast (h:Vals xs us):Vals xs.dropLast us.dropLast:=by
 induction h with
 |nil=>exact .nil
 | cons r t j=>
   cases t with
   |nil=>exact .nil
   |cons q y=>exact .cons r j
def Vals.reverse (h:Vals xs us):Vals xs.reverse us.reverse:=by
 induction h with
 |nil=>exact .nil
 |cons r t j=>rw[Tj,Tj];exact Vals.append j (.cons r .nil)
noncomputable def Vals.rep (h:Vals xs us):∀k:Nat,Vals (List.replicate k xs).flatten (List.replicate k us).flatten
 |0=>.nil
 | k+1=>by
   rw[SQ,SQ,Tn,Tn];exact Vals.append h (Vals.rep h k)
def zb {y:Type}(l:List y):l.eraseIdx (l.length-1)=l.dropLast:=by
 induction l with
 |nil=>rfl
 | cons a r j=>
   cases r with
   |nil=>rfl
   | cons b r=>
     have e:(a::b::r).length-1=((b::r).length-1)+1:=by
      have h1:(a::b::r).length=r.length+2:=rfl;have h2:(b::r).length=r.length+1:=rfl;omega
     rw[e,List.eraseIdx_cons_succ,j];all_goals rfl
theorem foldl_rep (j:List Rg):∀(k:Nat) (acc:List Rg),
 List.foldl (λx1 x2=>x1++x2) acc.toArray (List.replicate k j.toArray)=(acc++(List.replicate k j).flatten).toArray
 |0,acc=>`s
 | k+1,acc=>by
   have e:acc.toArray++j.toArray=(acc++j).toArray:=`s
   have e2:(acc++j)++(List.replicate k j).flatten=acc++(List.replicate (k+1) j).flatten:=by
    rw[SQ,Tn,List.append_assoc]
   rw[<- e2,<- foldl_rep j k (acc++j),<- e,SQ,List.foldl_cons]
section
variable{X:Cx}{pins:List (Addr×Obj)}{σ:St}{H:Hp}{s:Rl}{l b:Addr}{xs ys zs:List V}
def Inv.lset {j its':List Rg}(I:Inv X pins σ H s)(y:H l=some (.lst xs))
 (e:s.heap.get? l=some {cls:=.type "list",data:=.seq j.toArray n}) (hf:f j.toArray=its'.toArray) (F:Vals ys its') (hz:ys.length<=sizeLine) :
 Inv X pins σ (upd H l (.lst ys)) {s with heap:=s.heap.update l (Obj.mapSeq f),toks:=t'}:=by
 have q:=PySem.IsL.update e f;rw[hf] at q;refine I.write (by rw[y];exact trivial) (.inl rfl) (λJ u z B=>(Sf s.heap (Obj.mapSeq f) (So z)).trans B) {_,q} ?_
 exact{hz,its',_,F,q}
def Inv.lnew (I:Inv X pins σ H s)(j:Vals ys its)(hz:ys.length<=sizeLine) :
 Inv X pins σ (upd H s.heap.objs.size (.lst ys)) {s with heap:=s.heap.push {cls:=.type "list",data:=.seq its.toArray},toks:=t'}:=
 I.laid (λ_ _ q=>Rf _ q) (Rj _) {hz,its,0,j,RB _ rfl}
def Inv.fresh (I:Inv X pins σ H s):H s.heap.objs.size=none:=I.hok.fresh (Rj _)
def Inv.lstM (I:Inv X pins σ H s)(y:H l=some (.lst xs)):xs.length<=sizeLine/\∃(j:List Rg) (n:Nat),Vals xs j/\xs.length=j.length/\s.heap.get? l=some {cls:=.type "list",data:=.seq j.toArray n}:=by
 obtain⟨z,j,n,r,e⟩:=I.hok l _ y;exact⟨z,j,n,r,r.length,e⟩
def DD (h:n<=sizeLine):Builtin.List.listTooLong n=false:=by
 exact decide_eq_false `a
end
section
variable{X:Cx}
def HX:V->List V->Hp->VK->Prop:=λx j H Q=>∃l xs y,x=.ref l/\j=[y]/\H l=some (.lst xs)/\xs.length<sizeLine/\Q .non (upd H l (.lst (xs++[y])))
def sH:Ni X "list.append" HX:=by
 intro pins s σ H x S v R Q I M L h;obtain⟨l,xs,y,rfl,rfl,B,O,q⟩:=h;cases M;obtain⟨u,rfl,J⟩:=L.one;obtain⟨z,j,n,r,hl,e⟩:=I.lstM B;refine call_meets F.slot_list_append {_,e,rfl} F.entry_list_append (F.args_list_append_2 _ _) (PySem.list_append l j.toArray n u (by rw[Ru];omega)) {e,?_}
 refine{.non,_,I.lset B e `s (r.append (.cons J .nil)) ?_,rfl,q}
 rw[RO,List.length_singleton];omega
def P6:V->List V->Hp->VK->Prop:=λx j H Q=>∃l xs y,x=.ref l/\j=[]/\H l=some (.lst xs)/\xs[xs.length-1]?=some y/\Q y (upd H l (.lst xs.dropLast))
def LP:Ni X "list.pop" P6:=by
 intro pins s σ H x Y v W Q I U S h;obtain⟨l,xs,y,rfl,rfl,L,O,q⟩:=h;cases U;have B:=S.zero;subst B;obtain⟨z,j,n,r,hl,e⟩:=I.lstM L;obtain⟨u,M,R⟩:=r.get O;have J:j.toArray[j.toArray.size-1]?=some u:=by
  show j.toArray[j.length-1]?=some u;rw[<- Array.getElem?_toList,<- hl];exact M
 refine call_meets F.slot_list_pop {_,e,rfl} F.entry_list_pop (F.args_list_pop_1 _) (MeetsSeq.list_pop_last l j.toArray n u J (by rw[Ru];omega)) {e,?_}
 refine{y,_,I.lset L e ?_ r.dropLast ?_,R,q}
 ·show j.toArray.eraseIdxIfInBounds (j.toArray.size-1)=j.dropLast.toArray;rw[Ru,List.eraseIdxIfInBounds_toArray,zb]
 ·rw[List.length_dropLast];omega
def Dh:V->List V->Hp->VK->Prop:=λx j H Q=>∃l xs,x=.ref l/\j=[]/\H l=some (.lst xs)/\Q .non (upd H l (.lst xs.reverse))
def yB:Ni X "list.reverse" Dh:=by
 intro pins s σ H x O v M Q I L J h;obtain⟨l,xs,rfl,rfl,B,q⟩:=h;cases L;have j:=J.zero;subst j;obtain⟨z,y,n,r,hl,e⟩:=I.lstM B;refine call_meets F.slot_list_reverse {_,e,rfl} F.entry_list_reverse (F.args_list_reverse_1 _) (AutoSeq1.list_reverse_list_0 l y.toArray n (by rw[Ru];omega)) {e,?_}
 refine{.non,_,I.lset B e `s r.reverse ?_,rfl,q}
 rw[List.length_reverse];omega
def P8:R2:=λx y H Q=>∃l b xs zs,x=.ref l/\y=.ref b/\H l=some (.lst xs)/\H b=some (.lst zs)/\xs.length+zs.length<=sizeLine/\∀p,H p=none->Q (.ref p) (upd H p (.lst (xs++zs)))
def Lq:bU X (binaryOp .Add) P8:=by
 intro pins s σ H x y v u Q I M O h;obtain⟨l,b,xs,zs,rfl,rfl,J,F,R,q⟩:=h;cases M;cases O;obtain⟨z,B,n,r,hl,e⟩:=I.lstM J;obtain⟨S,j,n2,r2,L,e2⟩:=I.lstM F;refine PySem.P.add_list e e2 ?_ (by rw[Ru,Ru];omega)
 have ea:B.toArray++j.toArray=(B++j).toArray:=`s
 rw[ea];exact{.ref _,_,I.lnew (r.append r2) (by rw[RO];omega),rfl,q _ I.fresh}
def P5:R2:=λx y H Q=>∃l k xs,x=.ref l/\y=.int k/\H l=some (.lst xs)/\-(2^63)<=k/\k<2^63/\xs.length*k.toNat<=sizeLine/\
 ∀p,H p=none->Q (.ref p) (upd H p (.lst (List.replicate k.toNat xs).flatten))
def len_rep {y:Type}(xs:List y)(k:Nat):(List.replicate k xs).flatten.length=k*xs.length:=by
 induction k with
 |zero=>simp
 |succ k j=>rw[SQ,Tn,RO,j,Nat.succ_mul,Nat.add_comm]
def Ll:bU X (binaryOp .Mult) P5:=by
 intro pins s σ H x y v u Q I W Y h;obtain⟨l,k,xs,rfl,rfl,U,h1,h2,R,q⟩:=h;cases W;obtain⟨t,rfl⟩:=Y;obtain⟨z,j,n,r,hl,e⟩:=I.lstM U;have M:j.toArray.size*k.toNat<=sizeLine:=by rw[Ru,<- hl];exact R
 have J:¬ j.toArray.size*k.toNat > (2^63-1) / 8:=by
  have:(sizeLine:Nat)<=(2^63-1) / 8:=`d
  omega
 have L:¬ (!Builtin.List.listFitsIndex k)=true:=by
  rw[fitsIndex_both h1 h2];exact RL
 have B:¬ Builtin.List.listTooLong (j.toArray.size*k.toNat)=true:=by
  rw[DD M];exact RL
 have O:List.foldl (λx1 x2=>x1++x2) #[] (List.replicate (if j.toArray.isEmpty=true then 0 else k.toNat) j.toArray)=(List.replicate k.toNat j).flatten.toArray:=by
  have S:=λm=>by
   have:=foldl_rep j m [];rw[Td] at this;exact this
  rw[S];cases j with
  |nil=>simp
  |cons a r'=>rw[if_neg `s]
 refine wpAny_binaryOp_repeat_ref `d {_,e,rfl} (λs'=>typeIs_int s' k t) noFill_list_mul F.fills_int_mul F.slot_int_rmul repeat_list F.slot_int_index.lookup
  (call_meets F.slot_int_rmul (typeIs_int s k t) F.entry_int_rmul (F.args_int_rmul_2 _ _) (int___rmul___int_list k t l j.toArray n)
   {e,rfl,{_,e,rfl},call_meets F.slot_list_mul {_,e,rfl} F.entry_list_mul (F.args_list_mul_2 _ _) (AutoListH.list___mul___list_int_3 l j.toArray n k t L J B) {e,?_}})
 rw[O];exact{.ref _,_,I.lnew (r.rep k.toNat) (by rw[len_rep,Nat.mul_comm];exact R),rfl,q _ I.fresh}
end
end L2
namespace Att
open PySem PySem.W PySem.Calls PyProof.Rows
def qA:∀(ns:List Int) (vs:List Rg),WellAll P h vs (ns.map WData.int)->IntsAre vs ns:=by
 intro ns;induction ns with
 | nil=>
   intro vs w;rw[List.map_nil] at w;cases w;exact .nil
 | cons n ns j=>
   intro vs w;rw[Sk] at w;cases w with
   | cons a b=>
     cases a;exact .cons _ _ (j _ b)
def AE {l:OpenLaw}(hn:l.most=some n)
 (j:l.row.toRowW.claim.pre args=true) (I:WellAll P h vals args) :
 ∃a vs ns,vals=[Value.ref a]/\args=[WData.list (ns.map WData.int)]/\h.get? a=some {cls:=.type "list",data:=.seq vs.toArray}/\IntsAre vs ns/\ns.length<=n:=by
 have F:WShape.hasAll [] args [.list .int]=true:=(pre_splitW j).1;have J:l.pre.holds [] {args:=args}=true:=(pre_splitW j).2;obtain⟨d,r,rfl,h1,h2⟩:=hasAllW_cons F;obtain rfl:=hasAllW_nil h2;obtain⟨xs,rfl,h3⟩:=hasW_list h1;obtain⟨ns,rfl⟩:=items_int h3;have z:ns.length<=n:=by
  have h4:(WTm.not (.lt (.lit (.int (n:Int))) (.len (.arg 0)))).holds [] {args:=[.list (ns.map .int)]}=true:=by
   have h4:=(holds_andW J).1;rw[hn] at h4;exact h4
  have B:=condW_of h4 (w_not (w_lt w_lit (w_len_list (w_arg rfl))));rw[Rn] at B;refine Nat.le_of_not_lt λq=>?_;first
   |(rw[decide_eq_true q'] at B;exact absurd B `d)
   |(simp at B;omega)
 cases I with
 | cons L w2=>
   cases w2;cases L with
   |list ho y=>exact{_,_,ns,rfl,rfl,ho,qA ns _ y,z}
def AN (l:OpenLaw)(args:List WData):l.row.toRowW.claim.post args (.bool true) args=true:=
 postW_of
  (show WShape.has [] (.bool true) .bool=true by first|rfl|decide|simp[WShape.has,WShape.arms,WShape.armsAll])
  (w_eq_bool (w_res rfl) w_lit) rfl
def attach_call {l:OpenLaw}
 (hn:l.most=some n) (L:d.params.defaults=[])
 (call:∀(w:RS) (s₀ j:Rl) (mg R:Str->Option Rg) (fa:Addr) (o:Obj) (pm cd y:Rg) (a:Addr) (vs:List Rg) (ns:List Int),
  Ground q loose [] XP w s₀ mg R j.heap->YP w j.heap->
  j.heap.get? fa=some o->o.data=.func (docDef d.name d.params d.body d.scope pm cd y)->j.heap.CodeRec cd d.name->mg d.name=some (.ref fa)->
  j.heap.get? a=some {cls:=.type "list",data:=.seq vs.toArray}->IntsAre vs ns->ns.length<=n->j.gens=#[]->
  codeAny (model l.prog w) callerA (.call (.ref fa) {[.ref a],[]}) (λr s'=>r=.ok (.ret (.bool true))/\OldK j.heap s'.heap/\s'.os=j.os/\AllBare s'.gens) j) :
 WalkO q loose XP YP l.row.toRowW d [] (λf vs=>PySem.call f vs):=by
 intro w s₀ j mg R G Y fa o pm cd y dV kV ho hd J U M hg S vals as I W hrd O hlo;obtain rfl:dV=.none:=Dflts.none U L;obtain rfl:kV=.none:=Dflts.noKw U;obtain⟨a,vs,ns,rfl,rfl,F,z,B⟩:=AE hn I O;refine enter_call (codeAny_mono (call w s₀ j mg R fa o pm cd y a vs ns G Y ho (fd_plain hd) J M F z B hg) λr s' hq=>?_);obtain⟨rfl,h2,h3,h4⟩:=hq;exact{.inl {.bool true,.bool true,[],rfl,λ_=>rfl,.bool true,AN l _,λ_=>{List.Pairwise.nil,λ_ hm=>(nomatch hm)}},h2,h3,h4}
end Att
namespace L2
open PySem PySem.Spec PyProof.Rows
noncomputable def r9:∀{vs:List Rg}{ns:List Int},IntsAre vs ns->Vals (ns.map V.int) vs
 |_,_,.nil=>.nil
 |_,_,.cons n t h=>.cons ⟨t,rfl⟩ (r9 h)
def zt (H:Hp):Prop:=∀b,H b=none\/∃o xs,H b=some (.frz o (.lst xs))
def DZ {K:Q9}
 (KX:K.In s₁.heap) (M:s₁.heap.Ns mainGlobals mg) (j:s₁.heap.Ns builtinsNs mb) (hbb:∀x:Str,x≠"__name__"->mb x=bootBuiltins x) (L:s₁.heap.NoLimit) (hg:s₁.gens=#[])
 (Y:s₁.heap.get? a=some {cls:=.type "list",data:=.seq vs.toArray}) (hi:IntsAre vs ns) (hl:ns.length<=sizeLine) (hr:bL k callerA)
 (F:∀base:Heap,K.In base->base.Ns mainGlobals mg->iw P w K mg base CX k fa fd [x] sp) (I:∀(s:Rl) (u:Rg),BindsTo s fd {[u],[]} [(x,u)])
 (hsp:∀H:Hp,zt H->cE K H a (ns.map V.int)->sp [.ref a] H (λv _=>v=.bl true) λ_ _ _=>False)
 (hCX:∀H e s',CX [] H s₁ (λ_ _ _=>False) e s'->False) :
 codeAny (model P w) callerA (.call (.ref fa) {[.ref a],[]}) (λr s'=>r=.ok (.ret (.bool true))/\OldK s₁.heap s'.heap/\s'.os=s₁.os/\AllBare s'.gens) s₁:=by
 have rv:=r9 hi;have R:=hi.length;have B:∀H:Hp,zt H->cE K H a (ns.map V.int)->eD P w H s₁.heap->(∀b,H b≠none->b=a)->(H a≠none->K.lookup a=none)->
  codeAny (model P w) callerA (.call (.ref fa) {[.ref a],[]}) (λr s'=>r=.ok (.ret (.bool true))/\OldK s₁.heap s'.heap/\s'.os=s₁.os/\AllBare s'.gens) s₁:=by
  intro H hO hS hok hA hK;have dm:∀{b:Addr}{o:Obj},s₁.heap.get? b=some o->H b=none->(mX s₁.heap H).get? b=some o:=λe n=>Ed e n;have noA:∀{b:Addr}{o:Obj}{es:Array S6}{U:Nat},s₁.heap.get? b=some o->o.data=.dict es U->H b=none:=λ{b o es U} e d=>by
   cases q:H b with
   |none=>rfl
   | some u=>
     have e':=hA b (by rw[q];simp)
     subst e';rw[Y] at e;cases e;have d':=d;cases d'
  have y:∀{b:Addr}{m:Str->Option Rg},s₁.heap.Ns b m->(mX s₁.heap H).Ns b m:=λ{b m} ⟨o,es,U,e,d,r⟩=>{o,es,U,dm e (noA e d),d,r};have J:=λb o e=>dm (KX b o e) (by
   cases q:H b with
   |none=>rfl
   | some u=>
     have e':=hA b (by rw[q];simp)
     subst e';rw[hK (by rw[q];simp)] at e;cases e)
  have hM:Mod K mg (mX s₁.heap H):={J,y M,{mb,y j,hbb},let⟨mc,h1,h2⟩:=L;{mc,y h1,h2}}
  have e0:pN P w K mg (mX s₁.heap H) callerA [] s₁ H:={rfl,hM,λb o e=>Ip e,Nat.le_of_eq (Bt _ _),trivial,λb j=>absurd (show b∈([]:List Addr) from j) `s,hok,.of_eq hg}
  refine codeAny_mono ((F _ J (y M)).run callerA [] s₁ H {[.ref a],[]} [.ref a] [.ref a] _ _ hr e0 (I s₁ (.ref a)) (.cons rfl .nil) (hsp H hO hS)) λr s' h=>?_;cases r with
  |error e=>exact(hCX H e s' h).elim
  | ok fl=>
    cases fl with
    |next=>exact False.elim h
    |brk=>exact False.elim h
    |cont=>exact False.elim h
    | ret u=>
      obtain⟨v,H',os,bare,un,O,r',q⟩:=h;have q':=q;subst q';obtain rfl:u=Value.bool true:=r';refine{rfl,OldK.of_keep λb o e=>?_,os,bare};cases q:H b with
      |none=>exact un.keep b o e q (by intro z;exact absurd (show b∈([]:List Addr) from z) `s) `s
      | some u=>
        rcases hO b with z|⟨ob,xs,z⟩
        ·rw[q] at z;cases z
        ·have z2:=un.frzs b ob _ z;obtain⟨e1,_⟩:=hok b _ z;obtain⟨e2,_⟩:=O b _ z2;rw[e] at e1;cases e1;exact e2
 cases hk:K.lookup a with
 | some o=>
   have e:=KX a o hk;rw[Y] at e;cases e;refine B (λ_=>none) (λ_=>.inl rfl) (.inr {_,vs.toArray,_,hk,rfl,rfl,rfl,by rw[Ru,R];exact hl,by simpa using rv}) (λb u z=>by have S:=z;cases S) (λb z=>absurd rfl z) λz=>absurd rfl z
 | none=>
   refine B (λb=>if b=a then some (.frz {cls:=.type "list",data:=.seq vs.toArray} (.lst (ns.map V.int))) else none) (λb=>?_) (.inl (.inr {{cls:=.type "list",data:=.seq vs.toArray},if_pos rfl})) (λb u z=>?_) (λb z=>?_) λ_=>hk
   ·by_cases j:b=a
    ·exact .inr {_,_,if_pos j}
    ·exact .inl (if_neg j)
   ·by_cases j:b=a
    ·have S:=(if_pos j).symm.trans z;cases S;subst j;exact{Y,by rw[Rn];exact hl,vs,_,rv,Y}
    ·have S:=(if_neg j).symm.trans z;cases S
   ·by_cases j:b=a
    ·exact j
    ·exact absurd (if_neg j) z
def GR {l:PySem.W.OpenLaw}{K:SM->Q9}{CX:RS->we}{sp:RS->Sp}
 (hn:l.most=some n) (M:n<=sizeLine) (J:d.params.defaults=[]) (hr:bL k callerA)
 (hY:∀(w:RS) (h:Heap),YP w h->(K w.params).In h)
 (F:∀(w:RS) (mg:Str->Option Rg) (fa:Addr) (h:Heap),(K w.params).In h->h.Ns mainGlobals mg->mg d.name=some (.ref fa)->
  ∃fd:FuncData,(∀(s:Rl) (u:Rg),BindsTo s fd {[u],[]} [(x,u)])/\
   ∀base:Heap,(K w.params).In base->base.Ns mainGlobals mg->iw l.prog w (K w.params) mg base (CX w) k fa fd [x] (sp w))
 (O:∀(w:RS) (H:Hp) (a:Addr) (ns:List Int),ns.length<=n->zt H->cE (K w.params) H a (ns.map V.int)->sp w [.ref a] H (λv _=>v=.bl true) λ_ _ _=>False)
 (I:∀(w:RS) (H:Hp) (s:Rl) (e:Rg) (s':Rl),CX w [] H s (λ_ _ _=>False) e s'->False) :
 PySem.W.WalkO q loose XP YP l.row.toRowW d [] (λf vs=>PySem.call f vs):=by
 refine Att.attach_call hn J λw s₀ B mg mb fa o pm cd S a vs ns G Y ho hd hcd L z y j hg=>?_;have R:=hY w _ Y;obtain⟨fd,hb,U⟩:=F w mg fa _ R G.T.g L;exact DZ R G.T.g G.T.b G.T.builtins G.T.nolimit hg z y (Rp j M) hr U hb (λH hO hS=>O w H a ns j hO hS) λH e s'=>I w H B e s'
noncomputable def inClass (s:Stmt)(j:Nat):Stmt:=match s with
 |.ClassDef _ _ _ body _ _ _ _ _ _ _=>body.getD j (.Pass {0,0,0,0})
 |_=>.Pass {0,0,0,0}
noncomputable def di (s:Stmt):Arguments:=match s with
 |.FunctionDef _ a _ _ _ _ _ _ _ _=>a
 |_=>{posonlyargs:=[],args:=[],vararg:=none,kwonlyargs:=[],kw_defaults:=[],kwarg:=none,defaults:=[]}
noncomputable def b5 (s:Stmt):List Stmt:=match s with
 |.FunctionDef _ _ b _ _ _ _ _ _ _=>b
 |_=>[]
noncomputable def aJ (s:Stmt):Scope:=match s with
 |.FunctionDef _ _ _ _ _ _ sc _ _ _=>sc
 |_=>{kind:=.function,names:=[],isGenerator:=false,isCoroutine:=false}
abbrev E0:XK:=λ_ _ _=>False
structure oH (K:Q9) (x qual:Str) (st:Stmt) (f:Addr) (fd:FuncData):Prop where
 ex:∃(oc:Rg) (od:Option Addr) (kV doc pm:Rg) (an:Option Addr) (cdv ct:Rg) (osl:Array (Option Rg)),
  fd=PySem.W.fnOf x qual (di st) (b5 st) (aJ st) .none kV doc pm an cdv ct/\K.lookup f=some {oc,od,.func fd,osl}/\PySem.W.codeIn K cdv qual=true
 kp:PySem.W.keepIn K (.ref f)=true
section
variable{P:R0}{w:RS}{K:Q9}{mg:Str->Option Rg}{base:Heap}
def oH.binds {x qual:Str}{st:Stmt}{f:Addr}{fd:FuncData}{ps:List Str}(F:oH K x qual st f fd)
 (h:∀(kV y pm:Rg) (z:Option Addr) (j ct:Rg) (us:List Rg),us.length=ps.length->bindArgs (PySem.W.fnOf x qual (di st) (b5 st) (aJ st) .none kV y pm z j ct) {us,[]}=pure (ps.zip us)):Binds K fd ps []:=by
 obtain⟨oc,od,kV,y,pm,z,j,ct,I,rfl,lk,B⟩:=F.ex;exact .all (h kV y pm z j ct)
def Bw {x qual:Str}{st:Stmt}{f:Addr}{oc:Rg}{od B:Option Addr}{z:Array (Option Rg)}{kV y pm j ct:Rg}(l:K.lookup f=some {oc,od,.func (PySem.W.fnOf x qual (di st) (b5 st) (aJ st) .none kV y pm B j ct),z})
 (c:PySem.W.codeIn K j qual=true) (k:PySem.W.keepIn K (.ref f)=true):oH K x qual st f (PySem.W.fnOf x qual (di st) (b5 st) (aJ st) .none kV y pm B j ct):={⟨oc,od,kV,y,pm,B,j,ct,z,rfl,l,c⟩,k}
end
end L2
namespace LD
open PySem
inductive D where
 |non|bl (b:Bool)|int (i:Int)|str (x:Str)|tup (ds:List D)|lst (ds:List D)|frz (ds:List D)|cell (k:Nat)|fn (f:Nat)|exc (c:Nat) (p:Option Int)
 deriving Inhabited
abbrev Mem:=List (List D)
abbrev Env:=List (Option D)
inductive Res (α:Type) where
 |ok (a:α) (M:Mem)
 |err (x:D) (M:Mem)
 |bad
noncomputable def Res.bind {h j:Type}(r:Res h)(f:h->Mem->Res j):Res j:=match r with
 |.ok a M=>f a M
 |.err x M=>.err x M
 |.bad=>.bad
@[simp] theorem Res.bind_ok {h j:Type}(a:h)(M:Mem)(f:h->Mem->Res j):(Res.ok a M).bind f=f a M:=rfl
@[simp] theorem Res.bind_err {h j:Type}(x:D)(M:Mem)(f:h->Mem->Res j):(Res.err x M:Res h).bind f=.err x M:=rfl
@[simp] theorem Res.bind_bad {h j:Type}(f:h->Mem->Res j):(Res.bad:Res h).bind f=.bad:=rfl
inductive tu where
 |add|sub|mul|fdiv|mod|pow
 deriving DecidableEq
inductive j7 where
 |eq|ne|lt|le|gt|ge|isN|notN|isin|notin
 deriving DecidableEq
inductive Ty where
 |int|bool|str|tuple|list|own (c:Str)
 deriving DecidableEq
inductive wg where
 |len|tuple|list (m:Bool)|listR (m:Bool)|all|sum|repr
 deriving DecidableEq
inductive gr where
 |one (i:Nat)
 |tup (l:List Nat)
 |two (i:Nat) (l:List Nat)
noncomputable def sz:Nat:=16777216
noncomputable def bB (m:Bool)(ds:List D)(M:Mem):Res D:=if ds.length<=sz then(if m then .ok (.cell M.length) (M++[ds]) else .ok (.lst ds) M) else .bad
noncomputable def lQ (ds:List D)(M:Mem):Res D:=if ds.length<=sz then .ok (.tup ds) M else .bad
noncomputable def bW (M:Mem):D->Option (List D)
 |.lst h=>some h
 |.tup h=>some h
 |.frz h=>some h
 |.cell k=>M[k]?
 |_=>none
noncomputable def g9 (M:Mem):D->Option (List D)
 |.lst h=>some h
 |.frz h=>some h
 |.cell k=>M[k]?
 |_=>none
noncomputable def jR (M:Mem):D->Option (List D)
 |.lst h=>some h
 |.cell k=>M[k]?
 |_=>none
noncomputable def ax:Nat->D->Bool
 |_,.non=>true
 |_,.bl _=>true
 |_,.int _=>true
 |_,.str x=>x.cps.all (· < 0x110000)
 |n+1,.tup h=>h.all (ax n)
 |n+1,.lst h=>h.all (ax n)
 |0,.tup _=>false
 |0,.lst _=>false
 |_,.frz _=>false
 |_,.cell _=>false
 |_,.fn _=>false
 |_,.exc _ _=>false
mutual
noncomputable def cS:D->D->Bool
 |.non,.non=>true
 |.bl a,.bl b=>a==b
 |.bl a,.int b=>(if a then 1 else 0)==b
 |.int a,.bl b=>a==(if b then 1 else 0)
 |.int a,.int b=>a==b
 |.str a,.str b=>a==b
 |.tup a,.tup b=>ik a b
 |.lst a,.lst b=>ik a b
 |_,_=>false
noncomputable def ik:List D->List D->Bool
 |[],[]=>true
 |a::r,b::t=>cS a b&&ik r t
 |[],_::_=>false
 |_::_,[]=>false
end
noncomputable def iy:D->Bool
 |.str _=>true
 |_=>false
def qG (a b:D):Option Bool:=if iy a&&iy b||ax 64 a&&ax 64 b then some (cS a b) else none
noncomputable def view (M:Mem):D->D
 | .cell k=>match M[k]? with
   |some h=>.lst h
   |none=>.cell k
 |.frz h=>.lst h
 |d=>d
noncomputable def cF:Nat->Mem->D->D
 |0,_,d=>d
 | n+1,M,.cell k=>match M[k]? with
   |some h=>.lst (h.map (cF n M))
   |none=>.cell k
 |n+1,M,.frz h=>.lst (h.map (cF n M))
 |n+1,M,.lst h=>.lst (h.map (cF n M))
 |n+1,M,.tup h=>.tup (h.map (cF n M))
 |_+1,_,d=>d
def m8 (M:Mem)(a b:D):Option Bool:=match qG (view M a) (view M b) with
 |some r=>some r
 |none=>qG (cF 64 M a) (cF 64 M b)
def kC (M:Mem):D->Option Bool
 |.non=>some false
 |.bl b=>some b
 |.int i=>some (i != 0)
 |.str x=>if x.cps.size<=sz then some (x.cps.size != 0) else none
 |.tup ds=>some (!ds.isEmpty)
 |.lst ds=>some (!ds.isEmpty)
 |.frz ds=>some (!ds.isEmpty)
 |.cell k=>(M[k]?).map λds=>!ds.isEmpty
 |.fn _=>none
 |.exc _ _=>none
def bG (n:Nat)(i:Int):Option Nat:=if 0<=i then(if i<n then some i.toNat else none) else if -(n:Int)<=i then some (i+n).toNat else none
def gM (m:Bool)(o:tu)(a b:D)(M:Mem):Res D:=match o,a,b with
 |.add,.int i,.int j=>.ok (.int (i+j)) M
 |.add,.str x,.str y=>if x.cps.size+y.cps.size<=sz then .ok (.str {x.cps++y.cps}) M else .bad
 |.add,.tup x,.tup y=>lQ (x++y) M
 | .add,a,b=>match jR M a,jR M b with
   |some x,some y=>bB m (x++y) M
   |_,_=>.bad
 |.sub,.int i,.int j=>.ok (.int (i-j)) M
 |.mul,.int i,.int j=>if (-(2^64)<i/\i<2^64)\/(-(2^64)<j/\j<2^64) then .ok (.int (i*j)) M else .bad
 |.mul,.tup x,.int j=>if x.length*j.toNat<=sz/\-(2^63)<=j/\j<2^63 then .ok (.tup (List.replicate j.toNat x).flatten) M else .bad
 | .mul,a,.int j=>match jR M a with
   |some x=>if x.length*j.toNat<=sz/\-(2^63)<=j/\j<2^63 then bB m (List.replicate j.toNat x).flatten M else .bad
   |none=>.bad
 |.fdiv,.int i,.int j=>if 0<j/\j<1073741824 then .ok (.int (i / j)) M else .bad
 |.mod,.int i,.int j=>if 0<j then .ok (.int (i % j)) M else .bad
 |.pow,.int i,.int j=>if 0<=j/\j<=1000000/\i.natAbs<2^64 then .ok (.int (i^j.toNat)) M else .bad
 |_,_,_=>.bad
def jq (x:D)(ds:List D):Option Bool:=if ax 64 x&&ds.all (ax 63) then some (ds.any λy=>cS y x) else none
noncomputable def mq (x y:Str):Bool:=!(Builtin.Str.occurrences y x 0 y.length 1).isEmpty
noncomputable def intsOf:List D->Option (List Int)
 |[]=>some []
 |.int b::r=>(intsOf r).map (b::·)
 |_=>none
def mV:D->Option (List Int)
 |.tup h=>intsOf h
 |_=>none
noncomputable def FQ:List D->Option (List (List Int))
 |[]=>some []
 |d::r=>(mV d).bind λk=>(FQ r).map (k::·)
def L7:D->Option (List (List Int))
 |.tup h=>FQ h
 |_=>none
def isKey (c:Int)(d:D):Bool:=if c=77 then(mV d).isSome else if c=78 then(L7 d).isSome else false
def QF (M:Mem)(o:Nat):Option (Int×List D):=if 5000<=o then(match M[o-5000]? with
 |some (.int c::es)=>if c=77\/c=78 then some (c,es) else none
 |_=>none) else none
def QE:D->D
 |.tup [k,_]=>k
 |d=>d
def QD:D->D
 |.tup [_,v]=>v
 |d=>d
def N9 (es:List D)(k:D):Option D:=(es.find? λe=>cS (QE e) k).map QD
def getD (M:Mem)(o:Nat)(k:D):Option D:=(QF M o).bind λq=>if isKey q.1 k then N9 q.2 k else none
noncomputable def yS:D->Bool
 |.non=>true
 |_=>false
def bw (o:j7)(a b:D)(M:Mem):Option Bool:=match o,a,b with
 |.eq,a,b=>m8 M a b
 |.ne,a,b=>(m8 M a b).map (!·)
 |.lt,.int i,.int j=>some (decide (i<j))
 |.le,.int i,.int j=>some (decide (i<=j))
 |.gt,.int i,.int j=>some (decide (j<i))
 |.ge,.int i,.int j=>some (decide (j<=i))
 |.isN,a,.non=>some (yS a)
 |.notN,a,.non=>some (!yS a)
 |.isin,.str x,.str y=>some (mq x y)
 |.notin,.str x,.str y=>some (!mq x y)
 |.isin,a,b=>(bW M b).bind (jq (view M a))
 |.notin,a,b=>((bW M b).bind (jq (view M a))).map (!·)
 |_,_,_=>none
def c4 (a i:D)(M:Mem):Option D:=match a,i with
 |.str x,.int i=>if x.cps.size<=sz then(bG x.cps.size i).bind λj=>(x.cps[j]?).map λc=>.str {#[c]} else none
 |a,.int i=>(bW M a).bind λh=>(bG h.length i).bind λj=>h[j]?
 |_,_=>none
noncomputable def aL (n d:Nat):D->Option Nat
 |.non=>some d
 |.int v=>some (if v<0 then(v+(n:Int)).toNat else min v.toNat n)
 |_=>none
noncomputable def cg:Bool->D->Bool
 |true,.int _=>true
 |false,.non=>true
 |_,_=>false
noncomputable def cut {h:Type}(xs:List h)(lo hi:Nat):List h:=(xs.drop lo).take (hi-lo)
def ez (m:Bool)(a lo hi:D)(M:Mem):Res D:=match a with
 | .tup xs=>match aL xs.length 0 lo,aL xs.length xs.length hi with
   |some l,some h=>.ok (.tup (cut xs l h)) M
   |_,_=>.bad
 | a=>match g9 M a with
   | some xs=>match aL xs.length 0 lo,aL xs.length xs.length hi with
     |some l,some h=>bB m (cut xs l h) M
     |_,_=>.bad
   |none=>.bad
def b4 (t:Ty):D->Option Bool
 |.non=>some false
 |.bl _=>some (t==.bool||t==.int)
 |.int _=>some (t==.int)
 |.str _=>some (t==.str)
 |.tup _=>some (t==.tuple)
 |.lst _=>some (t==.list)
 |.frz _=>some (t==.list)
 |.cell _=>some (t==.list)
 |.fn _=>none
 |.exc _ _=>none
noncomputable def boolsOf:List D->Option (List Bool)
 |[]=>some []
 |.bl b::r=>(boolsOf r).map (b::·)
 |_=>none
def du (f:wg)(ds:List D)(M:Mem):Res D:=match f,ds with
 |.len,[.str x]=>if x.cps.size<=sz then .ok (.int x.cps.size) M else .bad
 | .len,[d]=>match bW M d with
   |some xs=>.ok (.int xs.length) M
   |none=>.bad
 |.tuple,[.tup xs]=>.ok (.tup xs) M
 | .tuple,[d]=>match g9 M d with
   |some xs=>.ok (.tup xs) M
   |none=>.bad
 | .list m,[d]=>match bW M d with
   |some xs=>bB m xs M
   |none=>.bad
 |.listR m,[.int n]=>if n<2^20 then bB m ((List.range n.toNat).map λ(k:Nat)=>D.int (k:Int)) M else .bad
 | .all,[d]=>match g9 M d with
   | some xs=>match boolsOf xs with
     |some bs=>.ok (.bl (bs.all id)) M
     |none=>.bad
   |none=>.bad
 | .sum,[d]=>match g9 M d with
   | some xs=>match intsOf xs with
     |some is=>.ok (.int is.sum) M
     |none=>.bad
   |none=>.bad
 |_,_=>.bad
noncomputable def cW:List Nat->List D->Env->Option Env
 |[],[],h=>some h
 |i::l,d::ds,h=>cW l ds (h.set i (some d))
 |_,_,_=>none
def b9 (t:gr)(d:D)(Z:Env):Option Env:=match t,d with
 |.one i,d=>some (Z.set i (some d))
 |.tup l,.tup h=>cW l h Z
 |.two i l,.tup [d,.tup h]=>cW l h (Z.set i (some d))
 |.tup _,_=>none
 |.two _ _,_=>none
abbrev Walk:=Mem->Option (List D)
noncomputable def gy:Nat->List D->List D
 |_,[]=>[]
 |k,d::r=>.tup [.int k,d]::gy (k+1) r
noncomputable def jI:List D->List D->List D
 |a::r,b::t=>.tup [a,b]::jI r t
 |_,_=>[]
noncomputable def fH:List D->List D->List D->List D
 |a::r,b::t,c::q=>.tup [a,b,c]::fH r t q
 |_,_,_=>[]
noncomputable def gx {h:Type}(f:h->D->Mem->Res h)(w:Walk):Nat->Nat->h->Mem->Res h
 |0,_,_,_=>.bad
 | n+1,i,a,M=>match w M with
   |none=>.bad
   | some j=>match j[i]? with
     |none=>.ok a M
     |some d=>(f a d M).bind (gx f w n (i+1))
def dC {h:Type}(f:h->D->Mem->Res h)(w:Walk)(a:h)(M:Mem):Res h:=gx f w (((w M).getD []).length+1) 0 a M
noncomputable def b7 {h:Type}(M:Mem):Option h->Res h
 |some a=>.ok a M
 |none=>.bad
@[simp] theorem Dw {h:Type}(M:Mem)(a:h):b7 M (some a)=.ok a M:=rfl
@[simp] theorem P9 {h:Type}(M:Mem):(b7 M none:Res h)=.bad:=rfl
inductive Fl where
 |next (Z:Env)
 |ret (d:D)
 |exc (x:D) (Z:Env)
def zj {a b:Int}:cS (.int a) (.int b)=(a==b):=rfl
def Gr:cS (.str x) (.str y)=(x==y):=rfl
end LD
namespace LD
open PySem PySem.Spec PyProof.Rows L2
structure Mu where
 pub:Nat->Option Addr
 priv:List Addr
 ob:Nat->Option Addr
def Mu.Mt (μ:Mu)(a:Addr):Prop:=(∃k,μ.pub k=some a)\/a∈μ.priv
abbrev Fa:=Nat->Option Addr
def KL (K:Q9)(a:Addr)(xs:List V):Prop:=
 ∃(o:Obj) (h:Array Rg) (n:Nat),K.lookup a=some o/\o.cls=.type "list"/\o.dict=none/\o.data=.seq h n/\h.size<=sizeLine/\Vals xs h.toList
def xR (C:Addr)(u:Option Addr)(a:Addr)(h:Heap):Prop:=∃o j,h.get? a=some o/\o.cls=.ref C/\o.dict=u/\o.data=.fields j/\1<j.size
noncomputable def fu (c:Nat):Str:=if c=1 then "number" else "place"
def rX (H:Hp)(c:Nat)(h:Option Addr):Option Int->Prop
 |none=>h=none
 |some i=>∃d,h=some d/\H d=some (.xd [(fu c,.int i)])
def d7 (c:Nat):Nat:=1000+c
def fT (c:Nat):Nat:=900+c
section
variable(fa:Fa)(K:Q9)(μ:Mu)(H:Hp)
mutual
noncomputable def Rep:D->V->Prop
 |.non,v=>v=.non
 |.bl b,v=>v=.bl b
 |.int i,v=>v=.int i
 |.str x,v=>v=.str x
 |.tup j,v=>∃a h,v=.ref a/\dI K H a h/\aH j h
 |.lst j,v=>∃a h,v=.ref a/\(H a=some (.lst h)/\¬ μ.Mt a)/\aH j h
 |.frz j,v=>∃a h,v=.ref a/\((∃ob,H a=some (.frz ob (.lst h)))\/KL K a h)/\aH j h
 |.cell k,v=>∃a,v=.ref a/\μ.pub k=some a
 |.fn f,v=>∃a,v=.ref a/\(fa f=some a\/(fa f=none/\μ.ob f=some a))
 |.exc c p,v=>∃a C u,v=.ref a/\fa (d7 c)=some C/\H a=some (.ext (xR C u a))/\rX H c u p
noncomputable def aH:List D->List V->Prop
 |[],h=>h=[]
 |d::ds,h=>∃v r,h=v::r/\Rep d v/\aH ds r
end
end
def IsX (o:HO):Prop:=(∃h,o=.ext h)\/∃fs,o=.xd fs
structure ExtW (μ:Mu) (H:Hp) (μ':Mu) (H':Hp):Prop where
 mu:∀k a,μ.pub k=some a->μ'.pub k=some a
 tups:∀a vs,Rd H a (.tup vs)->Rd H' a (.tup vs)
 lsts:∀a vs,H a=some (.lst vs)->¬ μ.Mt a->H' a=some (.lst vs)/\¬ μ'.Mt a
 frzs:∀a ob u,H a=some (.frz ob u)->H' a=some (.frz ob u)
 exts:∀a o,IsX o->H a=some o->H' a=some o
 obs:∀k a,μ.ob k=some a->μ'.ob k=some a
structure Ext (μ:Mu) (H:Hp) (μ':Mu) (H':Hp):Prop extends ExtW μ H μ' H' where
 pr:μ'.priv=μ.priv
 pk:∀a∈μ.priv,H' a=H a
def ExtW.refl:ExtW μ H μ H:={λ_ _ h=>h,λ_ _ h=>h,λ_ _ h n=>⟨h,n⟩,λ_ _ _ h=>h,λ_ _ _ h=>h,λ_ _ h=>h}
def ExtW.trans (a:ExtW μ H μ1 H1)(b:ExtW μ1 H1 μ2 H2):ExtW μ H μ2 H2:=
 {λk x h=>b.mu k x (a.mu k x h),λx j h=>b.tups x j (a.tups x j h),λx j h n=>b.lsts x j (a.lsts x j h n).1 (a.lsts x j h n).2,λx ob u h=>b.frzs x ob u (a.frzs x ob u h),λx o i h=>b.exts x o i (a.exts x o i h),λk x h=>b.obs k x (a.obs k x h)}
def Ext.refl:Ext μ H μ H:={.refl,rfl,λ_ _=>rfl}
def Ext.trans (a:Ext μ H μ1 H1)(b:Ext μ1 H1 μ2 H2):Ext μ H μ2 H2:=
 {a.toExtW.trans b.toExtW,b.pr.trans a.pr,λx h=>(b.pk x (by rw[a.pr];exact h)).trans (a.pk x h)}
section
variable{fa:Fa}{K:Q9}{μ μ':Mu}{H H':Hp}
def ExtW.sqT (x:ExtW μ H μ' H')(h:dI K H a vs):dI K H' a vs:=h.elim (λz=>.inl (x.tups a vs z)) .inr
mutual
theorem Rep.extW (x:ExtW μ H μ' H'):∀{d:D}{v:V},Rep fa K μ H d v->Rep fa K μ' H' d v
 |.non,v,h=>h
 |.bl b,v,h=>h
 |.int i,v,h=>h
 |.str y,v,h=>h
 | .tup u,v,h=>by
   obtain⟨a,j,e,s,r⟩:=h;exact{a,j,e,x.sqT s,aH.extW x r}
 | .lst u,v,h=>by
   obtain⟨a,j,e,s,r⟩:=h;exact{a,j,e,x.lsts a j s.1 s.2,aH.extW x r}
 | .frz u,v,h=>by
   obtain⟨a,j,e,s,r⟩:=h;exact{a,j,e,s.elim ((by rintro⟨ob,z⟩;exact .inl {ob,x.frzs a ob _ z})) .inr,aH.extW x r}
 | .cell k,v,h=>by
   obtain⟨a,e,m⟩:=h;exact{a,e,x.mu k a m}
 | .fn f,v,h=>by
   obtain⟨a,e,m⟩:=h;exact{a,e,m.imp id λz=>{z.1,x.obs _ _ z.2}}
 | .exc c p,v,h=>by
   obtain⟨a,C,B,e,f,g,n⟩:=h;refine{a,C,B,e,f,x.exts _ _ (.inl {_,rfl}) g,?_};cases p with
   |none=>exact n
   |some i=>exact let⟨d,h1,h2⟩:=n;{d,h1,x.exts _ _ (.inr {_,rfl}) h2}
theorem aH.extW (x:ExtW μ H μ' H'):∀{ds:List D}{vs:List V},aH fa K μ H ds vs->aH fa K μ' H' ds vs
 |[],vs,h=>h
 | d::ds,vs,h=>by
   obtain⟨v,r,e,p,q⟩:=h;exact{v,r,e,Rep.extW x p,aH.extW x q}
end
def Rep.ext (x:Ext μ H μ' H')(h:Rep fa K μ H d v):Rep fa K μ' H' d v:=Rep.extW x.toExtW h
def aH.ext (x:Ext μ H μ' H')(h:aH fa K μ H d v):aH fa K μ' H' d v:=aH.extW x.toExtW h
noncomputable def aH.length:∀{ds:List D}{vs:List V},aH fa K μ H ds vs->vs.length=ds.length
 | [],vs,h=>by
   subst h;rfl
 | d::ds,vs,h=>by
   obtain⟨v,r,e,p,q⟩:=h;subst e;simp[aH.length q]
theorem aH.get:∀{ds:List D}{vs:List V}{i:Nat}{d:D},aH fa K μ H ds vs->ds[i]?=some d->∃v,vs[i]?=some v/\Rep fa K μ H d v
 |[],_,_,_,_,e=>by simp at e
 | d::ds,vs,0,j,h,e=>by
   obtain⟨v,r,rfl,p,q⟩:=h;simp at e;subst e;exact⟨v,rfl,p⟩
 | d::ds,vs,i+1,j,h,e=>by
   obtain⟨v,r,rfl,p,q⟩:=h;obtain⟨u,h1,h2⟩:=aH.get q (by simpa using e)
   exact{u,by simpa using h1,h2}
noncomputable def aH.append:∀{ds es:List D}{vs ws:List V},aH fa K μ H ds vs->aH fa K μ H es ws->aH fa K μ H (ds++es) (vs++ws)
 | [],_,vs,_,h,g=>by
   subst h;exact g
 | d::ds,es,vs,ws,h,g=>by
   obtain⟨v,r,rfl,p,q⟩:=h;exact{v,r++ws,rfl,p,aH.append q g}
def aH.one (h:Rep fa K μ H d v):aH fa K μ H [d] [v]:={v,[],rfl,h,rfl}
noncomputable def aH.drop:∀(n:Nat) {ds:List D}{vs:List V},aH fa K μ H ds vs->aH fa K μ H (ds.drop n) (vs.drop n)
 |0,_,_,h=>h
 | n+1,[],vs,h=>by
   subst h;exact rfl
 | n+1,d::ds,vs,h=>by
   obtain⟨v,r,rfl,p,q⟩:=h;exact aH.drop n q
noncomputable def aH.take:∀(n:Nat) {ds:List D}{vs:List V},aH fa K μ H ds vs->aH fa K μ H (ds.take n) (vs.take n)
 |0,_,_,h=>rfl
 | n+1,[],vs,h=>by
   subst h;exact rfl
 | n+1,d::ds,vs,h=>by
   obtain⟨v,r,rfl,p,q⟩:=h;exact{v,r.take n,rfl,p,aH.take n q}
theorem aH.set:∀(n:Nat) {ds:List D}{vs:List V}{d:D}{v:V},aH fa K μ H ds vs->Rep fa K μ H d v->aH fa K μ H (ds.set n d) (vs.set n v)
 | _,[],vs,_,_,h,_=>by
   subst h;exact rfl
 | 0,d::ds,vs,_,j,h,g=>by
   obtain⟨v,r,rfl,p,q⟩:=h;exact⟨j,r,rfl,g,q⟩
 | n+1,d::ds,vs,_,j,h,g=>by
   obtain⟨v,r,rfl,p,q⟩:=h;exact{v,r.set n j,rfl,p,aH.set n q g}
noncomputable def aH.reverse:∀{ds:List D}{vs:List V},aH fa K μ H ds vs->aH fa K μ H ds.reverse vs.reverse
 | [],vs,h=>by
   subst h;exact rfl
 | d::ds,vs,h=>by
   obtain⟨v,r,rfl,p,q⟩:=h;rw[Tj,Tj];exact aH.append (aH.reverse q) (.one p)
noncomputable def aH.rep:∀(n:Nat) {ds:List D}{vs:List V},aH fa K μ H ds vs->aH fa K μ H (List.replicate n ds).flatten (List.replicate n vs).flatten
 |0,_,_,_=>rfl
 | n+1,ds,vs,h=>by
   rw[SQ,SQ,Tn,Tn];exact h.append (aH.rep n h)
noncomputable def aH.ints:∀(ns:List Int),aH fa K μ H (ns.map D.int) (ns.map V.int)
 |[]=>rfl
 |n::ns=>{.int n,ns.map V.int,rfl,rfl,aH.ints ns}
end
noncomputable def bT:Nat->List Str
 |40=>["machine","standing","earlier"]
 |_=>[]
def aM (k:Nat):Nat:=5000+k
noncomputable def Ge (ks:List Int):Int:=reduceHash (Builtin.Tuple.tupleHashOf (ks.map hashInt))
noncomputable def N7 (h:List (List Int)):Int:=reduceHash (Builtin.Tuple.tupleHashOf (h.map Ge))
def yQ (c:Int)(d:D):Option Int:=if c=77 then(mV d).map Ge else if c=78 then(L7 d).map N7 else none
def QV (fa:Fa)(K:Q9)(μ:Mu)(H:Hp)(c:Int)(p:D×D)(e:S6):Prop:=∃b v,e.key=.ref b/\yQ c p.1=some e.hash/\Rep fa K μ H p.1 (.ref b)/\RelV v e.val/\Rep fa K μ H p.2 v
def kJ (fa:Fa)(K:Q9)(μ:Mu)(H:Hp)(a:Addr)(ds:List D):Prop:=
 (∃(c:Nat) (C u:Addr) (fs:List (Str×V)) (j:List D),fa (fT c)=some C/\H a=some (.ins C u fs)/\fs.map (·.1)=(bT c).take fs.length/\ds=.int c::j/\aH fa K μ H j (fs.map (·.2)))\/
 ∃(c:Int) (j:List S6) (h:List (D×D)),H a=some (.dn j)/\(c=77\/c=78)/\ds=.int c::h.map (λp=>.tup [p.1,p.2])/\To (QV fa K μ H c) h j/\(h.map (·.1)).Nodup
def kJ.extW {fa:Fa}{K:Q9}{μ μ':Mu}{H H':Hp}{a:Addr}{ds:List D}(h:kJ fa K μ H a ds)(x:ExtW μ H μ' H')(e:H' a=H a):kJ fa K μ' H' a ds:=
 h.imp ((by rintro⟨c,C,z,fs,j,h1,h2,h3,h4,u⟩;exact{c,C,z,fs,j,h1,e.trans h2,h3,h4,u.extW x}))
  (by rintro⟨c,j,y,h1,h2,h3,h4,u⟩;exact{c,j,y,e.trans h1,h2,h3,To.mapP h4 λp q ⟨b,v,e1,e2,B,E,F⟩=>{b,v,e1,e2,B.extW x,E,F.extW x},u})
def kJ.hold {fa:Fa}{K:Q9}{μ:Mu}{H:Hp}{a:Addr}{ds:List D}(h:kJ fa K μ H a ds):∃o,H a=some o/\(∀vs,o≠.lst vs):=by
 rcases h with⟨_,_,_,_,_,_,h,_⟩|⟨_,_,_,h,_⟩
 ·exact{_,h,λ_ z=>by cases z}
 ·exact{_,h,λ_ z=>by cases z}
def kJ.new {fa:Fa}{K:Q9}{μ:Mu}{H:Hp}{a p:Addr}{ds:List D}(h:kJ fa K μ H a ds)(j:H p=none):a≠p:=let{_,e,_}:=h.hold;aX e j
def kJ.nl {fa:Fa}{K:Q9}{μ:Mu}{H:Hp}{a p:Addr}{ds:List D}{vs:List V}(h:kJ fa K μ H a ds)(j:H p=some (.lst vs)):a≠p:=λz=>by
 obtain⟨o,e,n⟩:=h.hold;rw[z,j] at e;cases e;exact n _ rfl
def OY (fa:Fa)(K:Q9)(μ:Mu)(H:Hp)(k:Nat)(ds:List D):Prop:=
 (∃a h,μ.pub k=some a/\H a=some (.lst h)/\aH fa K μ H ds h)\/∃a,μ.ob (aM k)=some a/\μ.pub k=none/\kJ fa K μ H a ds
structure RelM (fa:Fa) (K:Q9) (μ:Mu) (H:Hp) (M:Mem):Prop where
 at':∀(k:Nat) (ds:List D),M[k]?=some ds->OY fa K μ H k ds
 out:∀(k:Nat),M.length<=k->μ.pub k=none
 oout:∀(k:Nat),M.length<=k->μ.ob (aM k)=none
 inj:∀j k a,μ.pub j=some a->μ.pub k=some a->j=k
 oinj:∀j k a,μ.ob (aM j)=some a->μ.ob (aM k)=some a->j=k
 sep:∀k a,μ.pub k=some a->μ.ob (aM k)=none
 pv:∀a∈μ.priv,(∃vs,H a=some (.lst vs))/\∀k,μ.pub k≠some a
structure bp (fa:Fa) (K:Q9) (μ:Mu) (H:Hp) (σ:L2.St) (Z:Env):Prop where
 len:σ.length=Z.length
 at':∀(i:Nat) (d:D),Z[i]?=some (some d)->∃v,σ[i]?=some (some v)/\Rep fa K μ H d v
section
variable{fa:Fa}{K:Q9}{μ μ':Mu}{H H':Hp}{σ:L2.St}{Z:Env}{M:Mem}
def bp.ext (h:bp fa K μ H σ Z)(x:Ext μ H μ' H'):bp fa K μ' H' σ Z:=
 {h.len,λi d e=>let⟨v,h1,h2⟩:=h.at' i d e;{v,h1,h2.ext x}}
def bp.set (h:bp fa K μ H σ Z){i:Nat}{d:D}{v:V}(r:Rep fa K μ H d v):bp fa K μ H (σ.set i (some v)) (Z.set i (some d)):=by
 refine{by simp[h.len],λj z e=>?_}
 by_cases y:j=i
 ·subst y;have hl:j<Z.length:=by
   have:=(Rb.mp e).1;simpa using this
  rw[RF hl] at e;cases e;exact{v,RF (by rw[h.len];exact hl),r}
 ·rw[Rx (So y)] at e;obtain⟨u,h1,h2⟩:=h.at' j z e;exact{u,by rw[Rx (So y)];exact h1,h2}
def bp.extW (h:bp fa K μ H σ Z)(x:ExtW μ H μ' H'):bp fa K μ' H' σ Z:=
 {h.len,λi d e=>let⟨v,h1,h2⟩:=h.at' i d e;{v,h1,h2.extW x}}
def RelM.mu_lt (h:RelM fa K μ H M)(e:μ.pub k=some a):∃ds vs,M[k]?=some ds/\H a=some (.lst vs)/\aH fa K μ H ds vs:=by
 by_cases hk:k<M.length
 ·rcases h.at' k M[k] (by simp[hk]) with⟨j,vs,h1,h2,h3⟩|⟨_,_,z,_⟩
  ·rw[e] at h1;cases h1;exact{_,vs,by simp[hk],h2,h3}
  ·rw[e] at z;cases z
 ·rw[h.out k `a] at e;cases e
def RelM.at_ (h:RelM fa K μ H M)(e:M[k]?=some ds)(p:μ.pub k=some a):∃vs,H a=some (.lst vs)/\aH fa K μ H ds vs:=by
 obtain⟨j,vs,h1,h2,h3⟩:=h.mu_lt p;rw[e] at h1;cases h1;exact⟨vs,h2,h3⟩
def RelM.fresh (h:RelM fa K μ H M)(j:H p=none):¬ μ.Mt p:=λe=>by
 rcases e with⟨k,e⟩|e
 ·obtain⟨v,u,_,h2,_⟩:=h.mu_lt e;rw[j] at h2;cases h2
 ·obtain⟨⟨u,h2⟩,_⟩:=h.pv p e;rw[j] at h2;cases h2
def RelM.pne (h:RelM fa K μ H M)(u:H p=none)(j:a∈μ.priv):a≠p:=λe=>by
 obtain⟨⟨v,h2⟩,_⟩:=h.pv a j;rw[e,u] at h2;cases h2
def Ext.alloc (h:RelM fa K μ H M)(j:H p=none):Ext μ H μ (upd H p o):=by
 have rd:∀a u,Rd H a u->Rd (upd H p o) a u:=λa u h=>by
  rcases h with h|⟨ob,h⟩
  ·exact .inl (by rw[ay (aX h j)];exact h)
  ·exact .inr {ob,by rw[ay (aX h j)];exact h}
 exact{{λ_ _ h=>h,λa y h=>rd a _ h,λa y h n=>{by rw[ay (aX h j)];exact h,n},λa ob u h=>by rw[ay (aX h j)];exact h,λa o _ h=>by rw[ay (aX h j)];exact h,λ_ _ h=>h},rfl,λa v=>by rw[ay (h.pne j v)]}
def RelM.alloc (h:RelM fa K μ H M)(j:H p=none):RelM fa K μ (upd H p o) M:=
 {λk y e=>(h.at' k y e).imp ((by rintro⟨a,v,h1,h2,h3⟩;exact{a,v,h1,by rw[ay (aX h2 j)];exact h2,h3.ext (Ext.alloc h j)})) (by rintro⟨a,h1,h2,h3⟩;exact{a,h1,h2,h3.extW (Ext.alloc h j).toExtW (ay (h3.new j))}),h.out,h.oout,h.inj,h.oinj,h.sep,λa u=>{let{⟨v,e⟩,_}:=h.pv a u;{v,by rw[ay (h.pne j u)];exact e},(h.pv a u).2}}
noncomputable def fK (μ:Mu)(n:Nat)(p:Addr):Mu:={λk=>if k=n then some p else μ.pub k,μ.priv,μ.ob}
set_option tactic.hygienic true in
def Ext.cell (h:RelM fa K μ H M)(j:H p=none):Ext μ H (fK μ M.length p) (upd H p o):=by
 have rd:∀a u,Rd H a u->Rd (upd H p o) a u:=λa u h=>by
  rcases h with h|⟨ob,h⟩
  ·exact .inl (by rw[ay (aX h j)];exact h)
  ·exact .inr {ob,by rw[ay (aX h j)];exact h}
 refine{{λk a e=>?_,λa y g=>rd a _ g,λa y g n=>{by rw[ay (aX g j)];exact g,λe=>?_},λa ob u h=>by rw[ay (aX h j)];exact h,λa o _ h=>by rw[ay (aX h j)];exact h,λ_ _ h=>h},rfl,λa v=>by rw[ay (h.pne j v)]}
 ·show(if k=M.length then some p else μ.pub k)=some a;split
  ·next q=>rw[q,h.out _ (Rj _)] at e;cases e
  ·exact e
 ·rcases e with⟨k,e⟩|e
  ·have e:(if k=M.length then some p else μ.pub k)=some a:=e;split at e
   ·cases e;exact aX g j rfl
   ·exact n (.inl ⟨k,e⟩)
  ·exact n (.inr e)
set_option tactic.hygienic true in
def RelM.cell (h:RelM fa K μ H M){p:Addr}{ds:List D}{vs:List V}(u:H p=none)(r:aH fa K μ H ds vs) :
 RelM fa K (fK μ M.length p) (upd H p (.lst vs)) (M++[ds]):=by
 have x:Ext μ H (fK μ M.length p) (upd H p (.lst vs)):=Ext.cell h u;have F:=h.fresh u;refine{λk v e=>?_,λk hk=>?_,λk hk=>h.oout k (by simp at hk;omega),λj k a h1 h2=>?_,h.oinj,λk a z=>?_,λa y=>?_}
 ·by_cases hk:k<M.length
  ·rw[RN hk] at e;rcases h.at' k v e with⟨a,E,h1,h2,h3⟩|⟨a,h1,h2,h3⟩
   ·exact .inl {a,E,x.mu k a h1,by rw[ay (aX h2 u)];exact h2,h3.ext x}
   ·exact .inr {a,h1,by show(if k=M.length then some p else μ.pub k)=none;rw[if_neg (RX hk)];exact h2,h3.extW x.toExtW (ay (h3.new u))}
  ·have B:k=M.length:=by
    have:=(Rb.mp e).1;simp at this;omega
   subst B;rw[Si (Rj _)] at e;simp at e;subst e;exact .inl {p,vs,by simp[fK],bI,r.ext x}
 ·simp at hk;show(if k=M.length then some p else μ.pub k)=none;rw[if_neg `a]
  exact h.out k `a
 ·have h1:(if j=M.length then some p else μ.pub j)=some a:=h1;have h2:(if k=M.length then some p else μ.pub k)=some a:=h2;split at h1<;>split at h2
  ·omega
  ·cases h1;exact absurd (.inl ⟨k,h2⟩) F
  ·cases h2;exact absurd (.inl ⟨j,h1⟩) F
  ·exact h.inj j k a h1 h2
 ·have z:(if k=M.length then some p else μ.pub k)=some a:=z;show μ.ob (aM k)=none;split at z
  ·next e=>rw[e];exact h.oout _ (Rj _)
  ·exact h.sep k a z
 ·obtain⟨⟨E,e⟩,n⟩:=h.pv a y;refine{{E,by rw[ay (h.pne u y)];exact e},λk e2=>?_}
  have e2:(if k=M.length then some p else μ.pub k)=some a:=e2;split at e2
  ·cases e2;exact h.pne u y rfl
  ·exact n k e2
def ExtW.write (h2:H a=some (.lst vs))(e:μ.Mt a):ExtW μ H μ (upd H a (.lst ws)):=by
 have ne:∀b u,Rd H b u->(∀xs,u≠.lst xs)->b≠a:=λb u g j q=>by
  subst q;rcases g with g|⟨ob,g⟩
  ·rw[h2] at g;cases g;exact j _ rfl
  ·rw[h2] at g;cases g
 have rd:∀b u,b≠a->Rd H b u->Rd (upd H a (.lst ws)) b u:=λb u h g=>by
  rcases g with g|⟨ob,g⟩
  ·exact .inl (by rw[ay h];exact g)
  ·exact .inr {ob,by rw[ay h];exact g}
 exact{λ_ _ q=>q,λb v g=>rd b _ (ne b _ g (λxs q=>by cases q)) g,λb v g n=>{by rw[ay (λq=>n (by rw[q];exact e))];exact g,n},λb ob u g=>by rw[ay (λq=>by rw[q,h2] at g;cases g)];exact g,λb o i g=>by rw[ay (λq=>by rw[q,h2] at g;cases g;rcases i with⟨_,i⟩|⟨_,i⟩<;>cases i)];exact g,λ_ _ q=>q}
def Ext.write {k:Nat}{a:Addr}{vs ws:List V}(h:RelM fa K μ H M)(e:μ.pub k=some a):Ext μ H μ (upd H a (.lst ws)):=by
 obtain⟨u,vs,_,h2,_⟩:=h.mu_lt e;exact{ExtW.write h2 (.inl ⟨k,e⟩),rfl,λb j=>by rw[ay (λq=>(h.pv b j).2 k (by rw[q];exact e))]}
def RelM.write (h:RelM fa K μ H M){k:Nat}{a:Addr}{ds:List D}{ws:List V}(e:μ.pub k=some a)(r:aH fa K μ H ds ws):RelM fa K μ (upd H a (.lst ws)) (M.set k ds):=by
 have x:Ext μ H μ (upd H a (.lst ws)):=Ext.write (vs:=ws) h e;refine{λj y q=>?_,λj u=>h.out j (by simpa using u),λj u=>h.oout j (by simpa using u),h.inj,h.oinj,h.sep,λb v=>{let{⟨vs,g⟩,_}:=h.pv b v;{vs,by rw[x.pk b v];exact g},(h.pv b v).2}}
 by_cases u:j=k
 ·subst u;have hl:j<M.length:=by have:=(Rb.mp q).1;simpa using this
  rw[RF hl] at q;cases q;exact .inl {a,ws,e,bI,r.ext x}
 ·rw[Rx (So u)] at q;rcases h.at' j y q with⟨b,vs,h1,h2,h3⟩|⟨b,h1,h2,h3⟩
  ·have B:b≠a:=λz=>u (h.inj j k a (z ▸ h1) e);exact .inl {b,vs,h1,by rw[ay B];exact h2,h3.ext x}
  ·obtain⟨_,_,_,hl,_⟩:=h.mu_lt e;exact .inr {b,h1,h2,h3.extW x.toExtW (ay (h3.nl hl))}
end
def af {h:Type}(r:Res h)(k:h->Mem->Prop):Prop:=match r with
 |.ok a M=>k a M
 |_=>False
def aO {j u:Type}{r:Res j}{f:j->Mem->Res u}{k:u->Mem->Prop}(h:af (r.bind f) k):∃a M,r=.ok a M/\af (f a M) k:=by
 cases r with
 |ok a M=>exact⟨a,M,rfl,h⟩
 |err=>exact h.elim
 |bad=>exact h.elim
def kS {j:Type}{M:Mem}{o:Option j}{k:j->Mem->Prop}(h:af (b7 M o) k):∃a,o=some a/\k a M:=by
 cases o with
 |none=>exact h.elim
 |some a=>exact⟨a,rfl,h⟩
def aN {j:Type}{r:Res j}{k k':j->Mem->Prop}(h:af r k)(m:∀a M,k a M->k' a M):af r k':=by
 cases r with
 |ok a M=>exact m a M h
 |err=>exact h
 |bad=>exact h
section
variable(fa:Fa)(K:Q9)
def bq (μ:Mu)(H:Hp)(Q:VK)(d:D)(M':Mem):Prop:=∀v H' μ',Ext μ H μ' H'->RelM fa K μ' H' M'->Rep fa K μ' H' d v->Q v H'
def tE (g:Env->Mem->Res D):TE:=λσ H Q=>∃μ Z M,bp fa K μ H σ Z/\RelM fa K μ H M/\af (g Z M) (bq fa K μ H Q)
def tT (g:Env->Mem->Res Bool):TT:=λσ H Q=>∃μ Z M,bp fa K μ H σ Z/\RelM fa K μ H M/\af (g Z M) λb h=>∀H' μ',Ext μ H μ' H'->RelM fa K μ' H' h->Q b H'
def tA (g:Env->Mem->Res (List D)):TA:=λσ H Q=>∃μ Z M,bp fa K μ H σ Z/\RelM fa K μ H M/\af (g Z M) λu j=>∀h H' μ',Ext μ H μ' H'->RelM fa K μ' H' j->aH fa K μ' H' u h->Q h H'
end
def nt (New:Addr->Prop)(C:Addr)(v:Option Addr)(a:Addr)(h:Heap)(H:Hp):Prop:=New a/\H a=none/\∃o j,h.get? a=some o/\o.cls=.ref C/\o.dict=v/\o.data=.fields j/\
 (j[1]?=some .none\/∃T u ts,j[1]?=some (.ref T)/\T≠a/\New T/\H T=none/\h.get? T=some u/\u.data=.fields ts/\ts[3]?=some .none)
def pM (X:Cx)(b:Addr):Prop:=X.s₀.heap.get? b=none/\∀p∈X.pn,p.1≠b
def XW (fa:Fa)(X:Cx)(μ:Mu)(H:Hp)(x:D)(Z:Env)(M:Mem):Prop:=∀h j H' μ' u a C v c p,Inv X h j H' u->Ext μ H μ' H'->bp fa X.K μ' H' j Z->RelM fa X.K μ' H' M->x=.exc c p->fa (d7 c)=some C->rX H' c v p->nt (pM X) C v a u.heap H'->X.xe (.ref a) u
def oJ (fa:Fa)(X:Cx)(μ:Mu)(H:Hp)(D:Ends):Fl->Mem->Prop
 |.next h,j=>∀u H' μ',Ext μ H μ' H'->bp fa X.K μ' H' u h->RelM fa X.K μ' H' j->D.nx u H'
 |.ret d,j=>bq fa X.K μ H D.rt d j
 |.exc x h,j=>XW fa X μ H x h j
def tF (fa:Fa)(X:Cx)(g:Env->Mem->Res Fl):TS:=λD σ H=>∃μ Z M,bp fa X.K μ H σ Z/\RelM fa X.K μ H M/\af (g Z M) (oJ fa X μ H D)
def XW.ext (h:XW fa X μ H x Z M)(y:Ext μ H μ' H'):XW fa X μ' H' x Z M:=λj v z u s1 a C B c p I e=>h j v z u s1 a C B c p I (y.trans e)
section
variable{fa:Fa}{K:Q9}{μ μ':Mu}{H H':Hp}{Q:VK}
def bq.ext (h:bq fa K μ H Q d M)(x:Ext μ H μ' H'):bq fa K μ' H' Q d M:=λv u j y m r=>h v u j (x.trans y) m r
def kc {r:Res D}(h:af r (bq fa K μ H Q))(x:Ext μ H μ' H'):af r (bq fa K μ' H' Q):=aN h λ_ _ w=>w.ext x
end
def bA (h:PE X e t)(i:∀σ H Q,t' σ H Q->t σ H Q):PE X e t':=λj s σ H Q I q=>h j s σ H Q I (i σ H Q q)
def mH (h:PT X e t)(i:∀σ H Q,t' σ H Q->t σ H Q):PT X e t':=λj s σ H Q I q=>h j s σ H Q I (i σ H Q q)
def AK (h:PW X e t)(i:∀σ H Q,t' σ H Q->t σ H Q):PW X e t':=λw j s σ H Q I q=>h w j s σ H Q I (i σ H Q q)
def AW (h:PA X e t)(i:∀σ H Q,t' σ H Q->t σ H Q):PA X e t':=λu j s σ H Q I q=>h u j s σ H Q I (i σ H Q q)
def d3 (h:PS X e t)(i:∀D σ H,t' D σ H->t D σ H):PS X e t':=λj s σ H D I q=>h j s σ H D I (i D σ H q)
def wZ (h:lu X e t)(i:∀D σ H,t' D σ H->t D σ H):lu X e t':=λj s σ H D I q=>h j s σ H D I (i D σ H q)
section
variable{fa:Fa}{K:Q9}{μ:Mu}{H:Hp}{σ:L2.St}{Z:Env}{M:Mem}
def t1 {g:Env->Mem->Res D}{B:Type}{f:D->Mem->Res B}{P:B->Mem->Prop}{R:V->Hp->Prop}(y:bp fa K μ H σ Z)(E:RelM fa K μ H M)(h:af ((g Z M).bind f) P)
 (k:∀x M1 v u j,Ext μ H j u->bp fa K j u σ Z->RelM fa K j u M1->Rep fa K j u x v->af (f x M1) P->R v u):tE fa K g σ H R:=by
 obtain⟨x,M1,e,q⟩:=aO h;refine{μ,Z,M,y,E,?_};rw[e];exact λv u j z F r1=>k x M1 v u j z (y.ext z) F r1 q
def Ac {g:Env->Mem->Res Bool}{z:Type}{f:Bool->Mem->Res z}{P:z->Mem->Prop}{R:Bool->Hp->Prop}(v:bp fa K μ H σ Z)(B:RelM fa K μ H M)(h:af ((g Z M).bind f) P)
 (k:∀b M1 u j,Ext μ H j u->bp fa K j u σ Z->RelM fa K j u M1->af (f b M1) P->R b u):tT fa K g σ H R:=by
 obtain⟨b,M1,e,q⟩:=aO h;refine{μ,Z,M,v,B,?_};rw[e];exact λu j y E=>k b M1 u j y (v.ext y) E q
def uw {g:Env->Mem->Res (List D)}{B:Type}{f:List D->Mem->Res B}{P:B->Mem->Prop}{R:List V->Hp->Prop}(y:bp fa K μ H σ Z)(E:RelM fa K μ H M)(h:af ((g Z M).bind f) P)
 (k:∀ds M1 vs u j,Ext μ H j u->bp fa K j u σ Z->RelM fa K j u M1->aH fa K j u ds vs->af (f ds M1) P->R vs u):tA fa K g σ H R:=by
 obtain⟨ds,M1,e,q⟩:=aO h;refine{μ,Z,M,y,E,?_};rw[e];exact λv u j z F r1=>k ds M1 v u j z (y.ext z) F r1 q
end
mutual
noncomputable def toPy:D->PyData
 |.non=>.none
 |.bl b=>.bool b
 |.int i=>.int i
 |.str x=>.str x
 |.tup h=>.tuple (cD h)
 |.lst h=>.list (cD h)
 |.frz _=>.none
 |.cell _=>.none
 |.fn _=>.none
 |.exc _ _=>.none
noncomputable def cD:List D->List PyData
 |[]=>[]
 |d::r=>toPy d::cD r
end
def qZ:∀(n:Nat) (d:D),ax n d=true->(toPy d).canLay0=true/\(toPy d).depth<=n:=by
 have all:∀(n:Nat),(∀d,ax n d=true->(toPy d).canLay0=true/\(toPy d).depth<=n)->∀j:List D,j.all (ax n)=true->PyData.canLayAll0 (cD j)=true/\PyData.depthAll (cD j)<=n:=by
  intro n h j;induction j with
  |nil=>intro _;simp[cD,PyData.canLayAll0,PyData.depthAll]
  | cons d r u=>
    intro q;simp only[RY,Ra] at q;obtain⟨h1,h2⟩:=h d q.1;obtain⟨h3,h4⟩:=u q.2;simp only[cD,PyData.canLayAll0,PyData.depthAll,h1,h3,Bool.and_self,true_and];omega
 intro n;induction n with
 | zero=>
   intro d h;cases d with
   |str x=>exact{by simpa[toPy,PyData.canLay0,PyData.strOk,ax] using h,by simp[toPy,PyData.depth]}
   |tup _=>simp[ax] at h
   |lst _=>simp[ax] at h
   |frz _=>simp[ax] at h
   |cell _=>simp[ax] at h
   |fn _=>simp[ax] at h
   |exc y p=>simp[ax] at h
   |_=>exact{by simp[toPy,PyData.canLay0],by simp[toPy,PyData.depth]}
 | succ n u=>
   intro d h;cases d with
   |str x=>exact{by simpa[toPy,PyData.canLay0,PyData.strOk,ax] using h,by simp[toPy,PyData.depth]}
   | tup j=>
     obtain⟨h1,h2⟩:=all n u j (by simpa[ax] using h)
     simp only[toPy,PyData.canLay0,PyData.depth,h1,true_and];omega
   | lst j=>
     obtain⟨h1,h2⟩:=all n u j (by simpa[ax] using h)
     simp only[toPy,PyData.canLay0,PyData.depth,h1,true_and];omega
   |frz _=>simp[ax] at h
   |cell _=>simp[ax] at h
   |fn _=>simp[ax] at h
   |exc y p=>simp[ax] at h
   |_=>exact{by simp[toPy,PyData.canLay0],by simp[toPy,PyData.depth]}
def j9 (h:ax 64 d=true):SeqAt.shaped (toPy d)=true:=by
 obtain⟨h1,h2⟩:=qZ 64 d h;simp[SeqAt.shaped,h1,h2]
mutual
theorem nS:∀(n m:Nat) (a b:D),ax n a=true->ax m b=true->PyData.eqv (toPy a) (toPy b)=cS a b
 | n,m,.tup a,.tup b,h,j=>by
   cases n with
   |zero=>simp[ax] at h
   | succ n=>
     cases m with
     |zero=>simp[ax] at j
     | succ m=>
       exact pH n m a b (by simpa[ax] using h) (by simpa[ax] using j)
 | n,m,.lst a,.lst b,h,j=>by
   cases n with
   |zero=>simp[ax] at h
   | succ n=>
     cases m with
     |zero=>simp[ax] at j
     | succ m=>
       exact pH n m a b (by simpa[ax] using h) (by simpa[ax] using j)
 |n,m,.frz _,_,h,j=>by cases n<;>simp[ax] at h
 |n,m,.cell _,_,h,j=>by cases n<;>simp[ax] at h
 |n,m,.fn _,_,h,j=>by cases n<;>simp[ax] at h
 |n,m,.exc _ _,_,h,j=>by cases n<;>simp[ax] at h
 |n,m,_,.frz _,h,j=>by cases m<;>simp[ax] at j
 |n,m,_,.cell _,h,j=>by cases m<;>simp[ax] at j
 |n,m,_,.fn _,h,j=>by cases m<;>simp[ax] at j
 |n,m,_,.exc _ _,h,j=>by cases m<;>simp[ax] at j
 |_,_,.non,.non,_,_=>by first|rfl|simp[toPy,PyData.eqv];rfl
 |_,_,.non,.bl _,_,_=>by first|rfl|simp[toPy,PyData.eqv];rfl
 |_,_,.non,.int _,_,_=>by first|rfl|simp[toPy,PyData.eqv];rfl
 |_,_,.non,.str _,_,_=>by first|rfl|simp[toPy,PyData.eqv];rfl
 |_,_,.non,.tup _,_,_=>by first|rfl|simp[toPy,PyData.eqv];rfl
 |_,_,.non,.lst _,_,_=>by first|rfl|simp[toPy,PyData.eqv];rfl
 |_,_,.bl _,.non,_,_=>by first|rfl|simp[toPy,PyData.eqv];rfl
 |_,_,.bl _,.bl _,_,_=>by first|rfl|simp[toPy,PyData.eqv];rfl
 |_,_,.bl _,.int _,_,_=>by first|rfl|simp[toPy,PyData.eqv];rfl
 |_,_,.bl _,.str _,_,_=>by first|rfl|simp[toPy,PyData.eqv];rfl
 |_,_,.bl _,.tup _,_,_=>by first|rfl|simp[toPy,PyData.eqv];rfl
 |_,_,.bl _,.lst _,_,_=>by first|rfl|simp[toPy,PyData.eqv];rfl
 |_,_,.int _,.non,_,_=>by first|rfl|simp[toPy,PyData.eqv];rfl
 |_,_,.int _,.bl _,_,_=>by first|rfl|simp[toPy,PyData.eqv];rfl
 |_,_,.int _,.int _,_,_=>by first|rfl|simp[toPy,PyData.eqv];rfl
 |_,_,.int _,.str _,_,_=>by first|rfl|simp[toPy,PyData.eqv];rfl
 |_,_,.int _,.tup _,_,_=>by first|rfl|simp[toPy,PyData.eqv];rfl
 |_,_,.int _,.lst _,_,_=>by first|rfl|simp[toPy,PyData.eqv];rfl
 |_,_,.str _,.non,_,_=>by first|rfl|simp[toPy,PyData.eqv];rfl
 |_,_,.str _,.bl _,_,_=>by first|rfl|simp[toPy,PyData.eqv];rfl
 |_,_,.str _,.int _,_,_=>by first|rfl|simp[toPy,PyData.eqv];rfl
 |_,_,.str _,.str _,_,_=>by first|rfl|simp[toPy,PyData.eqv];rfl
 |_,_,.str _,.tup _,_,_=>by first|rfl|simp[toPy,PyData.eqv];rfl
 |_,_,.str _,.lst _,_,_=>by first|rfl|simp[toPy,PyData.eqv];rfl
 |_,_,.tup _,.non,_,_=>by first|rfl|simp[toPy,PyData.eqv];rfl
 |_,_,.tup _,.bl _,_,_=>by first|rfl|simp[toPy,PyData.eqv];rfl
 |_,_,.tup _,.int _,_,_=>by first|rfl|simp[toPy,PyData.eqv];rfl
 |_,_,.tup _,.str _,_,_=>by first|rfl|simp[toPy,PyData.eqv];rfl
 |_,_,.tup _,.lst _,_,_=>by first|rfl|simp[toPy,PyData.eqv];rfl
 |_,_,.lst _,.non,_,_=>by first|rfl|simp[toPy,PyData.eqv];rfl
 |_,_,.lst _,.bl _,_,_=>by first|rfl|simp[toPy,PyData.eqv];rfl
 |_,_,.lst _,.int _,_,_=>by first|rfl|simp[toPy,PyData.eqv];rfl
 |_,_,.lst _,.str _,_,_=>by first|rfl|simp[toPy,PyData.eqv];rfl
 |_,_,.lst _,.tup _,_,_=>by first|rfl|simp[toPy,PyData.eqv];rfl
theorem pH:∀(n m:Nat) (a b:List D),a.all (ax n)=true->b.all (ax m)=true->PyData.eqvAll (cD a) (cD b)=ik a b
 |n,m,[],[],_,_=>by simp[cD,PyData.eqvAll,ik]
 |n,m,[],_::_,_,_=>by simp[cD,PyData.eqvAll,ik]
 |n,m,_::_,[],_,_=>by simp[cD,PyData.eqvAll,ik]
 | n,m,x::a,y::b,h,j=>by
   simp only[RY,Ra] at h j;simp only[cD,PyData.eqvAll,ik];rw[nS n m x y h.1 j.1,pH n m a b h.2 j.2]
end
section
variable{fa:Fa}{X:Cx}{μ:Mu}{H:Hp}{σ:L2.St}{pins:List (Addr×Obj)}{s:Rl}{M:Mem}
def jM (j:RelM fa X.K μ H M)(h:Rep fa X.K μ H d v)(e:jR M d=some ds):∃a vs,v=.ref a/\H a=some (.lst vs)/\aH fa X.K μ H ds vs:=by
 cases d with
 | lst xs=>
   cases e;obtain⟨a,vs,e,s,r⟩:=h;exact⟨a,vs,e,s.1,r⟩
 | cell k=>
   obtain⟨a,rfl,hk⟩:=h;obtain⟨vs,h2,h3⟩:=j.at_ e hk;exact⟨a,vs,rfl,h2,h3⟩
 |_=>cases e
def bS (j:RelM fa X.K μ H M)(h:Rep fa X.K μ H d v)(e:g9 M d=some ds):∃a vs,v=.ref a/\cE X.K H a vs/\aH fa X.K μ H ds vs:=by
 cases d with
 | lst xs=>
   obtain⟨a,vs,h1,h2,h3⟩:=jM j h e;exact{a,vs,h1,.of h2,h3}
 | frz xs=>
   cases e;obtain⟨a,vs,e,s,r⟩:=h;exact{a,vs,e,s.elim (λz=>.inl (.inr z)) .inr,r}
 | cell k=>
   obtain⟨a,vs,h1,h2,h3⟩:=jM j h e;exact{a,vs,h1,.of h2,h3}
 |_=>cases e
def jL (j:RelM fa X.K μ H M)(h:Rep fa X.K μ H d v)(e:bW M d=some ds):∃a vs,v=.ref a/\(cE X.K H a vs\/dI X.K H a vs)/\aH fa X.K μ H ds vs:=by
 cases d with
 | tup xs=>
   cases e;obtain⟨a,vs,rfl,h1,h2⟩:=h;exact{a,vs,rfl,.inr h1,h2}
 | lst xs=>
   obtain⟨a,vs,h1,h2,h3⟩:=bS j h e;exact{a,vs,h1,.inl h2,h3}
 | frz xs=>
   obtain⟨a,vs,h1,h2,h3⟩:=bS j h e;exact{a,vs,h1,.inl h2,h3}
 | cell k=>
   obtain⟨a,vs,h1,h2,h3⟩:=bS j h e;exact{a,vs,h1,.inl h2,h3}
 |_=>cases e
mutual
theorem dZ (I:Inv X pins σ H s):∀(d:D) (n:Nat) (v:V) (u:Rg),ax n d=true->Rep fa X.K μ H d v->RelV v u->∃z,Reads s.heap u (toPy d) z
 | .non,n,v,u,_,h,r=>by
   obtain rfl:v=.non:=h;obtain rfl:u=Value.none:=r;exact{_,.none}
 | .bl b,n,v,u,_,h,r=>by
   obtain rfl:v=.bl b:=h;obtain rfl:u=Value.bool b:=r;exact{_,.bool b}
 | .int i,n,v,u,_,h,r=>by
   obtain rfl:v=.int i:=h;obtain⟨t,rfl⟩:=r;exact{_,.int i t}
 | .str x,n,v,u,_,h,r=>by
   obtain rfl:v=.str x:=h;obtain⟨t,rfl⟩:=r;exact{_,.str x t}
 | .tup B,n,v,u,j,h,r=>by
   cases n with
   |zero=>simp[ax] at j
   | succ n=>
     obtain⟨a,J,rfl,h1,h2⟩:=h;obtain rfl:u=Value.ref a:=r;obtain⟨y,F,⟨o,e1,e2,k,E⟩,_⟩:=I.tuple h1;obtain⟨z,q⟩:=fJ I B n J y (by simpa[ax] using j) h2 F
     exact{_,.tuple e1 e2 E (by simpa using q)}
 | .lst B,n,v,u,j,h,r=>by
   cases n with
   |zero=>simp[ax] at j
   | succ n=>
     obtain⟨a,J,rfl,h1,h2⟩:=h;obtain rfl:u=Value.ref a:=r;obtain⟨y,F,⟨o,k,e1,e2,L,E⟩,_⟩:=I.list (cE.of h1.1);obtain⟨z,q⟩:=fJ I B n J y (by simpa[ax] using j) h2 F
     exact{_,.list e1 e2 E (by simpa using q)}
 |.frz k,n,v,u,j,_,_=>by cases n<;>simp[ax] at j
 |.cell k,n,v,u,j,_,_=>by cases n<;>simp[ax] at j
 |.fn f,n,v,u,j,_,_=>by cases n<;>simp[ax] at j
 |.exc _ _,n,v,u,j,_,_=>by cases n<;>simp[ax] at j
theorem fJ (I:Inv X pins σ H s):∀(ds:List D) (n:Nat) (vs:List V) (us:List Rg),ds.all (ax n)=true->aH fa X.K μ H ds vs->Vals vs us->∃u,ReadsAll s.heap us (cD ds) u
 | [],n,vs,us,_,h,r=>by
   obtain rfl:vs=[]:=h;cases r;exact{_,.nil}
 | d::ds,n,vs,us,j,h,r=>by
   obtain⟨v,vr,rfl,h1,h2⟩:=h;simp only[RY,Ra] at j;cases r with
   | cons r1 r2=>
     obtain⟨u,y⟩:=dZ I d n v _ j.1 h1 r1;obtain⟨bs,z⟩:=fJ I ds n vr _ j.2 h2 r2;exact{_,.cons y z}
end
def GV (h:ax n (view M d)=true):(view M d=d/\ax n d=true)\/∃ds,g9 M d=some ds/\view M d=.lst ds:=by
 cases d with
 | cell k=>
   cases e:M[k]? with
   | none=>
     have j:view M (.cell k)=.cell k:=by simp[view,e]
     rw[j] at h;cases n<;>simp[ax] at h
   |some ds=>exact .inr {ds,e,by simp[view,e]}
 |frz ds=>exact .inr ⟨ds,rfl,rfl⟩
 |_=>exact .inl ⟨rfl,h⟩
def lE (I:Inv X pins σ H s)(L:RelM fa X.K μ H M)(j:ax 64 (view M d)=true)(h:Rep fa X.K μ H d v)(r:RelV v u):∃B,Reads s.heap u (toPy (view M d)) B:=by
 rcases GV j with⟨e,y⟩|⟨E,e,J⟩
 ·rw[e];exact dZ I _ 64 v u y h r
 ·rw[J] at j ⊢;obtain⟨a,P,rfl,h1,h2⟩:=bS L h e;obtain rfl:u=Value.ref a:=r;obtain⟨z,O,⟨o,k,e1,e2,Q,F⟩,_⟩:=I.list h1;obtain⟨B,q⟩:=fJ I E 63 P z (by simpa[ax] using j) h2 O
  exact{_,.list e1 e2 F (by simpa using q)}
theorem kB (I:Inv X pins σ H s)(J:RelM fa X.K μ H M):∀(n m:Nat) (d:D) (v:V) (u:Rg),ax m (cF n M d)=true->Rep fa X.K μ H d v->RelV v u->∃E,Reads s.heap u (toPy (cF n M d)) E
 |0,m,d,v,u,j,h,r=>dZ I d m v u j h r
 | n+1,m,d,v,u,j,h,r=>by
   have S:=kB I J n;have all:∀(m:Nat) (z:List D) (B:List V) (L:List Rg),(z.map (cF n M)).all (ax m)=true->aH fa X.K μ H z B->Vals B L->∃E,ReadsAll s.heap L (cD (z.map (cF n M))) E:=by
    intro m z;induction z with
    | nil=>
      intro B L _ h r;obtain rfl:B=[]:=h;cases r;exact{_,.nil}
    | cons d z Q=>
      intro B L j h r;obtain⟨v,vr,rfl,h1,h2⟩:=h;simp only[Sk,RY,Ra] at j;cases r with
      | cons r1 r2=>
        obtain⟨E,U⟩:=S m d v _ j.1 h1 r1;obtain⟨bs,W⟩:=Q vr _ j.2 h2 r2;exact{_,.cons U W}
   have lst:∀(z:List D) (a:Addr) (B:List V),ax m (.lst (z.map (cF n M)))=true->cE X.K H a B->aH fa X.K μ H z B->u=.ref a->∃E,Reads s.heap u (toPy (.lst (z.map (cF n M)))) E:=by
    intro z a B j h1 h2 e;subst e;cases m with
    |zero=>simp[ax] at j
    | succ m=>
      obtain⟨F,R,⟨o,k,e1,e2,Y,O⟩,_⟩:=I.list h1;obtain⟨E,q⟩:=all m z B F (by simpa[ax] using j) h2 R
      exact{_,.list e1 e2 O (by simpa using q)}
   cases d with
   | cell k=>
     cases e:M[k]? with
     | none=>
       have P:cF (n+1) M (.cell k)=.cell k:=by simp[cF,e]
       rw[P] at j;cases m<;>simp[ax] at j
     | some z=>
       have P:cF (n+1) M (.cell k)=.lst (z.map (cF n M)):=by simp[cF,e]
       rw[P] at j ⊢;obtain⟨a,B,rfl,h1,h2⟩:=bS J h e;exact lst z a B j h1 h2 r
   | frz z=>
     obtain⟨a,B,rfl,h1,h2⟩:=bS J h rfl;exact lst z a B j h1 h2 r
   | lst z=>
     obtain⟨a,B,rfl,h1,h2⟩:=bS J h rfl;exact lst z a B j h1 h2 r
   | tup z=>
     have j:ax m (.tup (z.map (cF n M)))=true:=j;cases m with
     |zero=>simp[ax] at j
     | succ m=>
       obtain⟨a,B,rfl,h1,h2⟩:=h;obtain rfl:u=Value.ref a:=r;obtain⟨F,R,⟨o,e1,e2,k,O⟩,_⟩:=I.tuple h1;obtain⟨E,q⟩:=all m z B F (by simpa[ax] using j) h2 R
       exact{_,.tuple e1 e2 O (by simpa using q)}
   |non=>exact dZ I .non m v u j h r
   |bl b=>exact dZ I (.bl b) m v u j h r
   |int i=>exact dZ I (.int i) m v u j h r
   |str x=>exact dZ I (.str x) m v u j h r
   |fn f=>exact dZ I (.fn f) m v u j h r
   |exc y p=>exact dZ I (.exc y p) m v u j h r
abbrev Rm (X:Cx):Prop:=X.A.units+100<cLine
def hG (fa:Fa)(K:Q9)(o:j7):R2:=λx y H Q=>∃μ M h j b,RelM fa K μ H M/\Rep fa K μ H h x/\Rep fa K μ H j y/\bw o h j M=some b/\Q (.bl b) H
set_option tactic.hygienic true in
def vE (hs:(iy a&&iy b)=false)(h:qG a b=some k):ax 64 a=true/\ax 64 b=true/\k=cS a b:=by
 unfold qG at h;rw[hs,Bool.false_or] at h;split at h
 ·next q=>
  simp only[Ra] at q;exact{q.1,q.2,(Ro h).symm}
 ·cases h
def vo (d:D):iy (view M d)=iy d:=by
 cases d with
 |cell k=>cases e:M[k]?<;>simp[view,e,iy]
 |_=>rfl
def sM (n:Nat)(d:D):iy (cF n M d)=iy d:=by
 cases n with
 |zero=>rfl
 | succ n=>
   cases d with
   |cell k=>cases e:M[k]?<;>simp[cF,e,iy]
   |_=>rfl
def sR (I:Inv X pins σ H s)(z:RelM fa X.K μ H M)(hs:(iy a&&iy b)=false)(h:m8 M a b=some k)(h1:Rep fa X.K μ H a x)(h2:Rep fa X.K μ H b y)(B:RelV x v)(E:RelV y u) :
 ∃c e j bs,ax 64 c=true/\ax 64 e=true/\k=cS c e/\Reads s.heap v (toPy c) j/\Reads s.heap u (toPy e) bs:=by
 unfold m8 at h;cases q:qG (view M a) (view M b) with
 | some r=>
   rw[q] at h;cases h;obtain⟨p1,p2,e⟩:=vE (by rw[vo,vo];exact hs) q
   obtain⟨j,r1⟩:=lE I z p1 h1 B;obtain⟨bs,r2⟩:=lE I z p2 h2 E;exact{_,_,j,bs,p1,p2,e,r1,r2}
 | none=>
   rw[q] at h;obtain⟨p1,p2,e⟩:=vE (by rw[sM,sM];exact hs) h
   obtain⟨j,r1⟩:=kB I z 64 64 a x v p1 h1 B;obtain⟨bs,r2⟩:=kB I z 64 64 b y u p2 h2 E;exact{_,_,j,bs,p1,p2,e,r1,r2}
def ux (h:(iy a&&iy b)=true):∃x y,a=.str x/\b=.str y:=by
 cases a with
 | str x=>
   cases b with
   |str y=>exact⟨x,y,rfl,rfl⟩
   |_=>cases h
 |_=>cases h
def xD:m8 M (.str x) (.str y)=some (x==y):=by
 have e:cS (.str x) (.str y)=(x==y):=rfl;rw[<- e];rfl
def QP (L:Rm X):bU X (compareOp .Eq) (hG fa X.K .eq):=by
 intro pins s σ H x y v u Q I z B h;obtain⟨μ,M,E,F,b,J,h1,h2,e,q⟩:=h;cases hs:iy E&&iy F with
 | true=>
   obtain⟨i,j,rfl,rfl⟩:=ux hs;obtain rfl:x=.str i:=h1;obtain rfl:y=.str j:=h2;obtain rfl:(i==j)=b:=Ro (xD.symm.trans e);exact N6 pins s σ H _ _ v u Q I z B {rfl,by rw[nW];exact q}
 | false=>
   obtain⟨_,_,O,bs,p1,p2,rfl,r1,r2⟩:=sR I J hs (e) h1 h2 z B;refine SeqAt.compareEq_shaped r1 r2 (j9 p1) (j9 p2) (by unfold Rm at L;omega) ?_
   rw[nS 64 64 _ _ p1 p2];exact{.bl _,H,I,rfl,q}
def QJ (O:Rm X):bU X (compareOp .NotEq) (hG fa X.K .ne):=by
 intro pins s σ H x y v u Q I F J h;obtain⟨μ,M,B,E,b,L,h1,h2,e,q⟩:=h;have e:(m8 M B E).map (!·)=some b:=e;cases z:m8 M B E with
 |none=>rw[z] at e;cases e
 | some k=>
   rw[z] at e;obtain rfl:(!k)=b:=Ro e;cases hs:iy B&&iy E with
   | true=>
     obtain⟨i,j,rfl,rfl⟩:=ux hs;obtain rfl:x=.str i:=h1;obtain rfl:y=.str j:=h2;obtain rfl:(i==j)=k:=Ro (xD.symm.trans z);exact N1 pins s σ H _ _ v u Q I F J {rfl,by rw[nW];exact q}
   | false=>
     obtain⟨_,_,P,bs,p1,p2,rfl,r1,r2⟩:=sR I L hs z h1 h2 F J;refine SeqAt.compareNe_shaped r1 r2 (j9 p1) (j9 p2) (by unfold Rm at O;omega) ?_
     rw[nS 64 64 _ _ p1 p2];exact{.bl _,H,I,rfl,q}
end
section
variable{fa:Fa}{X:Cx}{μ:Mu}{H:Hp}{σ:L2.St}{pins:List (Addr×Obj)}{s:Rl}{M:Mem}
def i1 (h:bU X f r)(i:∀x y H Q,r' x y H Q->r x y H Q):bU X f r':=λpins s σ H x y v u Q I j z q=>h pins s σ H x y v u Q I j z (i x y H Q q)
def jX (h:cq X f r)(i:∀xs H Q,r' xs H Q->r xs H Q):cq X f r':=λpins s σ H xs u Q I j q=>h pins s σ H xs u Q I j (i xs H Q q)
def nZ {g:Int->Int->Bool}(ho:o=.lt\/o=.le\/o=.gt\/o=.ge)(F:∀i j,bw o (.int i) (.int j) []=some (g i j))(h:hG fa X.K o x y H Q) :
 ∃i j,x=.int i/\y=.int j/\Q (.bl (g i j)) H:=by
 obtain⟨μ,M,v,z,b,I,h1,h2,e,q⟩:=h;have u:∀i j,v=.int i->z=.int j->∃i j,x=.int i/\y=.int j/\Q (.bl (g i j)) H:=λi j e1 e2=>by
  subst e1 e2;have B:bw o (.int i) (.int j) M=some (g i j):=by
   have:=F i j;rcases ho with rfl|rfl|rfl|rfl<;>exact this
  rw[e] at B;have E:=Ro B;subst E;exact⟨i,j,h1,h2,q⟩
 rcases ho with rfl|rfl|rfl|rfl<;>
 ·cases v with
  |int i=>cases z<;>first|exact u _ _ rfl rfl|cases e
  |_=>cases e
def QK:bU X (compareOp .Lt) (hG fa X.K .lt):=i1 N2 λx y H Q h=>nZ (.inl rfl) (λ_ _=>rfl) h
def QL:bU X (compareOp .LtE) (hG fa X.K .le):=i1 N3 λx y H Q h=>nZ (.inr (.inl rfl)) (λ_ _=>rfl) h
def QN:bU X (compareOp .Gt) (hG fa X.K .gt):=i1 N4 λx y H Q h=>nZ (.inr (.inr (.inl rfl))) (λ_ _=>rfl) h
def QO:bU X (compareOp .GtE) (hG fa X.K .ge):=i1 N5 λx y H Q h=>nZ (.inr (.inr (.inr rfl))) (λ_ _=>rfl) h
def wR {K:Q9}(h:Rep fa K μ H d v):decide (v=.non)=yS d:=by
 cases d with
 |non=>obtain rfl:v=.non:=h;rfl
 |bl b=>obtain rfl:v=.bl b:=h;rfl
 |int b=>obtain rfl:v=.int b:=h;rfl
 |str b=>obtain rfl:v=.str b:=h;rfl
 |tup b=>obtain⟨a,j,rfl,_⟩:=h;rfl
 |lst b=>obtain⟨a,j,rfl,_⟩:=h;rfl
 |frz b=>obtain⟨a,j,rfl,_⟩:=h;rfl
 |cell b=>obtain⟨a,rfl,_⟩:=h;rfl
 |fn b=>obtain⟨a,rfl,_⟩:=h;rfl
 |exc y p=>obtain⟨a,_,_,rfl,_⟩:=h;rfl
def OQ:bU X (compareOp .Is) (hG fa X.K .isN):=i1 Lp λx y H Q h=>by
 obtain⟨μ,M,u,j,b,v,h1,h2,e,q⟩:=h;cases j<;>first|cases (show(none:Option Bool)=some b from e)|skip
 refine{h2,?_};rw[wR h1];rw[Ro e];exact q
def MW:bU X (compareOp .IsNot) (hG fa X.K .notN):=i1 Il λx y H Q h=>by
 obtain⟨μ,M,u,j,b,v,h1,h2,e,q⟩:=h;cases j<;>first|cases (show(none:Option Bool)=some b from e)|skip
 refine{h2,?_};rw[wR h1];rw[Ro e];exact q
noncomputable def v9 (x:D)(j:ax 64 x=true):∀(ds:List D),ds.all (ax 63)=true->((cD ds).any λy=>PyData.eqv y (toPy x))=ds.any λy=>cS y x
 |[],_=>rfl
 | d::r,h=>by
   simp only[RY,Ra] at h;simp only[cD,List.any_cons,nS 63 64 d x h.1 j,v9 x j r h.2]
theorem uo (n:Nat):∀ds:List D,ds.all (ax n)=true->PyData.canLayAll0 (cD ds)=true/\PyData.depthAll (cD ds)<=n
 |[],_=>by simp[cD,PyData.canLayAll0,PyData.depthAll]
 | d::r,h=>by
   simp only[RY,Ra] at h;obtain⟨h1,h2⟩:=qZ n d h.1;obtain⟨h3,h4⟩:=uo n r h.2;simp only[cD,PyData.canLayAll0,PyData.depthAll,h1,h3,Bool.and_self,true_and];omega
def AD (I:Inv X pins σ H s)(J:RelM fa X.K μ H M)(E:ds.all (ax 63)=true)(h:Rep fa X.K μ H d v)(r:RelV v u)(e:bW M d=some ds) :
 (∃y,Reads s.heap u (.list (cD ds)) y)\/∃y,Reads s.heap u (.tuple (cD ds)) y:=by
 obtain⟨a,F,rfl,h1,h2⟩:=jL J h e;obtain rfl:u=Value.ref a:=r;rcases h1 with h1|h1
 ·obtain⟨j,B,⟨o,k,e1,e2,L,z⟩,_⟩:=I.list h1;obtain⟨y,q⟩:=fJ I ds 63 F j E h2 B;exact .inl {_,.list e1 e2 z (by simpa using q)}
 ·obtain⟨j,B,⟨o,e1,e2,k,z⟩,_⟩:=I.tuple h1;obtain⟨y,q⟩:=fJ I ds 63 F j E h2 B;exact .inr {_,.tuple e1 e2 z (by simpa using q)}
set_option tactic.hygienic true in
def Br (L:Rm X)(I:Inv X pins σ H s)(F:RelM fa X.K μ H M)(h1:Rep fa X.K μ H dx x)(h2:Rep fa X.K μ H dy y)(O:RelV x v)(P:RelV y u)
 (e1:bW M dy=some ds) (e2:jq (view M dx) ds=some b) (j:Bool) (q:Q (.bool (if j then !b else b)) s):wpAny (model X.prog X.w) X.A (compareOp (if j then .NotIn else .In) v u) Q X.xe s:=by
 unfold jq at e2;split at e2
 ·next z=>
  simp only[Ra] at z;obtain⟨p1,p2⟩:=z;have J:=Ro e2;subst J;obtain⟨R,r1⟩:=lE I F p1 h1 O;obtain⟨B,d1⟩:=qZ 64 _ p1;obtain⟨E,S⟩:=uo 63 ds p2;have h:X.A.units+1+min (PyData.depthAll (cD ds)) (toPy (view M dx)).depth<cLine:=by unfold Rm at L;omega
  rw[<- v9 _ p1 ds p2] at q;rcases AD I F p2 h2 P e1 with⟨bs,r2⟩|⟨bs,r2⟩
  ·cases j
   ·exact SeqAt.in_list_reads r2 r1 E B h q
   ·exact SeqAt.notIn_list_reads r2 r1 E B h q
  ·cases j
   ·exact SeqAt.in_tuple_reads r2 r1 E B h q
   ·exact SeqAt.notIn_tuple_reads r2 r1 E B h q
 ·cases e2
def QM (L:Rm X):bU X (compareOp .In) (hG fa X.K .isin):=by
 intro pins s σ H x y v u Q I B E h;obtain⟨μ,M,z,j,b,J,h1,h2,e,q⟩:=h;have gen:(bW M j).bind (jq (view M z))=some b->wpAny (model X.prog X.w) X.A (compareOp .In v u) (EP X pins σ Q) X.xe s:=λe=>by
  cases e1:bW M j with
  |none=>rw[e1] at e;cases e
  | some O=>
    rw[e1] at e;exact Br L I J h1 h2 B E e1 e false {.bl b,H,I,rfl,q}
 by_cases hs:(∃a,z=.str a)/\∃c,j=.str c
 ·obtain⟨⟨a,rfl⟩,c,rfl⟩:=hs;have F:=Ro e;subst F;exact AX pins s σ H x y v u Q I B E ⟨a,c,h1,h2,q⟩
 ·refine gen ?_;cases z<;>first|exact e|(cases j<;>first|exact e|exact absurd {{_,rfl},_,rfl} hs)
def Jt (O:Rm X):bU X (compareOp .NotIn) (hG fa X.K .notin):=by
 intro pins s σ H x y v u Q I E F h;obtain⟨μ,M,j,z,b,L,h1,h2,e,q⟩:=h;have gen:((bW M z).bind (jq (view M j))).map (!·)=some b->wpAny (model X.prog X.w) X.A (compareOp .NotIn v u) (EP X pins σ Q) X.xe s:=λe=>by
  cases e1:bW M z with
  |none=>rw[e1] at e;cases e
  | some J=>
    rw[e1] at e;cases e2:jq (view M j) J with
    |none=>rw[Ta,e2] at e;cases e
    | some k=>
      rw[Ta,e2] at e;have B:=Ro e;subst B;exact Br O I L h1 h2 E F e1 e2 true {.bl _,H,I,rfl,q}
 by_cases hs:(∃a,j=.str a)/\∃c,z=.str c
 ·obtain⟨⟨a,rfl⟩,c,rfl⟩:=hs;have B:=Ro e;subst B;exact u5 pins s σ H x y v u Q I E F ⟨a,c,h1,h2,q⟩
 ·refine gen ?_;cases j<;>first|exact e|(cases z<;>first|exact e|exact absurd {{_,rfl},_,rfl} hs)
noncomputable def eW:j7->CmpOp
 |.eq=>.Eq|.ne=>.NotEq|.lt=>.Lt|.le=>.LtE|.gt=>.Gt|.ge=>.GtE|.isN=>.Is|.notN=>.IsNot|.isin=>.In|.notin=>.NotIn
def n4 (h:Rm X):∀o:j7,bU X (compareOp (eW o)) (hG fa X.K o)
 |.eq=>QP h|.ne=>QJ h|.lt=>QK|.le=>QL|.gt=>QN|.ge=>QO|.isN=>OQ|.notN=>MW|.isin=>QM h|.notin=>Jt h
def mE (fa:Fa)(K:Q9)(m:Bool)(o:tu):R2:=λx y H Q=>∃μ M h j,RelM fa K μ H M/\Rep fa K μ H h x/\Rep fa K μ H j y/\af (gM m o h j M) (bq fa K μ H Q)
def ba (j:RelM fa X.K μ H M)(h:bq fa X.K μ H Q d M)(r:Rep fa X.K μ H d v):Q v H:=h v H μ .refl j r
set_option tactic.hygienic true in
def gF (j:RelM fa X.K μ H M)(r:aH fa X.K μ H ds vs)(h:af (bB m ds M) (bq fa X.K μ H Q)):ds.length<=sz/\∀p,H p=none->Q (.ref p) (upd H p (.lst vs)):=by
 unfold bB at h;split at h
 ·next v=>
  refine{v,λp u=>?_};cases m with
  | true=>
    exact h (.ref p) _ (fK μ M.length p) (Ext.cell j u) (j.cell u r) {p,rfl,by simp[fK]}
  | false=>
    exact h (.ref p) _ μ (Ext.alloc j u) (j.alloc u) {p,vs,rfl,{bI,j.fresh u},r.ext (Ext.alloc j u)}
 ·exact h.elim
def iz (j:RelM fa X.K μ H M)(r:aH fa X.K μ H ds vs)(h:bq fa X.K μ H Q (.tup ds) M):∀p,H p=none->Q (.ref p) (upd H p (.tup vs)):=λp u=>
 h (.ref p) _ μ (Ext.alloc j u) (j.alloc u) {p,vs,rfl,.of bI,r.ext (Ext.alloc j u)}
def dh:sz=sizeLine:=by rw[sizeLine_eq];rfl
def Dt:bU X (binaryOp .Add) (λx y H Q=>∃a b ys,x=.ref a/\y=.ref b/\dI X.K H a []/\dI X.K H b ys/\Q (.ref b) H):=by
 intro pins s σ H x y v u Q I rx ry h;obtain⟨a,b,ys,rfl,rfl,U,W,q⟩:=h;cases rx;cases ry;obtain⟨its,r1,p1,_⟩:=I.tuple U;obtain⟨z,r2,p2,_⟩:=I.tuple W;cases r1;obtain⟨⟨cls,S,R,sl⟩,ho,Y,n,hd⟩:=id p1;obtain⟨⟨P,E,B,O⟩,j,J,n2,L⟩:=id p2;subst Y hd J L;exact concat_meets {_,ho,rfl} {_,j,rfl} noFill_tuple_add seq_tuple_add PySem.F.slot_tuple_add PySem.F.entry_tuple_add (PySem.F.args_tuple_add_2 _ _)
  (tuple_addW0 a b #[] z.toArray n n2 S E sl O rfl) {ho,j,{.ref b,H,I,rfl,q}}
def ED (I:Inv X pins σ H s)(j:RelM fa X.K μ H M)(h1:Rep fa X.K μ H dx x)(h2:Rep fa X.K μ H dy y)(L:RelV x v)(O:RelV y u)
 (h:af (match jR M dx,jR M dy with|some x,some y=>bB m (x++y) M|_,_=>.bad) (bq fa X.K μ H Q)):wpAny (model X.prog X.w) X.A (binaryOp .Add v u) (EP X pins σ Q) X.xe s:=by
 cases e1:jR M dx with
 |none=>rw[e1] at h;exact h.elim
 | some xs=>
   cases e2:jR M dy with
   |none=>rw[e1,e2] at h;exact h.elim
   | some S=>
     rw[e1,e2] at h;obtain⟨a,P,rfl,E,z⟩:=jM j h1 e1;obtain⟨b,R,rfl,F,B⟩:=jM j h2 e2;obtain⟨J,k⟩:=gF j (z.append B) h;refine Lq pins s σ H _ _ v u Q I L O {a,b,P,R,rfl,rfl,E,F,?_,k};rw[z.length,B.length,<- RO,<- dh];exact J
set_option tactic.hygienic true in
def OW (m:Bool):bU X (binaryOp .Add) (mE fa X.K m .add):=by
 intro pins s σ H x y v u Q I F J h;obtain⟨μ,M,L,O,B,h1,h2,h⟩:=h;have hi:∀i j,L=.int i->O=.int j->wpAny (model X.prog X.w) X.A (binaryOp .Add v u) (EP X pins σ Q) X.xe s:=λi j e1 e2=>by
  subst e1 e2;exact Lr pins s σ H x y v u Q I F J {i,j,h1,h2,ba B h rfl}
 have hs:∀i j,L=.str i->O=.str j->wpAny (model X.prog X.w) X.A (binaryOp .Add v u) (EP X pins σ Q) X.xe s:=λi j e1 e2=>by
  subst e1 e2;have h:af (if i.cps.size+j.cps.size<=sz then .ok (.str {i.cps++j.cps}) M else .bad) (bq fa X.K μ H Q):=h;split at h
  ·next W=>exact yu pins s σ H x y v u Q I F J {i,j,h1,h2,by rw[<- dh];exact W,ba B h rfl}
  ·exact h.elim
 have ht:∀i j,L=.tup i->O=.tup j->wpAny (model X.prog X.w) X.A (binaryOp .Add v u) (EP X pins σ Q) X.xe s:=λi j e1 e2=>by
  subst e1 e2;have h:af (if (i++j).length<=sz then .ok (.tup (i++j)) M else .bad) (bq fa X.K μ H Q):=h;split at h
  ·next W=>
   obtain⟨a,R,e1,S,E⟩:=id h1;obtain⟨b,Y,e2,U,P⟩:=id h2;by_cases h0:i=[]
   ·subst h0;obtain rfl:R=[]:=E;exact Dt pins s σ H x y v u Q I F J {a,b,Y,e1,e2,S,U,ba B h ⟨b,Y,rfl,U,P⟩}
   ·have hv:R≠[]:=λz=>h0 (by have:=E.length;rw[z] at this;exact Tx.mp this.symm)
    refine Io pins s σ H x y v u Q I F J {a,b,R,Y,e1,e2,S,U,hv,?_,λz=>?_,λ_=>iz B (E.append P) h}
    ·rw[E.length,P.length,<- RO,<- dh];exact W
    ·subst z;have ej:=Tx.mp P.length.symm;subst ej;exact ba B h {a,R,rfl,S,by simpa using E}
  ·exact h.elim
 cases L<;>cases O<;>first|exact hi _ _ rfl rfl|exact hs _ _ rfl rfl|exact ht _ _ rfl rfl|exact ED (m:=m) I B h1 h2 F J h
def uc {g:Int->Int->Int}(hr:bU X (binaryOp op) (rI C λi j=>.int (g i j)))
 (z:∀u v M (P:D->Mem->Prop),af (gM m o u v M) P->∃i j,u=.int i/\v=.int j/\C i j/\P (.int (g i j)) M):bU X (binaryOp op) (mE fa X.K m o):=i1 hr λx y H Q h=>by
 obtain⟨μ,M,u,v,B,h1,h2,h⟩:=h;obtain⟨i,j,rfl,rfl,c,q⟩:=z u v M _ h;exact{i,j,h1,h2,c,ba B q rfl}
def OR (m:Bool):bU X (binaryOp .Sub) (mE fa X.K m .sub):=uc (C:=λ_ _=>True) (i1 Lk (by rintro x y H Q ⟨i,j,e1,e2,_,q⟩;exact⟨i,j,e1,e2,q⟩)) λu v M P h=>by
 cases u<;>cases v<;>first|exact{_,_,rfl,rfl,trivial,h}|exact h.elim
set_option tactic.hygienic true in
def MZ (m:Bool):bU X (binaryOp .FloorDiv) (mE fa X.K m .fdiv):=uc Im λu v M P h=>by
 have y:∀i j,u=.int i->v=.int j->∃i j,u=.int i/\v=.int j/\Nq i j/\P (.int (i / j)) M:=λi j e1 e2=>by
  subst e1 e2;have h:af (if 0<j/\j<1073741824 then .ok (.int (i / j)) M else .bad) P:=h;split at h
  ·next c=>exact⟨i,j,rfl,rfl,c,h⟩
  ·exact h.elim
 cases u<;>cases v<;>first|exact y _ _ rfl rfl|exact h.elim
set_option tactic.hygienic true in
def OU (m:Bool):bU X (binaryOp .Mod) (mE fa X.K m .mod):=uc Lo λu v M P h=>by
 have y:∀i j,u=.int i->v=.int j->∃i j,u=.int i/\v=.int j/\0<j/\P (.int (i % j)) M:=λi j e1 e2=>by
  subst e1 e2;have h:af (if 0<j then .ok (.int (i % j)) M else .bad) P:=h;split at h
  ·next c=>exact⟨i,j,rfl,rfl,c,h⟩
  ·exact h.elim
 cases u<;>cases v<;>first|exact y _ _ rfl rfl|exact h.elim
set_option tactic.hygienic true in
def OS (m:Bool):bU X (binaryOp .Pow) (mE fa X.K m .pow):=uc Lm λu v M P h=>by
 have y:∀i j,u=.int i->v=.int j->∃i j,u=.int i/\v=.int j/\Np i j/\P (.int (i^j.toNat)) M:=λi j e1 e2=>by
  subst e1 e2;have h:af (if 0<=j/\j<=1000000/\i.natAbs<2^64 then .ok (.int (i^j.toNat)) M else .bad) P:=h;split at h
  ·next c=>exact⟨i,j,rfl,rfl,c,h⟩
  ·exact h.elim
 cases u<;>cases v<;>first|exact y _ _ rfl rfl|exact h.elim
set_option tactic.hygienic true in
def Dc {j:Int}(I:Inv X pins σ H s)(z:RelM fa X.K μ H M)(h1:Rep fa X.K μ H dx x)(h2:Rep fa X.K μ H (.int j) y)(F:RelV x v)(J:RelV y u)
 (h:af (match jR M dx with|some x=>if x.length*j.toNat<=sz/\-(2^63)<=j/\j<2^63 then bB m (List.replicate j.toNat x).flatten M else .bad|none=>.bad) (bq fa X.K μ H Q)) :
 wpAny (model X.prog X.w) X.A (binaryOp .Mult v u) (EP X pins σ Q) X.xe s:=by
 cases e1:jR M dx with
 |none=>rw[e1] at h;exact h.elim
 | some xs=>
   rw[e1] at h;simp only at h;split at h
   ·next c=>
    obtain⟨a,L,rfl,E,B⟩:=jM z h1 e1;obtain⟨O,k⟩:=gF z (B.rep j.toNat) h;exact Ll pins s σ H _ _ v u Q I F J {a,j,L,rfl,h2,E,c.2.1,c.2.2,by rw[B.length,<- dh];exact c.1,k}
   ·exact h.elim
end
end LD
namespace LD
open PySem PySem.Spec PyProof.Rows L2 PySem.Builtin
open PySem.Sem (wp)
def pq:fillsNumberSlot (.type "tuple") "mul"=pure false:=
 PySem.fillsNumberSlot_seq F.slot_tuple_mul.lookup `k F.slot_tuple_rmul.lookup `k
def uR:seqRepeat? (.type "tuple")=pure (some (.builtin "tuple.__mul__")):=by
 unfold seqRepeat?;rw[PySem.seqSlot_of (name:="__mul__") F.slot_tuple_mul.lookup `k,PySem.seqSlot_of (name:="__rmul__") F.slot_tuple_rmul.lookup `k]
 rfl
def rb (a:Int)(t:Tok)(l:Addr)(items:Array Rg)(n:Nat)(dd:Option Addr)(sl:Array (Option Rg)) :
 Meets (Builtin.«int.__rmul__» {[.int a t,.ref l],[]}) (λ_ R s=>s.heap.get? l=some {cls:=.type "tuple",dict:=dd,data:=.seq items n,slots:=sl}/\R (.ok (.ret Value.notImplemented)) s):=
 .of_wp λprog w A R s h=>by obtain⟨j,g,d,tk,os⟩:=s;obtain⟨hl,h⟩:=h;wp_walk using wpAny_loadPart' hl;exact{_,rfl,h}
def yr {x:Int}(h:-(2^63)<=x)(h1:x<2^63):(decide (x < -2^63)||decide (x≥2^63))=false:=by
 rw[decide_eq_false `a,decide_eq_false `a];rfl
def rA (l:Addr)(items:Array Rg)(n:Nat)(dd:Option Addr)(sl:Array (Option Rg))(x:Int)(u:Tok)(j:-(2^63)<=x)(h1:x<2^63)(v:(items.isEmpty||x==1)=true) :
 Meets (Builtin.«tuple.__mul__» {[.ref l,.int x u],[]}) (λ_ R s=>s.heap.get? l=some {cls:=.type "tuple",dict:=dd,data:=.seq items n,slots:=sl}/\R (.ok (.ret (.ref l))) s):=
 .of_wp λprog w A R s h=>by
  obtain⟨y,g,d,tk,os⟩:=s;obtain⟨hl,h⟩:=h;have f1:=AutoSeq1.idx_int;wp_walk using wpAny_loadPart' hl
  refine wpAny_ite_false (by rw[yr j h1];rfl) ?_
  wp_walk using wpAny_loadPart' hl
  exact{_,rfl,h}
def rB (l:Addr)(items:Array Rg)(n:Nat)(dd:Option Addr)(sl:Array (Option Rg))(x:Int)(u:Tok)(j:-(2^63)<=x)(h1:x<2^63)(y:(items.isEmpty||x==1)=false)(v:(decide (x<=0)||items.isEmpty)=true) :
 Meets (Builtin.«tuple.__mul__» {[.ref l,.int x u],[]}) (λ_ R s=>s.heap.get? l=some {cls:=.type "tuple",dict:=dd,data:=.seq items n,slots:=sl}/\R (.ok (.ret (.ref s.heap.objs.size))) {s with heap:=s.heap.push {cls:=Value.type "tuple",data:=Data.seq #[]},toks:=s.toks}):=
 .of_wp λprog w A R s h=>by
  obtain⟨z,g,d,tk,os⟩:=s;obtain⟨hl,h⟩:=h;have f1:=AutoSeq1.idx_int;wp_walk using wpAny_loadPart' hl
  refine wpAny_ite_false (by rw[yr j h1];rfl) ?_
  wp_walk using wpAny_loadPart' hl
  exact{_,rfl,h}
def rC (l:Addr)(items:Array Rg)(n:Nat)(dd:Option Addr)(sl:Array (Option Rg))(x:Int)(u:Tok)(j:-(2^63)<=x)(h1:x<2^63)(z:(items.isEmpty||x==1)=false)(v:(decide (x<=0)||items.isEmpty)=false)
 (hs:(items.size:Int)*x<=16777216) (y:(List.foldl (λx1 x2=>x1++x2) #[] (List.replicate x.toNat items)).size<=sizeLine) :
 Meets (Builtin.«tuple.__mul__» {[.ref l,.int x u],[]}) (λ_ R s=>s.heap.get? l=some {cls:=.type "tuple",dict:=dd,data:=.seq items n,slots:=sl}/\R (.ok (.ret (.ref s.heap.objs.size))) {s with heap:=s.heap.push {cls:=Value.type "tuple",data:=Data.seq (List.foldl (λx1 x2=>x1++x2) #[] (List.replicate x.toNat items))},toks:=s.toks}):=
 .of_wp λprog w A R s h=>by
  obtain⟨B,g,d,tk,os⟩:=s;obtain⟨hl,h⟩:=h;have f1:=AutoSeq1.idx_int;wp_walk using wpAny_loadPart' hl
  refine wpAny_ite_false (by rw[yr j h1];rfl) ?_
  wp_walk using wpAny_loadPart' hl
  refine wpAny_ite_false (decide_eq_false `a) ?_
  wp_walk using wpAny_loadPart' hl
  refine wpAny_ite_false (decide_eq_false (by unfold Tuple.tupleTooMany;rw[sizeLine_eq];simp;omega)) ?_
  wp_walk using wpAny_loadPart' hl
  exact{_,rfl,h}
section
variable{fa:Fa}{X:Cx}{μ:Mu}{H:Hp}{σ:L2.St}{pins:List (Addr×Obj)}{s:Rl}{M:Mem}
def sy (h:List Rg)(m:Nat):List.foldl (λx1 x2=>x1++x2) #[] (List.replicate m h.toArray)=(List.replicate m h).flatten.toArray:=by
 have:=foldl_rep h m [];rw[Td] at this;exact this
def Ik:bU X (binaryOp .Mult) (λx y H Q=>∃l k xs,x=.ref l/\y=.int k/\dI X.K H l xs/\-(2^63)<=k/\k<2^63/\xs.length*k.toNat<=sz/\
 ((List.replicate k.toNat xs).flatten=xs->Q (.ref l) H)/\∀p,H p=none->Q (.ref p) (upd H p (.tup (List.replicate k.toNat xs).flatten))):=by
 intro pins s σ H x y v u Q I rx ry h;obtain⟨l,k,xs,rfl,rfl,Y,h1,h2,U,q1,q2⟩:=h;cases rx;obtain⟨t,rfl⟩:=ry;obtain⟨j,r,p,hzz⟩:=I.tuple Y;have hl:=r.length;obtain⟨⟨cls,L,data,sl⟩,ho,W,n,hd⟩:=id p;subst W hd;refine wpAny_binaryOp_repeat_ref `d {_,ho,rfl} (λs'=>typeIs_int s' k t) pq F.fills_int_mul F.slot_int_rmul uR F.slot_int_index.lookup
  (call_meets F.slot_int_rmul (typeIs_int s k t) F.entry_int_rmul (F.args_int_rmul_2 _ _) (rb k t l j.toArray n L sl) {ho,rfl,{_,ho,rfl},?_})
 have new:∀(B:List Rg),Vals (List.replicate k.toNat xs).flatten B->EP X pins σ Q (.ref s.heap.objs.size) {s with heap:=s.heap.push {cls:=Value.type "tuple",data:=Data.seq B.toArray}}:=λB r'=>by
  refine{.ref s.heap.objs.size,_,I.laid (λb ob q=>Rf _ q) (Rj _) ?_,rfl,q2 _ (I.hok.fresh (Rj _))};exact{by rw[len_rep,Nat.mul_comm,<- dh];exact U,_,r',IsTup.new _ _}
 by_cases O:(j.toArray.isEmpty||k==1)=true
 ·refine call_meets F.slot_tuple_mul {_,ho,rfl} F.entry_tuple_mul (F.args_tuple_mul_2 _ _) (rA l j.toArray n L sl k t h1 h2 O) {ho,{.ref l,H,I,rfl,q1 ?_}};rcases Bool.or_eq_true_iff.mp O with z|z
  ·have e:j=[]:=by simpa using z
   subst e;have e2:=Tx.mp hl;subst e2;simp
  ·have e:k=1:=by simpa using z
   subst e;simp
 ·have E:(j.toArray.isEmpty||k==1)=false:=by simpa using O
  by_cases P:(decide (k<=0)||j.toArray.isEmpty)=true
  ·refine call_meets F.slot_tuple_mul {_,ho,rfl} F.entry_tuple_mul (F.args_tuple_mul_2 _ _) (rB l j.toArray n L sl k t h1 h2 E P) {ho,new [] ?_};have hk:k<=0:=by
    rcases Bool.or_eq_true_iff.mp P with z|z
    ·simpa using z
    ·rw[z] at E;cases E
   have R:k.toNat=0:=`a
   rw[R];exact .nil
  ·have J:(decide (k<=0)||j.toArray.isEmpty)=false:=by simpa using P
   have hk:0<k:=by
    have:=(Bool.or_eq_false_iff.mp J).1;simpa using this
   have hs:(j.toArray.size:Int)*k<=16777216:=by
    have e1:(j.toArray.size:Int)*k=((xs.length*k.toNat:Nat):Int):=by
     rw[Ru,<- hl,Int.natCast_mul,Tu `a]
    rw[e1];have:xs.length*k.toNat<=16777216:=U;omega
   have S:(List.foldl (λx1 x2=>x1++x2) #[] (List.replicate k.toNat j.toArray)).size<=sizeLine:=by
    rw[sy,Ru,len_rep,Nat.mul_comm,<- hl,<- dh];exact U
   refine call_meets F.slot_tuple_mul {_,ho,rfl} F.entry_tuple_mul (F.args_tuple_mul_2 _ _) (rC l j.toArray n L sl k t h1 h2 E J hs S) {ho,?_};rw[sy];exact new _ (r.rep k.toNat)
set_option tactic.hygienic true in
def OT (m:Bool):bU X (binaryOp .Mult) (mE fa X.K m .mul):=by
 intro pins s σ H x y v u Q I L O h;obtain⟨μ,M,B,E,F,h1,h2,h⟩:=h;have U:∀i j,B=.int i->E=.int j->wpAny (model X.prog X.w) X.A (binaryOp .Mult v u) (EP X pins σ Q) X.xe s:=λi j e1 e2=>by
  subst e1 e2;have h:af (if (-(2^64)<i/\i<2^64)\/(-(2^64)<j/\j<2^64) then .ok (.int (i*j)) M else .bad) (bq fa X.K μ H Q):=h;split at h
  ·next c=>exact Ln pins s σ H x y v u Q I L O {i,j,h1,h2,c,ba F h rfl}
  ·exact h.elim
 have W:∀i j,B=.tup i->E=.int j->wpAny (model X.prog X.w) X.A (binaryOp .Mult v u) (EP X pins σ Q) X.xe s:=λi j e1 e2=>by
  subst e1 e2;have h:af (if i.length*j.toNat<=sz/\-(2^63)<=j/\j<2^63 then .ok (.tup (List.replicate j.toNat i).flatten) M else .bad) (bq fa X.K μ H Q):=h;split at h
  ·next c=>
   obtain⟨a,R,e1,P,J⟩:=id h1;refine Ik pins s σ H x y v u Q I L O {a,j,R,e1,h2,P,c.2.1,c.2.2,by rw[J.length];exact c.1,λz=>?_,iz F (J.rep j.toNat) h}
   refine ba F h {a,R,rfl,P,?_};have:=J.rep j.toNat;rw[z] at this;exact this
  ·exact h.elim
 have hl:∀j,E=.int j->af (match jR M B with|some x=>if x.length*j.toNat<=sz/\-(2^63)<=j/\j<2^63 then bB m (List.replicate j.toNat x).flatten M else .bad|none=>.bad) (bq fa X.K μ H Q)->
  wpAny (model X.prog X.w) X.A (binaryOp .Mult v u) (EP X pins σ Q) X.xe s:=λj e1 S=>by
  subst e1;exact Dc I F h1 h2 L O S
 cases E with
 |int j=>cases B<;>first|exact U _ _ rfl rfl|exact W _ _ rfl rfl|exact hl _ rfl h
 |_=>cases B<;>exact h.elim
noncomputable def binOp:tu->Operator
 |.add=>.Add|.sub=>.Sub|.mul=>.Mult|.fdiv=>.FloorDiv|.mod=>.Mod|.pow=>.Pow
def OV (m:Bool):∀o:tu,bU X (binaryOp (binOp o)) (mE fa X.K m o)
 |.add=>OW m|.sub=>OR m|.mul=>OT m|.fdiv=>MZ m|.mod=>OU m|.pow=>OS m
end
end LD
namespace LD
open PySem PySem.Spec PyProof.Rows L2
section
variable{fa:Fa}{X:Cx}{μ:Mu}{H:Hp}{σ:L2.St}{pins:List (Addr×Obj)}{s:Rl}{M:Mem}
def Mc (h:lA X r)(i:∀x y H Q,r' x y H Q->r x y H Q):lA X r':=λz j pins s σ H x y v u Q I B E q hs=>h z j pins s σ H x y v u Q I B E (i x y H Q q) hs
def rIdx (fa:Fa)(K:Q9):R2:=λx y H Q=>∃μ M h j d,RelM fa K μ H M/\Rep fa K μ H h x/\Rep fa K μ H j y/\c4 h j M=some d/\bq fa K μ H Q d M
def vn (n:Nat)(i:Int):LD.bG n i=L2.bG n i:=rfl
set_option tactic.hygienic true in
def Oc:lA X (rIdx fa X.K):=Mc Mb λx y H Q h=>by
 obtain⟨μ,M,u,I,d,F,h1,h2,e,q⟩:=h;have gen:∀i,I=.int i->((bW M u).bind λE=>(LD.bG E.length i).bind λj=>E[j]?)=some d->KQ X.K x y H Q:=λi R O=>by
  subst R;clear e;have e:=O;clear O;cases e1:bW M u with
  |none=>rw[e1] at e;cases e
  | some E=>
    rw[e1,Ta] at e;obtain⟨a,L,rfl,B,r⟩:=jL F h1 e1;cases e2:LD.bG E.length i with
    |none=>rw[e2] at e;cases e
    | some j=>
      rw[e2,Ta] at e;obtain⟨v,U,P⟩:=r.get e;have he:tf L i=some v:=by
       unfold tf;rw[r.length,<- vn,e2];exact U
      rcases B with B|B
      ·exact .inl {a,L,i,v,rfl,h2,B,he,ba F q P}
      ·exact .inr (.inl {a,L,i,v,rfl,h2,B,he,ba F q P})
 have str:∀z i,u=.str z->I=.int i->KQ X.K x y H Q:=λz i e1 e2=>by
  subst e1 e2;have e:(if z.cps.size<=sz then(LD.bG z.cps.size i).bind λj=>(z.cps[j]?).map λc=>D.str {#[c]} else none)=some d:=e;split at e
  ·next W=>
   cases e2:LD.bG z.cps.size i with
   |none=>rw[e2] at e;cases e
   | some j=>
     rw[e2,Ta] at e;cases J:z.cps[j]? with
     |none=>rw[J] at e;cases e
     | some c=>
       rw[J] at e;have S:=Ro e;subst S;refine .inr (.inr {z,i,c,h1,h2,by rw[<- dh];exact W,?_,ba F q rfl})
       unfold tf;rw[show z.cps.toList.length=z.cps.size by simp,<- vn,e2]
       simpa using J
  ·cases e
 cases I with
 |int i=>cases u<;>first|exact str _ _ rfl rfl|exact gen _ rfl e
 |_=>cases u<;>cases (e)
def Ke (h:mj X r)(i:∀x lo hi H Q,r' x lo hi H Q->r x lo hi H Q):mj X r':=λpins s σ H x v u y lo hi sl Q I j hs pl pu q=>h pins s σ H x v u y lo hi sl Q I j hs pl pu (i x lo hi H Q q)
noncomputable def qh:D->Option (Option Int)
 |.non=>some none
 |.int i=>some (some i)
 |_=>none
def oV (n d:Nat)(x:D):LD.aL n d x=(qh x).map (HT.aL n d):=by
 cases x<;>rfl
def uK:mj X (λx lo hi H Q=>∃a xs,x=.ref a/\dI X.K H a xs/\(HT.aL xs.length 0 lo=0/\HT.aL xs.length xs.length hi=xs.length)/\Q (.ref a) H):=by
 intro pins s σ H x v S U lo hi sl Q I P hs pl pu h;obtain⟨a,xs,rfl,O,J,q⟩:=h;cases P;obtain⟨j,r,u,R⟩:=I.tuple O;refine{"tuple",_,R3.lookup,u.typeIs,?_};have y:j.toArray.size=xs.length:=by rw[Ru];exact r.length.symm
 rw[<- y] at J;obtain⟨os,F,E,L⟩:=id hs;have B:s.TypeIs (.ref sl) "slice":=⟨os,F,E⟩;unfold getItem;try with_reducible refine tqo ?_
 first|refine tqa (tqb ?_)|skip
 refine tqa (wpAny_sequenceKey u.typeIs `d ?_)
 refine tqa (wpAny_callSpecial?_slot u.typeIs R3
  (wpAny_call_entry R3 u.typeIs entry_tuple_getitem ?_ (args_tuple_getitem _ _)))
 show wpAny _ _ (Builtin.Tuple.tupleItemsOf (.ref a) >>= _) _ _ s;refine tqa (tupleItemsOf_ u ?_);refine tqa (wpAny_typeOf B ?_);rw[if_pos `d]
 refine tqa (HT.jK hs pl pu ?_);have z:(((HT.aL j.toArray.size 0 lo:Nat):Int)==0&&(1:Int)==1&&(HT.aL j.toArray.size j.toArray.size hi-HT.aL j.toArray.size 0 lo)==j.toArray.size)=true:=by
  rw[J.1,J.2];simp
 show wpAny _ _ (if (((HT.aL j.toArray.size 0 lo:Nat):Int)==0&&(1:Int)==1&&(HT.aL j.toArray.size j.toArray.size hi-HT.aL j.toArray.size 0 lo)==j.toArray.size)=true then _ else _) _ _ s;rw[if_pos z];refine tqa ?_;refine tqa (wpAny_typeOf u.typeIs ?_);refine tqb ?_;rw[if_pos `d]
 exact tqa (wpAny_rule (tqb {_,rfl,tqb {.ref a,H,I,rfl,q}}))
def P4 (fa:Fa)(K:Q9)(m:Bool):V->Option Int->Option Int->Hp->VK->Prop:=λx lo u H Q=>∃μ M j dl h,RelM fa K μ H M/\Rep fa K μ H j x/\qh dl=some lo/\qh h=some u/\af (ez m j dl h M) (bq fa K μ H Q)
def HG (m:Bool):mj X (P4 fa X.K m):=by
 refine Ke (HH.or (Kc.or uK)) λx lo u H Q h=>?_;obtain⟨μ,M,z,dl,E,B,h1,e1,e2,h⟩:=h;have gen:af (match g9 M z with
  | some xs=>match LD.aL xs.length 0 dl,LD.aL xs.length xs.length E with
    |some l,some h=>bB m (cut xs l h) M
    |_,_=>.bad
  |none=>.bad) (bq fa X.K μ H Q)->KI X.K x lo u H Q:=λh=>by
  cases e:g9 M z with
  |none=>rw[e] at h;exact h.elim
  | some xs=>
    rw[e] at h;simp only[oV,e1,e2,Option.map_some] at h;obtain⟨a,j,rfl,v,r⟩:=bS B h1 e;have hl:=r.length;obtain⟨_,k⟩:=gF B ((r.drop (HT.aL xs.length 0 lo)).take (HT.aL xs.length xs.length u-HT.aL xs.length 0 lo)) h;refine{a,j,rfl,v,?_};unfold rO;rw[hl];exact k
 have tup:∀xs,z=.tup xs->KH X.K x lo u H Q\/∃a xs,x=.ref a/\dI X.K H a xs/\(HT.aL xs.length 0 lo=0/\HT.aL xs.length xs.length u=xs.length)/\Q (.ref a) H:=λxs e=>by
  subst e;have h:af (match LD.aL xs.length 0 dl,LD.aL xs.length xs.length E with
   |some l,some h=>.ok (.tup (cut xs l h)) M
   |_,_=>.bad) (bq fa X.K μ H Q):=h
  simp only[oV,e1,e2,Option.map_some] at h;obtain⟨a,j,rfl,v,r⟩:=h1;have hl:=r.length;by_cases y:HT.aL j.length 0 lo=0/\HT.aL j.length j.length u=j.length
  ·refine .inr {a,j,rfl,v,y,?_};rw[hl] at y;have F:cut xs (HT.aL xs.length 0 lo) (HT.aL xs.length xs.length u)=xs:=by rw[y.1,y.2];simp[cut]
   rw[F] at h;exact ba B h ⟨a,j,rfl,v,r⟩
  ·refine .inl {a,j,rfl,v,y,?_};have k:=iz B ((r.drop (HT.aL xs.length 0 lo)).take (HT.aL xs.length xs.length u-HT.aL xs.length 0 lo)) h;unfold rO;rw[hl];exact k
 cases z<;>first|exact .inr (tup _ rfl)|exact .inl (gen h)
def oY (fa:Fa)(K:Q9)(f:wg):List V->Hp->VK->Prop:=λj H Q=>∃μ M h,RelM fa K μ H M/\aH fa K μ H h j/\af (du f h M) (bq fa K μ H Q)
def qa {d:D}{vs:List V}{K:Q9}(h:aH fa K μ H [d] vs):∃v,vs=[v]/\Rep fa K μ H d v:=by
 obtain⟨v,r,rfl,h1,h2⟩:=h;obtain rfl:r=[]:=h2;exact⟨v,rfl,h1⟩
set_option tactic.hygienic true in
def Oj:cq X (.builtin "len") (oY fa X.K .len):=jX (vS.or vR) λB H Q h=>by
 obtain⟨μ,M,E,j,r,h⟩:=h
 match E,r,h with
 |[],_,h=>exact h.elim
 |d::_::_,_,h=>cases d<;>exact h.elim
 | [d],r,h=>
   obtain⟨v,rfl,y⟩:=qa r;have gen:af (match bW M d with|some xs=>.ok (.int xs.length) M|none=>.bad) (bq fa X.K μ H Q)->∃p u,[v]=[.ref p]/\(cE X.K H p u\/dI X.K H p u)/\Q (.int u.length) H:=λh=>by
    cases e:bW M d with
    |none=>rw[e] at h;exact h.elim
    | some xs=>
      rw[e] at h;obtain⟨a,B,rfl,F,r⟩:=jL j y e;refine{a,B,rfl,F,?_};rw[r.length];exact ba j h rfl
   have str:∀x,d=.str x->∃z,[v]=[V.str z]/\z.length<=sizeLine/\Q (.int z.length) H:=λx e=>by
    subst e;have h:af (if x.cps.size<=sz then .ok (.int x.cps.size) M else .bad) (bq fa X.K μ H Q):=h;split at h
    ·next c=>exact{x,by rw[show v=.str x from y],by rw[<- dh];exact c,ba j h rfl}
    ·exact h.elim
   cases d<;>first|exact .inr (str _ rfl)|exact .inl (gen h)
def IS:cq X (.type "tuple") (oY fa X.K .tuple):=jX tK λu H Q h=>by
 obtain⟨μ,M,E,y,r,h⟩:=h
 match E,r,h with
 |[],_,h=>exact h.elim
 |d::_::_,_,h=>cases d<;>exact h.elim
 | [d],r,h=>
   obtain⟨v,rfl,B⟩:=qa r;have gen:af (match g9 M d with|some xs=>.ok (.tup xs) M|none=>.bad) (bq fa X.K μ H Q)->∃p j,[v]=[.ref p]/\((cE X.K H p j/\∀l,H l=none->Q (.ref l) (upd H l (.tup j)))\/(dI X.K H p j/\Q (.ref p) H)):=λh=>by
    cases e:g9 M d with
    |none=>rw[e] at h;exact h.elim
    | some xs=>
      rw[e] at h;obtain⟨a,u,rfl,z,r⟩:=bS y B e;exact{a,u,rfl,.inl {z,iz y r h}}
   have tup:∀x,d=.tup x->∃p j,[v]=[.ref p]/\((cE X.K H p j/\∀l,H l=none->Q (.ref l) (upd H l (.tup j)))\/(dI X.K H p j/\Q (.ref p) H)):=λx e=>by
    subst e;obtain⟨a,u,rfl,z,r⟩:=id B;exact{a,u,rfl,.inr {z,ba y h B}}
   cases d<;>first|exact tup _ rfl|exact gen h
def Mo (m:Bool):cq X (.type "list") (oY fa X.K (.list m)):=jX vQ λu H Q h=>by
 obtain⟨μ,M,y,j,r,h⟩:=h
 match y,r,h with
 |[],_,h=>exact h.elim
 |_::_::_,_,h=>exact h.elim
 | [d],r,h=>
   obtain⟨v,rfl,B⟩:=qa r;have h:af (match bW M d with|some xs=>bB m xs M|none=>.bad) (bq fa X.K μ H Q):=h
   cases e:bW M d with
   |none=>rw[e] at h;exact h.elim
   | some xs=>
     rw[e] at h;obtain⟨a,u,rfl,z,r⟩:=jL j B e;obtain⟨_,k⟩:=gF j r h;exact⟨a,u,rfl,z,k⟩
end
section
variable{fa:Fa}{X:Cx}{μ:Mu}{H:Hp}{σ:L2.St}{pins:List (Addr×Obj)}{s:Rl}{M:Mem}
set_option tactic.hygienic true in
def Pz (hM:RelM fa X.K μ H M)(h:Rep fa X.K μ H d v)(e:kC M d=some k):EL X.K v H k:=by
 cases d with
 |non=>obtain rfl:v=.non:=h;exact(Ro e).symm
 |bl b=>obtain rfl:v=.bl b:=h;exact(Ro e).symm
 |int i=>obtain rfl:v=.int i:=h;exact(Ro e).symm
 | str x=>
   obtain rfl:v=.str x:=h;have e:(if x.cps.size<=sz then some (x.cps.size != 0) else none)=some k:=e;split at e
   ·next c=>
    refine{by rw[<- dh];exact c,?_}
    rw[<- Ro e];show(x.cps.size != 0)=((x.cps.size:Int) != 0);rw[Tf];simp
   ·cases e
 | tup ds=>
   obtain⟨a,vs,rfl,hq,r⟩:=h;refine .inr (.inl {vs,hq,?_});rw[<- Ro e];have:=r.length;cases vs<;>cases ds<;>simp_all
 | lst ds=>
   obtain⟨a,vs,rfl,hq,r⟩:=bS hM h rfl;refine .inl {vs,hq,?_};rw[<- Ro e];have:=r.length;cases vs<;>cases ds<;>simp_all
 | frz ds=>
   obtain⟨a,vs,rfl,hq,r⟩:=bS hM h rfl;refine .inl {vs,hq,?_};rw[<- Ro e];have:=r.length;cases vs<;>cases ds<;>simp_all
 | cell c=>
   have e:(M[c]?).map (λds=>!ds.isEmpty)=some k:=e;cases e1:M[c]? with
   |none=>rw[e1] at e;cases e
   | some ds=>
     rw[e1] at e;obtain⟨a,vs,rfl,hq,r⟩:=bS hM h e1;refine .inl {vs,hq,?_};rw[<- Ro e];have:=r.length;cases vs<;>cases ds<;>simp_all
 |fn f=>cases e
 |exc y p=>cases e
def mD:∀{ds:List D}{bs:List Bool}{vs:List V}{us:List Rg},boolsOf ds=some bs->aH fa X.K μ H ds vs->Vals vs us->PyProof.Rows.LSm.BoolsAre us bs:=by
 intro ds;induction ds with
 | nil=>
   intro bs vs us e h r;obtain rfl:vs=[]:=h;cases r;cases e;exact .nil
 | cons d ds j=>
   intro bs vs us e h r;obtain⟨v,vr,rfl,h1,h2⟩:=h;cases r with
   | cons r1 r2=>
     cases d with
     | bl b=>
       have e:(boolsOf ds).map (b::·)=some bs:=e;cases e1:boolsOf ds with
       |none=>rw[e1] at e;cases e
       | some u=>
         rw[e1] at e;have e2:=Ro e;subst e2;obtain rfl:v=.bl b:=h1;obtain rfl:_=Value.bool b:=r1;exact .cons b (j e1 h2 r2)
     |_=>cases e
def rQ:cq X (.builtin "all") (λxs H Q=>∃μ ds bs p vs,xs=[.ref p]/\X.calm=true/\cE X.K H p vs/\aH fa X.K μ H ds vs/\boolsOf ds=some bs/\Q (.bl (bs.all id)) H):=by
 intro pins s σ H xs us Q I r h;obtain⟨μ,ds,bs,p,vs,rfl,J,L,O,E,q⟩:=h;obtain⟨u,rfl,R⟩:=vals1 r;cases R;obtain⟨j,P,pl,Y⟩:=I.list L;have B:=mD E O P;have y:=pl.lt;refine call_all_walk (wpAny_pyIter_list pl.isList ?_);refine{s.heap.objs.size,[s.heap.objs.size,p],[s.heap.objs.size],j.toArray.size,_,_,λi=>(bs[i]?).getD true,rfl,Walks.list (A:=X.A.in1) (I.ok.hd J) _ p (RX y) j.toArray,
  {{_,RB _ rfl,rfl,rfl},pl.isList.push _},λi v s' U S F z=>?_,λW tk hk=>?_}
 ·obtain⟨b,e,rfl⟩:=B.get i v (by simpa using F)
  simp only[e,Sg] at z;exact tqp z
 ·have e:((List.range j.toArray.size).all λi=>(bs[i]?).getD true)=bs.all id:=by
   rw[Ru,B.length];exact PyProof.Rows.LSm.range_all bs
  rw[e];exact{.bl _,H,I.kept (PyProof.Rows.LSm.kept_iter hk),rfl,q}
def C9:∀{ds:List D}{bs:List Int}{vs:List V}{us:List Rg},intsOf ds=some bs->aH fa X.K μ H ds vs->Vals vs us->IntsAre us bs:=by
 intro ds;induction ds with
 | nil=>
   intro bs vs us e h r;obtain rfl:vs=[]:=h;cases r;cases e;exact .nil
 | cons d ds j=>
   intro bs vs us e h r;obtain⟨v,vr,rfl,h1,h2⟩:=h;cases r with
   | cons r1 r2=>
     cases d with
     | int b=>
       have e:(intsOf ds).map (b::·)=some bs:=e;cases e1:intsOf ds with
       |none=>rw[e1] at e;cases e
       | some u=>
         rw[e1] at e;have e2:=Ro e;subst e2;obtain rfl:v=.int b:=h1;obtain⟨t,rfl⟩:=r1;exact .cons b t (j e1 h2 r2)
     |_=>cases e
def tM:cq X (.builtin "sum") (λxs H Q=>∃μ ds bs p vs,xs=[.ref p]/\X.calm=true/\cE X.K H p vs/\aH fa X.K μ H ds vs/\intsOf ds=some bs/\Q (.int bs.sum) H):=by
 intro pins s σ H xs U Q I r h;obtain⟨μ,ds,ns,p,vs,rfl,B,E,J,z,q⟩:=h;obtain⟨u,rfl,O⟩:=vals1 r;cases O;obtain⟨F,L,pl,S⟩:=I.list E;have v:=C9 z J L;obtain⟨xs,y⟩:=v.allInts.items;have j:=y ▸ pl.isList;refine sum_intListG (I.ok.hd B) j λR tk P hk=>?_;have e1:ns=xs.toList.map (·.1):=by
  rw[<- nums_intItems,<- y];exact(v.numsOf).symm
 have e2:preSum (numAt xs) xs.size=ns.sum:=by
  rw[preSum_eq,Sz `s,e1]
 rw[e2];exact{.int _,H,I.kept hk,⟨P,rfl⟩,q}
def Ol (z:X.calm=true):cq X (.builtin "all") (oY fa X.K .all):=jX (rQ) λu H Q h=>by
 obtain⟨μ,M,y,j,r,h⟩:=h
 match y,r,h with
 |[],_,h=>exact h.elim
 |d::_::_,_,h=>exact h.elim
 | [d],r,h=>
   obtain⟨v,rfl,E⟩:=qa r;have h:af (match g9 M d with|some xs=>(match boolsOf xs with|some bs=>.ok (.bl (bs.all id)) M|none=>.bad)|none=>.bad) (bq fa X.K μ H Q):=h
   cases e:g9 M d with
   |none=>rw[e] at h;exact h.elim
   | some xs=>
     rw[e] at h;simp only at h;cases e2:boolsOf xs with
     |none=>rw[e2] at h;exact h.elim
     | some bs=>
       rw[e2] at h;obtain⟨a,u,rfl,B,r⟩:=bS j E e;exact{μ,xs,bs,a,u,rfl,z,B,r,e2,ba j h rfl}
def Oi (z:X.calm=true):cq X (.builtin "sum") (oY fa X.K .sum):=jX (tM) λu H Q h=>by
 obtain⟨μ,M,y,j,r,h⟩:=h
 match y,r,h with
 |[],_,h=>exact h.elim
 |d::_::_,_,h=>exact h.elim
 | [d],r,h=>
   obtain⟨v,rfl,E⟩:=qa r;have h:af (match g9 M d with|some xs=>(match intsOf xs with|some bs=>.ok (.int bs.sum) M|none=>.bad)|none=>.bad) (bq fa X.K μ H Q):=h
   cases e:g9 M d with
   |none=>rw[e] at h;exact h.elim
   | some xs=>
     rw[e] at h;simp only at h;cases e2:intsOf xs with
     |none=>rw[e2] at h;exact h.elim
     | some bs=>
       rw[e2] at h;obtain⟨a,u,rfl,B,r⟩:=bS j E e;exact{μ,xs,bs,a,u,rfl,z,B,r,e2,ba j h rfl}
noncomputable def tyName:Ty->String
 |.int=>"int" | .bool=>"bool" | .str=>"str" | .tuple=>"tuple" | .list=>"list" | .own _=>""
def O1:D->String
 |.non=>"NoneType" | .bl _=>"bool" | .int _=>"int" | .str _=>"str" | .tup _=>"tuple" | _=>"list"
def Nu (t:Ty)(d:D)(b:Bool)(j:∀c,t≠.own c)(e:b4 t d=some b):PySem.W.kitOne X.K (.type (O1 d)) (.type (tyName t))=some b:=by
 cases t with
 |own c=>exact absurd rfl (j c)
 |_=>cases d<;>first|(cases (show(none:Option Bool)=some b from e))|(have h:=Ro e;subst h;(first|rfl|decide +kernel))
def Ct (F:RelM fa X.K μ H M)(h:Rep fa X.K μ H d v)(e:b4 t d=some b)(I:Inv X pins σ H s)(r:RelV v u)
 (ek:PySem.W.kitOne X.K (.type (O1 d)) c=some b) (q:∀tk,Q (.bool b) {s with toks:=tk}):wpAny (model X.prog X.w) X.A (call (.builtin "isinstance") [u,c]) Q X.xe s:=by
 cases d with
 |non=>obtain rfl:v=.non:=h;exact ko I r .non ek q
 |bl x=>obtain rfl:v=.bl x:=h;exact ko I r (.bl x) ek q
 |int x=>obtain rfl:v=.int x:=h;exact ko I r (.int x) ek q
 |str x=>obtain rfl:v=.str x:=h;exact ko I r (.str x) ek q
 | tup E=>
   obtain⟨a,L,rfl,j,_⟩:=h;obtain rfl:u=Value.ref a:=r;obtain⟨B,J,⟨o,h1,h2,_⟩,_⟩:=I.tuple j;exact Sb PySem.W.kitx_tuple I.kIn ⟨o,h1,h2⟩ ek (λz=>nomatch z) q
 | lst E=>
   obtain⟨a,L,rfl,j,_⟩:=bS F h rfl;obtain rfl:u=Value.ref a:=r;obtain⟨B,J,⟨o,n,h1,h2,_⟩,_⟩:=I.list j;exact Sb PySem.W.kitx_list I.kIn ⟨o,h1,h2⟩ ek (λz=>nomatch z) q
 | frz E=>
   obtain⟨a,L,rfl,j,_⟩:=bS F h rfl;obtain rfl:u=Value.ref a:=r;obtain⟨B,J,⟨o,n,h1,h2,_⟩,_⟩:=I.list j;exact Sb PySem.W.kitx_list I.kIn ⟨o,h1,h2⟩ ek (λz=>nomatch z) q
 | cell k=>
   obtain⟨a,rfl,hk⟩:=h;obtain⟨E,L,_,j,_⟩:=F.mu_lt hk;obtain rfl:u=Value.ref a:=r;obtain⟨B,J,⟨o,n,h1,h2,_⟩,_⟩:=I.list (cE.of j);exact Sb PySem.W.kitx_list I.kIn ⟨o,h1,h2⟩ ek (λz=>nomatch z) q
 |fn f=>cases e
 |exc y p=>cases e
def NP (fa:Fa)(K:Q9)(t:Ty):List V->Hp->VK->Prop:=λh H Q=>∃μ M d v b,h=[v,.ty (tyName t)]/\RelM fa K μ H M/\Rep fa K μ H d v/\b4 t d=some b/\Q (.bl b) H
def Mp (t:Ty)(y:∀c,t≠.own c):cq X (.builtin "isinstance") (NP fa X.K t):=by
 intro pins s σ H xs B Q I r h;obtain⟨μ,M,d,v,b,rfl,j,z,e,q⟩:=h;obtain⟨u,w,rfl,r1,r2⟩:=vals2 r;obtain rfl:w=Value.type (tyName t):=r2;exact Ct j z e I r1 (Nu t d b y e) λtk=>{.bl b,H,I.tok _,rfl,q}
end
section
variable{fa:Fa}{X:Cx}
abbrev DE (fa:Fa)(X:Cx)(e:Expr)(g:Env->Mem->Res D):Prop:=PE X e (tE fa X.K g)
abbrev DT (fa:Fa)(X:Cx)(e:Expr)(g:Env->Mem->Res Bool):Prop:=PT X e (tT fa X.K g)
abbrev DW (fa:Fa)(X:Cx)(e:Expr)(g:Env->Mem->Res Bool):Prop:=PW X e (tT fa X.K g)
abbrev DA (fa:Fa)(X:Cx)(es:List Expr)(g:Env->Mem->Res (List D)):Prop:=PA X es (tA fa X.K g)
abbrev DS (fa:Fa)(X:Cx)(st:Stmt)(g:Env->Mem->Res Fl):Prop:=PS X st (tF fa X g)
abbrev lC (fa:Fa)(X:Cx)(st:List Stmt)(g:Env->Mem->Res Fl):Prop:=lu X st (tF fa X g)
variable{a b d:Expr}{ga gb gd:Env->Mem->Res D}{pos:Pos}
def Ox {i:Nat}(B:X.N[i]?=some x)(E:wb X.env.scope x)(hd:(x==("__debug__":Str))=false)(j:(x==("__classdict__":Str))=false) :
 DE fa X (.Name x pos) (λZ M=>b7 M (Z[i]?.getD none)):=bA (qf B E hd j) λI H Q ⟨F,Z,M,y,z,h⟩=>by
 obtain⟨d,e,w⟩:=kS h;have u:Z[i]?=some (some d):=by
  cases q:Z[i]? with
  |none=>rw[q] at e;cases e
  |some o=>rw[q] at e;simp at e;rw[e]
 obtain⟨v,h1,h2⟩:=y.at' i d u;exact{v,h1,ba z w h2}
def jF (h:PE X e (tC v))(r:∀μ H,Rep fa X.K μ H dc v):DE fa X e (λ_ M=>.ok dc M):=bA h (by rintro z H Q ⟨μ,y,M,u,j,h⟩;exact ba j h (r μ H))
def OH {i:Int}:DE fa X (.Constant (.int i) j pos) (λ_ M=>.ok (.int i) M):=jF AQ λ_ _=>rfl
def QH:DE fa X (.Constant (.bool i) j pos) (λ_ M=>.ok (.bl i) M):=jF yq λ_ _=>rfl
def Oz:DE fa X (.Constant (.str i) j pos) (λ_ M=>.ok (.str i) M):=jF K9 λ_ _=>rfl
def OD:DE fa X (.Constant .none j pos) (λ_ M=>.ok .non M):=jF Le λ_ _=>rfl
def t2 {Q:Type}{f:D->D->Mem->Res Q}{P:Q->Mem->Prop}{R:V->V->Hp->Prop}(S:bp fa X.K μ H σ Z)(U:RelM fa X.K μ H M)
 (h:af ((ga Z M).bind λx M=>(gb Z M).bind λy M=>f x y M) P)
 (k:∀x y B v u z j,Ext μ H j z->bp fa X.K j z σ Z->RelM fa X.K j z B->Rep fa X.K j z x v->Rep fa X.K j z y u->af (f x y B) P->R v u z) :
 tE fa X.K ga σ H λv L=>tE fa X.K gb σ L λu z=>R v u z:=
 t1 S U h λx M1 v L Y W E I r1 h1=>t1 E I h1 λy B u z j O F J r2 h2=>k x y B v u z j (W.trans O) F J (r1.ext O) r2 h2
def OM (m:Bool)(o:tu)(J:DE fa X a ga)(L:DE fa X b gb):DE fa X (.BinOp a (binOp o) b pos) (λZ M=>(ga Z M).bind λx M=>(gb Z M).bind λy M=>gM m o x y M):=
 bA (NV (OV m o) J L) (by rintro S H Q ⟨R,Z,M,E,I,h⟩;exact t2 E I h λx y B v u P z O F j r1 r2 h2=>{z,B,x,y,j,r1,r2,kc h2 O})
def qm {P:D->Mem->Prop}(h:af ((b7 M r).bind λb M=>.ok (.bl b) M) P):∃b,r=some b/\P (.bl b) M:=by
 obtain⟨b,j,e,q⟩:=aO h;cases r with
 |none=>cases e
 |some u=>cases e;exact{_,rfl,q}
def OK (O:Rm X)(o:j7)(J:DE fa X a ga)(L:DE fa X b gb)(hm:behindInMarks (eW o) b=false) :
 DE fa X (.Compare a [eW o] [b] pos) (λZ M=>(ga Z M).bind λx M=>(gb Z M).bind λy M=>(b7 M (bw o x y M)).bind λb M=>.ok (.bl b) M):=
 bA (w9 (n4 O o) J L hm) λU H Q ⟨S,Z,M,E,I,h⟩=>t2 E I h λx y B v u R z P F j r1 r2 h2=>by
  obtain⟨b,e,q⟩:=qm h2;exact{z,B,x,y,b,j,r1,r2,e,ba j (q.ext P) rfl}
def Mz (W:Rm X)(o:j7)(S:DE fa X a ga)(U:DE fa X b gb)(hm:behindInMarks (eW o) b=false) :
 DT fa X (.Compare a [eW o] [b] pos) (λZ M=>((ga Z M).bind λx M=>(gb Z M).bind λy M=>(b7 M (bw o x y M)).bind λb M=>.ok (.bl b) M).bind λx M=>b7 M (kC M x)):=
 mH (wX (n4 W o) S U hm) λσ H Q ⟨μ,Z,M,O,R,h⟩=>by
  obtain⟨z,I,e,q⟩:=aO h;have L:af ((ga Z M).bind λx M=>(gb Z M).bind λy M=>(b7 M (bw o x y M)).bind λb M=>.ok (.bl b) M) (λd M=>d=z/\M=I):=by rw[e];exact⟨rfl,rfl⟩
  refine t2 O R L λx y F v u E B Y P j r1 r2 h2=>?_;obtain⟨b,e1,e2,J⟩:=qm h2;subst e2 J;exact{B,F,x,y,b,j,r1,r2,e1,b,rfl,q E B Y j}
def Hd (F:∀Z M x M',g Z M=.ok x M'->∃k,x=.bl k)(h:tT fa X.K (λZ M=>(g Z M).bind λx M=>b7 M (kC M x)) σ H Q) :
 tE fa X.K g σ H (λx u=>∃k,x=.bl k/\Q k u):=by
 obtain⟨L,Z,M,B,E,h⟩:=h;obtain⟨x,z,e,q⟩:=aO h;obtain⟨k,rfl⟩:=F Z M x z e;refine{L,Z,M,B,E,?_};rw[e];intro v y j J I r1;obtain rfl:v=.bl k:=r1;exact{k,rfl,q y j J I}
def F8 {o O:j7}{L:Env->Mem->Res D}(S:L2.St)(H:Hp)(Q:VK):tE fa X.K (λZ M=>(ga Z M).bind λx M=>(gb Z M).bind λy M=>(b7 M (bw o x y M)).bind λk M=>
 if k then(L Z M).bind λz M=>(b7 M (bw O y z M)).bind λb M=>.ok (.bl b) M else .ok (.bl false) M) S H Q->uu (hG fa X.K o) (hG fa X.K O) (tE fa X.K ga) (tE fa X.K gb) (tE fa X.K L) S H Q:=λ⟨μ,Z,M,hE,hM,h⟩=>by
 refine t2 hE hM h λx y U v u H2 I P F j r1 r2 h2=>?_;obtain⟨k,M3,e,q⟩:=aO h2;cases E:bw o x y U with
 |none=>rw[E] at e;cases e
 | some k'=>
   rw[E] at e;cases e;refine{I,_,x,y,k,j,r1,r2,E,k,rfl,?_};cases k with
   |false=>exact ba j (bq.ext q P) rfl
   | true=>
     refine t1 F j q λz W w H4 J R hE4 B r4 h4=>?_;obtain⟨b,Y,q4⟩:=qm h4;exact{J,W,y,z,b,B,r2.ext R,r4,Y,ba B (q4.ext (P.trans R)) rfl}
def OL (j:Rm X)(o h:j7)(u:DE fa X a ga)(v:DE fa X b gb)(B:DE fa X d gc)(hm:lastMarks [eW o,eW h] [b,d]=false) :
 DE fa X (.Compare a [eW o,eW h] [b,d] pos) (λZ M=>(ga Z M).bind λx M=>(gb Z M).bind λy M=>(b7 M (bw o x y M)).bind λk M=>
  if k then(gc Z M).bind λz M=>(b7 M (bw h y z M)).bind λb M=>.ok (.bl b) M else .ok (.bl false) M):=bA (Dp (n4 j o) (n4 j h) u v B hm) F8
def Du {x:D}(h:((b7 M r).bind λb M=>Res.ok (.bl b) M)=.ok x M'):∃k,x=.bl k:=by
 cases r with
 |none=>cases h
 |some b=>cases h;exact⟨b,rfl⟩
def eX {j u:Type}{r:Res j}{f:j->Mem->Res u}{x:u}(h:r.bind f=.ok x M):∃a M1,r=.ok a M1/\f a M1=.ok x M:=by
 cases r with
 |ok a M1=>exact⟨a,M1,rfl,h⟩
 |err=>cases h
 |bad=>cases h
def MA (v:Rm X)(o j:j7){u:Env->Mem->Res D}(B:DE fa X a ga)(E:DE fa X b gb)(F:DE fa X d u)(hm:lastMarks [eW o,eW j] [b,d]=false) :
 DT fa X (.Compare a [eW o,eW j] [b,d] pos) (λZ M=>((ga Z M).bind λx M=>(gb Z M).bind λy M=>(b7 M (bw o x y M)).bind λk M=>
  if k then(u Z M).bind λz M=>(b7 M (bw j y z M)).bind λb M=>.ok (.bl b) M else .ok (.bl false) M).bind λx M=>b7 M (kC M x)):=
 mH (Dj (n4 v o) (n4 v j) B E F hm) λI H Q h=>F8 I H _ (Hd (λZ M x J e=>by
  obtain⟨S,L,_,e⟩:=eX e;obtain⟨U,O,_,e⟩:=eX e;obtain⟨k,P,_,e⟩:=eX e;cases k with
  |false=>cases e;exact{_,rfl}
  | true=>
    obtain⟨W,R,_,e⟩:=eX e;exact Du e) h)
def OE (B:DE fa X a ga):DE fa X (.UnaryOp .USub a pos) (λZ M=>(ga Z M).bind λx M=>match x with|.int i=>.ok (.int (-i)) M|_=>.bad):=
 bA (Ft zI B) λO H Q ⟨L,Z,M,u,z,h⟩=>t1 u z h λx J v I F E y j r1 h1=>by
  cases x with
  |int i=>exact{i,r1,ba j (bq.ext h1 E) rfl}
  |_=>exact h1.elim
def ON {rest:List Expr}(I:DE fa X a ga)(J:DE fa X (.BoolOp .And (b::rest) pos) gb):DE fa X (.BoolOp .And (a::b::rest) pos) (λZ M=>(ga Z M).bind λx M=>match x with
 |.bl true=>gb Z M
 |.bl false=>.ok (.bl false) M
 |_=>.bad):=
 bA (Li I J) λP H Q ⟨O,Z,M,E,F,h⟩=>t1 E F h λx B v L y z u j r1 h1=>by
  cases x with
  | bl k=>
    refine{k,r1,?_};cases k with
    |true=>exact{y,Z,B,u,j,kc h1 z}
    |false=>exact ba j (bq.ext h1 z) rfl
  |_=>exact h1.elim
def QG {rest:List Expr}(I:DE fa X a ga)(J:DE fa X (.BoolOp .Or (b::rest) pos) gb):DE fa X (.BoolOp .Or (a::b::rest) pos) (λZ M=>(ga Z M).bind λx M=>match x with
 |.bl true=>.ok (.bl true) M
 |.bl false=>gb Z M
 |_=>.bad):=
 bA (NU I J) λP H Q ⟨O,Z,M,E,F,h⟩=>t1 E F h λx B v L y z u j r1 h1=>by
  cases x with
  | bl k=>
    refine{k,r1,?_};cases k with
    |true=>exact ba j (bq.ext h1 z) rfl
    |false=>exact{y,Z,B,u,j,kc h1 z}
  |_=>exact h1.elim
def Gi (h:DE fa X a ga):DE fa X (.BoolOp op [a] pos) ga:=Lb h
def OC (B:DE fa X a ga):DE fa X (.UnaryOp .Not a pos) (λZ M=>(ga Z M).bind λx M=>match x with|.bl k=>.ok (.bl (!k)) M|_=>.bad):=
 bA (Lc B) λO H Q ⟨L,Z,M,u,z,h⟩=>t1 u z h λx J v I F E y j r1 h1=>by
  cases x with
  |bl k=>exact{k,r1,ba j (bq.ext h1 E) rfl}
  |_=>exact h1.elim
variable{ta tb:Env->Mem->Res Bool}
def I0 (h:DT fa X a ta):DW fa X (.BoolOp .And [a] pos) ta:=HZ h
def Mw (h:DT fa X a ta):DW fa X (.BoolOp .Or [a] pos) ta:=KS h
def Pa {Q:Bool->Hp->Prop}(x:Ext μ H μ' H')(h:af b' λb M'=>∀u j,Ext μ H j u->RelM fa X.K j u M'->Q b u):af b' λb M'=>∀u j,Ext μ' H' j u->RelM fa X.K j u M'->Q b u:=
 aN h λb M q u j y m=>q u j (x.trans y) m
def Mx {rest:List Expr}(I:DT fa X a ta)(J:DW fa X (.BoolOp .And (b::rest) pos) tb):DW fa X (.BoolOp .And (a::b::rest) pos) (λZ M=>(ta Z M).bind λk M=>if k then tb Z M else .ok false M):=
 AK (KU I J) λO H Q ⟨L,Z,M,E,F,h⟩=>Ac E F h λk B z u y v j h1=>by
  cases k with
  |true=>exact{u,Z,B,v,j,Pa y h1}
  |false=>exact h1 z u y j
def Oq {rest:List Expr}(I:DT fa X a ta)(J:DW fa X (.BoolOp .Or (b::rest) pos) tb):DW fa X (.BoolOp .Or (a::b::rest) pos) (λZ M=>(ta Z M).bind λk M=>if k then .ok true M else tb Z M):=
 AK (NS I J) λO H Q ⟨L,Z,M,E,F,h⟩=>Ac E F h λk B z u y v j h1=>by
  cases k with
  |true=>exact h1 z u y j
  |false=>exact{u,Z,B,v,j,Pa y h1}
def My (E:DT fa X a ta):DT fa X (.UnaryOp .Not a pos) (λZ M=>(ta Z M).bind λk M=>.ok (!k) M):=
 mH (KW E) (by rintro L H Q ⟨J,Z,M,y,B,h⟩;exact Ac y B h λk I v u F z j h1=>h1 v u F j)
def Er (F:DE fa X a ga)(he:∀whole,isTrue a X.env whole=(do let v <- whole;standAt a.pos;holding [v] (truthy v))):DT fa X a (λZ M=>(ga Z M).bind λx M=>b7 M (kC M x)):=
 mH (Di F he) λO H Q ⟨L,Z,M,z,E,h⟩=>t1 z E h λx J v y u I B j r1 h1=>by
  obtain⟨k,e,q⟩:=kS h1;exact{k,Pz j r1 e,q y u I j}
def OG (J:DT fa X c gc)(F:DE fa X a ga)(I:DE fa X b gb):DE fa X (.IfExp c a b pos) (λZ M=>(gc Z M).bind λk M=>if k then ga Z M else gb Z M):=
 bA (u2 J F I) λP H Q ⟨O,Z,M,B,E,h⟩=>Ac B E h λk y L v z j u h1=>by
  cases k with
  |true=>exact{v,Z,y,j,u,kc h1 z}
  |false=>exact{v,Z,y,j,u,kc h1 z}
def OI (J:DE fa X a ga)(L:DE fa X b gb)(hs:lr b):DE fa X (.Subscript a b pos) (λZ M=>(ga Z M).bind λx M=>(gb Z M).bind λy M=>b7 M (c4 x y M)):=
 bA (Fu Oc J L hs) λS H Q ⟨R,Z,M,E,I,h⟩=>t2 E I h λx y B v u P z O F j r1 r2 h2=>by
  obtain⟨d,e,q⟩:=kS h2;exact{z,B,x,y,d,j,r1,r2,e,q.ext O}
def DO (fa:Fa)(X:Cx)(e:Option Expr)(z:Bool)(g:Env->Mem->Res D):Prop:=PO X e λB H Q=>∃u v M,bp fa X.K u H B v/\RelM fa X.K u H M/\af (g v M) λd y=>∃o,cg z d=true/\qh d=some o/\∀j h,Ext u H h j->RelM fa X.K h j y->Q o j
def Jd:DO fa X none false (λ_ M=>.ok .non M):=λh s v H Q I ⟨u,z,M,y,j,o,_,e,k⟩=>by
 cases e;exact Ie h s v H Q I (k H u .refl j)
def Jc (E:DE fa X a ga):DO fa X (some a) true ga:=λj s L H Q I ⟨F,J,M,z,B,h⟩=>Ic E j s L H Q I {F,J,M,z,B,aN h λd O ⟨o,p,e,k⟩ v y u x m r=>by
 cases d with
 |int i=>cases e;exact{i,r,k y u x m}
 |_=>cases p}
def part_of {d:D}(h:cg hp d=true):∃o,qh d=some o:=by
 cases hp<;>cases d<;>first|exact{_,rfl}|cases h
set_option tactic.hygienic true in
def OA (m hl hh:Bool){lo hi:Option Expr}(ha:DE fa X a ga)(F:DO fa X lo hl gl)(E:DO fa X hi hh gh):DE fa X (.Subscript a (.Slice lo hi none p2) pos)
 (λZ M=>(ga Z M).bind λx M=>(gl Z M).bind λl M=>(gh Z M).bind λh M=>if cg hl l&&cg hh h then ez m x l h M else .bad):=
 bA (u1 (HG m) ha F E) λσ H Q ⟨μ,Z,M,hE,hM,h⟩=>t1 hE hM h λx U v H1 J x1 j y r1 h1=>by
  obtain⟨l,W,e2,h2⟩:=aO h1;obtain⟨u,Y,e3,h3⟩:=aO h2;split at h3
  ·next c=>
   rw[Ra] at c;obtain⟨ol,P⟩:=part_of c.1;obtain⟨ou,R⟩:=part_of c.2;refine{J,Z,U,j,y,?_};rw[e2];refine{ol,c.1,P,λH2 L I z=>{L,Z,W,j.ext I,z,?_}};rw[e3];exact{ou,c.2,R,λH3 O S B=>{O,Y,x,l,u,B,(r1.ext I).ext S,P,R,kc h3 ((x1.trans I).trans S)}}
  ·exact h3.elim
def MO:DA fa X [] (λ_ M=>.ok [] M):=AW dz (by rintro z H Q ⟨u,y,M,v,j,h⟩;exact h [] H u .refl j rfl)
def Jm (P:DE fa X a ga)(hs:DA fa X es gs)(I:starEach (a::es) X.env=(false,eval a X.env)::starEach es X.env) :
 DA fa X (a::es) (λZ M=>(ga Z M).bind λx M=>(gs Z M).bind λxs M=>.ok (x::xs) M):=
 AW (bM P hs I) (by rintro σ H Q ⟨μ,Z,M,J,O,h⟩;exact t1 J O h λx W v U S R j u r1 h1=>uw j u h1 λxs Y B F z E L y r2 h2=>h2 (v::B) F z (R.trans E) y {v,B,rfl,r1.ext E,r2})
set_option tactic.hygienic true in
def Oy (hs:DA fa X es gs):DE fa X (.Tuple es k pos) (λZ M=>(gs Z M).bind lQ):=
 bA (K8 hs) λL H Q ⟨J,Z,M,u,y,h⟩=>uw u y h λxs F I E B z v j r1 h1=>by
  unfold lQ at h1;split at h1
  ·next c=>exact{by rw[r1.length,<- dh];exact c,iz j r1 (bq.ext h1 z)}
  ·exact h1.elim
def OF (m:Bool)(hs:DA fa X es gs):DE fa X (.List es pos) (λZ M=>(gs Z M).bind (bB m)):=
 bA (Lf hs) λL H Q ⟨J,Z,M,u,y,h⟩=>uw u y h λxs F I E B z v j r1 h1=>by
  obtain⟨c,k⟩:=gF j r1 (kc h1 z);exact{by rw[r1.length,<- dh];exact c,k}
end
def m9 (o:Obj)(f:Array Rg->Array Rg):(o.mapFields f).dict=o.dict:=by
 obtain⟨c,d,h,sl⟩:=o;cases h<;>rfl
section
variable{P:R0}{w:RS}{M:Model}{A:Sw}{E:Rg->Rl->Prop}{base:Heap}{env:SH}{outer:List SH}{L a C:Addr}{dx:Option Addr}{New:Addr->Prop}{H:Hp}{s:Rl}{Q:Unit->Rl->Prop}
def wA (hfr:A.frames=some (env::outer))(hl:s.heap.FunFrames base (env::outer))(hf:env.frame=some L)
 (he:s.heap.get? a=some oe) (hd:oe.data=.fields vs) (hsz:1<vs.size)
 (h:∀S T oT ts,(∀b o,b∉gm (env::outer)->b≠a->s.heap.get? b=some o->S.get? b=some o)->(∀b o,b≠a->s.heap.get? b=some o->∃sl,S.get? b=some {o with slots:=sl})->s.heap.objs.size<=T->T≠a->
  S.get? a=some (oe.mapFields (·.setIfInBounds 1 (.ref T)))->S.get? T=some oT->oT.data=.fields ts->ts[3]?=some .none->Q () {s with heap:=S}) :
 wpAny M A (do let f <- frameOf env;let pl <- entryPlaceOf L had;let b <- EntryCells.newEntry head f .none (rawInt L) .none pl;setField (.ref a) 1 b) (λ_ s'=>wpAny M A (setFlight (.ref a) none) Q E s') E s:=by
 have U:a∉gm (env::outer):=λhm=>by
  obtain⟨_,o,ho,hnf⟩:=hl.mem hm;rw[he] at ho;cases ho;exact hnf vs hd
 refine tqa (wpAny_frameOf_fun hfr hl hf λj v=>?_);refine tqa (wpAny_entryPlaceOf λpl W=>?_);refine tqa (wpAny_newObj_type ?_ (W.sizeOk5 _ _ _ _ _));have F:j.get? a=some oe:=(v.2.1 a U).trans he;generalize ho:({cls:=.type "traceback",dict:=none,data:=.fields ([head,.ref L,.none,rawInt L,.none]++(if pl.isEmpty then List.replicate 6 Value.none else pl)).toArray}:Obj)=o;have O:o.data=.fields ([head,.ref L,.none,rawInt L,.none]++(if pl.isEmpty then List.replicate 6 Value.none else pl)).toArray:=by rw[<- ho]
 have I:=Rf o F;refine wpAny_setField I hd hsz ?_;have R:=Sr (Rz F);have B:=Sy hd (·.setIfInBounds 1 (Value.ref j.objs.size));have J:=SJ (Obj.mapFields (·.setIfInBounds 1 (Value.ref j.objs.size))) I (Tq B);have y:=(Sf (j.push o) (Obj.mapFields (·.setIfInBounds 1 (Value.ref j.objs.size))) (So R)).trans (RB j (Tq O));refine tqa (tqf J B (x:=.ref j.objs.size) (by simp[hsz]) ?_)
 rw[if_pos `s]
 refine wpAny_setField y O (by simp only[Ru,RO,R1,List.length_nil]<;>omega) ?_
 have keep:∀b u,b≠a->j.get? b=some u->(((j.push o).update a (Obj.mapFields (·.setIfInBounds 1 (Value.ref j.objs.size)))).update j.objs.size (Obj.mapFields (·.setIfInBounds 3 ((none:Option Addr).elim Value.none λf=>rawInt f)))).get? b=some u:=λb u z Y=>by
  have hbT:=Sr (Rz Y);rw[Sf _ _ hbT,Sf _ _ (So z)];exact Rf _ Y
 refine h _ j.objs.size _ _ (λb u Y z q=>keep b u z ((v.2.1 b Y).trans q)) (λb u z q=>?_) (Nat.le_of_eq v.1.symm) R ?_ (SJ _ y (Tq (Sy O _))) (Sy O _) ?_
 ·obtain⟨sl,e⟩:=v.2.2 b u q;exact{sl,keep b _ z e}
 ·rw[Sf _ _ R];exact J
 ·first|(simp;done)|(rcases W with rfl|⟨_,_,_,_,_,_,_,rfl⟩<;>simp)
def xg (hfr:A.frames=some (env::outer))(hl:s.heap.FunFrames base (env::outer))(hf:env.frame=some L)(hF:nt New C dx a s.heap H)(hN:∀b,s.heap.objs.size<=b->New b)(hok:eD P w H s.heap)(J:∀b∈gm (env::outer),H b=none)
 (h:∀B ch,(∀b∈ch,New b/\H b=none/\∃o vs,s.heap.get? b=some o/\o.data=.fields vs)->Un (gm (env::outer)) ch H H s.heap B->eD P w H B->nt New C dx a B H->Q () {s with heap:=B}) :
 wpAny M A (noteFrame (.ref a) env) (λ_ s1=>wpAny M A (setFlight (.ref a) none) Q E s1) E s:=by
 obtain⟨na,ha,oe,vs,he,hc,Y,hd,tr⟩:=hF;have U:∀B ch,(∀b∈ch,New b/\H b=none/\∃o vs,s.heap.get? b=some o/\o.data=.fields vs)->(∀b o,b∉gm (env::outer)->b∉ch->s.heap.get? b=some o->B.get? b=some o)->(∀b o,b∉ch->s.heap.get? b=some o->∃sl,B.get? b=some {o with slots:=sl})->nt New C dx a B H->Q () {s with heap:=B}:=λB ch W keep slot fl=>by
  refine h B ch W {λb o q _ j F=>keep b o j F q,λb o q _ _ F=>slot b o F q,λ_ _ _ n _=>n,λb o q F=>let⟨sl,e⟩:=slot b o F q;{_,e},λ_ _ e=>e,λ_ _ _ e=>e,λb ps e=>{#[],by rw[e];simp}} (λb u e=>(hok b u e).stay (λc v hc q=>?_) (λ_ q=>q) λ_ _ q=>q) fl
  have nn:H c≠none:=by rcases hc with z|z<;>(intro z';first|(rw[z,e] at z';cases z')|(rw[z] at z';cases z'))
  exact keep c v (λz=>nn (J c z)) (λz=>nn (W c z).2.1) q
 unfold noteFrame;simp only[hf];rcases tr with h1|⟨T,oT,ts,h1,hTa,nT,hT0,hT,I,h3⟩
 ·refine tqa (tqf he hd h1 ?_);rw[if_neg `d]
  refine wA hfr hl hf he hd (RZ.mp h1).1 λB T oT ts k1 k2 R k4 k5 k6 k7 k8=>?_;refine U B [a] (λb j=>?_) (λb o j F q=>k1 b o j (λz=>F (by simp[z])) q) (λb o F q=>k2 b o (λz=>F (by simp[z])) q) {na,ha,_,_,k5,?_,?_,Sy hd _,.inr {T,oT,ts,by simp[(RZ.mp h1).1],k4,hN _ R,hok.fresh R,k6,k7,k8}}
  ·rcases RA.mp j with rfl
   exact⟨na,ha,oe,vs,he,hd⟩
  ·rw[Obj.cls_mapFields];exact hc
  ·rw[m9];exact Y
 ·refine tqa (tqf he hd h1 ?_);rw[if_pos `s]
  refine tqa (tqf hT I h3 ?_);rw[if_neg (by simp[rawInt])]
  refine tqa (wpAny_setField hT I (RZ.mp h3).1 ?_);have y:∀b,b≠T->(s.heap.update T (Obj.mapFields (·.setIfInBounds 3 Value.none))).get? b=s.heap.get? b:=λb j=>Sf _ _ (So j);have S:∀b o,s.heap.get? b=some o->(∀vs,o.data≠.fields vs)->b≠T:=λb o j O q=>by
   rw[q,hT] at j;cases j;exact O ts I
  have hz:(s.heap.update T (Obj.mapFields (·.setIfInBounds 3 Value.none))).objs.size=s.heap.objs.size:=Heap.size_after_update ..;refine wA hfr (hl.of_keeps λb o j O=>{o,(y b (S b o j O)).trans j,rfl}) hf ((y a (So hTa)).trans he) hd (RZ.mp h1).1 λB T' oT' ts' k1 k2 R k4 k5 k6 k7 k8=>?_;have R:s.heap.objs.size<=T':=by rw[<- hz];exact R
  refine U B [a,T] (λb j=>?_) (λb o j F q=>k1 b o j (λz=>F (by simp[z])) ((y b (λz=>F (by simp[z]))).trans q)) (λb o F q=>k2 b o (λz=>F (by simp[z])) ((y b (λz=>F (by simp[z]))).trans q)) {na,ha,_,_,k5,?_,?_,Sy hd _,.inr {T',oT',ts',by simp[(RZ.mp h1).1],k4,hN _ R,hok.fresh R,k6,k7,k8}}
  ·rcases Rv.mp j with rfl|j
   ·exact⟨na,ha,oe,vs,he,hd⟩
   ·rcases RA.mp j with rfl
    exact⟨nT,hT0,oT,ts,hT,I⟩
  ·rw[Obj.cls_mapFields];exact hc
  ·rw[m9];exact Y
end
def fU (P:R0)(w:RS):we:=λouter H s E e s'=>∃a C dx H',e=.ref a/\s'.os=s.os/\AllBare s'.gens/\Un (gm outer) [] H H' s.heap s'.heap/\eD P w H' s'.heap/\nt (λb=>s.heap.get? b=none) C dx a s'.heap H'/\E (.ref C) dx H'
def nt.imp (f:nt New C dx a h H)(i:∀b,New b->New' b):nt New' C dx a h H:=by
 obtain⟨u,j,o,F,h1,h2,h3,h4,B⟩:=f;refine{i _ u,j,o,F,h1,h2,h3,h4,?_};rcases B with t|⟨T,v,ts,t1,t2,y,z⟩
 ·exact .inl t
 ·exact .inr {T,v,ts,t1,t2,i _ y,z}
section
variable{P:R0}{w:RS}{K:Q9}{mg:Str->Option Rg}{base:Heap}{N:List Str}{qual:Str}{scope:Scope}{f:Addr}{cd:Rg}{A:Sw}{outer:List SH}{s:Rl}{H:Hp}{E:XK}
def DV (I:Inv (eV (fU P w) P w K mg base N qual scope f cd A outer s H E) pins σ H' s')(W:nt (pM (eV (fU P w) P w K mg base N qual scope f cd A outer s H E)) C dx a s'.heap H')(U:E (.ref C) dx H') :
 (eV (fU P w) P w K mg base N qual scope f cd A outer s H E).xe (.ref a) s':=by
 have F:=I.stack;have J:=I.sz;have Y:∀b o,s.heap.get? b=some o->b∈gm (envOfC qual scope s.heap.objs.size f cd::outer)->b∈gm outer:=λb o q y=>by
  rcases Rv.mp (y) with e|e
  ·exact absurd (Rz q) (by rw[e];exact Sv _)
  ·exact e
 unfold eV;refine tqa (xg (New:=λb=>s.heap.get? b=none) I.ok.frames F rfl (W.imp λb z=>z.1) (λb z=>Tv (Rp J z)) I.hok I.stkFree λh' R B u hok fl=>?_);have v:∀b o,s.heap.get? b=some o->b∉R:=λb o q z=>by have:=(B b z).1;rw[q] at this;cases this
 have h:=I.base;refine{a,C,dx,H',rfl,I.os,I.bare,{λb o q n y j=>?_,λb o q n y j=>?_,h.free,λb o q j=>?_,h.tups,h.frzs,h.tbls},hok,fl,U}
 ·exact u.keep b o (h.keep b o q n y j) (h.free b o q n j) (λz=>y (Y b o q z)) (v b o q)
 ·obtain⟨sl,e⟩:=h.slot b o q n y j;obtain⟨O,S⟩:=u.any e (h.free b o q n j) (v b o q);exact⟨O,S⟩
 ·obtain⟨o',e⟩:=h.there b o q j;exact u.there b o' e (v b o q)
end
section
variable{X:Cx}{pins:List (Addr×Obj)}{σ:L2.St}{H H':Hp}{s s':Rl}{E:XK}{e:Rg}
def mW (I:Inv X pins σ H s)(v:X.ex=[])(h:fU X.prog X.w X.stack H s E e s'):∃a C dx H',e=.ref a/\Inv X pins σ H' s'/\nt (pM X) C dx a s'.heap H'/\E (.ref C) dx H':=by
 obtain⟨a,C,dx,H',rfl,os,bare,un,hok,fl,q⟩:=h;refine{a,C,dx,H',rfl,I.call' os un hok bare (λb z=>absurd z `s),fl.imp λb z=>{?_,λp u e=>?_},q}
 ·cases e:X.s₀.heap.get? b with
  |none=>rfl
  | some o=>
    obtain⟨y,j⟩:=I.base.there b o e (by rw[v];simp)
    rw[z] at j;cases j
 ·have:=(I.pin p (Sx _ u)).1;rw[e,z] at this;cases this
def D8 (I:Inv X pins σ H s)(j:∀b∈ch,X.s₀.heap.get? b=none/\(∃o vs,s.heap.get? b=some o/\o.data=.fields vs)/\∀p∈X.pn++pins,p.1≠b)(u:Un (gm X.stack) ch H H s.heap h')(hok:eD X.prog X.w H h'):Inv X pins σ H {s with heap:=h'}:=by
 obtain⟨m,⟨o,es,ep,ho,hd,r⟩,hl⟩:=id I.loc;have J:X.env.locals∉ch:=λz=>by
  obtain⟨R,vs,e,d⟩:=(j _ z).2.1;rw[ho] at e;cases e;rw[hd] at d;cases d
 have F:∀x c,X.env.cells.lookup x=some c->c∉ch:=λx c e z=>by
  obtain⟨R,vs,U,d⟩:=(j _ z).2.1;obtain⟨v,o2,e2,d2⟩:=I.cell x c e;rw[e2] at U;cases U;rw[d2] at d;cases d
 have n0:∀b o,X.s₀.heap.get? b=some o->b∉ch:=λb o e z=>by rw[(j b z).1] at e;cases e
 have O:∀b o,X.s₀.heap.get? b=some o->b∉X.fs->b∉gm X.stack:=λb o e n z=>(Rv.mp (I.stkSub b z)).elim (λq=>absurd (Rz e) (by rw[q];exact Nat.not_lt.mpr I.ok.above)) n
 obtain⟨sl,hL⟩:=u.any ho I.free J;have h:∀x c,X.env.cells.lookup x=some c->∀v,s.heap.IsCell c v->h'.IsCell c v:=λx c e v ⟨o,ho,hd⟩=>by
  obtain⟨sl,q⟩:=u.any ho (I.freeC x c e) (F x c e);exact{_,q,hd}
 refine{I.ok,I.os,I.bare,{λb o e n B y=>?_,λb o e n B y=>?_,I.base.free,λb o e y=>?_,I.base.tups,I.base.frzs,I.base.tbls},{m,{_,es,ep,hL,hd,r},λi x v e1 e2 e3=>?_},λx c e=>?_,I.free,I.freeC,λp W=>?_,hok,I.len}
 ·exact u.keep b o (I.base.keep b o e n B y) (I.base.free b o e n y) (O b o e B) (n0 b o e)
 ·obtain⟨sl,e1⟩:=I.base.slot b o e n B y;obtain⟨S,e2⟩:=u.any e1 (I.base.free b o e n y) (n0 b o e);exact⟨S,e2⟩
 ·obtain⟨R,e1⟩:=I.base.there b o e y;exact u.there b R e1 (n0 b o e)
 ·obtain⟨u',r',l⟩:=hl i x v e1 e2 e3;refine{u',r',?_};rcases l with l|⟨k,c,e,z⟩
  ·exact .inl l
  ·exact .inr {k,c,e,h x c e _ z}
 ·obtain⟨v,z⟩:=I.cell x c e;exact{v,h x c e v z}
 ·obtain⟨e,n,ne,Y,d⟩:=I.pin p W;exact{u.keep p.1 p.2 e n (λz=>(Rv.mp (I.stkSub _ z)).elim ne Y) λz=>(j _ z).2.2 p W rfl,n,ne,Y,d}
def sN (I:Inv X pins σ H s)(J:X.ex=[])(hn:H a=none)(O:X.s₀.heap.get? a=none)(hf:∃ob vs,s.heap.get? a=some ob/\ob.data=.fields vs)(R:∀p∈X.pn++pins,p.1≠a)(new:d9 X.prog X.w (upd H a o) s.heap a o):Inv X pins σ (upd H a o) s:=by
 obtain⟨ob,vs,j,hd⟩:=hf;have ne:∀b u,H b=some u->b≠a:=λb u e=>aX e hn;refine{I.ok,I.os,I.bare,{I.base.keep,I.base.slot,λb o e n J=>?_,I.base.there,λb xs e=>?_,λb o u e=>?_,λb ps e=>?_},I.loc,I.cell,?_,λx c e=>?_,λp y=>?_,λb u e=>?_,I.len}
 ·rw[ay (λz=>by rw[z,O] at e;cases e)];exact I.base.free b o e n J
 ·have q:=I.base.tups b xs e;rw[ay (ne b _ q)];exact q
 ·have q:=I.base.frzs b o u e;rw[ay (ne b _ q)];exact q
 ·obtain⟨m,q⟩:=I.base.tbls b ps e;exact{m,by rw[ay (ne b _ q)];exact q}
 ·obtain⟨m,⟨Y,U,S,ho,h,_⟩,_⟩:=id I.loc;rw[ay (λz=>by rw[z,j] at ho;cases ho;rw[hd] at h;cases h)];exact I.free
 ·obtain⟨v,W,e2,B⟩:=I.cell x c e;rw[ay (λz=>by rw[z,j] at e2;cases e2;rw[hd] at B;cases B)];exact I.freeC x c e
 ·obtain⟨e,n,r⟩:=I.pin p y;exact{e,by rw[ay (R p y)];exact n,r}
 ·by_cases F:b=a
  ·subst F;rw[bI] at e;cases e;exact new
  ·rw[ay F] at e;exact(I.hok b u e).stay (λc v _ q=>q) (λc q=>by rw[ay (ne c _ q)];exact q) λc xs q=>by rw[ay (ne c _ q)];exact q
end
def hR {h:Type}(r:Res h)(k:h->Mem->Prop)(j:D->Mem->Prop):Prop:=match r with
 |.ok a M=>k a M
 |.err x M=>j x M
 |.bad=>False
def va {j:Type}{r:Res j}{k:j->Mem->Prop}{u:D->Mem->Prop}(h:af r k):hR r k u:=by
 cases r with
 |ok a M=>exact h
 |err=>exact h.elim
 |bad=>exact h
def Gx (fa:Fa)(K:Q9)(μ:Mu)(H:Hp)(E:XK)(x:D)(M':Mem):Prop:=∀C dx c p H' h,Ext μ H h H'->RelM fa K h H' M'->x=.exc c p->fa (d7 c)=some C->rX H' c dx p->E (.ref C) dx H'
def qg:Passes (fU P w) X E0:=λ_ _ _ _ _ _ _ h=>let{_,_,_,_,_,_,_,_,_,_,z}:=h;z.elim
def uH (fa:Fa)(K:Q9)(k:Nat)(call:List D->Mem->Res D):Sp:=λu H Q E=>u.length=k/\∃h M j,RelM fa K h H M/\aH fa K h H j u/\hR (call j M) (bq fa K h H Q) (Gx fa K h H E)
def et (fa:Fa)(P:R0)(w:RS)(K:Q9)(mg:Str->Option Rg)(base:Heap)(n:Nat)(f:Nat)(call:List D->Mem->Res D):Prop:=
 (∀h M,call h M=.bad)\/∃(ad:Addr) (j:FuncData) (ps:List Str),fa f=some ad/\PySem.W.keepIn K (.ref ad)=true/\Binds K j ps []/\(∀h M,h.length≠ps.length->call h M=.bad)/\iw P w K mg base (fU P w) (2*n+4) ad j ps (uH fa K ps.length call)/\((fa (500+f)).isSome=true->Binds K j ps [.none])
section
variable{fa:Fa}{X:Cx}{a b d:Expr}{ga gb gd:Env->Mem->Res D}{pos p:Pos}{es:List Expr}{gs:Env->Mem->Res (List D)}{n:Nat}
def v5 {call:List D->Mem->Res D}{r:Res (List D)}(j:∀ds M,call ds M=.bad)(h:af (r.bind λds M=>call ds M) P):False:=by
 obtain⟨ds,M,_,q⟩:=aO h;rw[j] at q;exact q
def ng {call:List D->Mem->Res D}(v:bp fa X.K μ H σ Z)(z:RelM fa X.K μ H M)(h:af ((gs Z M).bind λds M=>call ds M) (bq fa X.K μ H Q))
 (hk:∀ds M1,ds.length≠k->call ds M1=.bad):yb (uH fa X.K k call) [] E0 (tA fa X.K gs) σ H Q:=by
 refine uw v z h λds M1 F E u B y j r1 h1=>?_;rw[S1];refine{?_,u,M1,ds,j,r1,va (kc h1 B)};rw[r1.length];by_cases hl:ds.length=k
 ·exact hl
 ·rw[hk ds M1 hl] at h1;exact h1.elim
def MT {call:List D->Mem->Res D}(C:et fa X.prog X.w X.K X.mg X.base n f call)(hr:bL (2*n+4) X.A)(E:Gl X x)(hm:∀ad,fa f=some ad->X.mg x=some (.ref ad))(hs:DA fa X (a::es) gs)
 (j:(x==("__debug__":Str))=false) (he:starEach (a::es) X.env=(false,eval a X.env)::starEach es X.env) (u:(backTo pos (starEach es X.env)).any (·.1)=false) :
 DE fa X (.Call (.Name x p) (a::es) [] pos) (λZ M=>(gs Z M).bind λds M=>call ds M):=by
 rcases C with B|⟨ad,O,ps,h1,h2,h3,h4,F,_⟩
 ·exact(by rintro z s L H Q I ⟨J,Z,M,v,y,h⟩;exact(v5 B h).elim)
 ·exact bA (Ij F hr E (hm ad h1) h2 h3 .nil qg hs j he u) (by rintro L H Q ⟨J,Z,M,v,y,h⟩;exact ng v y h h4)
def Jo {i:Nat}{x:Str}{call:Nat->List D->Mem->Res D}(C:∀f,et fa X.prog X.w X.K X.mg X.base n f (call f))(hr:bL (2*n+4) X.A)(hN:X.N[i]?=some x)(hv:wb X.env.scope x)(hs:DA fa X (a::es) gs)
 (hd:(x==("__debug__":Str))=false) (z:(x==("__classdict__":Str))=false) (he:starEach (a::es) X.env=(false,eval a X.env)::starEach es X.env) (B:(backTo pos (starEach es X.env)).any (·.1)=false) :
 DE fa X (.Call (.Name x p) (a::es) [] pos) (λZ M=>match Z[i]?.getD none with|some (.fn f)=>(gs Z M).bind λds M=>call f ds M|_=>.bad):=by
 rintro y s R H Q I ⟨μ,Z,M,P,hM,h⟩;dsimp only at h;cases e:Z[i]?.getD none with
 |none=>rw[e] at h;exact h.elim
 | some df=>
   cases df with
   | fn f=>
     rw[e] at h;have e':Z[i]?=some (some (.fn f)):=by
      cases q:Z[i]? with
      |none=>rw[q] at e;cases e
      |some o=>rw[q] at e;simp at e;rw[e]
     obtain⟨v,E,J⟩:=P.at' i _ e';obtain⟨ad,rfl,j⟩:=J;rcases C f with hb|⟨Y,fd,ps,h1,h2,h3,h4,F,_⟩
     ·exact(v5 hb h).elim
     ·rcases j with j|⟨j,_⟩<;>rw[j] at h1<;>cases h1
      refine wpAny_Call_Name_kw (aV (qf hN hv hd z y s R H (λv S=>v=.ref ad/\S=H) I {_,E,rfl,rfl}) λu s1 ⟨v,U,L,r1,e1,e2⟩=>?_);subst e1 e2;obtain rfl:u=Value.ref ad:=r1;refine SU L.ok.mod.kin h2 (aV (hs pos y s1 R U _ L (ng P hM h h4)) λus s2 ⟨vs,H2,O,r,q⟩=>{O.kIn,?_}) he B;exact mC F hr h3 .nil qg O r q
   |_=>rw[e] at h;exact h.elim
def ze (f:wg){id:String}(I:cq X (.builtin id) (oY fa X.K f))(J:Gl X x)(hm:X.mg x=none)(L:bootBuiltins x=some (.builtin id))(hs:DA fa X (a::es) gs)(hn:x≠"__name__")(u:(x==("__debug__":Str))=false)
 (he:starEach (a::es) X.env=(false,eval a X.env)::starEach es X.env) (v:(backTo pos (starEach es X.env)).any (·.1)=false):DE fa X (.Call (.Name x p) (a::es) [] pos) (λZ M=>(gs Z M).bind λds M=>du f ds M):=
 bA (jO I J hm L hs hn u he v) (by rintro U H Q ⟨S,Z,M,B,F,h⟩;exact uw B F h λds z R P y O E j r1 h1=>{y,z,ds,j,r1,kc h1 O})
def BI (f:wg)(I:cq X (.type T) (oY fa X.K f))(J:Gl X x)(hm:X.mg x=none)(L:bootBuiltins x=some (.type T))(hs:DA fa X (a::es) gs)(hn:x≠"__name__")(u:(x==("__debug__":Str))=false)
 (he:starEach (a::es) X.env=(false,eval a X.env)::starEach es X.env) (v:(backTo pos (starEach es X.env)).any (·.1)=false):DE fa X (.Call (.Name x p) (a::es) [] pos) (λZ M=>(gs Z M).bind λds M=>du f ds M):=
 bA (sF I J hm L hs hn u he v) (by rintro U H Q ⟨S,Z,M,B,F,h⟩;exact uw B F h λds z R P y O E j r1 h1=>{y,z,ds,j,r1,kc h1 O})
def MR (t:Ty)(R:∀c,t≠.own c)(O:DE fa X a ga)(P:Gl X "isinstance")(hm:X.mg "isinstance"=none)(S:bootBuiltins "isinstance"=some (.builtin "isinstance"))(y:Gl X x)(z:X.mg x=none)(B:bootBuiltins x=some (.type (tyName t)))
 (hn:x≠"__name__") (u:(x==("__debug__":Str))=false)
 (he:starEach [a,.Name x p1] X.env=(false,eval a X.env)::starEach [.Name x p1] X.env):DE fa X (.Call (.Name "isinstance" p2) [a,.Name x p1] [] pos) (λZ M=>(ga Z M).bind λx M=>(b7 M (b4 t x)).bind λb M=>.ok (.bl b) M):=
 bA (jO (Mp t R) P hm S (bM O (bM (xb y z B (v:=.ty (tyName t)) rfl hn u) dz `r) he) `d `d he `r) λσ H Q ⟨Y,Z,M,I,L,h⟩=>t1 I L h λx F v W E U J j r1 h1=>by
  obtain⟨b,e,q⟩:=qm h1;exact{E,F,x,v,b,rfl,j,r1,e,ba j (q.ext U) rfl}
def gT (fa:Fa)(K:Q9)(t:gr):TG:=λv z H Q=>∃u y M d h,bp fa K u H z y/\RelM fa K u H M/\Rep fa K u H d v/\b9 t d y=some h/\∀j,bp fa K u H j h->Q j H
def uZ (h:PG X tg g)(i:∀v y H Q,g' v y H Q->g v y H Q):PG X tg g':=λj s y H v u Q I r q=>h j s y H v u Q I r (i v y H Q q)
def w8 (h:wc X tg g)(i:∀v y H Q,g' v y H Q->g v y H Q):wc X tg g':=λj s y H v u Q I r q=>h j s y H v u Q I r (i v y H Q q)
def Jj (u:X.N.Nodup)(hi:X.N[i]?=some x)(y:Loc X.env.scope x)(hf:X.fn x=true\/X.env.scope.names.lookup x=some .local):PG X (.Name x pos) (gT fa X.K (.one i)):=
 uZ (rh u hi y hf) λv I H Q ⟨E,F,M,d,z,j,B,r,e,k⟩=>by
  have h:=Ro e;subst h;exact k _ (j.set r)
def Mn (fa:Fa)(K:Q9)(l:List Nat):xS:=λz B H Q=>∃u y M v h,bp fa K u H B y/\RelM fa K u H M/\aH fa K u H v z/\cW l v y=some h/\∀j,bp fa K u H j h->Q j H
inductive jC (X:Cx):List Nat->List Expr->Prop
 |nil:jC X [] []
 |cons {i:Nat}{x:Str}{p:Pos}{l:List Nat}{ns:List Expr} (hi:X.N[i]?=some x) (hx:Loc X.env.scope x) (hf:X.fn x=true\/X.env.scope.names.lookup x=some .local) (r:jC X l ns):jC X (i::l) (.Name x p::ns)
set_option tactic.hygienic true in
def jC.each (h:jC X l ns):(assignEach ns X.env).length=l.length/\(assignEach ns X.env).findIdx? (·.1)=none:=by
 induction h with
 |nil=>exact⟨rfl,rfl⟩
 | cons u v hf r j=>
   rename_i i x p l ns;have e:assignEach (.Name x p::ns) X.env=(false,assign (.Name x p) X.env)::assignEach ns X.env:=rfl;rw[e];refine{by simp[j.1],?_}
   rw[List.findIdx?_cons];simp[j.2]
def vG (I:X.N.Nodup)(h:jC X l ns):wc X ns (Mn fa X.K l):=by
 induction h with
 | nil=>
   refine w8 w6 ?_;rintro B R H Q ⟨E,P,M,j,u,y,z,r,e,k⟩;cases j with
   | nil=>
     obtain rfl:B=[]:=r;have F:=Ro e;subst F;exact{rfl,k _ y}
   |cons=>cases e
 | cons J L hf r O=>
   refine w8 (pf (rh I J L hf) O `r) ?_;rintro B R H Q ⟨E,P,M,j,u,y,z,r,e,k⟩
   cases j with
   |nil=>cases e
   | cons d j=>
     obtain⟨v,vr,rfl,r1,r2⟩:=r;exact{v,vr,rfl,E,_,M,j,u,y.set r1,z,r2,e,k}
noncomputable def jf:∀{l:List Nat}{ds:List D}{Z ρ1:Env},cW l ds Z=some ρ1->ds.length=l.length
 |[],[],_,_,_=>rfl
 |_::_,[],_,_,h=>by cases h
 |[],_::_,_,_,h=>by cases h
 | _::l,_::ds,_,_,h=>by
   have:=jf (ds:=ds) h;simp[this]
def MM (E:X.calm=true)(B:X.N.Nodup)(h:jC X l ns):PG X (.Tuple ns k pos) (gT fa X.K (.tup l)):=
 uZ (uY E (vG B h) h.each.1 h.each.2) λv O H Q ⟨J,L,M,d,j,y,z,r,e,k⟩=>by
  cases d with
  | tup u=>
    obtain⟨a,I,rfl,F,r⟩:=r;exact{a,I,rfl,F,by rw[r.length];exact jf e,J,L,M,u,j,y,z,r,e,k}
  |_=>cases e
set_option tactic.hygienic true in
def vW {d:D}(h:b9 (.two j l) d Z=some ρ1):∃e ds,d=.tup [e,.tup ds]/\cW l ds (Z.set j (some e))=some ρ1:=by
 unfold b9 at h;split at h
 ·next e=>cases e
 ·next e=>cases e
 ·next e=>cases e;exact{_,_,rfl,h}
 ·cases h
 ·cases h
def MK (E:X.calm=true)(B:X.N.Nodup){ns:List Expr}(hi:X.N[i]?=some x)(R:Loc X.env.scope x)(hf:X.fn x=true\/X.env.scope.names.lookup x=some .local)(h:jC X l ns):PG X (.Tuple [.Name x px,.Tuple ns k2 p2] k pos) (gT fa X.K (.two i l)):=
 uZ (uY E (pf (rh B hi R hf) (pf (uY E (vG B h) h.each.1 h.each.2) w6))) λv σ H Q ⟨Y,Z,M,d,y,L,O,r,e,k⟩=>by
  obtain⟨I,J,rfl,e⟩:=vW e;obtain⟨a,vs,rfl,P,S,U,rfl,r0,v1,u,rfl,r1,r2⟩:=r;obtain rfl:u=[]:=r2;obtain⟨b,W,rfl,j,F⟩:=r1;exact{a,_,rfl,P,rfl,S,_,rfl,.ref b,[],rfl,b,W,rfl,j,by rw[F.length];exact jf e,Y,Z.set i (some I),M,J,y,L.set r0,O,F,e,λz h1=>{rfl,k z h1}}
end
section
variable{fa:Fa}{X:Cx}{a b d:Expr}{ga gb gd:Env->Mem->Res D}{pos p:Pos}{es:List Expr}{gs:Env->Mem->Res (List D)}{n:Nat}
def MF (O:DE fa X a ga)(P:PG X tg (gT fa X.K t))(hs:swapsWithSole [tg] a pos.line X.env=pure false)(Q:swappedStores [tg] a X.env=pure none)(h1:(assignEach [tg] X.env).map (·.2)=[assign tg X.env]) :
 DS fa X (.Assign [tg] a pos) (λZ M=>(ga Z M).bind λx M=>(b7 M (b9 t x Z)).bind λρ1 M=>.ok (.next ρ1) M):=
 d3 (uV O P hs Q h1) λD Y H ⟨W,Z,M,J,L,h⟩=>t1 J L h λx I v F u R z j r1 h1=>by
  obtain⟨ρ1,U,e,q⟩:=aO h1;cases y:b9 t x Z with
  |none=>rw[y] at e;cases e
  | some S=>
    rw[y] at e;cases e;exact{u,Z,I,x,ρ1,z,j,r1,y,λE B=>q E F u R B j}
def r8 {y:Ends}{ad:Addr}(z:bp fa X.K μ H σ Z)(v:RelM fa X.K μ H M)(hk:μ.pub k=some ad)(r:aH fa X.K μ H ds ws)
 (q:∀j u h,Ext μ H h u->bp fa X.K h u j Z->RelM fa X.K h u (M.set k ds)->y.nx j u):y.nx σ (upd H ad (.lst ws)):=
 q σ _ μ (Ext.write (vs:=ws) v hk) (z.ext (Ext.write (vs:=ws) v hk)) (v.write hk r)
def MC (ha:DE fa X a ga)(hb:DE fa X b gb)(hd:DE fa X d gd){p2:Pos}
 (h0:∀v,assign (.Subscript a b p2) X.env v=(do
  let B <- holding [v] (eval a X.env)
  let L <- holding [v,B] (eval b X.env)
  standAt p2
  holding [v,B,L] (setItem B L v)
  release [v,B,L] [])) (hs:swapsWithSole [.Subscript a b p2] d pos.line X.env=pure false) (hw:swappedStores [.Subscript a b p2] d X.env=pure none) (h1:(assignEach [.Subscript a b p2] X.env).map (·.2)=[assign (.Subscript a b p2) X.env]) :
 DS fa X (.Assign [.Subscript a b p2] d pos) (λZ M=>(gd Z M).bind λz M=>(ga Z M).bind λx M=>(gb Z M).bind λy M=>match x,y with
  | .cell k,.int n=>match M[k]? with
    | some ds=>match bG ds.length n with
      |some j=>.ok (.next Z) (M.set k (ds.set j z))
      |none=>.bad
    |none=>.bad
  |_,_=>.bad):=
 d3 (uV hd (K5 ha hb set_list h0) hs hw h1) λU σ H ⟨μ,Z,M,hE,hM,h⟩=>t1 hE hM h λz M1 v H1 μ1 x1 F J r1 h1=>t2 F J h1 λx y M2 vx vy Y μ2 S I u rx ry h2=>by
  have O:∀k n,x=.cell k->y=.int n->Fs vx vy v Y λH3=>U.nx σ H3:=λk n e1 e2=>by
   subst e1 e2;dsimp only at h2;cases e:M2[k]? with
   |none=>rw[e] at h2;exact h2.elim
   | some ds=>
     rw[e] at h2;dsimp only at h2;cases E:LD.bG ds.length n with
     |none=>rw[E] at h2;exact h2.elim
     | some j=>
       rw[E] at h2;obtain⟨ad,rfl,hk⟩:=rx;obtain⟨ws,h4,R⟩:=u.at_ e hk;have q:=h2;refine{ad,ws,n,j,rfl,ry,h4,by rw[R.length];exact E,r8 I u hk (R.set j (r1.ext S)) λQ W P x' e' m'=>q Q W P ((x1.trans S).trans x') e' m'}
  cases x with
  | cell k=>cases y with
    |int n=>exact O k n rfl rfl
    |_=>exact h2.elim
  |_=>exact h2.elim
set_option tactic.hygienic true in
def MG (ha:DE fa X a ga)(hd:DE fa X d gd){j u:Pos}(v:attributeBase a "append" X.env (eval a X.env)=eval a X.env)(y:(j.endLine==u.line)=true)(hs:starEach [d] X.env=[(false,eval d X.env)])
 (O:swapsWith (.Call (.Attribute a "append" j) [d] [] u) none pos.line X.env=pure false) :
 DS fa X (.Expr (.Call (.Attribute a "append" j) [d] [] u) pos) (λZ M=>(ga Z M).bind λx M=>(gd Z M).bind λz M=>match x with
  | .cell k=>match M[k]? with
    |some ds=>if ds.length<sz then .ok (.next Z) (M.set k (ds++[z])) else .bad
    |none=>.bad
  |_=>.bad):=
 d3 (nF (yp S9 PySem.F.slot_list_append PySem.F.type_list_append sH ha (bM hd dz hs) v (by rw[hs];rfl) y hs `r) O) λD' σ H ⟨μ,Z,M,J,hM,h⟩=>by
  obtain⟨x,M1,e1,h1⟩:=aO h;obtain⟨z,M2,e2,h2⟩:=aO h1;cases x with
  | cell k=>
    dsimp only at h2;cases e:M2[k]? with
    |none=>rw[e] at h2;exact h2.elim
    | some ds=>
      rw[e] at h2;dsimp only at h2;split at h2
      ·next hz=>
       have q:=h2;refine{μ,Z,M,J,hM,?_};rw[e1];intro vx H1 S Q B rx;obtain⟨ad,rfl,hk⟩:=rx;obtain⟨ds1,P,_,L,_⟩:=B.mu_lt hk;refine{.inl {rfl,P,cE.of L},S,Z,M1,J.ext Q,B,?_};rw[e2];intro vz H2 μ2 I E rz;obtain⟨ws,h4,W⟩:=E.at_ e (I.mu k ad hk);refine{ad,ws,vz,rfl,rfl,h4,by rw[W.length,<- dh];exact hz,?_}
       exact r8 ((J.ext Q).ext I) E (I.mu k ad hk) (W.append (.one rz)) λU Y R x' e' m'=>q U Y R ((Q.trans I).trans x') e' m'
      ·exact h2.elim
  |_=>exact h2.elim
def Ot (F:DE fa X a ga)(hs:swapsWith a none pos.line X.env=pure false):DS fa X (.Expr a pos) (λZ M=>(ga Z M).bind λ_ M=>.ok (.next Z) M):=
 d3 (nF F hs) (by rintro L J H ⟨P,Z,M,B,E,h⟩;exact t1 B E h λx O v z y I j u r1 h1=>h1 J z y I j u)
def MB (v:DE fa X a ga):DS fa X (.Return (some a) pos) (λZ M=>(ga Z M).bind λx M=>.ok (.ret x) M):=
 d3 (AL v) λz E H ⟨y,Z,M,j,u,h⟩=>by
  obtain⟨x,B,e,q⟩:=aO h;refine{y,Z,M,j,u,?_};rw[e];exact q
def Ja:DS fa X (.Return none pos) (λ_ M=>.ok (.ret .non) M):=d3 Ia (by rintro u B H ⟨y,z,M,v,j,h⟩;exact ba j h rfl)
def Jb:DS fa X (.Pass pos) (λZ M=>.ok (.next Z) M):=d3 Ib (by rintro z y H ⟨v,Z,M,j,u,h⟩;exact h y H v .refl j u)
set_option tactic.hygienic true in
def oJ.ext (x:Ext μ H μ' H')(q:oJ fa X μ H D' fl M):oJ fa X μ' H' D' fl M:=by
 cases fl with
 |next u=>exact λv j h y e m=>q v j h (x.trans y) e m
 |ret d=>exact bq.ext q x
 |exc z u=>exact XW.ext q x
def Lu (x:Ext μ H μ' H')(h:af r (oJ fa X μ H D')):af r (oJ fa X μ' H' D'):=aN h λfl M q=>q.ext x
def MD {st z:List Stmt}(I:DT fa X c gc)(J:lC fa X st gt)(hf:lC fa X z gf):DS fa X (.If c st z pos) (λZ M=>(gc Z M).bind λk M=>if k then gt Z M else gf Z M):=
 d3 (NT I J hf) λL Q H ⟨P,Z,M,E,F,h⟩=>Ac E F h λk y O v B j u h1=>by
  cases k with
  |true=>exact{v,Z,y,j,u,Lu B h1}
  |false=>exact{v,Z,y,j,u,Lu B h1}
def I9:lC fa X [] (λZ M=>.ok (.next Z) M):=wZ wY (by rintro z y H ⟨v,Z,M,j,u,h⟩;exact h y H v .refl j u)
set_option tactic.hygienic true in
def Es {st:Stmt}(h1:DS fa X st g)(h2:lC fa X ss g'):lC fa X (st::ss) (λZ M=>(g Z M).bind λfl M=>match fl with
 |.next Z=>g' Z M
 |fl=>.ok fl M):=
 wZ (oZ h1 h2) λL P H ⟨I,Z,M,B,E,h⟩=>by
  obtain⟨fl,z,e,q⟩:=aO h;refine{I,Z,M,B,E,?_};rw[e];cases fl with
  |next j=>exact λJ O y F u v=>{y,j,z,u,v,Lu F q}
  |ret d=>exact q
  |exc x j=>exact q
end
def dU (fa:Fa)(K:Q9)(μ0:Mu)(H0:Hp)(w:Walk)(J:It):Prop:=
 ∀(h:Mu) (H:Hp) (M:Mem) (u:List D),ExtW μ0 H0 h H->RelM fa K h H M->w M=some u->(∀(i:Nat) (d:D),u[i]?=some d->J.go i H/\∀x j,J.yld i H x j->Ext h H h j/\RelM fa K h j M/\Rep fa K h j d x)/\∀i,u.length<=i->J.stop i H
def tI (fa:Fa)(K:Q9)(g:Env->Mem->Res Walk):TI:=λz H R=>∃u v M,bp fa K u H z v/\RelM fa K u H M/\af (g v M) λw y=>∀J j h,Ext u H h j->RelM fa K h j y->dU fa K h j w J->R J j
abbrev DI (fa:Fa)(X:Cx)(tg h:Expr)(g:Env->Mem->Res Walk):Prop:=PI X tg h (tI fa X.K g)
def zF {K:Q9}(h:dU fa K μ0 H0 w J)(x:ExtW μ0 H0 μ1 H1):dU fa K μ1 H1 w J:=λv H M j y u e=>h v H M j (x.trans y) u e
section
variable{fa:Fa}{X:Cx}{tg a b d:Expr}{ga gb gd:Env->Mem->Res D}{pos p:Pos}{es:List Expr}{n:Nat}
def zG {ad:Addr}(h:Rep fa X.K μ0 H0 dd (.ref ad)):dU fa X.K μ0 H0 (λM=>g9 M dd) (Nl X.K ad):=λO H M L x u e=>by
 obtain⟨B,j,ea,s,r⟩:=bS u (Rep.extW x h) e;cases ea;refine{λi d hd=>?_,λi E=>{j,s,by rw[r.length];exact E}}
 obtain⟨v,z,I⟩:=r.get hd;refine{⟨j,v,s,z⟩,λy J ⟨e,F⟩=>?_};subst e;have:=F j s;rw[z] at this;cases this;exact{.refl,u,I}
def Ca {ad:Addr}(h:Rep fa X.K μ0 H0 (.tup ds) (.ref ad)):dU fa X.K μ0 H0 (λ_=>some ds) (Nj X.K ad):=λP H M B x F E=>by
 cases E;obtain⟨z,j,e,s,r⟩:=Rep.extW x h;cases e;refine{λi d hd=>?_,λi I=>{j,s,by rw[r.length];exact I}}
 obtain⟨v,u,L⟩:=r.get hd;refine{⟨j,v,s,u⟩,λy O ⟨e,J⟩=>?_};subst e;have:=J j s;rw[u] at this;cases this;exact{.refl,F,L}
def Cc (lo:Int)(n:Nat):dU fa X.K μ0 H0 (λ_=>some ((List.range n).map λ(k:Nat)=>D.int (lo+(k:Int)))) (GG lo n):=λz H M v x j e=>by
 cases e;refine{λi d hd=>?_,λi h=>(show n<=i by simpa using h)}
 rw[R5] at hd;by_cases h:i<n
 ·rw[List.getElem?_range h] at hd;have e:=Ro hd;subst e;refine{h,λy u ⟨e1,e2⟩=>?_};subst e1 e2;exact{.refl,j,rfl}
 ·rw[SG (by simpa using h)] at hd;cases hd
def dE (ga:Env->Mem->Res D):Env->Mem->Res Walk:=λj M=>(ga j M).bind λx M=>match x with
 |.lst h=>.ok (λ_=>some h) M
 |.tup h=>.ok (λ_=>some h) M
 |.frz h=>.ok (λ_=>some h) M
 |.cell k=>.ok (λM=>M[k]?) M
 |_=>.bad
def MJ (Y:DE fa X a ga):DI fa X tg a (dE ga):=λu s S H R I ⟨Q,Z,M,U,W,h⟩=>by
 obtain⟨x,L,e,q⟩:=aO h;have lst:(∀j B,RelM fa X.K j B L->∀v,Rep fa X.K j B x v->∃y,g9 L x=some y)->(∀J B j,Ext Q H j B->RelM fa X.K j B L->dU fa X.K j B (λM=>g9 M x) J->R J B)->
  wpAny (model X.prog X.w) X.A (eval a X.env) (λv s1=>wpAny (model X.prog X.w) X.A (pyIter v) (Nh X u S tg R) X.xe s1) X.xe s:=λhx q=>by
  refine Ih Y u s S H R I {Q,Z,M,U,W,?_};rw[e];intro v F z P E r1;obtain⟨y,er⟩:=hx z F E v r1;obtain⟨ad,O,rfl,s1,r⟩:=bS E r1 er;exact{ad,rfl,⟨O,s1⟩,q _ F z P E (zG r1)}
 cases x with
 |lst y=>exact lst (λ_ _ _ _ _=>⟨y,rfl⟩) q
 |frz y=>exact lst (λ_ _ _ _ _=>⟨y,rfl⟩) q
 | tup y=>
   refine K0 Y u s S H R I {Q,Z,M,U,W,?_};rw[e];intro v F z P E r1;obtain⟨ad,O,rfl,s1,r⟩:=id r1;exact{ad,rfl,⟨O,s1⟩,q _ F z P E (Ca r1)}
 |cell k=>exact lst (λj B m' v ⟨ad,_,hk⟩=>let{y,_,e,_}:=m'.mu_lt hk;⟨y,e⟩) q
 |_=>exact q.elim
def eI (ga:Env->Mem->Res D):Env->Mem->Res Walk:=λh M=>(ga h M).bind λx M=>match x with
 |.int n=>if -(2^62)<=n/\n<2^62 then .ok (λ_=>some ((List.range n.toNat).map λ(k:Nat)=>D.int (k:Int))) M else .bad
 |_=>.bad
set_option tactic.hygienic true in
def Jh (J:DE fa X a ga)(L:Gl X "range")(hm:X.mg "range"=none)(hs:starEach [a] X.env=[(false,eval a X.env)]):DI fa X tg (.Call (.Name "range" p) [a] [] pos) (eI ga):=λj s P H R I ⟨S,U,M,B,F,h⟩=>by
 refine AO L hm (bM J dz hs) hs j s P H R I ?_;refine t1 B F h λx Q v z u O E y r1 h1=>?_;cases x with
 | int n=>
   dsimp only at h1;split at h1
   ·next c=>
    obtain rfl:v=.int n:=r1;refine{n,rfl,c.1,c.2,h1 _ z u O y ?_};have:=Cc (fa:=fa) (X:=X) (μ0:=u) (H0:=z) 0 n.toNat;simpa using this
   ·exact h1.elim
 |_=>exact h1.elim
def iQ (t:gr)(gb:Env->Mem->Res Fl):Fl->D->Mem->Res Fl:=λfl d M=>match fl with
 |.next j=>(b7 M (b9 t d j)).bind λh M=>gb h M
 |fl=>.ok fl M
noncomputable def Fl.out:Fl->Bool
 |.next _=>false
 |_=>true
set_option tactic.hygienic true in
theorem lT {gb:Env->Mem->Res Fl}(ho:fl.out=true):∀(n i:Nat) (M:Mem),af (gx (iQ t gb) w n i fl M) P->P fl M
 |0,_,_,h=>h.elim
 | n+1,i,M,h=>by
   unfold gx at h;cases e:w M with
   |none=>rw[e] at h;exact h.elim
   | some j=>
     rw[e] at h;dsimp only at h;cases e2:j[i]? with
     |none=>rw[e2] at h;exact h
     | some v=>
       rw[e2] at h;cases fl with
       |next u=>cases ho
       |ret d=>exact lT ho n (i+1) M h
       |exc x u=>exact lT ho n (i+1) M h
def tL (fa:Fa)(X:Cx)(g:Env->Mem->Res Fl):TS:=λD h H=>(∀h H,D.nx h H->D.ct h H)/\tF fa X g D h H
abbrev Pw (fa:Fa)(X:Cx)(st:List Stmt)(g:Env->Mem->Res Fl):Prop:=lu X st (tL fa X g)
def Ov {body:List Stmt}{gb:Env->Mem->Res Fl}(h:lC fa X body gb):Pw fa X body gb:=λj s u H D I q=>h j s u H D I q.2
set_option tactic.hygienic true in
def ME {gw:Env->Mem->Res Walk}{gb:Env->Mem->Res Fl}(hp:PassesOwn (model X.prog X.w) X.A X.env X.xe)(hc:X.calm=true)(hi:DI fa X tg a gw)(hg:PG X tg (gT fa X.K t))(hb:Pw fa X body gb)
 (hs:∀x,foldedSetIterable a X.env x=pure x):DS fa X (.For tg a body [] pos) (λZ M=>(gw Z M).bind λw M=>dC (iQ t gb) w (.next Z) M):=
 d3 (KY hp hc hi hg hb hs) λD' σ H ⟨μ,Z,M,hE,hM,h⟩=>by
  obtain⟨w,M1,e,q⟩:=aO h;refine{μ,Z,M,hE,hM,?_};rw[e];intro J H1 I x1 hM1 wk;have hE1:=hE.ext x1;refine{λi m E F=>∃j u L,Ext I H1 j F/\bp fa X.K j F E u/\RelM fa X.K j F L/\af (gx (iQ t gb) w m i (.next u) L) (oJ fa X μ H D'),
   {_,I,Z,M1,.refl,hE1,hM1,q},?_}
  rintro i m σ2 H2 ⟨B,S,M2,R,O,P,v⟩;cases m with
  |zero=>exact v.elim
  | succ m=>
    unfold gx at v;cases e2:w M2 with
    |none=>rw[e2] at v;exact v.elim
    | some ds=>
      rw[e2] at v;dsimp only at v;obtain⟨go,stop⟩:=wk B H2 M2 ds R.toExtW P e2;cases ed:ds[i]? with
      | none=>
        rw[ed] at v;exact .inl {stop i (List.getElem?_eq_none_iff.mp ed),v σ2 H2 B (x1.trans R) O P}
      | some d=>
        rw[ed] at v;obtain⟨g1,g2⟩:=go i d ed;refine .inr {g1,λE F=>∃j u L,Ext I H1 j F/\bp fa X.K j F E u/\RelM fa X.K j F L/\af (gx (iQ t gb) w m (i+1) (.next u) L) (oJ fa X μ H D'),λE F z=>{m,`a,z},λy H3 hy=>?_}
        obtain⟨x3,Q,r3⟩:=g2 y H3 hy;obtain⟨fl,M4,e4,q4⟩:=aO v;obtain⟨U,M5,Y,e6⟩:=eX e4;cases eb:b9 t d S with
        |none=>rw[eb] at Y;cases Y
        | some ρ5=>
          rw[eb] at Y;cases Y;refine{B,S,_,d,U,O.ext x3,Q,r3,eb,λσ5 hE5=>{λ_ _ z=>z,B,U,_,hE5,Q,?_}};rw[e6];cases fl with
          |next W=>exact λσ6 H6 μ6 x6 hE6 hM6=>{μ6,W,M4,(R.trans x3).trans x6,hE6,hM6,q4}
          |ret d6=>exact(lT rfl m (i+1) M4 q4).ext ((x1.trans R).trans x3)
          |exc x6 W=>exact(lT rfl m (i+1) M4 q4).ext ((x1.trans R).trans x3)
end
abbrev FF:Rg->Rl->Prop:=λ_ _=>False
section
variable{prog:R0}{w:RS}{A:Sw}{s:Rl}
def BM
 (J:compTurn ce k it acc env=(standAt p >>= λ_=>pyNext it >>= λr=>match r with
  |none=>pure (.done .next)
  |some v=>letOwnedTupleGo target it v >>= λ_=>assign target env v >>= λ_=>body >>= λ_=>again (.compLoop ce k it acc env)))
 (hd:(model prog w).den (.compLoop ce k it acc env)=(compTurn ce k it acc env).onRaise (λx=>do noteFrame x env;theTreesLotGoes x)/\A.under (.compLoop ce k it acc env)=A) (I:Nat->Rl->Prop)
 (turn:∀n s,I n s->wpAny (model prog w) A (pyNext it) (λr j=>match r with
  |none=>R (.ok .next) j
  |some v=>wpAny (model prog w) A (letOwnedTupleGo target it v) (λ_ y=>wpAny (model prog w) A (assign target env v) (λ_ z=>wpAny (model prog w) A body (λ_ B=>∃m,m<n/\I m B) FF z) FF y) FF j) FF s)
 (n:Nat) (h:I n s):codeAny (model prog w) A (.compLoop ce k it acc env) R s:=by
 refine codeAny_loop rfl I (λn s L=>?_) n h;rw[hd.1,hd.2];refine wpAny_noted ?_;rw[J];refine wpAny_noRaise ?_;refine tqa (wpAny_standAt (tqa (aV (turn n s L) λr j u=>?_)));cases r with
 |none=>exact tqb u
 | some v=>
   refine tqa (aV u λ_ y E=>?_);exact tqa (aV E λ_ z F=>tqa (aV F λ_ B H=>tqb ⟨rfl,H⟩))
def Cz (y h j:Expr)(B:List Comprehension)(u:Scope)(pos:Pos)(z acc:Rg)(env:SH) :
 compTurn (.ListComp y [{h,j,[],0}] u pos) 0 z acc env=(standAt j.pos >>= λ_=>pyNext z >>= λr=>match r with
  |none=>pure (.done .next)
  |some v=>letOwnedTupleGo h z v >>= λ_=>assign h env v >>= λ_=>(eval y env >>= λx=>call (.builtin "list.append") [acc,x] >>= λ_=>pure ()) >>= λ_=>again (.compLoop (.ListComp y [{h,j,[],0}] u pos) 0 z acc env)):=`r
def turn_if (y h j c:Expr)(u:Scope)(pos:Pos)(z acc:Rg)(env:SH) :
 compTurn (.ListComp y [{h,j,[c],0}] u pos) 0 z acc env=(standAt j.pos >>= λ_=>pyNext z >>= λr=>match r with
  |none=>pure (.done .next)
  |some v=>letOwnedTupleGo h z v >>= λ_=>assign h env v >>= λ_=>(isTrue c env (eval c env) >>= λok=>if ok=true then(eval y env >>= λx=>call (.builtin "list.append") [acc,x] >>= λ_=>pure ()) else pure ()) >>= λ_=>again (.compLoop (.ListComp y [{h,j,[c],0}] u pos) 0 z acc env)):=by
 rw[compTurn_list];refine congrArg _ (funext λ_=>congrArg _ (funext λr=>?_));cases r with
 |none=>rfl
 | some v=>
   simp only[List.forIn_cons,List.forIn_nil,if_true,bind_assoc,pure_bind];refine congrArg _ (funext λ_=>congrArg _ (funext λ_=>congrArg _ (funext λok=>?_)));cases ok<;>simp
def Cw (z h y t2 B:Expr)(u:Scope)(pos:Pos)(E acc:Rg)(env:SH) :
 compTurn (.ListComp z [{h,y,[],0},{t2,B,[],0}] u pos) 0 E acc env=(standAt y.pos >>= λ_=>pyNext E >>= λr=>match r with
  |none=>pure (.done .next)
  |some v=>letOwnedTupleGo h E v >>= λ_=>assign h env v >>= λ_=>(eval B env >>= λx=>standAt B.pos >>= λ_=>foldedSetIterable B env x >>= λx=>holding [x] (pyIter x) >>= λj=>runOwn (.compStart (.ListComp z [{h,y,[],0},{t2,B,[],0}] u pos) 1 j acc env) env >>= λ_=>pure ()) >>= λ_=>again (.compLoop (.ListComp z [{h,y,[],0},{t2,B,[],0}] u pos) 0 E acc env)):=by
 refine bind_congr λ_=>bind_congr λr=>?_;cases r with
 |none=>rfl
 |some v=>simp
def Cy (y h u t2 B:Expr)(j:Scope)(pos:Pos)(z acc:Rg)(env:SH) :
 compTurn (.ListComp y [{h,u,[],0},{t2,B,[],0}] j pos) 1 z acc env=(standAt B.pos >>= λ_=>pyNext z >>= λr=>match r with
  |none=>pure (.done .next)
  |some v=>letOwnedTupleGo t2 z v >>= λ_=>assign t2 env v >>= λ_=>(eval y env >>= λx=>call (.builtin "list.append") [acc,x] >>= λ_=>pure ()) >>= λ_=>again (.compLoop (.ListComp y [{h,u,[],0},{t2,B,[],0}] j pos) 1 z acc env)):=by
 rfl
set_option tactic.hygienic true in
theorem lZ (env:SH):∀(ns:List (Str×NameKind)) (h:List (Str×Addr)),(∀y∈ns,y.2=.free->∃c,env.cells.lookup y.1=some c)->(∀x c,h.lookup x=some c->env.cells.lookup x=some c)->
 ∃cl,(forIn ns h λ(y:Str×NameKind) (r:List (Str×Addr))=>if (y.2==NameKind.free)=true then cellOf env y.1 >>= λa=>pure (ForInStep.yield ((y.1,a)::r)) else pure (ForInStep.yield r):Sem _)=pure cl/\
  (∀x c,cl.lookup x=some c->env.cells.lookup x=some c)/\(∀x c,h.lookup x=some c->∃E,cl.lookup x=some E)/\∀y∈ns,y.2=.free->∃c,cl.lookup y.1=some c
 |[],h,_,h2=>{h,`s,h2,λx c e=>⟨c,e⟩,λy j=>nomatch j}
 | (n,k)::ns,h,h1,h2=>by
   by_cases hk:k=.free
   ·subst hk;obtain⟨a,v⟩:=h1 (n,.free) Rw rfl;have lk:∀x c,((n,a)::h).lookup x=some c->env.cells.lookup x=some c:=λx c e=>by
     rw[RM] at e;split at e
     ·next q=>cases e;rw[eq_of_beq q];exact v
     ·exact h2 x c e
    obtain⟨cl,e,p1,p2,u⟩:=lZ env ns ((n,a)::h) (λy j=>h1 y (Rk _ j)) lk;refine{cl,?_,p1,λx c q=>?_,λy j hf=>?_}
    ·rw[List.forIn_cons];have H:cellOf env n=pure a:=by unfold cellOf;rw[v]
     simp only[beq_self_eq_true,if_true,H];exact e
    ·by_cases B:x=n
     ·exact p2 x a (by rw[RM,B];simp)
     ·exact p2 x c (by rw[RM,RJ.mpr B];exact q)
    ·rcases Rv.mp j with z|z
     ·subst z;exact p2 n a (by simp[RM])
     ·exact u y z hf
   ·obtain⟨cl,e,p1,p2,u⟩:=lZ env ns h (λy j=>h1 y (Rk _ j)) h2;refine{cl,?_,p1,p2,λy j hf=>?_}
    ·rw[List.forIn_cons];have F:(k==NameKind.free)=false:=by simpa using hk
     simp only[F,Bool.false_eq_true,if_false];exact e
    ·rcases Rv.mp j with z|z
     ·subst z;exact absurd hf hk
     ·exact u y z hf
def zi (h:∀y∈j.names,y.2=.free->∃c,env.cells.lookup y.1=some c) :
 ∃cl,closureFor j env=pure cl/\(∀x c,cl.lookup x=some c->env.cells.lookup x=some c)/\∀y∈j.names,y.2=.free->∃c,cl.lookup y.1=some c:=by
 obtain⟨cl,e,p1,_,u⟩:=lZ env j.names [] h (λx c q=>nomatch q);exact{cl,by unfold closureFor;simp only[bind_pure];exact e,p1,u}
end
noncomputable def i7 (X:Cx)(own bn:List Str)(scope:Scope)(cl:List (Str×Addr))(C:Addr)(fp:List Addr)(s:Rl)(H:Hp):Cx:=
 {X with N:=own++bn,s₀:=s,H₀:=H,env:=compEnvC scope cl C X.env,outer:=X.stack,ex:=fp,fn:=λx=>scope.names.lookup x==some .cell,pn:=[],xe:=FF}
set_option tactic.hygienic true in
noncomputable def mem_of_lookup {j:Type}:∀{l:List (Str×j)}{x:Str}{k:j},l.lookup x=some k->(x,k)∈l
 |[],_,_,h=>by cases h
 | (n,b)::r,x,k,h=>by
   rw[RM] at h;split at h
   ·next q=>cases h;rw[eq_of_beq q];exact Rw
   ·exact Rk _ (mem_of_lookup h)
set_option tactic.hygienic true in
theorem g7 {env:SH}:∀{j:List (Str×NameKind)}{x:Str}{k:NameKind},
 (j.map λ(n,k)=>if (k==NameKind.free&&env.scope.kind==.function&&env.kindOf n==some .cell) then(n,NameKind.cell) else(n,k)).lookup x=some k->
 ∃k0,(x,k0)∈j/\j.lookup x=some k0/\(k=k0\/(k0=.free/\k=.cell))
 |[],_,_,h=>by cases h
 | (n,k0)::r,x,k,h=>by
   have y:=@g7 env r x k;have h:List.lookup x ((if (k0==NameKind.free&&env.scope.kind==.function&&env.kindOf n==some .cell)=true then(n,NameKind.cell) else(n,k0))::_)=some k:=h;cases u:x==n with
   | true=>
     have e:=eq_of_beq u;subst e;refine{k0,Rw,by simp[RM],?_}
     split at h
     ·next c=>
      simp[RM] at h;simp at c;exact .inr ⟨c.1.1,h.symm⟩
     ·simp[RM] at h;exact .inl h.symm
   | false=>
     have v:List.lookup x (r.map λ(n,k)=>if (k==NameKind.free&&env.scope.kind==.function&&env.kindOf n==some .cell) then(n,NameKind.cell) else(n,k))=some k:=by
      split at h<;>simpa[RM,u] using h
     obtain⟨k1,h1,h2,h3⟩:=y v;exact{k1,Rk _ h1,by simp[RM,u];exact h2,h3}
noncomputable def qj {h j:Type}{R:h->j->Prop}:∀{l:List h}{r:List j}{i:Nat}{x:h},To R l r->l[i]?=some x->∃y,r[i]?=some y/\R x y
 |_,_,_,_,.nil,e=>by simp at e
 |_,_,0,_,.cons p _,e=>by simp at e;subst e;exact{_,rfl,p}
 | _,_,i+1,x,.cons _ t,e=>by
   obtain⟨y,h1,h2⟩:=qj t (by simpa using e)
   exact{y,by simpa using h1,h2}
structure ix (X:Cx) (own bn:List Str) (scope:Scope):Prop where
 kind:scope.kind=.function
 cel:∀y∈scope.names,y.2=.cell->scope.names.lookup y.1=some .cell
 loc:∀y∈scope.names,y.2=.local->scope.names.lookup y.1=some .local
 free:∀y∈scope.names,y.2=.free->X.env.kindOf y.1=some .cell\/X.env.kindOf y.1=some .free
 dis:To (λb x=>(b=x/\scope.names.lookup x≠some .local/\scope.names.lookup x≠some .cell)\/scope.names.lookup b=none) bn X.N
noncomputable def jW:∀(h:List (Str×NameKind)) (n:Nat) (acc:List (Str×Addr)),cellsFrom n h acc=cellsFrom n h []++acc
 |[],_,_=>rfl
 | (nm,k)::r,n,acc=>by
   unfold cellsFrom;split
   ·rw[jW r (n+1) ((nm,n)::acc),jW r (n+1) [(nm,n)],List.append_assoc];rfl
   ·exact jW r n acc
set_option tactic.hygienic true in
theorem vO:∀{j:List (Str×NameKind)}{n:Nat}{x:Str}{c:Addr},(x,c)∈cellsFrom n j []->(x,NameKind.cell)∈j
 |[],_,_,_,h=>nomatch h
 | (nm,k)::r,n,x,c,h=>by
   unfold cellsFrom at h;split at h
   ·next e=>
    rw[jW] at h;rcases RK.mp h with h|h
    ·exact Rk _ (vO h)
    ·cases RA.mp h;rw[eq_of_beq e];exact Rw
   ·exact Rk _ (vO h)
theorem qK:∀{j:List (Str×NameKind)}{n:Nat}{x:Str},(x,NameKind.cell)∈j->∃c,(x,c)∈cellsFrom n j []
 | (nm,k)::r,n,x,h=>by
   unfold cellsFrom;rcases Rv.mp h with h|h
   ·cases h;rw[if_pos (by rfl:(NameKind.cell==NameKind.cell)=true),jW]
    exact{n,R8 _ (List.mem_singleton.mpr rfl)}
   ·split
    ·obtain⟨c,u⟩:=qK h;rw[jW];exact{c,Sx _ u}
    ·exact qK h
noncomputable def mS {j:Type}:∀{l:List (Str×j)}{x:Str}{b:j},(x,b)∈l->∃c,l.lookup x=some c
 | (n,u)::r,x,b,h=>by
   rw[RM];cases e:x==n with
   |true=>exact{_,rfl}
   | false=>
     rcases Rv.mp h with z|z
     ·cases z;rw[beq_self_eq_true] at e;cases e
     ·exact mS z
def BB
 (h:Q (newEnv scope s.heap.objs.size globals (cellsFrom (s.heap.objs.size+1) scope.names cl) qual none .none (some env) builtinsNs) {s with heap:=pushCells (s.heap.push {cls:=.type "dict",data:=.dict #[]}) scope.names}) :
 wpAny M A (newFunctionEnv scope globals cl [] qual none .none (some env)) Q E s:=by
 simp only[newFunctionEnv,Option.isSome_some,if_true];refine tqa (wpAny_alloc ?_);refine tqa (wpAny_layCells _ (λv kind j=>by cases u:kind==NameKind.cell<;>simp[u]) _ _ _ _ ?_)
 rw[show({s with heap:=s.heap.push {cls:=.type "dict",data:=.dict #[]}}:Rl).heap.objs.size=s.heap.objs.size+1 from SO ..]
 exact tqa (tqb (tqb h))
section
variable{X:Cx}{pins:List (Addr×Obj)}{σ:L2.St}{H:Hp}{s:Rl}{fp:List Addr}{scope:Scope}{cl:List (Str×Addr)}{own bn:List Str}
structure Cl (X:Cx) (scope:Scope) (cl:List (Str×Addr)) (n:Nat):Prop where
 sub:∀x c,cl.lookup x=some c->(scope.names.lookup x=some .cell/\n<c)\/(scope.names.lookup x≠some .cell/\X.env.cells.lookup x=some c)
 inj:∀x y c,cl.lookup x=some c->cl.lookup y=some c->scope.names.lookup x=some .cell->scope.names.lookup y=some .cell->x=y
 has:∀y∈scope.names,(y.2=.free\/y.2=.cell)->∃c,cl.lookup y.1=some c
def OO (S:ix X own bn scope)(h1:∀x c,cl.lookup x=some c->X.env.cells.lookup x=some c)(h2:∀y∈scope.names,y.2=.free->∃c,cl.lookup y.1=some c)(h:Heap)(hn:h.objs.size=n+1) :
 Cl X scope (cellsFrom (n+1) scope.names cl) n/\∀x c,(cellsFrom (n+1) scope.names cl).lookup x=some c->scope.names.lookup x=some .cell->(pushCells h scope.names).IsCell c none:=by
 have ok:=cellsFrom_ok scope.names h (n+1) [] {λ_ _ hm=>(nomatch hm),List.Pairwise.nil} (by rw[hn];exact Rj _)
 rw[hn] at ok;rw[jW];have j:∀{x c},(cellsFrom (n+1) scope.names []++cl).lookup x=some c->scope.names.lookup x=some .cell->(x,c)∈cellsFrom (n+1) scope.names []:=λ{x c} e u=>by
  obtain⟨E,I⟩:=qK (mem_of_lookup u);obtain⟨J,h2⟩:=mS I;rw[List.lookup_append,h2] at e;cases e;exact mem_of_lookup h2
 have v:∀{x c},(cellsFrom (n+1) scope.names []++cl).lookup x=some c->scope.names.lookup x≠some .cell->cl.lookup x=some c:=λ{x c} e u=>by
  rw[List.lookup_append] at e;cases z:(cellsFrom (n+1) scope.names []).lookup x with
  |none=>rw[z] at e;exact e
  |some E=>exact absurd (S.cel _ (vO (mem_of_lookup z)) rfl) u
 refine{{λx c e=>?_,λx y c e1 e2 u B=>?_,λy B hk=>?_},λx c e u=>(ok.empty x c (j e u)).1}
 ·by_cases u:scope.names.lookup x=some .cell
  ·exact .inl {u,(ok.empty x c (j e u)).2}
  ·exact .inr {u,h1 x c (v e u)}
 ·exact name_of_addr ok.apart (j e1 u) (j e2 B)
 ·rcases hk with hk|hk
  ·obtain⟨c,F⟩:=h2 y B hk;rw[List.lookup_append];cases (cellsFrom (n+1) scope.names []).lookup y.1 with
   |none=>exact⟨c,F⟩
   |some E=>exact⟨E,rfl⟩
  ·obtain⟨c,F⟩:=qK (by rw[<- hk];exact B)
   obtain⟨J,e2⟩:=mS F;rw[List.lookup_append,e2];exact⟨J,rfl⟩
def Jr (I:Inv X pins σ H s)(S:ix X own bn scope)(j:Cl X scope cl s.heap.objs.size)(v:∀b∈fp,f6 X pins H b)(B:∀b∈fp,∃o,s.heap.get? b=some o) :
 (i7 X own bn scope cl s.heap.objs.size fp s H).Ok where
 mod:=I.ok.mod
 kind:=S.kind
 glob:=I.ok.glob
 blt:=I.ok.blt
 above:=Rj _
 inj:=λx y c h1 h2=>by
  have lt:=λz e=>Nat.not_lt.mpr (Nat.le_of_lt (let{_,q}:=I.cell z c e;q.lt))
  rcases j.sub x c h1 with⟨a1,a2⟩|⟨a1,a2⟩<;>rcases j.sub y c h2 with⟨b1,b2⟩|⟨b1,b2⟩
  ·exact j.inj x y c h1 h2 a1 b1
  ·exact absurd a2 (lt y b2)
  ·exact absurd b2 (lt x a2)
  ·exact I.ok.inj x y c a2 b2
 has:=λx h=>by
  have E:∀k,(relabel scope X.env).names.lookup x=some k->(k=.cell\/k=.free)->∃c,cl.lookup x=some c:=λk hk F=>by
   obtain⟨L,h1,h2,h3⟩:=g7 hk;refine j.has _ h1 ?_;rcases h3 with e|⟨e,_⟩
   ·rcases F with z|z
    ·exact .inr (e.symm.trans z)
    ·exact .inl (e.symm.trans z)
   ·exact .inl e
  rcases h with h|h
  ·exact E _ h (.inl rfl)
  ·exact E _ h (.inr rfl)
 cab:=λx c h e=>by
  rcases j.sub x c e with⟨_,a2⟩|⟨a1,_⟩
  ·exact Nat.le_of_lt a2
  ·exact absurd (eq_of_beq h) a1
 hd:=I.ok.hd
 frames:=I.ok.frames
 stk:=.inl rfl
 exf:=λb u=>{λe=>by
  obtain⟨o,ho⟩:=B b u;exact absurd (Rz ho) (by rw[e];exact Sv _),λx c e=>by
  rcases j.sub x c e with⟨_,a2⟩|⟨_,a2⟩
  ·obtain⟨o,ho⟩:=B b u;exact λz=>absurd (Rz ho) (by rw[<- z];exact Nat.lt_asymm a2)
  ·exact(v b u).2.2.2.2.1 x c a2}
 bs:=λb o e=>I.bs b o e
 bsz:=Rp I.ok.bsz I.sz
 noex:=λb o e u=>by
  rcases(v b u).2.2.2.1 with z|z
  ·exact I.ok.noex b o e z
  ·exact absurd (RD (Rz e) (Rp I.ok.bsz z)) (Sv _)
 exfs:=λb u J=>by
  rcases Rv.mp (I.stkSub b J) with e|e
  ·exact(v b u).2.1 e
  ·exact(v b u).2.2.1 e
 funs:=I.stack
 frf:=λb u=>I.stkFree b u
def Ez (I:Inv X pins σ H s)(S:ix X own bn scope)(h:Cl X scope cl s.heap.objs.size)(P:∀b∈fp,f6 X pins H b)(O:∀b∈fp,∃o,s.heap.get? b=some o)
 (hn:h'.Ns s.heap.objs.size m) (hk:∀b o,s.heap.get? b=some o->h'.get? b=some o) (M:∀x c,cl.lookup x=some c->scope.names.lookup x=some .cell->h'.IsCell c none) :
 Inv (i7 X own bn scope cl s.heap.objs.size fp s H) [] (List.replicate own.length none++σ) H {s with heap:=h',toks:=t'} where
 ok:=Jr I S h P O
 os:=rfl
 bare:=I.bare
 base:=Un.kept hk
 loc:=by
  refine{m,hn,λi x v e1 e2 W=>?_};have e1:(own++bn)[i]?=some x:=e1;have U:own.length<=i:=by
   by_cases q:i<own.length
   ·rw[RN (by simpa using q),Tb] at e2
    simp[q] at e2
   ·omega
  rw[Si U] at e1;rw[Si (by simpa using U)] at e2
  simp only[List.length_replicate] at e2;have L:X.N[i-own.length]?=some x/\scope.names.lookup x≠some .local/\scope.names.lookup x≠some .cell:=by
   rcases qj S.dis e1 with⟨y,h1,⟨h2,h3⟩|h2⟩
   ·subst h2;exact⟨h1,h3⟩
   ·exfalso;have no:∀k,(relabel scope X.env).names.lookup x≠some k:=λk hk=>by
     obtain⟨Q,_,h3,_⟩:=g7 hk;rw[h2] at h3;cases h3
    rcases W with z|z|z
    ·exact no _ z
    ·exact no _ z
    ·exact no _ z
  have R:∀k,(relabel scope X.env).names.lookup x=some k->(k=.local\/k=.cell\/k=.free)->∃c,(k=.cell\/k=.free)/\cl.lookup x=some c/\(X.env.kindOf x=some .cell\/X.env.kindOf x=some .free):=λk j J=>by
   obtain⟨Q,h1,h2,h3⟩:=g7 j;have nl:Q≠.local:=λe=>L.2.1 (by rw[h2,e])
   have hf:Q=.free:=by
    rcases h3 with e|⟨e,_⟩
    ·rcases J with z|z|z
     ·exact absurd (e.symm.trans z) nl
     ·exact absurd (by rw[h2,e.symm.trans z]) L.2.2
     ·exact e.symm.trans z
    ·exact e
   obtain⟨c,Y⟩:=h.has _ h1 (.inl hf);refine{c,?_,Y,S.free _ h1 hf};rcases J with z|z|z
   ·rcases h3 with e|⟨_,e⟩
    ·rw[hf] at e;rw[e] at z;cases z
    ·rw[e] at z;cases z
   ·exact .inl z
   ·exact .inr z
  have B:∀k,(relabel scope X.env).names.lookup x=some k->(k=.local\/k=.cell\/k=.free)->∃u,RelV v u/\Look (compEnvC scope cl s.heap.objs.size X.env) h' m x u:=λk j J=>by
   obtain⟨c,h1,h2,h3⟩:=R k j J;obtain⟨m0,_,hl⟩:=I.loc;obtain⟨u,r,l⟩:=hl _ x v L.1 e2 (.inr h3);refine{u,r,.inr {?_,c,h2,?_}}
   ·rcases h1 with z|z
    ·subst z;exact .inl j
    ·subst z;exact .inr j
   ·rcases l with⟨z,_⟩|⟨_,c',F,E⟩
    ·rcases h3 with q|q
     ·rw[z] at q;cases q
     ·rw[z] at q;cases q
    ·rcases h.sub x c h2 with⟨a1,_⟩|⟨_,a2⟩
     ·exact absurd a1 L.2.2
     rw[a2] at F;cases F;obtain⟨o,ho,hd⟩:=E;exact{o,hk _ _ ho,hd}
  rcases W with z|z|z
  ·exact B _ z (.inl rfl)
  ·exact B _ z (.inr (.inl rfl))
  ·exact B _ z (.inr (.inr rfl))
 cell:=λx c e=>by
  rcases h.sub x c e with⟨a1,_⟩|⟨_,a2⟩
  ·exact{none,M x c e a1}
  obtain⟨v,o,ho,hd⟩:=I.cell x c a2;exact{v,o,hk _ _ ho,hd}
 free:=I.hok.fresh (Rj _)
 freeC:=λx c e=>(h.sub x c e).elim (λz=>I.hok.fresh (Nat.le_of_lt z.2)) λz=>I.freeC x c z.2
 pin:=λp hp=>nomatch hp
 hok:=I.hok.kept hk
 len:=by
  show(List.replicate own.length none++σ).length=(own++bn).length;have:=Paired.length S.dis;simp[I.len,this]
def comp_back (I:Inv X pins σ H s)(h:∀b∈fp,f6 X pins H b)(j:Inv (i7 X own bn scope cl C fp s H) pins' σ' H' s'):Inv X pins σ H' s':=
 I.call' j.os j.base j.hok j.bare λb u=>{(h b u).2.2.2.1,(h b u).2.1,(h b u).2.2.2.2.1,(h b u).2.2.2.2.2}
def BN (I:Inv X pins σ H s)(hf:H' s.heap.objs.size=none)(h:Inv X pins σ' H' s')(hs:Heap.SameBut s.heap.objs.size s'.heap h''):Inv X pins σ' H' {s' with heap:=h''}:=
 h.turned (λb o j e=>(hs.2 b j).trans e) hf (Sr I.lt) (.inr I.sz) (λx c e z=>by
  obtain⟨v,q⟩:=I.cell x c e;exact absurd q.lt (by rw[z];exact Sv _)) λp u z=>absurd (Rz (I.pin p u).1) (by rw[z];exact Sv _)
end
structure fG (a:Addr) (μ:Mu) (H:Hp) (μ':Mu) (H':Hp):Prop extends ExtW μ H μ' H' where
 pr:μ'.priv=μ.priv
 pk:∀b∈μ.priv,b≠a->H' b=H b
def fG.refl:fG a μ H μ H:={.refl,rfl,λ_ _ _=>rfl}
def fG.trans (x:fG a μ H μ1 H1)(y:fG a μ1 H1 μ2 H2):fG a μ H μ2 H2:=
 {x.toExtW.trans y.toExtW,y.pr.trans x.pr,λb h n=>(y.pk b (by rw[x.pr];exact h) n).trans (x.pk b h n)}
def Ext.toD (x:Ext μ H μ' H'):fG a μ H μ' H':={x.toExtW,x.pr,λb h _=>x.pk b h}
noncomputable def slots:gr->List Nat
 |.one i=>[i]
 |.tup l=>l
 |.two i l=>i::l
def Clear (W:List Nat)(Z:Env):Prop:=∀i∈W,∀d,Z[i]?≠some (some d)
section
variable{fa:Fa}{K:Q9}{μ μ':Mu}{H H':Hp}{σ:L2.St}{Z ρ1:Env}{M:Mem}{a:Addr}
def bp.weak (h:bp fa K μ H σ ρ1)(hl:ρ1.length=Z.length)(w:∀(i:Nat) d,Z[i]?=some (some d)->ρ1[i]?=some (some d)):bp fa K μ H σ Z:=
 {h.len.trans hl,λi d e=>h.at' i d (w i d e)}
theorem lL:∀{l:List Nat}{ds:List D}{Z ρ1:Env},cW l ds Z=some ρ1->ρ1.length=Z.length/\∀i,i∉l->ρ1[i]?=Z[i]?
 |[],[],Z,ρ1,h=>by cases h;exact{rfl,λ_ _=>rfl}
 |_::_,[],_,_,h=>by cases h
 |[],_::_,_,_,h=>by cases h
 | j::l,d::ds,Z,ρ1,h=>by
   obtain⟨h1,h2⟩:=lL (ds:=ds) h;refine{by simpa using h1,λi u=>?_}
   rw[h2 i (λz=>u (Rk _ z)),Rx (λz=>u (by rw[z];exact Rw))]
def sW (h:b9 t d Z=some ρ1):ρ1.length=Z.length/\∀i,i∉slots t->ρ1[i]?=Z[i]?:=by
 cases t with
 | one j=>
   cases h;exact{`s,λi u=>Rx (λz=>u (by rw[z];exact Rw))}
 | tup l=>
   cases d with
   |tup v=>exact lL h
   |_=>cases h
 | two j l=>
   obtain⟨e,v,rfl,h⟩:=vW h;obtain⟨h1,h2⟩:=lL h;refine{by simpa using h1,λi u=>?_}
   rw[h2 i (λz=>u (Rk _ z)),Rx (λz=>u (by rw[z];exact Rw))]
def bp.unbind (h:b9 t d Z=some ρ1)(c:Clear (slots t) Z)(r:bp fa K μ H σ ρ1):bp fa K μ H σ Z:=by
 obtain⟨h1,h2⟩:=sW h;refine r.weak h1 λi d e=>?_;by_cases j:i∈slots t
 ·exact absurd e (c i j d)
 ·rw[h2 i j];exact e
def RelM.writeP (h:RelM fa K μ H M)(e:a∈μ.priv)(v:H a=some (.lst vs)):RelM fa K μ (upd H a (.lst ws)) M:=by
 have x:ExtW μ H μ (upd H a (.lst ws)):=ExtW.write v (.inr e);refine{λk B q=>?_,h.out,h.oout,h.inj,h.oinj,h.sep,λb y=>{?_,(h.pv b y).2}}
 ·rcases h.at' k B q with⟨b,u,h1,h2,h3⟩|⟨b,h1,h2,h3⟩
  ·have E:b≠a:=λz=>(h.pv a e).2 k (by rw[h1,z])
   exact .inl {b,u,h1,by rw[ay E];exact h2,h3.extW x}
  ·exact .inr {b,h1,h2,h3.extW x (ay (h3.nl v))}
 ·by_cases j:b=a
  ·subst j;exact⟨ws,bI⟩
  ·obtain⟨u,q⟩:=(h.pv b y).1;exact{u,by rw[ay j];exact q}
def fG.writeP (e:a∈μ.priv)(h:H a=some (.lst vs)):fG a μ H μ (upd H a (.lst ws)):=
 {ExtW.write h (.inr e),rfl,λb _ n=>by rw[ay n]}
end
abbrev PA:=Mu->Hp->List D->Prop
def EM (A:PA):Prop:=∀μ H μ' H' h,Ext μ H μ' H'->A μ H h->A μ' H' h
def LA (fa:Fa)(K:Q9)(a:Addr):PA:=λμ H h=>a∈μ.priv/\∃j,H a=some (.lst j)/\aH fa K μ H h j
def LA.stab {K:Q9}:EM (LA fa K a):=(by rintro _ _ _ _ _ x ⟨h1,h,h2,h3⟩;exact{by rw[x.pr];exact h1,h,by rw[x.pk _ h1];exact h2,h3.ext x})
def WB (fa:Fa)(K:Q9)(A:PA)(a:Addr)(μ:Mu)(H:Hp)(Z:Env)(Q:L2.St->Hp->Prop)(acc:List D)(M':Mem):Prop:=
 ∀h H' μ',fG a μ H μ' H'->bp fa K μ' H' h Z->RelM fa K μ' H' M'->A μ' H' acc->Q h H'
def WB.ext {K:Q9}(h:WB fa K A a μ H Z Q acc M')(x:fG a μ H μ1 H1):WB fa K A a μ1 H1 Z Q acc M':=
 λj H' μ' y e m h1=>h j H' μ' (x.trans y) e m h1
def DB (fa:Fa)(X:Cx)(A:PA)(a:Addr)(W:List Nat)(body:Sem Unit)(g:Env->List D->Mem->Res (List D)):Prop:=
 ∀(h:List (Addr×Obj)) (s:Rl) (σ:L2.St) (H:Hp) (Q:L2.St->Hp->Prop) (μ:Mu) (Z:Env) (M:Mem) (j:List D),Inv X h σ H s->bp fa X.K μ H σ Z->RelM fa X.K μ H M->Clear W Z->A μ H j->
  af (g Z j M) (WB fa X.K A a μ H Z Q)->wpAny (model X.prog X.w) X.A body (λ_ v=>∃u H',Inv X h u H' v/\Q u H') X.xe s
def b8 (ge:Env->Mem->Res D):Env->List D->Mem->Res (List D):=λZ h M=>(ge Z M).bind λx M=>if h.length<sz then .ok (h++[x]) M else .bad
def qD (j:Env->Mem->Res Bool)(g:Env->List D->Mem->Res (List D)):Env->List D->Mem->Res (List D):=λZ h M=>(j Z M).bind λk M=>if k then g Z h M else .ok h M
def dD (t:gr)(g:Env->List D->Mem->Res (List D))(Z:Env):List D->D->Mem->Res (List D):=λh d M=>(b7 M (b9 t d Z)).bind λρ1 M=>g ρ1 h M
def vw (t:gr)(j:Env->Mem->Res Walk)(g:Env->List D->Mem->Res (List D)):Env->List D->Mem->Res (List D):=λZ h M=>(j Z M).bind λw M=>dC (dD t g Z) w h M
section
variable{fa:Fa}{X:Cx}{a:Addr}
set_option tactic.hygienic true in
def vJ (he:DE fa X elt ge):DB fa X (LA fa X.K a) a [] (eval elt X.env >>= λx=>call (.builtin "list.append") [.ref a,x] >>= λ_=>pure ()) (b8 ge):=by
 rintro z s σ H Q μ Z M Y I P hM hc ⟨R,J,hH,hr⟩ h;obtain⟨x,W,e,q⟩:=aO h;split at q
 ·next hz=>
  refine tqa (aV (he z s σ H (λv y=>∃j,Ext μ H j y/\RelM fa X.K j y W/\Rep fa X.K j y x v) I {μ,Z,M,P,hM,?_}) λu s1 ⟨v,y,S,rv,j,F,O,r1⟩=>?_)
  ·rw[e];exact λv y j F O r1=>⟨j,F,O,r1⟩
  have B:y a=some (.lst J):=by rw[F.pk a R];exact hH
  have E:a∈j.priv:=by rw[F.pr];exact R
  have hl:J.length<sizeLine:=by rw[hr.length,<- dh];exact hz
  refine tqa (aV (sH z s1 σ y (.ref a) [v] (.ref a) [u] (λ_ L=>L=upd y a (.lst (J++[v]))) S rfl (.cons rv .nil) ⟨a,J,v,rfl,rfl,B,hl,rfl⟩) λ_ s2 ⟨_,L,U,_,e2⟩=>tqb {σ,L,U,?_});subst e2;have xd:fG a j y j (upd y a (.lst (J++[v]))):=fG.writeP E B;exact q σ _ j (F.toD.trans xd) ((P.ext F).extW xd.toExtW) (O.writeP E B) {E,_,bI,((hr.ext F).append (.one r1)).extW xd.toExtW}
 ·exact q.elim
def Ow (O:EM A)(U:DT fa X c gc)(S:DB fa X A a W body g) :
 DB fa X A a W (isTrue c X.env (eval c X.env) >>= λok=>if ok=true then body else pure ()) (qD gc g):=by
 intro u s σ H Q μ Z M B I E R Y L h;obtain⟨k,J,e,q⟩:=aO h;refine tqa (aV (U u s σ H (λb y=>b=k/\∃j,Ext μ H j y/\RelM fa X.K j y J) I {μ,Z,M,E,R,?_}) λb s1 ⟨y,F,P,j,v,z⟩=>?_)
 ·rw[e];exact λy j v z=>⟨rfl,j,v,z⟩
 subst P;cases b with
 | true=>
   rw[if_pos rfl];exact S u s1 σ y Q j Z J B F (E.ext v) z Y (O _ _ _ _ _ v L) (aN q λ_ _ w=>w.ext v.toD)
 | false=>
   rw[if_neg RL];exact tqb {σ,y,F,q σ y j v.toD (E.ext v) z (O _ _ _ _ _ v L)}
def xJ (sA:EM A)
 (heq:compTurn ce k (.ref it) (.ref a) X.env=(standAt p >>= λ_=>pyNext (.ref it) >>= λr=>match r with
  |none=>pure (.done .next)
  |some v=>letOwnedTupleGo tg (.ref it) v >>= λ_=>assign tg X.env v >>= λ_=>body >>= λ_=>again (.compLoop ce k (.ref it) (.ref a) X.env)))
 (hd:(model X.prog X.w).den (.compLoop ce k (.ref it) (.ref a) X.env)=(compTurn ce k (.ref it) (.ref a) X.env).onRaise (λx=>do noteFrame x X.env;theTreesLotGoes x)/\X.A.under (.compLoop ce k (.ref it) (.ref a) X.env)=X.A) (hx:X.xe=FF) (U:X.calm=true) (T:Turn X.prog X.w X.K tg J fp it tn) (hg:PG X tg (gT fa X.K t)) (S:DB fa X A a W body g) (hW:∀i∈W,i∉slots t)
 (I:Inv X pins σ H s) (st:tn 0 s.heap) (hf:∀b∈fp,f6 X pins H b) (hE:bp fa X.K μ H σ Z) (hM:RelM fa X.K μ H M)
 (hcl:Clear (slots t++W) Z) (hA:A μ H acc) (wk:dU fa X.K μ H w J) (q:af (dC (dD t g Z) w acc M) (WB fa X.K A a μ H Z Q)) :
 codeAny (model X.prog X.w) X.A (.compLoop ce k (.ref it) (.ref a) X.env) (λr Y=>r=.ok .next/\∃j H',Inv X pins j H' Y/\Q j H') s:=by
 have stat:∀{H':Hp},(∀b∈fp,H' b=none)->∀b∈fp,f6 X pins H' b:=λhn b S=>{hn b S,(hf b S).2};have clt:=λi hi=>hcl i (Sx _ hi);have clW:∀d ρ1,b9 t d Z=some ρ1->Clear W ρ1:=λd ρ1 e i hi d' z=>by
  rw[(sW e).2 i (hW i hi)] at z;exact hcl i (R8 _ hi) d' z
 let P:Nat->Nat->Rl->Prop:=λm i Y=>∃j H' μ' M' B,Inv X pins j H' Y/\tn i Y.heap/\(∀b∈fp,H' b=none)/\fG a μ H μ' H'/\bp fa X.K μ' H' j Z/\RelM fa X.K μ' H' M'/\A μ' H' B/\
  af (gx (dD t g Z) w m i B M') (WB fa X.K A a μ H Z Q)
 have P0:∃m,P m 0 s:={_,σ,H,μ,M,acc,I,st,λb S=>(hf b S).1,.refl,hE,hM,hA,q};obtain⟨m0,P0⟩:=P0;have hturn:∀(n:Nat) (i:Nat) (s3:Rl),P n i s3->wpAny (model X.prog X.w) X.A (pyNext (.ref it)) (λr y=>match r with
  |none=>(∃j H',Inv X pins j H' y/\Q j H')
  |some v=>wpAny (model X.prog X.w) X.A (letOwnedTupleGo tg (.ref it) v) (λ_ F=>wpAny (model X.prog X.w) X.A (assign tg X.env v) (λ_ L=>wpAny (model X.prog X.w) X.A body (λ_ O=>∃m,m<n/\P m (i+1) O) FF L) FF F) FF y) FF s3:=by
  rintro n i s3 ⟨σ3,H3,E,M3,R,I3,st3,fr3,x3,hE3,hM3,hA3,q3⟩;have one:∀(d:D) (rest:List D->Mem->Res (List D)) (next:List D->Mem->Prop),J.go i H3->(∀x H',J.yld i H3 x H'->Ext E H3 E H'/\RelM fa X.K E H' M3/\Rep fa X.K E H' d x)->af ((dD t g Z R d M3).bind rest) (WB fa X.K A a μ H Z Q)->
   (∀j H' μ' M' B Y,Inv X pins j H' Y->tn (i+1) Y.heap->(∀b∈fp,H' b=none)->fG a μ H μ' H'->bp fa X.K μ' H' j Z->RelM fa X.K μ' H' M'->A μ' H' B->af (rest B M') (WB fa X.K A a μ H Z Q)->∃m,m<n/\P m (i+1) Y)->
   wpAny (model X.prog X.w) X.A (pyNext (.ref it)) (λr y=>match r with
    |none=>(∃j H',Inv X pins j H' y/\Q j H')
    |some v=>wpAny (model X.prog X.w) X.A (letOwnedTupleGo tg (.ref it) v) (λ_ F=>wpAny (model X.prog X.w) X.A (assign tg X.env v) (λ_ L=>wpAny (model X.prog X.w) X.A body (λ_ O=>∃m,m<n/\P m (i+1) O) FF L) FF F) FF y) FF s3:=by
   intro d rest next go yl qd fin
   refine aV (T.item X rfl rfl rfl U i pins s3 σ3 H3 FF I3 (stat fr3) st3 go) ?_;rintro r s4 ⟨u,hr4,h4⟩;subst hr4;refine aV h4 ?_;rintro _ s5 ⟨x,H5,I5,r5,y5,st5,fr5⟩;obtain⟨x5,hM5,rd⟩:=yl x H5 y5;have I5':=I5.pinned (stat fr5) (T.obj _ _ st5);obtain⟨acc6,M6,e6,q6⟩:=aO qd;obtain⟨ρ1,M7,e7,e8⟩:=eX e6;cases eb:b9 t d Z with
   |none=>rw[eb] at e7;cases e7
   | some ρ2=>
     rw[eb] at e7;cases e7;have hg':=hg _ s5 σ3 H5 x u (λj H'=>H'=H5/\bp fa X.K E H5 j ρ1) I5' r5 {E,Z,_,d,ρ1,hE3.ext x5,hM5,rd,eb,λσ1 h1=>⟨rfl,h1⟩};rw[hx] at hg';refine aV hg' ?_;rintro _ s6 ⟨σ6,H6,I6,eH,hE6⟩;subst eH;have hb':=S _ s6 σ6 H6 (λj H'=>∃μ',fG a E H6 μ' H'/\bp fa X.K μ' H' j ρ1/\RelM fa X.K μ' H' M6/\A μ' H' acc6) E ρ1 _ R I6 hE6 hM5 (clW d ρ1 eb) (sA _ _ _ _ _ x5 hA3) (by
      rw[e8];exact λj H' μ' z1 z2 z3 z4=>⟨μ',z1,z2,z3,z4⟩)
     rw[hx] at hb';refine aV hb' ?_;rintro _ s7 ⟨σ7,H7,I7,μ7,x7,hE7,hM7,hA7⟩;refine fin σ7 H7 μ7 M6 acc6 s7 I7.unpinned (T.keep _ _ _ st5 λb S o e=>(I7.pin (b,o) (R8 _ (R8 _ (jw S e)))).1) (λb S=>?_) ((x3.trans x5.toD).trans x7) (hE7.unbind eb clt) hM7 hA7 q6;obtain⟨o,e,dd⟩:=T.obj _ _ st5 b S;exact(I7.pin (b,o) (R8 _ (R8 _ (jw S e)))).2.1
  have stop:J.stop i H3->af (.ok R M3) (WB fa X.K A a μ H Z Q)->wpAny (model X.prog X.w) X.A (pyNext (.ref it)) (λr y=>match r with
   |none=>(∃j H',Inv X pins j H' y/\Q j H')
   |some v=>wpAny (model X.prog X.w) X.A (letOwnedTupleGo tg (.ref it) v) (λ_ F=>wpAny (model X.prog X.w) X.A (assign tg X.env v) (λ_ L=>wpAny (model X.prog X.w) X.A body (λ_ O=>∃m,m<n/\P m (i+1) O) FF L) FF F) FF y) FF s3:=λhs q=>by
   refine aV (T.done X rfl rfl rfl U i pins s3 σ3 H3 FF I3 (stat fr3) st3 hs) ?_;rintro r s4 ⟨hr4,I4⟩;subst hr4;exact{σ3,H3,I4,q σ3 H3 E x3 hE3 hM3 hA3}
  cases n with
  |zero=>exact q3.elim
  | succ n=>
    unfold gx at q3;cases e2:w M3 with
    |none=>rw[e2] at q3;exact q3.elim
    | some ds=>
      rw[e2] at q3;dsimp only at q3;obtain⟨go,stp⟩:=wk E H3 M3 ds x3.toExtW hM3 e2;cases ed:ds[i]? with
      | none=>
        rw[ed] at q3;exact stop (stp i (List.getElem?_eq_none_iff.mp ed)) q3
      | some d=>
        rw[ed] at q3;obtain⟨g1,g2⟩:=go i d ed;refine one d (gx (dD t g Z) w n (i+1)) (λ_ _=>True) g1 g2 q3 ?_;intro j H' μ' M' B Y z1 z2 z3 z4 z5 z6 z7 z8;exact{n,`a,j,H',μ',M',B,z1,z2,z3,z4,z5,z6,z7,z8}
 refine BM heq hd (λn Y=>∃i,P n i Y) (λn s3 ⟨i,h3⟩=>?_) m0 {0,P0};refine aV (hturn n i s3 h3) λr s1 h=>?_;cases r with
 |none=>exact⟨rfl,h⟩
 |some v=>exact aV h λ_ s2 h=>aV h λ_ s3 h=>aV h (by rintro _ s4 ⟨m,hm,h⟩;exact{m,hm,i+1,h})
end
section
variable{prog:R0}{w:RS}{A:Sw}{s:Rl}{R:Result->Rl->Prop}
def tJ {j t1 B t2 y:Expr}
 (E:codeAny (model prog w) A (.compLoop (.ListComp j [{t1,B,f1,0},{t2,y,f2,0}] scope pos) 1 it acc env) R s)
 (h:wpAny (model prog w) A (pyIter it) (λu v=>codeAny (model prog w) A (.compLoop (.ListComp j [{t1,B,f1,0},{t2,y,f2,0}] scope pos) 1 u acc env) R v)
  (notedBy (model prog w) A env λx v=>R (.error x) v) s) :
 codeAny (model prog w) A (.compStart (.ListComp j [{t1,B,f1,0},{t2,y,f2,0}] scope pos) 1 it acc env) R s:=by
 refine codeAny_of_tree ?_;refine wpAny_notedAt ?_;refine tqa (wpAny_askSetting (wpAny_ite ?_));split
 ·first
   |exact tqa (tqb (tqb (And.intro rfl E)))
   |exact tqb (And.intro rfl E)
 ·first
   |exact tqa (wpAny_rule (tqa (wpAny_standAt (tqa (wpAny_mono h (λu v z=>tqb (And.intro rfl z)) λ_ _ x=>x)))))
   |(refine tqa (wpAny_rule ?_);show wpAny _ _ (standAt y.pos >>= _) _ _ s;exact tqa (wpAny_standAt (tqa (wpAny_mono h (λu v z=>tqb (And.intro rfl z)) λ_ _ x=>x))))
end
section
variable{fa:Fa}{X:Cx}{a:Addr}
def MN {y t1 W t2 B:Expr}(hx:X.xe=FF)(F:X.calm=true)(hi:DI fa X t2 B gw)(hg:PG X t2 (gT fa X.K t))(he:DE fa X y ge)
 (hs:∀x,foldedSetIterable B X.env x=pure x) :
 DB fa X (LA fa X.K a) a (slots t) (eval B X.env >>= λx=>standAt B.pos >>= λ_=>foldedSetIterable B X.env x >>= λx=>holding [x] (pyIter x) >>= λj=>runOwn (.compStart (.ListComp y [{t1,W,[],0},{t2,B,[],0}] scope pos) 1 j (.ref a) X.env) X.env >>= λ_=>pure ()) (vw t gw (b8 ge)):=by
 intro E s σ H Q μ Z M acc I hE hM hc hA h;obtain⟨w,M1,e,q⟩:=aO h;refine tqa (aV (hi E s σ H (λJ U=>∃u,Ext μ H u U/\RelM fa X.K u U M1/\dU fa X.K u U w J) I {μ,Z,M,hE,hM,?_}) λv s1 h1=>?_)
 ·rw[e];exact λJ U u x1 m1 Y=>⟨u,x1,m1,Y⟩
 refine tqa (wpAny_standAt (tqa (wpAny_of_eq (hs v) (tqa (tqo (aV h1 λitv s2 h2=>?_))))));obtain⟨it,fp,tn,J,H2,ei,I2,T,P,f2,μ2,x2,m2,Y⟩:=h2;subst ei;have go:=xJ LA.stab (Cy y t1 W t2 B scope pos (.ref it) (.ref a) X.env) ⟨rfl,rfl⟩ hx F T hg (vJ he) (λi hi=>nomatch hi) I2 P f2 (hE.ext x2) m2 (by simpa using hc) (LA.stab _ _ _ _ _ x2 hA) Y (aN q λ_ _ z=>z.ext x2.toD)
 refine tqa (wpAny_runOwn ?_);have L:codeAny (model X.prog X.w) (X.A.mark none) (.compLoop (.ListComp y [{t1,W,[],0},{t2,B,[],0}] scope pos) 1 (.ref it) (.ref a) X.env) (λr O=>match r with|.ok f=>wpAny (model X.prog X.w) X.A (pure ():Sem Unit) (λ_ O=>∃S H',Inv X E S H' O/\Q S H') X.xe O|.error e=>cameBackBy (model X.prog X.w) X.A X.env X.xe e O) s2:=
  codeAny_mono go λr O ⟨er,z⟩=>by subst er;exact tqb z
 exact tJ L (T.self _ 0 _ _ _ P L)
end
section
variable{fa:Fa}{K:Q9}{μ1 μ':Mu}{H1 H':Hp}{M1 M':Mem}{a:Addr}
noncomputable def LM (μ:Mu)(a:Addr):Mu:={μ.pub,a::μ.priv,μ.ob}
def m5 (h:RelM fa K μ1 H1 M1)(j:H1 a=none)(o:HO):ExtW μ1 H1 (LM μ1 a) (upd H1 a o):=by
 have x:ExtW μ1 H1 μ1 (upd H1 a o):=(Ext.alloc h j).toExtW;refine{x.mu,x.tups,λb u e n=>{(x.lsts b u e n).1,λz=>?_},x.frzs,x.exts,x.obs};rcases z with z|z
 ·exact n (.inl z)
 ·rcases Rv.mp z with z|z
  ·subst z;rw[j] at e;cases e
  ·exact n (.inr z)
def AJ (h:RelM fa K μ1 H1 M1)(j:H1 a=none)(vs:List V):RelM fa K (LM μ1 a) (upd H1 a (.lst vs)) M1:=by
 have x:=m5 h j (.lst vs);refine{λk v e=>(h.at' k v e).imp ((by rintro⟨b,u,h1,h2,h3⟩;exact{b,u,h1,by rw[ay (aX h2 j)];exact h2,h3.extW x})) (by rintro⟨b,h1,h2,h3⟩;exact{b,h1,h2,h3.extW x (ay (h3.new j))}),h.out,h.oout,h.inj,h.oinj,h.sep,λb y=>?_}
 ·rcases Rv.mp y with z|z
  ·subst z;exact{⟨vs,bI⟩,λk e=>by
    obtain⟨_,_,_,q,_⟩:=h.mu_lt e;rw[j] at q;cases q}
  ·obtain⟨⟨u,q⟩,n⟩:=h.pv b z;exact{{u,by rw[ay (aX q j)];exact q},n}
set_option tactic.hygienic true in
def H8 (h:RelM fa K μ1 H1 M1)(ha:H1 a=none)(x:fG a (LM μ1 a) (upd H1 a (.lst [])) μ' H')(v:RelM fa K μ' H' M')(hH:H' a=some (.lst vs))(hr:aH fa K μ' H' acc vs)
 (q:af (bB m acc M') (bq fa K μ1 H1 Q)):Q (.ref a) H':=by
 have R:=λz=>h.pne ha z rfl;have E:=x.pr;have S:∀k,μ'.pub k≠some a:=(v.pv a (by rw[E];exact Rw)).2
 have F:=m5 h ha (.lst []);have xe:Ext μ1 H1 ⟨μ'.pub,μ1.priv,μ'.ob⟩ H':=by
  refine{{λk b e=>x.mu k b e,λb y e=>x.tups b y (F.tups b y e),λb y e n=>?_,λb ob u e=>x.frzs b ob u (F.frzs b ob u e),λb o i e=>x.exts b o i (F.exts b o i e),λk b e=>x.obs k b (F.obs k b e)},rfl,λb B=>?_}
  ·obtain⟨H,I⟩:=F.lsts b y e n;obtain⟨Y,z4⟩:=x.lsts b y H I;refine{Y,λz=>z4 ?_};rcases z with z|z
   ·exact .inl z
   ·exact .inr (by rw[E];exact Rk _ z)
  ·have nb:b≠a:=λe=>R (by rw[<- e];exact B)
   rw[x.pk b (Rk _ B) nb,ay nb]
 have W:ExtW μ' H' ⟨μ'.pub,μ1.priv,μ'.ob⟩ H':={λ_ _ e=>e,λ_ _ e=>e,λb y e n=>{e,λz=>n (z.elim .inl λz=>.inr (by rw[E];exact Rk _ z))},λ_ _ _ e=>e,λ_ _ _ e=>e,λ_ _ e=>e}
 have me:RelM fa K ⟨μ'.pub,μ1.priv,μ'.ob⟩ H' M':={λk L e=>(v.at' k L e).imp ((by rintro⟨b,y,h1,h2,h3⟩;exact{b,y,h1,h2,h3.extW W})) (by rintro⟨b,h1,h2,h3⟩;exact{b,h1,h2,h3.extW W rfl}),v.out,v.oout,v.inj,v.oinj,v.sep,λb B=>v.pv b (by rw[E];exact Rk _ B)}
 have re:=hr.extW W;have P:¬ (⟨μ'.pub,μ1.priv,μ'.ob⟩:Mu).Mt a:=λz=>z.elim ((by rintro⟨k,e⟩;exact S k e)) R
 unfold bB at q;split at q
 ·cases m with
  | false=>
    exact q (.ref a) H' _ xe me {a,vs,rfl,⟨hH,P⟩,re}
  | true=>
    have pc:∀k b,(fK ⟨μ'.pub,μ1.priv,μ'.ob⟩ M'.length a).pub k=some b->(k=M'.length/\b=a)\/(k≠M'.length/\μ'.pub k=some b):=λk b e=>by
     have e:(if k=M'.length then some a else μ'.pub k)=some b:=e;split at e
     ·next z=>cases e;exact .inl ⟨z,rfl⟩
     ·next z=>exact .inr ⟨z,e⟩
    have mc:∀k b,μ'.pub k=some b->(fK ⟨μ'.pub,μ1.priv,μ'.ob⟩ M'.length a).pub k=some b:=λk b e=>by
     show(if k=M'.length then some a else μ'.pub k)=some b;split
     ·next z=>rw[z,v.out _ (Rj _)] at e;cases e
     ·exact e
    have ac:(fK ⟨μ'.pub,μ1.priv,μ'.ob⟩ M'.length a).pub M'.length=some a:=by
     show(if M'.length=M'.length then some a else _)=some a;rw[if_pos rfl]
    have nc:∀b,¬ μ'.Mt b->¬ (fK ⟨μ'.pub,μ1.priv,μ'.ob⟩ M'.length a).Mt b:=λb n z=>by
     rcases z with⟨k,z⟩|z
     ·rcases pc k b z with⟨_,e⟩|⟨_,e⟩
      ·exact n (.inr (by rw[E,e];exact Rw))
      ·exact n (.inl ⟨k,e⟩)
     ·exact n (.inr (by rw[E];exact Rk _ z))
    have xc:ExtW μ' H' (fK ⟨μ'.pub,μ1.priv,μ'.ob⟩ M'.length a) H':={mc,λ_ _ e=>e,λb y e n=>{e,nc b n},λ_ _ _ e=>e,λ_ _ _ e=>e,λ_ _ e=>e};have U:Ext μ1 H1 (fK ⟨μ'.pub,μ1.priv,μ'.ob⟩ M'.length a) H':=by
     refine{{λk b e=>mc k b (x.mu k b e),xe.tups,λb y e n=>?_,xe.frzs,xe.exts,xe.obs},rfl,xe.pk};obtain⟨H,I⟩:=F.lsts b y e n;obtain⟨Y,z4⟩:=x.lsts b y H I;exact{Y,nc b z4}
    have O:RelM fa K (fK ⟨μ'.pub,μ1.priv,μ'.ob⟩ M'.length a) H' (M'++[acc]):=by
     refine{λk L e=>?_,λk hk=>?_,λk hk=>v.oout k (by simp at hk;omega),λj k b e1 e2=>?_,v.oinj,λk b z=>?_,λb B=>?_}
     ·by_cases hk:k<M'.length
      ·rw[RN hk] at e;rcases v.at' k L e with⟨b,y,h1,h2,h3⟩|⟨b,h1,h2,h3⟩
       ·exact .inl {b,y,mc k b h1,h2,h3.extW xc}
       ·exact .inr {b,h1,by show(if k=M'.length then some a else μ'.pub k)=none;rw[if_neg (RX hk)];exact h2,h3.extW xc rfl}
      ·have M:k=M'.length:=by
        have:=(Rb.mp e).1;simp at this;omega
       subst M;rw[Si (Rj _)] at e;simp at e;subst e;exact .inl {a,vs,ac,hH,hr.extW xc}
     ·simp at hk;show(if k=M'.length then some a else μ'.pub k)=none;rw[if_neg `a]
      exact v.out k `a
     ·rcases pc j b e1 with⟨j1,J⟩|⟨j1,J⟩<;>rcases pc k b e2 with⟨k1,k2⟩|⟨k1,k2⟩
      ·omega
      ·exact absurd (J ▸ k2) (S k)
      ·exact absurd (k2 ▸ J) (S j)
      ·exact v.inj j k b J k2
     ·show μ'.ob (aM k)=none;rcases pc k b z with⟨e,_⟩|⟨_,e⟩
      ·rw[e];exact v.oout _ (Rj _)
      ·exact v.sep k b e
     ·have B:=B;obtain⟨H,I⟩:=v.pv b (by rw[E];exact Rk _ B)
      refine{H,λk e=>?_};rcases pc k b e with⟨_,e⟩|⟨_,e⟩
      ·exact R (e ▸ B)
      ·exact I k e
    exact q (.ref a) H' _ U O ⟨a,rfl,ac⟩
 ·exact q.elim
end
section
variable{fa:Fa}{X:Cx}
def cf (m:Bool)(n:Nat)(t:gr)(j:Env->Mem->Res Walk)(g:Env->List D->Mem->Res (List D)):Env->Mem->Res D:=λh M=>
 (j h M).bind λw M=>(dC (dD t g (List.replicate n none++h)) w [] M).bind (bB m)
def qU (X:Cx)(u B h:Expr)(y:List Expr)(rest:List Comprehension)(j:Scope)(pos:Pos)(body:Addr->SH->Sem Unit):Prop:=
 ∀(z a:Addr) (env:SH),compTurn (.ListComp u ({B,h,y,0}::rest) j pos) 0 (.ref z) (.ref a) env=(standAt h.pos >>= λ_=>pyNext (.ref z) >>= λr=>match r with
  |none=>pure (.done .next)
  |some v=>letOwnedTupleGo B (.ref z) v >>= λ_=>assign B env v >>= λ_=>body a env >>= λ_=>again (.compLoop (.ListComp u ({B,h,y,0}::rest) j pos) 0 (.ref z) (.ref a) env))
structure Block (fa:Fa) (X:Cx) (A:Addr->PA) (own bn:List Str) (scope:Scope) (tg:Expr) (t:gr) (W:List Nat) (body:Addr->SH->Sem Unit) (g:Env->List D->Mem->Res (List D)):Prop where
 pg:∀cl C fp s H,PG (i7 X own bn scope cl C fp s H) tg (gT fa X.K t)
 db:∀cl C fp s H a,DB fa (i7 X own bn scope cl C fp s H) (A a) a W (body a (compEnvC scope cl C X.env)) g
def BQ (h:∀i∈W,i<n):Clear W (List.replicate n none++Z):=λi j d e=>by
 rw[RN (by simpa using h i j),Tb] at e
 simp[h i j] at e
def De {K:Q9}(n:Nat)(h:bp fa K μ H σ Z):bp fa K μ H (List.replicate n none++σ) (List.replicate n none++Z):=by
 refine{by simp[h.len],λi d e=>?_}
 by_cases j:i<n
 ·rw[RN (by simpa using j),Tb] at e
  simp[j] at e
 ·rw[Si `o] at e ⊢
  simp only[List.length_replicate] at e ⊢;exact h.at' _ d e
def qJ {rest:List Comprehension}
 (S:ix X own bn scope) (R:X.calm=true) (hi:DI fa X tg iter gw) (B:Block fa X (LA fa X.K) own bn scope tg t W body g) (hT:qU X elt tg iter ifs rest scope pos body) (hW:∀i∈W,i∉slots t) (hn:∀i∈slots t++W,i<own.length)
 (hs:∀x,foldedSetIterable iter X.env x=pure x)
 (I:Inv X pins σ H s) (hE:bp fa X.K μ H σ Z) (hM:RelM fa X.K μ H M) (h:af (cf m own.length t gw g Z M) (bq fa X.K μ H Q))
 (post:∀(a C:Addr) (s':Rl) (H':Hp),Inv X pins σ H' s'->Q (.ref a) H'->(∃m,s'.heap.Ns C m)->(∀σ2 E s2,Inv X pins σ2 E s2->(H' C=none->E C=none)->E C=none/\∀P,Heap.SameBut C s2.heap P->Inv X pins σ2 E {s2 with heap:=P})->H' C=none->(C≠X.env.locals/\∀x c,X.env.cells.lookup x=some c->c≠C)->compPost (model X.prog X.w) X.A X.xe use QQ (.ref a) C (.ok .next) s') :
 wpAny (model X.prog X.w) X.A (comprehension (.ListComp elt ({tg,iter,ifs,0}::rest) scope pos) scope X.env p0 (newList []) false (eval iter X.env) use) QQ X.xe s:=by
 obtain⟨w,M1,ew,q⟩:=aO h;obtain⟨acc,M2,ea,q2⟩:=aO q;obtain⟨cl,hcl,O,L⟩:=zi λy hy hf=>I.ok.has y.1 (S.free y hy hf);refine wpAny_comprehension_free rfl hs hcl S.kind S.loc ?_;refine aV (hi pins s σ H (λJ H1=>∃μ1,Ext μ H μ1 H1/\RelM fa X.K μ1 H1 M1/\dU fa X.K μ1 H1 w J) I {μ,Z,M,hE,hM,?_}) λv s1 h1=>aV h1 λitv s2 h2=>?_
 ·rw[ew];exact λJ H1 μ1 x1 m1 wk=>⟨μ1,x1,m1,wk⟩
 obtain⟨it,fp,tn,J,E,ei,I2,T,st2,f2,μ2,x2,m2,wk⟩:=h2;subst ei;refine wpAny_newObj_type ?_;have ha:=I2.hok.fresh (Rj _);have I3:Inv X pins σ (upd E s2.heap.objs.size (.lst [])) {s2 with heap:=s2.heap.push {cls:=.type "list",dict:=none,data:=.seq ([]:List Rg).toArray}}:=
  I2.laid (λb o e=>Rf _ e) (Rj _) {Tc _,[],_,.nil,RB _ rfl}
 generalize hs3:({s2 with heap:=s2.heap.push {cls:=.type "list",dict:=none,data:=.seq ([]:List Rg).toArray}}:Rl)=s3 at I3 ⊢
 have k3:∀b o,s2.heap.get? b=some o->s3.heap.get? b=some o:=λb o e=>by rw[<- hs3];exact Rf _ e
 have fo2:=T.obj _ _ st2;have f3:∀b∈fp,f6 X pins (upd E s2.heap.objs.size (.lst [])) b:=λb u=>by
  obtain⟨o,e,_⟩:=fo2 b u;exact{by rw[ay (RX (Rz e))];exact(f2 b u).1,(f2 b u).2}
 have fo3:∀b∈fp,∃o,s3.heap.get? b=some o:=λb u=>let{o,e,_}:=fo2 b u;{o,k3 b o e}
 obtain⟨CL,U⟩:=OO S O L (s3.heap.push {cls:=.type "dict",data:=.dict #[]}) (SO ..);generalize F:cellsFrom (s3.heap.objs.size+1) scope.names cl=cl' at CL U;refine BB ?_;rw[F];have j:(pushCells (s3.heap.push {cls:=.type "dict",data:=.dict #[]}) scope.names).Ns s3.heap.objs.size (λ_=>none):=(Heap.Ns.new s3.heap (.type "dict")).keeps (pushCells_keeps _ _);have k4:∀b o,s3.heap.get? b=some o->(pushCells (s3.heap.push {cls:=.type "dict",data:=.dict #[]}) scope.names).get? b=some o:=λb o e=>pushCells_keeps _ _ b o (Rf _ e);generalize pushCells (s3.heap.push {cls:=.type "dict",data:=.dict #[]}) scope.names=h₁ at j k4 U ⊢;clear hcl F O L cl
 rename List (Str×Addr)=>cl
 have I4:=Ez (t':=s3.toks) I3 S CL f3 fo3 j k4 U;have Y:=I4.ok;have f4:∀b∈fp,f6 (i7 X own bn scope cl s3.heap.objs.size fp s3 (upd E s2.heap.objs.size (.lst []))) [] (upd E s2.heap.objs.size (.lst [])) b:=λb u=>
  {(f3 b u).1,(Y.exf b u).1,Y.exfs b u,.inl u,(Y.exf b u).2,λp hp=>nomatch hp}
 have st4:=T.keep _ _ _ st2 λb u o e=>k4 b o (k3 b o e);have x3:=m5 m2 ha (.lst []);have go:=xJ LA.stab (X:=i7 X own bn scope cl s3.heap.objs.size fp s3 (upd E s2.heap.objs.size (.lst []))) (acc:=[]) (hT it s2.heap.objs.size _) ⟨rfl,rfl⟩ rfl R T (B.pg _ _ _ _ _) (B.db _ _ _ _ _ _) hW I4 st4 f4
  (De own.length ((hE.ext x2).extW x3)) (AJ m2 ha []) (BQ hn) {Rw,_,bI,rfl} (zF wk x3) (by
   rw[ea];rintro σ' H' μ' z1 z2 z3 ⟨_,vs',z4,z5⟩;exact H8 m2 ha z1 z3 z4 z5 (kc q2 x2))
 have go':codeAny (model X.prog X.w) X.A (.compLoop (.ListComp elt ({tg,iter,ifs,0}::rest) scope pos) 0 (.ref it) (.ref s2.heap.objs.size) (compEnvC scope cl s3.heap.objs.size X.env)) (compPost (model X.prog X.w) X.A X.xe use QQ (.ref s2.heap.objs.size) s3.heap.objs.size) {s3 with heap:=h₁}:=
  codeAny_mono go λr s' ⟨er,σ',H',I',z⟩=>by
   subst er;refine post _ _ s' H' (comp_back I3 f3 I') z (let{m,hn,_}:=I'.loc;⟨m,hn⟩) (λσ2 E s2' I2' hf=>{hf I'.free,λP hs''=>BN I3 (hf I'.free) I2' hs''}) I'.free {Sr I3.lt,λx c e z=>by
    obtain⟨v,q⟩:=I3.cell x c e;exact absurd q.lt (by rw[z];exact Sv _)}
 exact codeAny_compStart_list go' (T.self _ 0 _ _ _ st4 go')
def MS (m:Bool){v z j:Expr}{rest:List Comprehension}
 (S:ix X own bn scope) (u:X.calm=true) (hi:DI fa X z j gw) (B:Block fa X (LA fa X.K) own bn scope z t W body g) (R:qU X v z j ifs rest scope pos body) (U:∀i∈W,i∉slots t) (hn:∀i∈slots t++W,i<own.length)
 (hs:∀x,foldedSetIterable j X.env x=pure x):DE fa X (.ListComp v ({z,j,ifs,0}::rest) scope pos) (cf m own.length t gw g):=by
 rintro F s σ H Q I ⟨μ,Z,M,O,P,h⟩;rw[eval_ListComp];refine qJ S u hi B R U hn hs I O P h ?_;rintro a C Y H' J q ⟨m,hn⟩ y hf _;exact{m,hn,λL E=>{.ref a,H',(y σ H' Y J id).2 L E,rfl,q}}
def zd (m:Bool){y:Str}{rest:List Comprehension}
 (S:ix X own bn scope) (j:X.calm=true) (hi:DI fa X tg iter gw) (B:Block fa X (LA fa X.K) own bn scope tg t W body g) (hT:qU X elt tg iter ifs rest scope pos body) (hW:∀i∈W,i∉slots t) (hn:∀i∈slots t++W,i<own.length)
 (hs:∀x,foldedSetIterable iter X.env x=pure x) (hN:X.N.Nodup) (hy:X.N[i]?=some y) (hl:X.env.scope.names.lookup y=some .local)
 (J:swapsWith (.ListComp elt ({tg,iter,ifs,0}::rest) scope pos) (some (.Name y py)) spos.line X.env=pure true) :
 DS fa X (.Assign [.Name y py] (.ListComp elt ({tg,iter,ifs,0}::rest) scope pos) spos) (λZ M=>(cf m own.length t gw g Z M).bind λx M=>(b7 M (b9 (.one i) x Z)).bind λρ1 M=>.ok (.next ρ1) M):=by
 rintro O s σ H D' I ⟨μ,Z,M,L,Y,h⟩;obtain⟨x,M1,ex,q⟩:=aO h;rw[exec_Assign_Name_used _ _ _ _ J];refine tqa (wpAny_standAt (tqa ?_));refine tqa (aV (qJ S j hi B hT hW hn hs I L Y (by
  rw[ex];exact λv H' μ' P m1 r1=>q _ H' μ' P ((L.ext P).set r1) m1) ?_) λ_ s' hq=>tqb (tqb hq))
 rintro a C s' H' Q q ⟨m,hn⟩ u hf ⟨nL,nC⟩;refine wpAny_assign_Name (sg Q hN hy (.inl hl) (v:=.ref a) rfl (λs2 R ⟨b,hb,E⟩=>?_) (.inr hl));have nb:C≠b:=by
  rcases E with z|z
  ·rw[z];exact nL
  ·exact So (nC y b z)
 exact{m,hn.sameBut hb nb,λU F=>{_,H',(u _ H' s2 R id).2 U F,q}}
end
section
variable{X:Cx}{pins:List (Addr×Obj)}{σ:L2.St}{H:Hp}{s:Rl}{h':Heap}{t':Nat}{ch:List Addr}
def wx (I:Inv X pins σ H s)(hf:∀b∈ch,f6 X pins H b)(k:∀b o,b∉ch->s.heap.get? b=some o->h'.get? b=some o):Inv X pins σ H {s with heap:=h',toks:=t'}:=by
 have j:∀b u,H b=some u->b∉ch:=λb u e z=>by rw[(hf b z).1] at e;cases e
 refine I.step (λb y=>{(hf b y).2.2.2.1,(hf b y).2.1,(hf b y).2.2.2.2.1,(hf b y).2.2.2.2.2}) (λb o _ _ h e _=>k b o h e) (λb o _ _ h e _=>{o.slots,k b o h e}) (λ_ _ _ _ n=>n)
  (λb o h e=>{o,k b o h e}) (λ_ _ e=>e) (λ_ _ _ e=>e) (λb ps e=>{#[],by rw[e];simp}) (λm hm=>?_) (λb u e=>?_) I.bare
 ·obtain⟨o,E,B,ho,r⟩:=hm;exact{o,E,B,k _ o (λz=>(hf _ z).2.1 rfl) ho,r}
 ·refine(I.hok b u e).stay (λc v h q=>k c v ?_ q) (λ_ q=>q) λ_ _ q=>q;rcases h with z|z
  ·rw[z];exact j b u e
  ·exact j c _ z
def sd (I:Inv X pins σ H s)(hf:∀b∈ch,f6 X pins H b)(k:∀b o,b∉ch->s.heap.get? b=some o->h'.get? b=some o)(B:s.heap.objs.size<=T)(new:d9 X.prog X.w (upd H T o) h' T o) :
 Inv X pins σ (upd H T o) {s with heap:=h',toks:=t'}:=by
 have hn:=I.hok.fresh B;have y:∀b u,H b=some u->b∉ch:=λb u e z=>by rw[(hf b z).1] at e;cases e
 refine I.step (λb h=>{(hf b h).2.2.2.1,(hf b h).2.1,(hf b h).2.2.2.2.1,(hf b h).2.2.2.2.2}) (λb o _ _ j e _=>k b o j e) (λb o _ _ j e _=>{o.slots,k b o j e})
  (λb o _ e n=>by rw[ay (RX (RD (Rz e) B))];exact n)
  (λb o j e=>{o,k b o j e}) (λb xs e=>by rw[ay (aX e hn)];exact e) (λb ob u e=>by rw[ay (aX e hn)];exact e) (λb ps e=>{#[],by rw[ay (aX e hn),e];simp}) (λm hm=>?_) (λb u e=>?_) I.bare
 ·obtain⟨o,F,E,ho,r⟩:=hm;exact{o,F,E,k _ o (λz=>(hf _ z).2.1 rfl) ho,r}
 ·by_cases h:b=T
  ·subst h;rw[bI] at e;cases e;exact new
  ·rw[ay h] at e;refine(I.hok b u e).stay (λc v j q=>k c v ?_ q) (λc q=>by rw[ay (aX q hn)];exact q) λc xs q=>by rw[ay (aX q hn)];exact q
   rcases j with z|z
   ·rw[z];exact y b u e
   ·exact y c _ z
end
section
variable{fa:Fa}{X:Cx}{a:Expr}{ga:Env->Mem->Res D}{pos p:Pos}
noncomputable def d4:∀(ds:List D) (k i:Nat),(gy k ds)[i]?=(ds[i]?).map λd=>.tup [.int ((k+i:Nat):Int),d]
 |[],_,_=>by simp[gy]
 |d::ds,k,0=>by simp[gy]
 | d::ds,k,i+1=>by
   have:=d4 ds (k+1) i;simp only[gy,R7,this]
   congr 1
   funext d
   congr 3
   omega
noncomputable def ic:∀(ds:List D) (k:Nat),(gy k ds).length=ds.length
 |[],_=>rfl
 |d::ds,k=>by simp[gy,ic ds]
end
def bK:Bool->Heap->Addr->Array Rg->Prop
 |true,h,a,j=>h.IsList a j
 |false,h,a,j=>h.IsTuple a j
def e9:Bool->Heap->Addr->Addr->Nat->Prop
 |true,h,j,a,i=>h.IsListIter j a i
 |false,h,j,a,i=>h.IsTupleIter j a i
def bK.extBut (x:bK b h a its)(hs:Heap.ExtBut c h h')(n:a≠c):bK b h' a its:=by
 cases b<;>(obtain⟨o,ho,r⟩:=x;exact{o,hs a o n ho,r})
def e9.extBut (x:e9 b h it a i)(hs:Heap.ExtBut c h h')(n:it≠c):e9 b h' it a i:=by
 cases b<;>(obtain⟨o,ho,r⟩:=x;exact{o,hs it o n ho,r})
def bK.at (x:bK b h a its)(k:∀o,h.get? a=some o->h'.get? a=some o):bK b h' a its:=by
 cases b<;>(obtain⟨o,ho,r⟩:=x;exact{o,k o ho,r})
def e9.at (x:e9 b h it a i)(k:∀o,h.get? it=some o->h'.get? it=some o):e9 b h' it a i:=by
 cases b<;>(obtain⟨o,ho,r⟩:=x;exact{o,k o ho,r})
def e9.obj (x:e9 b h it a i):∃o,h.get? it=some o/\∀v,o.data≠.cell v:=by
 cases b<;>(obtain⟨o,ho,c,d⟩:=x;exact{o,ho,λv z=>by rw[d] at z;cases z})
section
variable{prog:R0}{w:RS}{A:Sw}{E:Rg->Rl->Prop}{s:Rl}
def wa {a b:Nat}(h:a≠b):@Ne Addr a b:=h
def JO {T:Addr}{j:Array Rg}{k:Nat}{x:Rg}{Q:Unit->Rl->Prop}(v:s.heap.get? T=some {cls:=.type "tuple",data:=.seq j})(hz:j.size<=64)
 (h:∀u,u.get? T=some {cls:=.type "tuple",data:=.seq (j.setIfInBounds k x)}->Heap.SameBut T s.heap u->Q () {s with heap:=u}) :
 wpAny (model prog w) A (updateSeq T (·.setIfInBounds k x)) Q E s:=by
 refine wpAny_updateSeq v rfl (h _ ?_ (Heap.SameBut.update ..)) (Rp hz `d) (by rw[Array.size_setIfInBounds];exact Rp hz `d)
 rw[SJ _ v rfl];simp[Obj.mapSeq]
def ju {b:Bool}{y a:Addr}{i:Nat}{j:Array Rg}{Q:Rg->Rl->Prop}(hh:A.handled=none)(h:e9 b s.heap y a i)(hl:bK b s.heap a j)
 (I:∀x u,j[i]?=some x->e9 b u y a (i+1)->Heap.SameBut y s.heap u->Q x {s with heap:=u})
 (H:j[i]?=none->∀u e,Heap.ExtBut y s.heap u->(∃o,u.get? e=some o/\o.cls=.type "StopIteration")->E (.ref e) {s with heap:=u}):wpAny (model prog w) A (Builtin.SmallTypes.nextOf (.ref y)) Q E s:=by
 cases b with
 | true=>cases v : j[i]? with
   |some x=>exact wpAny_nextOf_list_item h hl v λu=>I x u v
   |none=>exact wpAny_nextOf_list_end hh h hl v (H v)
 | false=>
   obtain⟨o,ho,J,hd⟩:=id h;obtain⟨L,B,_,nl,z⟩:=hl;refine tqa (wpAny_callSpecial?_slot h.typeIs F.slot_tuple_iterator_next
    (wpAny_call_entry F.slot_tuple_iterator_next h.typeIs F.entry_tuple_iterator_next ?_ (F.args_tuple_iterator_next_1 _)))
   show wpAny _ _ (field (.ref y) 0 >>= _) _ _ s;refine tqa (tqf ho hd rfl ?_);show wpAny _ _ (if (Value.ref a==Value.none)=true then _ else _) _ _ s;rw[if_neg (show ¬ ((Value.ref a==Value.none)=true) from RL)];refine tqa (tqf ho hd rfl ?_);refine tqa (wpAny_seqItems B z ?_);cases v:j[i]? with
   | some x=>
     simp only[SD,v];refine tqa (wpAny_setField ho hd `s (tqb {x,rfl,tqb (I x _ v ?_ (Heap.SameBut.update ..))}))
     exact{_,SJ _ ho (Tq (Sy hd _)),(Obj.cls_mapFields ..).trans J,by
      rw[Sy hd];simp[rawInt]}
   | none=>
     simp only[SD,v];refine tqa (wpAny_rule (tqa (wpAny_setField ho hd `s ?_)))
     refine tqa ?_;refine tqa (wpAny_newObj_type ?_ (by size_fits))
     refine tqa (wpAny_of_eq (by first|rfl|(simp only[firstArgMember];rfl)) ?_)
     refine wpAny_newObj_type ?_ (by size_fits)
     refine tqa (wpAny_handled ?_);first|rw[show A.in1.handled=none from hh]|rw[hh]
     refine tqa (tqb (wpAny_throw ?_));exact H v _ _ (((Heap.SameBut.update ..).extBut.push _).push _) {_,RB _ rfl,rfl}
noncomputable abbrev jJ (us:Array Rg):Obj:={cls:=.type "tuple",data:=.seq us}
noncomputable def rf (n k j:Nat):List Rg:=(List.range' k j).map λk=>Value.ref (n+k)
def zq (n m:Nat)(h j:Heap):Prop:=∀(c:Nat) o,(c<n\/c=n+m\/n+m+2<c)->h.get? c=some o->j.get? c=some o
def zu (n i k:Nat)(l:List (Bool×Nat))(h:Heap):Prop:=∀(j:Nat) b a,l[j]?=some (b,a)->e9 b h (n+j) a (if j<k then i+1 else i)
def Nd (n:Nat)(l:List (Bool×Nat))(xs:Nat->Array Rg)(h:Heap):Prop:=∀(j:Nat) b a,l[j]?=some (b,a)->a<n/\bK b h a (xs j)
abbrev qT (h:Heap)(n m:Nat)(v:Rg):Prop:=IsZip h (n+m+2) (n+m) (n+m+1) v
def QS (n m i k:Nat)(l:List (Bool×Nat))(xs:Nat->Array Rg)(v h:Heap):Prop:=qT h n m .ellipsis/\(∃u:Array Rg,u.size=m/\(∀j<k,u[j]?=(xs j)[i]?)/\h.get? (n+m+1)=some (jJ u))/\zu n i k l h/\Nd n l xs h/\zq n m v h/\h.objs.size=v.objs.size
theorem FE {M:Model}{u:Type}{f:Rg×Nat->u->Sem (ForInStep u)}{b:u}{Q:u->Rl->Prop}(n m:Nat)(I:Nat->Rl->Prop)
 (hs:∀k s,k<m->I k s->wpAny M A (f (.ref (n+k),k) b) (λr v=>r=.yield b/\I (k+1) v) E s) (y:∀s,I m s->Q b s):∀(j k:Nat) (s:Rl),k+j=m->I k s->wpAny M A (forIn ((rf n k j).zipIdx k) b f) Q E s
 |0,k,s,e,h=>tqb (y s (e ▸ h))
 | j+1,k,s,e,h=>by
   show wpAny M A (forIn ((Value.ref (n+k),k)::(rf n (k+1) j).zipIdx (k+1)) b f) Q E s;rw[List.forIn_cons];refine tqa (aV (hs k s `a h) ?_)
   rintro _ v ⟨rfl,z⟩;exact FE n m I hs y j (k+1) v `a z
def uf {n m i:Nat}{l:List (Bool×Nat)}{xs:Nat->Array Rg}{us:Array Rg}{Q:Rg->Rl->Prop}(hh:A.handled=none)(hl:l.length=m+1)(h64:m<64)
 (hz:qT s.heap n (m+1) .none) (hTI:s.heap.get? (n+(m+1))=some (jJ (rf n 0 (m+1)).toArray)) (hTO:s.heap.get? (n+(m+1)+1)=some (jJ us)) (U:us.size=m+1) (hi:zu n i 0 l s.heap) (H:Nd n l xs s.heap)
 (hQ:∀F us,us.size=m+1->(∀k<m+1,us[k]?=(xs k)[i]?)->qT F n (m+1) (rawInt s.heap.objs.size)->F.get? (n+(m+1)+1)=some (jJ us)->zu n (i+1) 0 l F->F.get? s.heap.objs.size=some (jJ us)->zq n (m+1) s.heap F->Q (.ref s.heap.objs.size) {s with heap:=F})
 (hE:∀F e k,k<m+1->(xs k)[i]?=none->zq n (m+1) s.heap F->(∃o,F.get? e=some o/\o.cls=.type "StopIteration")->E (.ref e) {s with heap:=F}) :
 wpAny (model prog w) A (Builtin.«zip.__next__» {[.ref (n+(m+1)+2)],[]}) (λfin s'=>∃v,fin=.done (.ret v)/\Q v s') E s:=by
 show wpAny _ _ (field (.ref (n+(m+1)+2)) 2 >>= _) _ _ _;refine tqa (tqf hz rfl rfl ?_);refine tqa (tqf hz rfl rfl ?_);refine tqa (wpAny_seqItems hTI rfl ?_);refine tqa ?_;refine tqa (tqf hz rfl rfl (tqb ?_));refine tqa (wpAny_rule ?_);refine tqa (tqf hz rfl rfl ?_);refine tqa (wpAny_setField_rec hz `s λh0 hz0 S=>?_)
 have u0:∀(c:Nat) o,c≠n+(m+1)+2->s.heap.get? c=some o->h0.get? c=some o:=λc o ne=>S.extBut c o ne;have mm:∀{j b a},l[j]?=some (b,a)->j<m+1:=λe=>hl ▸ (Rb.mp e).1;refine tqa (FE n (m+1) (λk s'=>∃h,s'={s with heap:=h}/\QS n (m+1) i k l xs s.heap h) ?_ ?_ (m+1) 0 _ (Nat.zero_add _) {h0,rfl,hz0,{us,U,λ_ z=>absurd z (Nat.not_lt_zero _),u0 _ _ `a hTO},λj b a e=>(hi j b a e).at λo=>u0 _ o (by have:=mm e;omega),λj b a e=>{(H j b a e).1,(H j b a e).2.at λo=>u0 _ o (by have:=(H j b a e).1;omega)},λc o L=>u0 c o `a,S.1})
 ·rintro k _ hk ⟨h,rfl,hz,⟨us,U,hx,hT⟩,hi,H,kp,sz⟩;obtain⟨⟨b,a⟩,e⟩:∃p,l[k]?=some p:={_,RE `a}
  have it:=hi k b a e;rw[if_neg (Sv k)] at it;refine tqa (wpAny_onRaise ?_);refine tqa (ju hh it (H k b a e).2 (λx h1 ex j1 u=>tqb ?_) λen h1 e1 u ⟨oe,J,R⟩=>?_)
  ·have O:=u.extBut _ _ (wa `a) hT
   refine tqa (wpAny_seqItems O rfl ?_);refine tqa (JO O `a λh2 hT2 B=>?_)
   have I:∀(c:Nat) o,c≠n+k->c≠n+(m+1)+1->h.get? c=some o->h2.get? c=some o:=λc o x y z=>B.extBut c o y (u.extBut c o x z);refine tqa (wpAny_letGo (tqb {rfl,h2,rfl,I _ _ `a `a hz,{_,(Array.size_setIfInBounds ..).trans U,λj hj=>?_,hT2},λj b' a' M=>?_,λj b a e=>{(H j b a e).1,(H j b a e).2.at λo=>I _ o (by have:=(H j b a e).1;omega) (by have:=(H j b a e).1;omega)},λc o L x=>I c o `a `a (kp c o L x),by rw[B.1,u.1,sz]}))
   ·by_cases jk:j=k
    ·subst jk;rw[Array.getElem?_setIfInBounds_self_of_lt `a,ex]
    ·rw[Array.getElem?_setIfInBounds_ne (So jk),hx j `a]
   ·by_cases jk:j=k
    ·subst jk;cases e.symm.trans M;rw[if_pos (Nat.lt_succ_self _)];exact j1.at λo=>B.extBut _ o (wa `a)
    ·have q:=hi j b' a' M;have:=mm M;rw[show(if j<k+1 then i+1 else i)=if j<k then i+1 else i by split<;>split<;>omega]
     exact q.at λo=>I _ o `a `a
  ·have W:=u _ _ (wa `a) hz
   have hez:e1≠n+(m+1)+2:=λx=>by subst x;rw[W] at J;cases J;simp at R
   exact wpAny_setField_rec W `s λh2 _ B=>hE h2 e1 k hk en (λc o L x=>B.extBut _ _ (wa `a) (u _ _ (wa `a) (kp c o L x))) {oe,B.extBut _ _ hez J,R}
 ·rintro _ ⟨h4,rfl,X,⟨us,U,hx,hT⟩,hi,H,kp,sz4⟩;refine tqa (wpAny_seqItems hT rfl ?_);refine tqa (wpAny_newTuple (hsz:=Rp (show us.toList.length<=64 by rw[S7];omega) `d) ?_)
  have hzlt:=Rz X;refine tqa ?_;have hz6:qT (h4.push (jJ us)) n (m+1) .ellipsis:=Rf _ X;refine tqa (wpAny_setField_rec hz6 `s λh7 hz7 hs7=>?_)
  refine wpAny_setField_rec hz7 `s λh8 Y hs8=>?_
  have I:∀(c:Nat) o,c≠n+(m+1)+2->(h4.push (jJ us)).get? c=some o->h8.get? c=some o:=λc o c1 e=>hs8.extBut _ _ c1 (hs7.extBut _ _ c1 e);refine tqb {_,rfl,?_};have P:=I h4.objs.size _ (Sr hzlt) (RB _ rfl);rw[sz4] at P Y ⊢;refine hQ h8 us U hx Y (I _ _ `a (Rf _ hT)) (λj b a e=>?_) P λc o L e=>I c o `a (Rf _ (kp c o L e))
  have q:=hi j b a e;rw[if_pos (mm e)] at q;exact q.at λo M=>I _ o (by have:=mm e;omega) (Rf _ M)
end
def jc (K:Q9)(H:Hp):Bool->Addr->List V->Prop
 |true,a,xs=>cE K H a xs
 |false,a,xs=>dI K H a xs
noncomputable def eG:D->Bool
 |.tup _=>false
 |_=>true
noncomputable def cT:D->Bool
 |.tup _=>true
 |.lst _=>true
 |.frz _=>true
 |.cell _=>true
 |_=>false
def nB {X:Cx}{u:List (Addr×Obj)}{v:L2.St}{H:Hp}{s:Rl}{b:Bool}{a:Addr}{xs:List V}(I:Inv X u v H s)(h:jc X.K H b a xs):∃j:List Rg,Vals xs j/\bK b s.heap a j.toArray:=by
 cases b with
 |true=>obtain⟨j,r,p,_⟩:=I.list h;exact⟨j,r,p.isList⟩
 |false=>obtain⟨j,r,p,_⟩:=I.tuple h;exact⟨j,r,p⟩
def lM {X:Cx}{j:List (Addr×Obj)}{v:L2.St}{H:Hp}{s:Rl}{b:Bool}{a:Addr}{xs ys:List V}(I:Inv X j v H s)(h:jc X.K H b a xs)(u:jc X.K H b a ys):xs=ys:=by
 cases b with
 |true=>exact I.list_inj h u
 |false=>exact I.tuple_inj h u
def gJ {fa:Fa}{X:Cx}{μ:Mu}{H:Hp}{M:Mem}{d:D}{a:Addr}{ds:List D}(v:RelM fa X.K μ H M)(h:Rep fa X.K μ H d (.ref a))(e:bW M d=some ds):∃vs,jc X.K H (eG d) a vs/\aH fa X.K μ H ds vs:=by
 cases d with
 |tup xs=>cases e;obtain⟨u,vs,e,s,r⟩:=h;cases e;exact⟨vs,s,r⟩
 |lst xs=>obtain⟨u,vs,j,s,r⟩:=bS v h (e);cases j;exact⟨vs,s,r⟩
 |frz xs=>obtain⟨u,vs,j,s,r⟩:=bS v h (e);cases j;exact⟨vs,s,r⟩
 |cell k=>obtain⟨u,vs,j,s,r⟩:=bS v h (e);cases j;exact⟨vs,s,r⟩
 |_=>cases e
def iC {fa:Fa}{X:Cx}{y:List (Addr×Obj)}{L:L2.St}{μ:Mu}{H:Hp}{s:Rl}{M:Mem}{d:D}{v:V}(I:Inv X y L H s)(F:RelM fa X.K μ H M)(h:Rep fa X.K μ H d v)(e:cT d=true):∃(a:Nat) (j:Array Rg),v=.ref a/\bK (eG d) s.heap a j:=by
 have u:∀B,bW M d=some B->∃(a:Nat) (j:Array Rg),v=.ref a/\bK (eG d) s.heap a j:=λB z=>by
  obtain⟨a,J,rfl,_,_⟩:=jL F h z;obtain⟨J,s1,_⟩:=gJ F h z;obtain⟨j,_,p⟩:=nB I s1;exact⟨a,j.toArray,rfl,p⟩
 cases d with
 |tup xs=>exact u xs rfl
 |lst xs=>exact u xs rfl
 |frz xs=>exact u xs rfl
 | cell k=>
   obtain⟨a,e,hk⟩:=id h;obtain⟨B,_,z,_⟩:=F.mu_lt hk;exact u B z
 |_=>cases e
def bK.lt {b:Bool}{h:Heap}{a:Addr}{j:Array Rg}(x:bK b h a j):a<h.objs.size:=by
 cases b<;>(obtain⟨o,ho,r⟩:=x;exact Rz ho)
def bK.push {b:Bool}{h:Heap}{a:Addr}{j:Array Rg}(x:bK b h a j)(ob:Obj):bK b (h.push ob) a j:=by
 cases b<;>(obtain⟨o,ho,r⟩:=x;exact{o,Rf _ ho,r})
noncomputable def eF (b:Bool)(a:Addr):Obj:={cls:=.type (if b then "list_iterator" else "tuple_iterator"),data:=.fields #[.ref a,.int 0 0]}
def e9.new {b:Bool}{h:Heap}{j a:Addr}(e:h.get? j=some (eF b a)):e9 b h j a 0:=by
 cases b<;>exact{_,e,rfl,rfl}
def hI {prog:R0}{w:RS}{A:Sw}{E:Rg->Rl->Prop}{s:Rl}{b:Bool}{a:Addr}{j:Array Rg}{Q:Rg->Rl->Prop}(h:bK b s.heap a j)(u:Q (.ref s.heap.objs.size) {s with heap:=s.heap.push (eF b a)}):wpAny (model prog w) A (pyIter (.ref a)) Q E s:=by
 cases b with
 |true=>exact wpAny_pyIter_list h u
 |false=>exact wpAny_pyIter_tuple h u
abbrev j6:=List (Bool×Nat)
def GF (K:Q9)(l:j6):It:=
 {λi H=>∀ (j : Nat) b a,l[j]? = some (b,a) -> ∃ xs x,jc K H b a xs /\ xs[i]? = some x,
  λi H v u=>∃p h,H p=none/\v=.ref p/\u=upd H p (.tup h)/\h.length=l.length/\∀(j:Nat) b a,l[j]?=some (b,a)->∀xs,jc K H b a xs->h[j]?=xs[i]?,
  λi H=>(∀(j:Nat) b a,l[j]?=some (b,a)->∃xs,jc K H b a xs)/\∃(j:Nat) (b:Bool) (a:Nat) (xs:List V),l[j]?=some (b,a)/\jc K H b a xs/\xs.length<=i}
def ud (n m:Nat)(l:j6)(i:Nat)(h:Heap):Prop:=qT h n (m+1) .none/\h.get? (n+(m+1))=some (jJ (rf n 0 (m+1)).toArray)/\(∃j:Array Rg,j.size=m+1/\h.get? (n+(m+1)+1)=some (jJ j))/\zu n i 0 l h
noncomputable def EU (n m:Nat):List Addr:=List.range' n (m+4)
def dM {n m b:Nat}:b∈EU n m↔n<=b/\b<n+(m+4):=List.mem_range'_1
def Fn {X:Cx}{u:List (Addr×Obj)}{B:L2.St}{H:Hp}{s:Rl}{l:j6}(I:Inv X u B H s)(h:∀(j:Nat) b a,l[j]?=some (b,a)->∃xs,jc X.K H b a xs) :
 ∃(vs:Nat->List V) (ws:Nat->List Rg),∀(j:Nat) b a,l[j]?=some (b,a)->jc X.K H b a (vs j)/\Vals (vs j) (ws j)/\bK b s.heap a (ws j).toArray:=by
 obtain⟨f,hf⟩:=Classical.skolem.mp λj:Nat=>show ∃p:List V×List Rg,∀b a,l[j]?=some (b,a)->jc X.K H b a p.1/\Vals p.1 p.2/\bK b s.heap a p.2.toArray from by
  cases e:l[j]? with
  |none=>exact{([],[]),λ_ _ z=>by cases z}
  | some p=>
    obtain⟨xs,y⟩:=h j p.1 p.2 e;obtain⟨v,r,q⟩:=nB I y;exact{(xs,v),λJ F z=>by cases z;exact⟨y,r,q⟩}
 exact{λj=>(f j).1,λj=>(f j).2,hf}
theorem E7:∀{us:List Rg}{R:Nat->V->Prop},(∀(k:Nat) w,us[k]?=some w->∃y,RelV y w/\R k y)->∃ys,Vals ys us/\∀(k:Nat) y,ys[k]?=some y->R k y
 |[],R,_=>{[],.nil,λ_ _ z=>by simp at z}
 | w::r,R,h=>by
   obtain⟨y,e,q⟩:=h 0 w rfl;obtain⟨ys,v,t⟩:=E7 λk w e=>h (k+1) w e;exact{y::ys,.cons e v,λk z e=>match k,e with
    |0,e=>by cases e;exact q
    |k+1,e=>t k z e}
def uk {P:R0}{w:RS}{K:Q9}{M:List Expr}{kk:Nat}{pos:Pos}(n m:Nat)(l:j6)(hl:l.length=m+1)(O:m<64)(hn:∀(j:Nat) b a,l[j]?=some (b,a)->a<n) :
 Turn P w K (.Tuple M kk pos) (GF K l) (EU n m) (n+(m+1)+2) (λi h=>ud n m l i h) where
 mem:=dM.mpr `a
 obj:=λi h ⟨h1,h2,⟨us,_,h3⟩,B⟩ (b:Nat) u=>by
  replace u:=dM.mp u;by_cases c:b<n+(m+1)
  ·obtain⟨j,rfl⟩:∃j,b=n+j:={b-n,`a}
   exact(B j _ _ (RE `a)).obj
  ·rcases(show b=n+(m+1)\/b=n+(m+1)+1\/b=n+(m+1)+2 by omega) with rfl|rfl|rfl
   ·exact{_,h2,λv z=>by cases z}
   ·exact{_,h3,λv z=>by cases z}
   ·exact{_,h1,λv z=>by cases z}
 keep:=λi h h' ⟨h1,h2,⟨us,y,h3⟩,B⟩ k=>{k _ (dM.mpr `a) _ h1,k _ (dM.mpr `a) _ h2,{us,y,k _ (dM.mpr `a) _ h3},λj b a e=>(B j b a e).at (k _ (dM.mpr (by have:=(Rb.mp e).1;omega)))}
 item:=by
  rintro X hP S hK hc i U s σ H E I hf ⟨h1,h2,⟨us,y,h3⟩,B⟩ hg;subst hP S hK;obtain⟨vs,ws,L⟩:=Fn I λj b a e=>(hg j b a e).imp (by rintro _ ⟨_,h,_⟩;exact h)
  have it:∀k,k<m+1->∃x w b a,l[k]?=some (b,a)/\(vs k)[i]?=some x/\(ws k)[i]?=some w/\RelV x w:=λk hk=>by
   have e:l[k]?=some (l[k]'(`a)):=RE _
   obtain⟨xs,x,J,ex⟩:=hg k _ _ e;obtain⟨q1,q2,_⟩:=L k _ _ e;rw[lM I J q1] at ex;obtain⟨w,S,r⟩:=q2.get ex;exact{x,w,_,_,e,ex,S,r}
  have R:s.TypeIs (.ref (n+(m+1)+2)) "zip":={_,h1,rfl};unfold pyNext;refine tqa (wpAny_attempt (wpAny_callSpecial?_slot R F.slot_zip_next
   (wpAny_call_entry F.slot_zip_next R F.entry_zip_next
    (uf (I.ok.hd hc) hl O h1 h2 h3 y B (λj b a e=>{hn j b a e,(L j b a e).2.2}) (λh4 us y J z1 z2 g hTT hk=>tqb {_,rfl,?_}) λh' e k hk en _ _=>?_) (F.args_zip_next_1 _))))
  ·have zlt:n+(m+1)+2<s.heap.objs.size:=Rz h1;refine wpAny_letOwnedTupleGo_zip z1 λh5 hz5 hs5=>?_;have Y:∀(c:Nat) o,c≠n+(m+1)+2->h4.get? c=some o->h5.get? c=some o:=λc o=>hs5.extBut c o;obtain⟨ys,vy,ty⟩:=E7 (us:=us.toList) λk w e=>by
    have hk:k<m+1:=by have:=(Rb.mp e).1;rw[S7] at this;omega
    obtain⟨x,w',_,_,_,ex,ew,r⟩:=it k hk;have q:=J k hk;rw[Array.getElem?_toList] at e;simp only[List.getElem?_toArray] at q;rw[e,ew] at q;cases q;exact⟨x,r,ex⟩
   have ly:ys.length=m+1:=by rw[vy.length,S7,y]
   refine{.ref s.heap.objs.size,upd H s.heap.objs.size (.tup ys),sd (s:=s) I hf (λ(b:Nat) o u q=>Y b o (λz=>u (dM.mpr `a)) (hk b o (by rw[dM] at u;omega) q)) (Rj _) {by rw[ly];exact Rp (show m+1<=64 by omega) `d,us.toList,vy,{_,Y _ _ (Sr zlt) hTT,rfl,_,rfl}},rfl,
    {_,ys,I.hok.fresh (Rj _),rfl,rfl,ly.trans hl.symm,λj b a e xs J=>?_},{hz5,Y _ _ `a (hk _ _ `a h2),{us,y,Y _ _ `a z2},λj b a e=>(g j b a e).at λo=>Y _ o (by have:=(Rb.mp e).1;omega)},λ(b:Nat) u=>?_}
   ·have hj:j<ys.length:=by have:=(Rb.mp e).1;omega
    have e1:=RE hj;rw[lM I J (L j b a e).1,ty j _ e1,e1]
   ·rw[dM] at u;rw[ay (RX (by omega:(b:Nat)<s.heap.objs.size))];exact(hf b (dM.mpr u)).1
  ·obtain⟨_,_,_,_,_,_,ew,_⟩:=it k hk;simp only[List.getElem?_toArray] at en;rw[ew] at en;cases en
 done:=by
  rintro X hP S hK hc i U s σ H E I hf ⟨h1,h2,⟨us,y,h3⟩,B⟩ ⟨hs,k,b,a,xs,ek,hq,le⟩;subst hP S hK;obtain⟨vs,ws,L⟩:=Fn I hs;have R:s.TypeIs (.ref (n+(m+1)+2)) "zip":={_,h1,rfl};unfold pyNext;refine tqa (wpAny_attempt (wpAny_callSpecial?_slot R F.slot_zip_next
   (wpAny_call_entry F.slot_zip_next R F.entry_zip_next
    (uf (I.ok.hd hc) hl O h1 h2 h3 y B (λj b a e=>{hn j b a e,(L j b a e).2.2}) (λh4 us y J _ _ _ _ _=>?_) λh' e k _ _ hk he=>?_) (F.args_zip_next_1 _))))
  ·exfalso;have hk:=(Rb.mp ek).1;have q:=J k `a
   obtain⟨q1,q2,_⟩:=L k b a ek;rw[Array.getElem?_eq_getElem `a] at q
   simp only[List.getElem?_toArray] at q;rw[SG (by rw[<- q2.length,lM I q1 hq];exact le)] at q
   cases q
  ·obtain⟨o,ho,hcl⟩:=he;refine tqa (wpAny_isInstance ⟨o,ho,hcl⟩ isSubtype_stop ?_);exact tqb {rfl,wx I hf λ(b:Nat) o u q=>hk b o (by rw[dM] at u;omega) q}
 self:=λ_ _ _ _ _ st h=>wpAny_pyIter_zip st.1 h
noncomputable def iS (h:Heap):j6->Heap
 |[]=>h
 |p::r=>iS (h.push (eF p.1 p.2)) r
noncomputable def tQ (h:Heap):j6->List Rg
 |[]=>[]
 |p::r=>.ref h.objs.size::tQ (h.push (eF p.1 p.2)) r
noncomputable def qc:∀{h:Heap}{l:j6},(iS h l).objs.size=h.objs.size+l.length
 |_,[]=>rfl
 |h,p::r=>by show(iS _ r).objs.size=_;rw[qc,SO,R1];omega
noncomputable def mG:∀{l:j6}{h:Heap}{c:Nat}{o:Obj},h.get? c=some o->(iS h l).get? c=some o
 |[],_,_,_,e=>e
 |_::r,_,_,_,e=>mG (l:=r) (Rf _ e)
noncomputable def sE:∀{l:j6}{h:Heap}{j:Nat}{p:Bool×Nat},l[j]?=some p->(iS h l).get? (h.objs.size+j)=some (eF p.1 p.2)
 |_::r,h,0,_,e=>by cases e;exact mG (l:=r) (RB _ rfl)
 | q::r,h,j+1,_,e=>by
   have:=sE (h:=h.push (eF q.1 q.2)) (j:=j) e;rw[SO,Nat.add_assoc,Nat.add_comm 1] at this;exact this
noncomputable def uW:∀{l:j6}{h:Heap}{n k:Nat},h.objs.size=n+k->tQ h l=rf n k l.length
 |[],_,_,_,_=>rfl
 | p::r,h,n,k,e=>by
   have:=uW (l:=r) (h:=h.push (eF p.1 p.2)) (k:=k+1) (by rw[SO,e];rfl)
   show Value.ref h.objs.size::tQ _ r=Value.ref (n+k)::rf n (k+1) r.length;rw[this,e]
abbrev ET (h:Heap)(l:j6):Heap:=(iS h l).push (jJ (tQ h l).toArray)
abbrev wt (h:Heap)(l:j6):Heap:=(ET h l).push (jJ (l.map λ_=>Value.none).toArray)
abbrev r6 (h:Heap)(l:j6):Heap:=(wt h l).push {cls:=.type "zip",data:=.fields #[.none,.bool false,.bool false,.ref (iS h l).objs.size,.ref (ET h l).objs.size]}
def wq (h:Heap){l:j6}{m:Nat}(hl:l.length=m+1):(wt h l).objs.size=h.objs.size+(m+1)+2/\ud h.objs.size m l 0 (r6 h l)/\∀c o,h.get? c=some o->(r6 h l).get? c=some o:=by
 have u:(iS h l).objs.size=h.objs.size+(m+1):=by rw[qc,hl]
 have s1:(ET h l).objs.size=h.objs.size+(m+1)+1:=by rw[SO,u]
 have s2:(wt h l).objs.size=h.objs.size+(m+1)+2:=by rw[SO,s1]
 have B:∀{c:Nat}{o},(iS h l).get? c=some o->(r6 h l).get? c=some o:=λe=>Rf _ (Rf _ (Rf _ e));have v:(r6 h l).get? (iS h l).objs.size=some _:=Rf _ (Rf _ (RB _ rfl));have y:(r6 h l).get? (ET h l).objs.size=some _:=Rf _ (RB _ rfl);have z:(r6 h l).get? (wt h l).objs.size=some _:=RB _ rfl;rw[u,uW (Nat.add_zero _).symm,hl] at v;rw[s1] at y;rw[s2,s1,u] at z;exact{s2,{z,v,{_,by simp[hl],y},λj b a e=>e9.new (B (sE e))},λc o e=>B (mG e)}
def yD (b0:Bool)(a0:Nat)(b1:Bool)(a1:Nat)(xs0 xs1:Array Rg) :
 Meets (Builtin.«zip.__new__» {[.type "zip",.ref a0,.ref a1],[]}) (λ_ R s=>bK b0 s.heap a0 xs0/\bK b1 s.heap a1 xs1/\
  R (.ok (.ret (.ref (wt s.heap [(b0,a0),(b1,a1)]).objs.size))) {s with heap:=r6 s.heap [(b0,a0),(b1,a1)]}):=
 .of_wp λprog w A R s h=>by
  obtain⟨y,g,d,tk,os⟩:=s;obtain⟨z,B,h⟩:=h;have j:=sub_zip;have u:=z;have v:bK b1 (Shared.heap {y.push (eF b0 a0),g,d,tk,os}) a1 xs1:=(B).push _;wp_walk using hI u,hI v
  exact{_,rfl,h}
def yC (b0:Bool)(a0:Nat)(b1:Bool)(a1:Nat)(b2:Bool)(a2:Nat)(xs0 xs1 xs2:Array Rg) :
 Meets (Builtin.«zip.__new__» {[.type "zip",.ref a0,.ref a1,.ref a2],[]}) (λ_ R s=>bK b0 s.heap a0 xs0/\bK b1 s.heap a1 xs1/\bK b2 s.heap a2 xs2/\
  R (.ok (.ret (.ref (wt s.heap [(b0,a0),(b1,a1),(b2,a2)]).objs.size))) {s with heap:=r6 s.heap [(b0,a0),(b1,a1),(b2,a2)]}):=
 .of_wp λprog w A R s h=>by
  obtain⟨j,g,d,tk,os⟩:=s;obtain⟨B,F,H,h⟩:=h;have u:=sub_zip;have v:=B;have y:bK b1 (Shared.heap {j.push (eF b0 a0),g,d,tk,os}) a1 xs1:=(F).push _;have z:bK b2 (Shared.heap {(j.push (eF b0 a0)).push (eF b1 a1),g,d,tk,os}) a2 xs2:=((H).push _).push _;wp_walk using hI v,hI y,hI z
  exact{_,rfl,h}
def qY (a b c:Rg):checkTypeCall "zip" {[a,b,c],[]}=pure ():=by kernel_rfl
def tH (a b c:Rg):checkBuiltinCall "zip.__new__" {[.type "zip",a,b,c],[]}=pure ():=by kernel_rfl
def nk (a b c d:Rg):argsOk "object.__init__" {[a,b,c,d],[]}:=by
 unfold argsOk;rw[signature?_of (n:=['_','_','t','i','n','i','_','_']) (by kernel_rfl) F.owner_object];kernel_rfl
section
variable{prog:R0}{w:RS}{A:Sw}{E:Rg->Rl->Prop}{s:Rl}{a0 a1 a2:Nat}{b0 b1 b2:Bool}{xs0 xs1 xs2:Array Rg}{Q:Rg->Rl->Prop}
def BU (u:bK b0 s.heap a0 xs0)(v:bK b1 s.heap a1 xs1)(h:∀j,ud s.heap.objs.size 1 [(b0,a0),(b1,a1)] 0 j->(∀c o,s.heap.get? c=some o->j.get? c=some o)->Q (.ref (s.heap.objs.size+2+2)) {s with heap:=j}) :
 wpAny (model prog w) A (call (.type "zip") [.ref a0,.ref a1]) Q E s:=by
 obtain⟨z,y,x⟩:=wq s.heap (l:=[(b0,a0),(b1,a1)]) rfl;refine callType_new F.called_zip `d (F.typeCall_zip_2 _ _) (F.newCall_zip_2 _ _) (λobj=>F.args_object_init_3 obj _ _) F.entry_zip_new (yD b0 a0 b1 a1 xs0 xs1) {u,v,?_}
 show _/\_;rw[z];exact{{_,y.1,rfl},h _ y x}
def BS (u:bK b0 s.heap a0 xs0)(v:bK b1 s.heap a1 xs1)(B:bK b2 s.heap a2 xs2)(h:∀j,ud s.heap.objs.size 2 [(b0,a0),(b1,a1),(b2,a2)] 0 j->(∀c o,s.heap.get? c=some o->j.get? c=some o)->Q (.ref (s.heap.objs.size+3+2)) {s with heap:=j}) :
 wpAny (model prog w) A (call (.type "zip") [.ref a0,.ref a1,.ref a2]) Q E s:=by
 obtain⟨z,y,x⟩:=wq s.heap (l:=[(b0,a0),(b1,a1),(b2,a2)]) rfl;refine callType_new F.called_zip `d (qY _ _ _) (tH _ _ _) (λobj=>nk obj _ _ _) F.entry_zip_new (yC b0 a0 b1 a1 b2 a2 xs0 xs1 xs2) {u,v,B,?_}
 show _/\_;rw[z];exact{{_,y.1,rfl},h _ y x}
end
def pQ (d0 d1:D):Walk:=λM=>(bW M d0).bind λh=>(bW M d1).map λj=>jI h j
def nQ (j u:Env->Mem->Res D):Env->Mem->Res Walk:=λh M=>(j h M).bind λd0 M=>(u h M).bind λd1 M=>if cT d0&&cT d1 then .ok (pQ d0 d1) M else .bad
noncomputable def ui:∀(j u:List D) (i:Nat) (d:D),(jI j u)[i]?=some d↔∃h e1,j[i]?=some h/\u[i]?=some e1/\d=.tup [h,e1]
 |v::t0,y::t1,0,d=>by simp[jI,eq_comm]
 | v::t0,y::t1,i+1,d=>by
   have:=ui t0 t1 i d;simpa[jI] using this
 |[],_,i,d=>by simp[jI]
 |_::_,[],i,d=>by simp[jI]
noncomputable def uh:∀(j u:List D) (i:Nat),(jI j u).length<=i->j.length<=i\/u.length<=i
 |v::t0,y::t1,0,h=>by simp[jI] at h
 | v::t0,y::t1,i+1,h=>by
   have:=uh t0 t1 i (by simpa[jI] using h)
   simpa using this
 |[],_,i,h=>`s
 |_::_,[],i,h=>`s
def pP (d0 d1 d2:D):Walk:=λM=>(bW M d0).bind λh=>(bW M d1).bind λj=>(bW M d2).map λu=>fH h j u
def nP (j u v:Env->Mem->Res D):Env->Mem->Res Walk:=λh M=>(j h M).bind λd0 M=>(u h M).bind λd1 M=>(v h M).bind λd2 M=>if cT d0&&cT d1&&cT d2 then .ok (pP d0 d1 d2) M else .bad
theorem rZ:∀(j u v:List D) (i:Nat) (d:D),(fH j u v)[i]?=some d↔∃h e1 e2,j[i]?=some h/\u[i]?=some e1/\v[i]?=some e2/\d=.tup [h,e1,e2]
 |y::t0,z::t1,B::t2,0,d=>by simp[fH,eq_comm]
 | y::t0,z::t1,B::t2,i+1,d=>by
   have:=rZ t0 t1 t2 i d;simpa[fH] using this
 |[],_,_,i,d=>by simp[fH]
 |_::_,[],_,i,d=>by simp[fH]
 |_::_,_::_,[],i,d=>by simp[fH]
noncomputable def rY:∀(j u v:List D) (i:Nat),(fH j u v).length<=i->j.length<=i\/u.length<=i\/v.length<=i
 |y::t0,z::t1,B::t2,0,h=>by simp[fH] at h
 | y::t0,z::t1,B::t2,i+1,h=>by
   have:=rY t0 t1 t2 i (by simpa[fH] using h)
   simpa using this
 |[],_,_,i,h=>`s
 |_::_,[],_,i,h=>`s
 |_::_,_::_,[],i,h=>`s
noncomputable def Fq {fa:Fa}{K:Q9}{μ:Mu}{H:Hp}:∀{es:List D}{ws:List V},es.length=ws.length->(∀(j:Nat) e w,es[j]?=some e->ws[j]?=some w->Rep fa K μ H e w)->aH fa K μ H es ws
 |[],[],_,_=>rfl
 |e::es,w::ws,hl,h=>{w,ws,rfl,h 0 e w rfl rfl,Fq (by simpa using hl) λj e w=>h (j+1) e w}
def uj {fa:Fa}{X:Cx}{μ0:Mu}{H0:Hp}{l:j6}{w:Walk} (W:∀μ H M ds,ExtW μ0 H0 μ H->RelM fa X.K μ H M->w M=some ds->∃ys:List (List D),ys.length=l.length/\(∀(j:Nat) y b a,ys[j]?=some y->l[j]?=some (b,a)->∃vs,jc X.K H b a vs/\aH fa X.K μ H y vs)/\
 (∀(i:Nat) d,ds[i]?=some d->∃es,d=.tup es/\es.map some=ys.map (·[i]?))/\∀i,ds.length<=i->∃y∈ys,y.length<=i):dU fa X.K μ0 H0 w (GF X.K l):=λμ H M ds x J e=>by
 obtain⟨ys,hl,B,hd,he⟩:=W μ H M ds x J e;have at_:∀(j:Nat) b a,l[j]?=some (b,a)->∃y vs,ys[j]?=some y/\jc X.K H b a vs/\aH fa X.K μ H y vs:=λj b a e=>by
  have hj:=(Rb.mp e).1;have u:=RE (l:=ys) (i:=j) `a
  obtain⟨vs,q,r⟩:=B j _ b a u e;exact{_,vs,u,q,r}
 refine{λi d L=>?_,λi L=>{λj b a e=>?_,?_}}
 ·obtain⟨es,rfl,ee⟩:=hd i d L;have I:∀{j:Nat}{y:List D},ys[j]?=some y->es[j]?.map some=some y[i]?:=λ{j y} u=>by
   have:=congrArg (·[j]?) ee;simpa[u] using this
  have le:es.length=l.length:=by have:=congrArg List.length ee;simpa[hl] using this
  have R:∀(j:Nat) b a,l[j]?=some (b,a)->∃vs e v,es[j]?=some e/\jc X.K H b a vs/\vs[i]?=some v/\Rep fa X.K μ H e v:=λj b a e=>by
   obtain⟨y,vs,u,q,r⟩:=at_ j b a e;have z:=I u;cases h:es[j]? with
   |none=>rw[h] at z;cases z
   | some e=>
     rw[h] at z;obtain⟨v,B,P⟩:=r.get (Ro z).symm;exact⟨vs,e,v,rfl,q,B,P⟩
  refine{λj b a e=>?_,λy H' ⟨p,zs,O,u,S,lz,t⟩=>?_}
  ·obtain⟨vs,_,v,_,q,B,_⟩:=R j b a e;exact⟨vs,v,q,B⟩
  subst S u;refine{Ext.alloc J O,J.alloc O,p,zs,rfl,.inl (.inl bI),Fq (le.trans lz.symm) λj e w ee U=>?_};have F:=RE (l:=l) (i:=j) (by have:=(Rb.mp ee).1;omega)
  obtain⟨vs,e',v,h1,q,B,P⟩:=R j _ _ F;have z:=t j _ _ F vs q;rw[U,B] at z;rw[ee] at h1;cases z;cases h1;exact P.ext (Ext.alloc J O)
 ·obtain⟨_,vs,_,q,_⟩:=at_ j b a e;exact⟨vs,q⟩
 ·obtain⟨y,Y,ly⟩:=he i L;obtain⟨j,I⟩:=List.getElem?_of_mem Y;have F:=RE (l:=l) (i:=j) (by have:=(Rb.mp I).1;omega)
  obtain⟨vs,q,r⟩:=B j y _ _ I F;exact{j,_,_,vs,F,q,by rw[r.length];exact ly}
section
variable{fa:Fa}{X:Cx}{μ0:Mu}{H0:Hp}{d0 d1 d2:D}{a0 a1 a2:Nat}(r0:Rep fa X.K μ0 H0 d0 (.ref a0))(r1:Rep fa X.K μ0 H0 d1 (.ref a1))(r2:Rep fa X.K μ0 H0 d2 (.ref a2))
include r0 r1
theorem zE:dU fa X.K μ0 H0 (pQ d0 d1) (GF X.K [(eG d0,a0),(eG d1,a1)]):=uj λR H M O x F e=>by
 obtain⟨v,L,e⟩:=R4.mp e;obtain⟨B,s1,rfl⟩:=Ry.mp e;refine{[v,B],rfl,λj y b a u h=>?_,λi d hd=>?_,λi J=>?_}
 ·match j,u,h with
  |0,u,h=>cases u;cases h;exact gJ F (Rep.extW x r0) L
  |1,u,h=>cases u;cases h;exact gJ F (Rep.extW x r1) s1
 ·obtain⟨P,e1,I,h1,rfl⟩:=(ui v B i d).mp hd;exact{_,rfl,by simp[I,h1]}
 ·rcases uh v B i J with z|z<;>exact{_,`s,z}
include r2
theorem zD:dU fa X.K μ0 H0 (pP d0 d1 d2) (GF X.K [(eG d0,a0),(eG d1,a1),(eG d2,a2)]):=uj λS H M P x v e=>by
 obtain⟨B,O,e⟩:=R4.mp e;obtain⟨F,s1,e⟩:=R4.mp e;obtain⟨I,s2,rfl⟩:=Ry.mp e;refine{[B,F,I],rfl,λj y b a u h=>?_,λi d hd=>?_,λi L=>?_}
 ·match j,u,h with
  |0,u,h=>cases u;cases h;exact gJ v (Rep.extW x r0) O
  |1,u,h=>cases u;cases h;exact gJ v (Rep.extW x r1) s1
  |2,u,h=>cases u;cases h;exact gJ v (Rep.extW x r2) s2
 ·obtain⟨R,e1,e2,J,h1,h2,rfl⟩:=(rZ B F I i d).mp hd;exact{_,rfl,by simp[J,h1,h2]}
 ·rcases rY B F I i L with z|z|z<;>exact{_,`s,z}
end
set_option tactic.hygienic true in
def Jf {fa:Fa}{X:Cx}{B:List Expr}{kk:Nat}{tp p pos:Pos}{Y e1:Expr}{g0 g1:Env->Mem->Res D}(h0:DE fa X Y g0)(h1:DE fa X e1 g1)(hg:Gl X "zip")(hm:X.mg "zip"=none)
 (F:starEach [Y,e1] X.env=[(false,eval Y X.env),(false,eval e1 X.env)]) (v:starEach [e1] X.env=[(false,eval e1 X.env)]):DI fa X (.Tuple B kk tp) (.Call (.Name "zip" p) [Y,e1] [] pos) (nQ g0 g1):=by
 rintro O s σ H R I ⟨μ,Z,M,hE,hM,h⟩;obtain⟨d0,M0,c0,t0⟩:=aO h;obtain⟨d1,M1,c1,t1⟩:=aO t0;split at t1
 ·next J=>
  simp only[Ra] at J;obtain⟨hq0,hq1⟩:=J;refine Call_ (hX I hg hm boot_zip (Sm (aV (bM h0 (bM h1 dz v) (by rw[F,v]) pos O s σ H (λvs y=>∃U W u,vs=[U,W]/\Ext μ H u y/\RelM fa X.K u y M1/\Rep fa X.K u y d0 U/\Rep fa X.K u y d1 W) I ?_) λus s1 ⟨vs,y,z,r1,U,W,u,ev,x1,L,P,S⟩=>?_) (by rw[F,v]) (by rw[v];rfl)))
  ·refine{μ,Z,M,hE,hM,?_};rw[c0];intro U y u x1 L r0;refine{u,Z,M0,(hE.ext x1),L,?_};rw[c1];intro W H2 μ2 x2 m2 r1;exact{U,W,μ2,rfl,(x1.trans x2),m2,(r0.ext x2),r1}
  subst ev;obtain⟨a0,its0,rfl,z0⟩:=iC z L P hq0;obtain⟨a1,its1,rfl,z1⟩:=iC z L S hq1;cases r1 with
  | cons y0 r1=>
    cases r1 with
    | cons y1 r1=>
      cases r1;obtain rfl:=y0;obtain rfl:=y1;refine BU z0 z1 λh1 za hk=>?_;have I2:=z.kept (t':=s1.toks) hk;refine wpAny_pyIter_zip za.1 ?_;refine{s1.heap.objs.size+2+2,EU s1.heap.objs.size 1,_,_,y,rfl,I2,uk s1.heap.objs.size 1 [(eG d0,a0),(eG d1,a1)] rfl `d (λj b a e=>match j,e with
       |0,e=>by cases e;exact z0.lt
       |1,e=>by cases e;exact z1.lt),za,λb hb=>?_,t1 _ y u x1 L (zE P S)}
      have hb:=(dM.mp hb).1;exact z.fpOk hb (z.hok.fresh hb)
 ·exact t1.elim
set_option tactic.hygienic true in
def Je {fa:Fa}{X:Cx}{F:List Expr}{kk:Nat}{tp p pos:Pos}{e0 e1 e2:Expr}{g0 g1 g2:Env->Mem->Res D}(h0:DE fa X e0 g0)(h1:DE fa X e1 g1)(h2:DE fa X e2 g2)(hg:Gl X "zip")(hm:X.mg "zip"=none)
 (J:starEach [e0,e1,e2] X.env=[(false,eval e0 X.env),(false,eval e1 X.env),(false,eval e2 X.env)]) (y:starEach [e1,e2] X.env=[(false,eval e1 X.env),(false,eval e2 X.env)]) (L:starEach [e2] X.env=[(false,eval e2 X.env)]):DI fa X (.Tuple F kk tp) (.Call (.Name "zip" p) [e0,e1,e2] [] pos) (nP g0 g1 g2):=by
 rintro P s σ H R I ⟨μ,Z,M,hE,hM,h⟩;obtain⟨d0,M0,c0,t0⟩:=aO h;obtain⟨d1,M1,c1,t1⟩:=aO t0;obtain⟨d2,M2,c2,t2⟩:=aO t1;split at t2
 ·next O=>
  simp only[Ra,and_assoc] at O;obtain⟨hq0,hq1,hq2⟩:=O;refine Call_ (hX I hg hm boot_zip (Sm (aV (bM h0 (bM h1 (bM h2 dz L) (by rw[y,L])) (by rw[J,y]) pos P s σ H (λvs v=>∃Y v1 v2 u,vs=[Y,v1,v2]/\Ext μ H u v/\RelM fa X.K u v M2/\Rep fa X.K u v d0 Y/\Rep fa X.K u v d1 v1/\Rep fa X.K u v d2 v2) I ?_) λus s1 ⟨vs,v,z,r1,Y,v1,v2,u,ev,x1,B,S,U,W⟩=>?_) (by rw[J,y]) (by rw[y];rfl)))
  ·refine{μ,Z,M,hE,hM,?_};rw[c0];intro Y v u x1 B r0;refine{u,Z,M0,(hE.ext x1),B,?_};rw[c1];intro v1 H2 μ2 x2 m2 r1;refine{μ2,Z,M1,((hE.ext x1).ext x2),m2,?_};rw[c2];intro v2 H3 μ3 x3 m3 r2;exact{Y,v1,v2,μ3,rfl,((x1.trans x2).trans x3),m3,((r0.ext x2).ext x3),(r1.ext x3),r2}
  subst ev;obtain⟨a0,its0,rfl,z0⟩:=iC z B S hq0;obtain⟨a1,its1,rfl,z1⟩:=iC z B U hq1;obtain⟨a2,its2,rfl,z2⟩:=iC z B W hq2;cases r1 with
  | cons y0 r1=>
    cases r1 with
    | cons y1 r1=>
      cases r1 with
      | cons y2 r1=>
        cases r1;obtain rfl:=y0;obtain rfl:=y1;obtain rfl:=y2;refine BS z0 z1 z2 λh1 za hk=>?_;have I2:=z.kept (t':=s1.toks) hk;refine wpAny_pyIter_zip za.1 ?_;refine{s1.heap.objs.size+3+2,EU s1.heap.objs.size 2,_,_,v,rfl,I2,uk s1.heap.objs.size 2 [(eG d0,a0),(eG d1,a1),(eG d2,a2)] rfl `d (λj b a e=>match j,e with
         |0,e=>by cases e;exact z0.lt
         |1,e=>by cases e;exact z1.lt
         |2,e=>by cases e;exact z2.lt),za,λb hb=>?_,t2 _ v u x1 B (zD S U W)}
        have hb:=(dM.mp hb).1;exact z.fpOk hb (z.hok.fresh hb)
 ·exact t2.elim
noncomputable def zc (h:Addr):Obj:={cls:=.type "enumerate",data:=.fields #[.none,.bool false,.ref h,rawInt 0,.none,.none]}
set_option tactic.hygienic true in
def Bb (l:Addr)(us:Array Rg)(n:Nat)(dct:Option Addr)(sl:Array (Option Rg)) :
 Meets (Builtin.«enumerate.__new__» {[.type "enumerate",.ref l],[]}) (λ_ R s=>s.heap.get? l=some {.type "tuple",dct,.seq us n,sl}/\
  R (.ok (.ret (.ref (s.heap.push (eF false l)).objs.size))) {s with heap:=(s.heap.push (eF false l)).push (zc s.heap.objs.size)}):=
 .of_wp λprog w A R s h=>by
  obtain⟨v,g,d,tk,os⟩:=s;obtain⟨j,h⟩:=h;have q:=sub_enumerate;have u:Heap.IsTuple (Shared.heap ⟨v,g,d,tk,os⟩) l us:={_,j,rfl,n,rfl};wp_walk using AutoSeq1.wpAny_loadPart' j
  refine wpAny_stack_any λ_=>tqb ?_;split
  ·rename_i c _ _ _ _ _;cases (c==Value.type "enumerate")<;>
   ·wp_walk using AutoSeq1.wpAny_loadPart' j,wpAny_pyIter_tuple u
    exact{_,rfl,h}
  ·wp_walk using AutoSeq1.wpAny_loadPart' j,wpAny_pyIter_tuple u
   exact{_,rfl,h}
section
variable{prog:R0}{w:RS}{A:Sw}{E:Rg->Rl->Prop}{s:Rl}
def EE (u:bK b s.heap l us)
 (h:∀j,IsEnum j (s.heap.objs.size+1) s.heap.objs.size 0 .none->e9 b j s.heap.objs.size l 0->(∀c o,s.heap.get? c=some o->j.get? c=some o)->Q (.ref (s.heap.objs.size+1)) {s with heap:=j}):wpAny (model prog w) A (call (.type "enumerate") [.ref l]) Q E s:=by
 cases b with
 |true=>exact call_enumerate_list u λj e i _ k=>h j e i k
 | false=>
   obtain⟨⟨c,dct,B,sl⟩,z,y,n,hd⟩:=u;cases y;cases hd;refine callType_new F.called_enumerate `d (F.typeCall_enumerate_1 _) (F.newCall_enumerate_1 _) (λo=>F.args_object_init_2 o _) F.entry_enumerate_new (Bb l us n dct sl) {z,?_}
   have v:(s.heap.push (eF false l)).objs.size=s.heap.objs.size+1:=SO ..;rw[v];have he:IsEnum ((s.heap.push (eF false l)).push (zc s.heap.objs.size)) (s.heap.objs.size+1) s.heap.objs.size 0 .none:=by
    have:=RB (s.heap.push (eF false l)) (o:=zc s.heap.objs.size) rfl;rw[v] at this;exact this
   exact{{_,he,rfl},h _ he (e9.new (Rf _ (RB _ rfl))) λc o x=>Rf _ (Rf _ x)}
def MI (hh:A.handled=none)(y:l≠it)(us:Array Rg):Draws prog w A it [it,l] us.size (λi v=>us[i]?=some v) (λi h=>e9 b h it l i/\bK b h l us) where
 live:=λ_ _ st=>let{o,ho,_}:=st.1.obj;⟨o,ho⟩
 frame:=λ_ _ _ st hk=>{st.1.at λo e=>hk it `s o e,st.2.at λo e=>hk l `s o e}
 item:=λi s Q E J st I=>ju hh st.1 st.2 (λx F u B j=>I _ F s.toks u {B,st.2.extBut j.extBut y} j) λz=>by rw[Array.getElem?_eq_getElem J] at z;cases z
 done:=λs Q E st H=>ju hh st.1 st.2 (λx F u=>by rw[Array.getElem?_eq_none (Rj _)] at u;cases u) λ_=>H
def MH (hh:A.handled=none)(v:us[i]?=none):Draws prog w A it [it,l] i (λ_ _=>True) (λk h=>k=i/\e9 b h it l i/\bK b h l us) where
 live:=λ_ _ st=>let{o,ho,_}:=st.2.1.obj;⟨o,ho⟩
 frame:=λ_ _ _ st hk=>{st.1,st.2.1.at λo e=>hk it `s o e,st.2.2.at λo e=>hk l `s o e}
 item:=λk s Q E u st z=>absurd st.1 (RX u)
 done:=λs Q E st j=>ju hh st.2.1 st.2.2 (λx y e=>by rw[v] at e;cases e) λ_=>j
def Ou {P:Nat->Rg->Prop}{St:Nat->Heap->Prop}(D:Draws prog w A it fp n P St)(k:Nat):Draws prog w A it fp (k+n) (λj=>P (j-k)) (λj h=>k<=j/\St (j-k) h) where
 live:=λ_ _ st=>D.live _ _ st.2
 frame:=λ_ _ _ st hk=>{st.1,D.frame _ _ _ st.2 hk}
 item:=λj s Q E B st y=>D.item (j-k) s Q E (by have:=st.1;omega) st.2 λx u tk z hs=>y x u tk z {Nat.le_succ_of_le st.1,by rw[Nat.succ_sub st.1];exact hs}
 done:=λs Q E st v=>D.done s Q E (by have:=st.2;rwa [Sh] at this) v
end
noncomputable def Pu (K:Q9)(b:Bool)(a:Addr)(k:Nat):It:=
 {λi H=>∃xs x,jc K H b a xs/\xs[i]?=some x,λi H v h=>∃p x,H p=none/\v=.ref p/\h=upd H p (.tup [.int (k+i:Nat),x])/\∀xs,jc K H b a xs->xs[i]?=some x,λi H=>∃xs,jc K H b a xs/\xs.length<=i}
def zW {K:Q9}(b:Bool)(a L e:Addr)(k:Nat)(M:e≠L)(hna:a≠L)(hea:e≠a) :
 Turn P w K (.Tuple elts kk pos) (Pu K b a k) [e,L] e (λi h=>(∃old,IsEnum h e L (k+i:Nat) old)/\e9 b h L a i) where
 mem:=`s
 obj:=λi h ⟨⟨old,he⟩,hi⟩ c B=>by
  rcases Rv.mp B with z|z
  ·subst z;exact{_,he,λv z=>by cases z}
  ·have e:c=L:=by simpa using z
   subst e;exact hi.obj
 keep:=(by rintro i h h' ⟨⟨old,he⟩,st⟩ q;exact{{old,q e `s _ he},st.at λo e=>q L `s o e})
 item:=by
  intro X hP hw hK hc i S s σ H E I hf st hg;subst hP hw hK;obtain⟨xs,x,Y,hx⟩:=hg;obtain⟨⟨old,he⟩,F⟩:=st;obtain⟨J,rv,p⟩:=nB I Y;obtain⟨u,hu,ru⟩:=rv.get hx;have hi:i<J.toArray.size:=by have:=(Rb.mp hu).1;simpa using this
  have R:k+i-k=i:=Sh k i;refine wpAny_pyNext_enum_itemD (Ou (MI (A:=X.A.in1) (I.ok.hd hc) hna J.toArray) k) he {SI k i,by rw[R];exact⟨F,p⟩} (Nat.add_lt_add_left hi k) M (by simp[M,hea]) λU h1 tk y ho j hT hsz hk=>{_,rfl,?_}
  rw[R] at y;replace j:=j.2;rw[show k+i+1-k=i+1 from Sh k (i+1)] at j;have eu:U=u:=by
   have y:J[i]?=some U:=by simpa using y
   rw[hu] at y;exact(Ro y).symm
  subst eu;have hT0:=I.hok.fresh (Rj _);have Q:=Rz he;refine wpAny_letOwnedTupleGo_enum ho λh2 he2 O=>?_;have hT2:h2.get? s.heap.objs.size=some {cls:=.type "tuple",data:=.seq #[.int (k+i:Nat) tk,U]}:=(O.2 _ (Sr Q)).trans hT;refine{.ref s.heap.objs.size,upd H s.heap.objs.size (.tup [.int (k+i:Nat),x]),sd (s:=s) I hf (λc o B q=>(O.2 c (λz=>B (by simp[z]))).trans (hk c o (λz=>B (by simp[z])) (λz=>B (by simp[z])) q)) (Rj _) {?_,[.int (k+i:Nat) tk,U],.cons {_,rfl} (.cons ru .nil),{_,hT2,rfl,_,rfl}},rfl,
   {_,x,hT0,rfl,rfl,λys hy=>by rw[lM I hy Y];exact hx},{⟨U,he2⟩,j.1.extBut O.extBut (So M)},λc B=>?_}
  ·show 2<=sizeLine;decide
  ·have:c<s.heap.objs.size:=by
    rcases Rv.mp B with z|z
    ·subst z;exact Q
    ·have e:c=L:=by simpa using z
     subst e;obtain⟨o,e,_⟩:=F.obj;exact Rz e
   rw[ay (RX this)];exact(hf c B).1
 done:=by
  intro X hP hw hK hc i S s σ H E I hf st hg;subst hP hw hK;obtain⟨xs,Y,hx⟩:=hg;obtain⟨⟨old,he⟩,F⟩:=st;obtain⟨J,rv,p⟩:=nB I Y;have hl:=rv.length;exact wpAny_pyNext_enum_endD (MH (A:=X.A.in1) (I.ok.hd hc) `o) he ⟨rfl,F,p⟩ λh' eb=>{rfl,wx I hf λc o B q=>eb c o (λz=>B (by simp[z])) q}
 self:=(by rintro _ _ _ _ _ ⟨⟨old,he⟩,_⟩ h;exact wpAny_pyIter_enum he h)
section
variable{fa:Fa}{X:Cx}{a:Expr}{ga:Env->Mem->Res D}{pos p:Pos}
def zH {ad:Addr}{k:Nat}(h:Rep fa X.K μ0 H0 dd (.ref ad)):dU fa X.K μ0 H0 (λM=>(bW M dd).map (gy k)) (Pu X.K (eG dd) ad k):=λY H M W x j e=>by
 dsimp only at e;cases u:bW M dd with
 |none=>rw[u] at e;cases e
 | some I=>
   rw[u] at e;have e:=Ro e;subst e;obtain⟨F,s,r⟩:=gJ j (Rep.extW x h) u;refine{λi d hd=>?_,λi P=>{F,s,by rw[r.length,<- ic I k];exact P}}
   rw[d4] at hd;cases e1:I[i]? with
   |none=>rw[e1] at hd;cases hd
   | some U=>
     rw[e1] at hd;have hd:=Ro hd;subst hd;obtain⟨v,J,R⟩:=r.get e1;refine{⟨F,v,s,J⟩,λy S ⟨q,z,B,O,L,Q⟩=>?_};have:=Q F s;rw[J] at this;cases this;subst L O;refine{Ext.alloc j B,j.alloc B,q,[.int (k+i:Nat),v],rfl,.inl (.inl bI),.int (k+i:Nat),[v],rfl,rfl,v,[],rfl,R.ext (Ext.alloc j B),rfl}
def lV (ga:Env->Mem->Res D):Env->Mem->Res Walk:=λh M=>(ga h M).bind λx M=>if cT x=true then .ok (λM=>(bW M x).map (gy 0)) M else .bad
def Ji {B:List Expr}(ha:DE fa X a ga)(hg:Gl X "enumerate")(hm:X.mg "enumerate"=none)(hs:starEach [a] X.env=[(false,eval a X.env)]):DI fa X (.Tuple B kk tp) (.Call (.Name "enumerate" p) [a] [] pos) (lV ga):=by
 rintro F s σ H R I ⟨Y,Z,M,hE,hM,h⟩;obtain⟨x,M1,e,q⟩:=aO h;cases Q:cT x with
 |false=>rw[Q] at q;exact q.elim
 |true=>
 rw[Q] at q;refine Call_ (hX I hg hm boot_enumerate (Sm (aV (bM ha dz hs pos F s σ H (λW u=>∃v j,W=[v]/\Ext Y H j u/\RelM fa X.K j u M1/\Rep fa X.K j u x v) I {Y,Z,M,hE,hM,?_}) λus s1 ⟨W,u,J,r1,v,j,ev,S,O,U⟩=>?_) hs rfl))
 ·rw[e];exact λv u j S O r1=>⟨v,j,rfl,S,O,r1⟩
 subst ev;obtain⟨ad,its,rfl,p1⟩:=iC J O U Q;cases r1 with
 | cons r1 rr=>
   cases rr;obtain rfl:=r1;have y:=p1.lt;refine EE p1 λh1 he P hk=>?_;have I2:=J.kept (t':=s1.toks) hk;refine wpAny_pyIter_enum he ?_;refine{s1.heap.objs.size+1,[s1.heap.objs.size+1,s1.heap.objs.size],_,_,u,rfl,I2,zW (eG x) ad s1.heap.objs.size (s1.heap.objs.size+1) 0 (Nat.succ_ne_self _) (RX y) (Sr (Nat.lt_succ_of_lt y)),{{.none,he},P},λb L=>?_,q _ u j S O (zH U)};have L:s1.heap.objs.size<=b:=by
    rcases Rv.mp L with z|z
    ·subst z;exact SR _
    ·have e:b=s1.heap.objs.size:=by simpa using z
     subst e;exact Rj _
   exact J.fpOk L (J.hok.fresh L)
end
abbrev GE:=Env->Mem->Res D
abbrev GT:=Env->Mem->Res Bool
abbrev GA:=Env->Mem->Res (List D)
abbrev GW:=Env->Mem->Res Walk
abbrev GS:=Env->Mem->Res Fl
abbrev GB:=Env->List D->Mem->Res (List D)
abbrev Call:=Nat->List D->Mem->Res D
def aa (i:Nat):GE:=λh M=>b7 M (h[i]?.getD none)
noncomputable def gC (d:D):GE:=λ_ M=>.ok d M
def ak (m:Bool)(o:tu)(a b:GE):GE:=λh M=>(a h M).bind λx M=>(b h M).bind λy M=>gM m o x y M
def aE (o:j7)(a b:GE):GE:=λh M=>(a h M).bind λx M=>(b h M).bind λy M=>(b7 M (bw o x y M)).bind λb M=>.ok (.bl b) M
def jU (o j:j7)(a b c:GE):GE:=λh M=>(a h M).bind λx M=>(b h M).bind λy M=>(b7 M (bw o x y M)).bind λk M=>
 if k then(c h M).bind λz M=>(b7 M (bw j y z M)).bind λb M=>.ok (.bl b) M else .ok (.bl false) M
def dg (a:GE):GE:=λh M=>(a h M).bind λx M=>match x with|.int i=>.ok (.int (-i)) M|_=>.bad
def dY (a b:GE):GE:=λh M=>(a h M).bind λx M=>match x with|.bl true=>b h M|.bl false=>.ok (.bl false) M|_=>.bad
def Pq (a b:GE):GE:=λh M=>(a h M).bind λx M=>match x with|.bl true=>.ok (.bl true) M|.bl false=>b h M|_=>.bad
def Mm (a:GE):GE:=λh M=>(a h M).bind λx M=>match x with|.bl k=>.ok (.bl (!k)) M|_=>.bad
def fh (t:GT)(a b:GE):GE:=λh M=>(t h M).bind λk M=>if k then a h M else b h M
def aD (a b:GE):GE:=λh M=>(a h M).bind λx M=>(b h M).bind λy M=>b7 M (c4 x y M)
def bQ (m hl hh:Bool)(a lo hi:GE):GE:=λj M=>(a j M).bind λx M=>(lo j M).bind λl M=>(hi j M).bind λh M=>if cg hl l&&cg hh h then ez m x l h M else .bad
noncomputable def bE:GA:=λ_ M=>.ok [] M
def ia (a:GE)(s:GA):GA:=λh M=>(a h M).bind λx M=>(s h M).bind λxs M=>.ok (x::xs) M
def bt (s:GA):GE:=λh M=>(s h M).bind lQ
def aG (m:Bool)(s:GA):GE:=λh M=>(s h M).bind (bB m)
def aj (f:Nat)(c:Call)(s:GA):GE:=λj M=>(s j M).bind λh M=>c f h M
def mZ (i:Nat)(c:Call)(s:GA):GE:=λh M=>match h[i]?.getD none with|some (.fn f)=>(s h M).bind λj M=>c f j M|_=>.bad
def aI (f:wg)(s:GA):GE:=λj M=>(s j M).bind λh M=>du f h M
def bH (t:Ty)(a:GE):GE:=λh M=>(a h M).bind λx M=>(b7 M (b4 t x)).bind λb M=>.ok (.bl b) M
def au (a:GE):GT:=λh M=>(a h M).bind λx M=>b7 M (kC M x)
def dX (a b:GT):GT:=λh M=>(a h M).bind λk M=>if k then b h M else .ok false M
def cV (a b:GT):GT:=λh M=>(a h M).bind λk M=>if k then .ok true M else b h M
def bo (a:GT):GT:=λh M=>(a h M).bind λk M=>.ok (!k) M
def aA (t:gr)(a:GE):GS:=λj M=>(a j M).bind λx M=>(b7 M (b9 t x j)).bind λh M=>.ok (.next h) M
def fg (a b d:GE):GS:=λh M=>(d h M).bind λz M=>(a h M).bind λx M=>(b h M).bind λy M=>match x,y with
 | .cell k,.int n=>match M[k]? with
   | some u=>match bG u.length n with
     |some j=>.ok (.next h) (M.set k (u.set j z))
     |none=>.bad
   |none=>.bad
 |_,_=>.bad
def kD (a d:GE):GS:=λh M=>(a h M).bind λx M=>(d h M).bind λz M=>match x with
 | .cell k=>match M[k]? with
   |some j=>if j.length<sz then .ok (.next h) (M.set k (j++[z])) else .bad
   |none=>.bad
 |_=>.bad
def sEx (a:GE):GS:=λh M=>(a h M).bind λ_ M=>.ok (.next h) M
def aB (a:GE):GS:=λh M=>(a h M).bind λx M=>.ok (.ret x) M
noncomputable def Fp:GS:=λ_ M=>.ok (.ret .non) M
def yj:GS:=λh M=>.ok (.next h) M
def PY:GS:=λ_ _=>.bad
def aF (c:GT)(a b:GS):GS:=λh M=>(c h M).bind λk M=>if k then a h M else b h M
def dQ (t:gr)(w:GW)(b:GS):GS:=λh M=>(w h M).bind λw M=>dC (iQ t b) w (.next h) M
def az:GS:=λh M=>.ok (.next h) M
noncomputable def aK (a b:GS):GS:=λh M=>(a h M).bind λfl M=>match fl with
 |.next h=>b h M
 |fl=>.ok fl M
noncomputable def notStar:Expr->Bool
 |.Starred _ _=>false
 |_=>true
def bC (h:notStar a=true):starEach (a::es) env=(false,eval a env)::starEach es env:=by
 cases a<;>first|rfl|cases h
noncomputable def cu:∀{es:List Expr},es.all notStar=true->(backTo pos (starEach es env)).any (·.1)=false
 |[],_=>rfl
 | a::es,h=>by
   simp only[RY,Ra] at h;have j:=cu (pos:=pos) (env:=env) h.2;rw[bC h.1];simpa[backTo] using j
section
variable{fa:Fa}{X:Cx}{a b d:Expr}{ga gb gd:GE}{ta tb:GT}{pos p:Pos}{es:List Expr}{gs:GA}{n:Nat}
def Kz {i:Int}(h:Gl X x)(hm:X.mg x=some (.int i t))(hd:(x==("__debug__":Str))=false):DE fa X (.Name x pos) (gC (.int i)):=jF (v:=.int i) (iE h hm ⟨t,rfl⟩ hd) λ_ _=>rfl
end
structure Df where
 params:Nat
 slots:Nat
 body:Call->GS
noncomputable def QC:Fl->Mem->Res D
 |.ret d,M=>.ok d M
 |.next _,M=>.ok .non M
 |.exc x _,M=>.err x M
def y9:Res Fl->Res D
 |.ok fl M=>QC fl M
 |_=>.bad
def fW (c:Call)(d:Df)(ds:List D)(M:Mem):Res D:=if ds.length=d.params then y9 (d.body c (ds.map some++List.replicate (d.slots-ds.length) none) M) else .bad
noncomputable def ah (P:Nat->Option Df):Nat->Call
 |0,_,_,_=>.bad
 | n+1,f,h,M=>match P f with
   |none=>.bad
   |some d=>fW (ah P n) d h M
structure zw (K:Q9) (x qual:Str) (st:Stmt) (f:Addr) (fd:FuncData):Prop where
 ex:∃(oc:Rg) (od:Option Addr) (dV kV doc pm:Rg) (an:Option Addr) (cdv ct:Rg) (osl:Array (Option Rg)),
  fd=PySem.W.fnOf x qual (di st) (b5 st) (aJ st) dV kV doc pm an cdv ct/\K.lookup f=some {oc,od,.func fd,osl}/\PySem.W.codeIn K cdv qual=true
 kp:PySem.W.keepIn K (.ref f)=true
def oH.toD {K:Q9}{st:Stmt}(F:oH K x qual st f fd):zw K x qual st f fd:=let⟨oc,od,kV,j,pm,v,h,ct,u,r⟩:=F.ex;{{oc,od,.none,kV,j,pm,v,h,ct,u,r},F.kp}
structure zx (fa:Fa) (P:R0) (w:RS) (K:Q9) (mg:Str->Option Rg) (base:Heap) (f:Nat) (d:Df):Prop where
 ex:∃(ad:Addr) (fd:FuncData) (ps N:List Str) (st:Stmt) (x qual:Str),fa f=some ad/\zw K x qual st ad fd/\Binds K fd ps []/\((fa (500+f)).isSome=true->Binds K fd ps [.none])/\gZ N ps (aJ st)/\d.params=ps.length/\d.slots=N.length/\
  ∀(call:Call) (n:Nat) (cdv:Rg) (A:Sw) (outer:List SH) (s:Rl) (H:Hp) (E:XK),(∀f,et fa P w K mg base n f (call f))->bL (2*n+5) (A.deeper (envOfC qual (aJ st) s.heap.objs.size ad cdv))->
   lC fa (eV (fU P w) P w K mg base N qual (aJ st) ad cdv A outer s H E) (b5 st) (d.body call)
def Ai {K:Q9}(h:aH fa K μ H ds vs):bp fa K μ H (L2.start N vs) (ds.map some++List.replicate (N.length-ds.length) none):=by
 have hl:=h.length;refine{by unfold L2.start;simp[hl],λi d e=>?_}
 by_cases j:i<ds.length
 ·rw[RN (by simpa using j),R5] at e
  cases e1:ds[i]? with
  |none=>rw[e1] at e;cases e
  | some z=>
    rw[e1] at e;cases e;obtain⟨v,u,y⟩:=h.get e1;refine{v,?_,y};unfold L2.start;rw[RN `o,R5,u]
    rfl
 ·rw[Si `o,Tb] at e
  split at e<;>cases e
def rK {K:Q9}{st:Stmt}(F:zw K x qual st f fd)(S:gZ N ps (aJ st))(len:∀vs H Q E,sp vs H Q E->vs.length=ps.length)
 (j:∀(h:Rg) (A:Sw) (outer:List SH) (s:Rl) (H:Hp) (vs:List V) (Q:VK) (E:XK),bL k (A.deeper (envOfC qual (aJ st) s.heap.objs.size f h))->sp vs H Q E->
  ∃t,lu (eV (fU P w) P w K mg base N qual (aJ st) f h A outer s H E) (b5 st) t/\t {nx:=λ_ y=>Q .non y,rt:=Q} (start N vs) H):iw P w K mg base (fU P w) (k+1) f fd ps sp:=by
 obtain⟨oc,od,dV,kV,z,pm,I,h,ct,B,rfl,lk,u⟩:=F.ex;exact Og lk u S len λA outer s H vs Q E hr v=>j h A outer s H vs Q E hr v
set_option tactic.hygienic true in
def sV {K:Q9}
 (hs:d.slots=N.length) (L:RelM fa K μ H M) (hr:aH fa K μ H ds vs) (h:hR (fW c d ds M) (bq fa K μ H Q) (Gx fa K μ H E)):tF fa (eV (fU P w) P w K mg base N qual scope f cd A outer s H E) (d.body c) {nx:=λ_ u=>Q .non u,rt:=Q} (start N vs) H:=by
 unfold fW at h;split at h
 ·refine{μ,_,M,Ai hr,L,?_};rw[<- hs];cases e1:d.body c (ds.map some++List.replicate (d.slots-ds.length) none) M with
  | ok fl U=>
    rw[e1] at h;cases fl with
    | next z=>
      have v:=h;exact λB u j S Y R=>v .non u j S R rfl
    |ret d=>exact h
    | exc x z=>
      have v:=h;exact λF B u j s' a C J c p I y _ m ex O hn fl=>DV I fl (v C J c p u j y m ex O hn)
  |err=>rw[e1] at h;exact h.elim
  |bad=>rw[e1] at h;exact h.elim
 ·exact h.elim
theorem vU {P:R0}{w:RS}{K:Q9}(h:∀f d,Pg f=some d->zx fa P w K mg base f d):∀(n f:Nat),et fa P w K mg base n f (ah Pg n f)
 |0,f=>.inl λ_ _=>rfl
 | n+1,f=>by
   have U:=vU h n;cases e:Pg f with
   |none=>exact .inl λj M=>by show(match Pg f with|none=>Res.bad|some d=>fW (ah Pg n) d j M)=Res.bad;rw[e]
   | some d=>
     have eq:∀j M,ah Pg (n+1) f j M=fW (ah Pg n) d j M:=λj M=>by show(match Pg f with|none=>Res.bad|some d=>fW (ah Pg n) d j M)=_;rw[e]
     obtain⟨ad,J,ps,N,st,x,I,h1,F,O,z,S,R,hs,u⟩:=(h f d e).ex;refine .inr {ad,J,ps,h1,F.kp,O,λj M hl=>?_,?_,z}
     ·rw[eq];unfold fW;rw[if_neg (by rw[R];exact hl)]
     ·refine rK F S (λY H Q E v=>v.1) λy A outer s H Y Q E hr v=>{_,u (ah Pg n) n y A outer s H E U hr,?_};obtain⟨hl,μ,M,j,L,hr,B⟩:=v;rw[eq] at B;exact sV hs L hr B
def pO (P:SM)(e:S6)(h:Str×Addr):Prop:=∃t,e={PyData.keyHash P h.1,.str h.1 t,.ref h.2}
structure fR (K:Q9) (P:SM) (a:Addr) (kvs:List (Str×Addr)):Prop where
 ex:∃(es:Array S6) (n:Nat),K.lookup a=some {cls:=.type "dict",data:=.dict es n}/\To (pO P) es.toList kvs
 nd:(kvs.map (·.1)).Nodup
 ns:(a==sysModules)=false
def xu (kvs:List (Str×Addr)):List (Key×Rg):=kvs.map λh=>(Sum.inr h.1,.ref h.2)
noncomputable def vH:∀{es:List S6}{kvs:List (Str×Addr)},To (pO P) es kvs->∀e∈es,∃x t,e.key=.str x t/\e.hash=PyData.keyHash P x
 |_,_,.nil,e,h=>nomatch h
 | _,_,.cons r t,e,h=>by
   rcases Rv.mp h with z|z
   ·subst z;obtain⟨t,rfl⟩:=r;exact{_,t,rfl,rfl}
   ·exact vH t e z
noncomputable def qI:∀{es:List S6}{kvs:List (Str×Addr)},To (pO w.params) es kvs->Pairs (kZ prog w) es (xu kvs)
 |_,_,.nil=>.nil
 | e::es,h::kvs,.cons r t=>by
   obtain⟨u,rfl⟩:=r;exact Pairs.cons (kn h.1 u) rfl (qI t)
def vm (I:Inv X pins σ H s)(h:fR X.K X.w.params a kvs):s.heap.DictOf (kZ X.prog X.w) a (xu kvs):=by
 obtain⟨j,n,lk,pr⟩:=h.ex;refine{_,j,n,I.kIn _ _ lk,⟨rfl,rfl,rfl⟩,rfl,λe he=>?_,qI pr,?_}
 ·obtain⟨x,t,e1,e2⟩:=vH pr e (by simpa using he)
  exact{Sum.inr x,by rw[e1];exact kn x t,e2}
 ·have e:(xu kvs).map (·.1)=(kvs.map (·.1)).map Sum.inr:=by unfold xu;simp
  rw[e];exact List.Pairwise.map _ (λa b (n:a≠b) z=>n (Sum.inr.inj z)) h.nd
def Bg (kvs:List (Str×Addr))(k:Str):valueAt (xu kvs) (Sum.inr k:Key)=(kvs.lookup k).map Value.ref:=by
 induction kvs with
 |nil=>rfl
 | cons j r h=>
   unfold valueAt xu at h ⊢;rw[Sk,List.find?_cons,RM];by_cases e:j.1=k
   ·subst e;simp
   ·have e2:decide ((Sum.inr j.1:Key)=Sum.inr k)=false:=decide_eq_false λz=>e (Sum.inr.inj z);have u:=RJ.mpr (So e);rw[e2,u];exact h
def eJ (fa:Fa)(kvs:List (Str×Addr))(fs:List (Str×Nat)):Prop:=To (λ(p:Str×Addr) (q:Str×Nat)=>p.1=q.1/\fa q.2=some p.2) kvs fs
theorem eJ.look:∀{kvs:List (Str×Addr)}{fs:List (Str×Nat)},eJ fa kvs fs->(fs.lookup k=none/\kvs.lookup k=none)\/∃f ad,fs.lookup k=some f/\kvs.lookup k=some ad/\fa f=some ad
 |_,_,.nil=>.inl ⟨rfl,rfl⟩
 | (x,a)::r,(y,f)::t,.cons ⟨e1,e2⟩ q=>by
   subst e1;rw[RM,RM];cases e:k==x with
   |true=>exact .inr ⟨f,a,rfl,rfl,e2⟩
   |false=>exact eJ.look q
def lW (fs:List (Str×Nat))(i:GE):GE:=λh M=>(i h M).bind λd M=>match d with
 |.str k=>b7 M ((fs.lookup k).map D.fn)
 |_=>.bad
def h9 (fs:List (Str×Nat))(i:GE):GE:=λh M=>(i h M).bind λd M=>match d with
 |.str k=>.ok (.bl (!(fs.lookup k).isSome)) M
 |_=>.bad
section
variable{fa:Fa}{X:Cx}{a b:Expr}{ga gb:GE}{pos p:Pos}{ad:Addr}{kvs:List (Str×Addr)}{fs:List (Str×Nat)}{x:Str}
def D7 (hd:fR X.K X.w.params ad kvs):lA X (λx y H Q=>∃k v,x=.ref ad/\y=.str k/\kvs.lookup k=some v/\Q (.ref v) H):=by
 intro z j E s P H x y v u Q I M O h hs;obtain⟨k,c,rfl,rfl,hk,q⟩:=h;cases M;obtain⟨t,rfl⟩:=O;have B:=vm I hd;have J:s.TypeIs (.ref ad) "dict":=let{o,_,_,ho,{L,_},_}:=B;⟨o,ho,L⟩
 refine tail_any J PySem.F.slot_dict_getitem.lookup (wpAny_getItem_of (k:=(Sum.inr k:Key)) (kn k t) B.mapOf (v:=.ref c) ?_ ?_) hs
 ·rw[Bg,hk];rfl
 ·exact{.ref c,H,I.tok _,rfl,q}
def u6 (hd:fR X.K X.w.params ad kvs):bU X (compareOp .NotIn) (λx y H Q=>∃k,x=.str k/\y=.ref ad/\Q (.bl (!(kvs.lookup k).isSome)) H):=by
 intro j s F H x y v u Q I B E h;obtain⟨k,rfl,rfl,q⟩:=h;obtain⟨t,rfl⟩:=B;cases E;have z:=vm I hd;refine wpAny_notIn_of (k:=(Sum.inr k:Key)) (kn k t) hd.ns z.mapOf ?_;rw[Bg,Option.isSome_map];exact{.bl _,H,I.tok _,rfl,q}
def KC (hd:fR X.K X.w.params ad kvs)(ho:eJ fa kvs fs)(L:Gl X x)(hm:X.mg x=some (.ref ad))(u:(x==("__debug__":Str))=false)(J:DE fa X b gb)(hs:lr b):DE fa X (.Subscript (.Name x p) b pos) (lW fs gb):=
 bA (Fu (D7 hd) (iE (v:=.ref ad) L hm rfl u) J hs) λU H Q ⟨R,S,M,E,I,h⟩=>t1 E I h λd P v z y O F j r1 h1=>by
  cases d with
  | str k=>
    obtain⟨d,e,q⟩:=kS h1;rcases ho.look with⟨e1,_⟩|⟨f,c,e1,e2,B⟩
    ·rw[e1] at e;cases e
    ·rw[e1] at e;cases e;exact{k,c,rfl,r1,e2,q (.ref c) z y O j {c,rfl,.inl B}}
  |_=>exact h1.elim
def Dv {d:D}{P:D->Mem->Prop}(h:af (match d with|.str k=>Res.ok (.bl (!(fs.lookup k).isSome)) M1|_=>.bad) P):∃k,d=.str k/\P (.bl (!(fs.lookup k).isSome)) M1:=by
 cases d with
 |str k=>exact⟨k,rfl,h⟩
 |_=>exact h.elim
def Et (ho:eJ fa kvs fs)(k:Str):(kvs.lookup k).isSome=(fs.lookup k).isSome:=by
 rcases ho.look with⟨e1,e2⟩|⟨f,c,e1,e2,_⟩<;>rw[e1,e2]<;>rfl
def Bs (ho:eJ fa kvs fs)(z:L2.St)(H:Hp)(Q:VK)(h:tE fa X.K (h9 fs ga) z H Q):Ae (λx y H Q=>∃k,x=.str k/\y=.ref ad/\Q (.bl (!(kvs.lookup k).isSome)) H) (tE fa X.K ga) (tC (.ref ad)) z H Q:=by
 obtain⟨O,P,M,E,I,h⟩:=h;refine t1 E I h λd L v B u J F j r1 h1=>?_;obtain⟨k,rfl,q⟩:=Dv h1;refine{k,r1,rfl,?_};rw[Et ho];exact q (.bl _) B u J j rfl
def KA (hd:fR X.K X.w.params ad kvs)(ho:eJ fa kvs fs)(z:Gl X x)(hm:X.mg x=some (.ref ad))(j:(x==("__debug__":Str))=false)(y:DE fa X a ga)(u:behindInMarks .NotIn (.Name x p)=false):DE fa X (.Compare a [.NotIn] [.Name x p] pos) (h9 fs ga):=
 bA (w9 (u6 hd) y (iE (v:=.ref ad) z hm rfl j) u) λB H Q h=>Bs ho B H Q h
def KR (hd:fR X.K X.w.params ad kvs)(ho:eJ fa kvs fs)(J:Gl X x)(hm:X.mg x=some (.ref ad))(j:(x==("__debug__":Str))=false)(I:DE fa X a ga)(u:behindInMarks .NotIn (.Name x p)=false):DT fa X (.Compare a [.NotIn] [.Name x p] pos) (au (h9 fs ga)):=
 mH (wX (u6 hd) I (iE (v:=.ref ad) J hm rfl j) u) λW H Q h=>by
  refine Bs ho W H _ ?_;obtain⟨S,U,M,E,F,h⟩:=h;obtain⟨z,M3,e,q⟩:=aO h;refine{S,U,M,E,F,?_};rw[e];have L:∃k,z=.bl k:=by
   obtain⟨d,Y,e1,e2⟩:=eX e;cases d<;>first|(cases e2;exact{_,rfl})|cases e2
  obtain⟨k,rfl⟩:=L;intro v B y R O P;obtain rfl:v=.bl k:=P;exact{k,rfl,q B y R O}
def mY (m:Bool)(a:GE):GE:=λh M=>(a h M).bind λx M=>match x with
 |.int n=>if -(2^62)<=n/\n<2^20 then bB m ((List.range n.toNat).map λ(k:Nat)=>D.int (k:Int)) M else .bad
 |_=>.bad
def yR:∀(n:Nat) (y:List Rg),y.length=n->(∀(i:Nat) (v:Rg),y[i]?=some v->∃t,v=.int (i:Int) t)->Vals ((List.range n).map λ(k:Nat)=>V.int (k:Int)) y:=by
 intro n y hl h;have z:∀(k:Nat) (y:List Rg),(∀(i:Nat) (v:Rg),y[i]?=some v->∃t,v=.int ((k+i:Nat):Int) t)->Vals ((List.range y.length).map λj=>V.int ((k+j:Nat):Int)) y:=by
  intro k y;induction y generalizing k with
  |nil=>intro _;exact .nil
  | cons v r B=>
    intro h;rw[R1,List.range_succ_eq_map,Sk,List.map_map];refine .cons (h 0 v rfl) ?_;have:=B (k+1) λi u e=>by
     have:=h (i+1) u (by simpa using e)
     rw[show k+1+i=k+(i+1) by omega];exact this
    refine cast (congrArg (λf=>Vals ((List.range r.length).map f) r) ?_) this
    funext j
    congr 2
    omega
 have:=z 0 y λi v e=>by rw[Nat.zero_add];exact h i v e
 rw[hl] at this;simpa using this
def HP (m:Bool)(hc:X.calm=true)(ha:DE fa X a ga)(L:Gl X "list")(P:X.mg "list"=none)(hg:Gl X "range")(hm:X.mg "range"=none)(hs:starEach [a] X.env=[(false,eval a X.env)])
 (F:starEach [.Call (.Name "range" p2) [a] [] pos2] X.env=[(false,eval (.Call (.Name "range" p2) [a] [] pos2) X.env)]) :
 DE fa X (.Call (.Name "list" p1) [.Call (.Name "range" p2) [a] [] pos2] [] pos) (mY m ga):=by
 rintro y s σ H Q I ⟨μ,Z,M,hE,hM,h⟩;obtain⟨x,M1,e,q⟩:=aO h;have U:∀n,x=.int n->af (if -(2^62)<=n/\n<2^20 then bB m ((List.range n.toNat).map λ(k:Nat)=>D.int (k:Int)) M1 else .bad) (bq fa X.K μ H Q)->
  wpAny (model X.prog X.w) X.A (eval (.Call (.Name "list" p1) [.Call (.Name "range" p2) [a] [] pos2] [] pos) X.env) (EP X y σ Q) X.xe s:=λn en J=>by
  subst en;by_cases c:-(2^62)<=n/\n<2^20
  ·rw[if_pos c] at J;refine Call_ (hX I L P (by decide +kernel:bootBuiltins "list"=some (.type "list")) (Sm ?_ F rfl))
   rw[F];refine Calls.spliced_cons ?_;refine Call_ (hX I hg hm boot_range (Sm (aV (bM ha dz hs pos2 y s σ H (λvs E=>∃j,vs=[.int n]/\Ext μ H j E/\RelM fa X.K j E M1) I {μ,Z,M,hE,hM,?_}) λus s1 ⟨vs,E,I1,r1,j,ev,Y,W⟩=>?_) hs rfl))
   ·rw[e];intro v E j Y W r1;obtain rfl:v=.int n:=r1;exact⟨j,rfl,Y,W⟩
   subst ev;cases r1 with
   | cons r rr=>
     cases rr;obtain⟨t,rfl⟩:=r;refine call_range_1 ?_;refine Calls.spliced_nil ?_;refine call_list_range (n:=n.toNat) (I.ok.hd hc) (IsRange.new ..) (small_one `a `a `a `a) (by rw[rangeSize_one];split<;>omega) `a λh' tk B c' kp eS S=>?_
     obtain⟨R,O⟩:=S;have I2:Inv X y σ E {s1 with heap:=s1.heap.push {cls:=.type "range",data:=.fields #[.int 0 s1.toks,.int n t,.int 1 (s1.toks+1)]},toks:=s1.toks+1+1}:=I1.kept λb o e=>Rf _ e
     have hv:=yR n.toNat B.toList (by simpa using R) λi v e=>by
      obtain⟨u,z⟩:=O i v (by simpa using e)
      exact{u,by rw[z];simp}
     have rl:aH fa X.K j E ((List.range n.toNat).map λ(k:Nat)=>D.int (k:Int)) ((List.range n.toNat).map λ(k:Nat)=>V.int (k:Int)):=by
      have:=aH.ints (fa:=fa) (K:=X.K) (μ:=j) (H:=E) ((List.range n.toNat).map λ(k:Nat)=>(k:Int));simpa[List.map_map,Function.comp_def] using this
     obtain⟨c1,k1⟩:=gF W rl (kc J Y);refine{.ref _,_,I2.laid (o:=.lst ((List.range n.toNat).map λ(k:Nat)=>V.int (k:Int))) kp (Rj _) {?_,B.toList,c',hv,by simpa using eS},rfl,k1 _ (I2.hok.fresh (Rj _))}
     rw[rl.length,<- dh];exact c1
  ·rw[if_neg c] at J;exact J.elim
 cases x with
 |int n=>exact U n rfl q
 |_=>exact q.elim
end
noncomputable def rP (bn N:List Str)(sc scope:Scope):Bool:=
 scope.names.all (λy=>(y.2 != .cell||scope.names.lookup y.1==some .cell)&&(y.2 != .local||scope.names.lookup y.1==some .local)&&(y.2 != .free||sc.names.lookup y.1==some .cell||sc.names.lookup y.1==some .free)) &&
 bn.length==N.length&&(bn.zip N).all λp=>(p.1==p.2&&(scope.names.lookup p.2 != some .local&&scope.names.lookup p.2 != some .cell))||scope.names.lookup p.1==none
noncomputable def qi {j v:Type}{R:j->v->Prop}:∀{l:List j}{r:List v},l.length=r.length->(∀p∈l.zip r,R p.1 p.2)->To R l r
 |[],[],_,_=>.nil
 |a::l,b::r,h,g=>.cons (g (a,b) Rw) (qi (by simpa using h) λp z=>g p (Rk _ z))
 |[],_::_,h,_=>by cases h
 |_::_,[],h,_=>by cases h
def BO (hk:scope.kind=.function)(hs:X.env.scope=sc)(v:X.N=N)(h:rP bn N sc scope=true):ix X own bn scope:=by
 unfold rP at h;rw[Ra,Ra,Rq,Rq] at h;obtain⟨⟨h1,hl⟩,h2⟩:=h;refine{hk,λy j e=>?_,λy j e=>?_,λy j e=>?_,?_}
 ·have:=h1 y j;rw[e] at this;simpa using this
 ·have:=h1 y j;simp only[Ra] at this;rw[e] at this;simpa using this
 ·have:=h1 y j;simp only[Ra] at this;rw[e] at this;show X.env.scope.names.lookup y.1=_\/X.env.scope.names.lookup y.1=_;rw[hs];simpa using this
 ·rw[v];refine qi (by simpa using hl) λp z=>?_
  have:=h2 p z;simp only[S4,Ra,beq_iff_eq,bne_iff_ne] at this;exact this
section
variable{fa:Fa}{X:Cx}{elt tg iter c t2 i2:Expr}{scope:Scope}{pos:Pos}{own bn:List Str}{t u:gr}{gw gw2:GW}{ge:GE}{gc:GT}
def oR {l:List Nat}(h:l.all (· < n)=true):∀i∈l,i<n:=λi j=>by
 have:=Rq.mp h i j;simpa using this
def Az {l W:List Nat}(h:W.all (λi=>!l.contains i)=true):∀i∈W,i∉l:=λi j z=>by
 have:=Rq.mp h i j;simp[z] at this
variable{i:Nat}{y:Str}{py spos:Pos}
def HS {i:Int}(j:Gl X x)(hm:∃t,X.mg x=some (.int i t))(hd:(x==("__debug__":Str))=false):DE fa X (.Name x pos) (gC (.int i)):=let{_,h}:=hm;Kz j h hd
def HV (h:∃ad j,X.mg x=some (.ref ad)/\fR X.K X.w.params ad j/\eJ fa j fs)(B:Gl X x)(v:(x==("__debug__":Str))=false)(z:DE fa X b gb)(hs:lr b):DE fa X (.Subscript (.Name x p) b pos) (lW fs gb):=
 let{_,_,h1,h2,h3}:=h;KC h2 h3 B h1 v z hs
def HU (h:∃ad j,X.mg x=some (.ref ad)/\fR X.K X.w.params ad j/\eJ fa j fs)(E:Gl X x)(v:(x==("__debug__":Str))=false)(B:DE fa X a ga)(z:behindInMarks .NotIn (.Name x p)=false):DE fa X (.Compare a [.NotIn] [.Name x p] pos) (h9 fs ga):=
 let{_,_,h1,h2,h3}:=h;KA h2 h3 E h1 v B z
def HY (h:∃ad j,X.mg x=some (.ref ad)/\fR X.K X.w.params ad j/\eJ fa j fs)(E:Gl X x)(v:(x==("__debug__":Str))=false)(B:DE fa X a ga)(z:behindInMarks .NotIn (.Name x p)=false):DT fa X (.Compare a [.NotIn] [.Name x p] pos) (au (h9 fs ga)):=
 let{_,_,h1,h2,h3}:=h;KR h2 h3 E h1 v B z
def HM (h:bL (n+4) X.A):Rm X:=by have:=h.un;show X.A.units+100<cLine;omega
end
noncomputable def jy {j v:Type}{f g:j->Option v}:∀{l:List j},(∀x∈l,f x=g x)->l.filterMap f=l.filterMap g
 |[],_=>rfl
 | a::l,h=>by
   rw[Tt,Tt,h a Rw,jy λx u=>h x (Rk _ u)]
def sC (n:Nat)(xs:List Rg)(h:xs.length=n):(List.range n).filterMap (λ(k:Nat)=>xs[n-1-k]?)=xs.reverse:=by
 have e:∀k∈List.range n,xs[n-1-k]?=some (xs.reverse.getD k .none):=λk hk=>by
  have hk:=List.mem_range.mp hk;rw[Sq,List.getElem?_reverse `a,h,RE `a]
  simp
 have:(List.range n).filterMap (λk=>xs[n-1-k]?)=(List.range n).map λk=>xs.reverse.getD k .none:=by
  rw[jy e];simp
 rw[this];refine List.ext_getElem? λi=>?_;rw[R5];by_cases j:i<n
 ·rw[List.getElem?_range j];show some (xs.reverse.getD i .none)=_;rw[Sq,RE (show i<xs.reverse.length by simp;omega)]
  simp
 ·rw[SG `o,SG `o]
  rfl
def tD (h:List Rg):slicePick h.toArray none none (some (-1))=h.reverse.toArray:=by
 unfold slicePick sliceBounds sliceRange;simp only[Sg,Ru];have e1:¬ ((-1:Int) > 0):=`d
 simp only[e1,if_false];have e2:(if (h.length:Int)-1 > -1 then((h.length:Int)-1 - -1 - -1-1) / (- -1) else 0).toNat=h.length:=by
  split
  ·simp
  ·omega
 rw[e2,List.filterMap_map,<- sC h.length h rfl]
 congr 1
 refine jy λk hk=>?_;have j:((h.length:Int)-1+-1*(k:Int)).toNat=h.length-1-k:=`a
 show h.toArray[((h.length:Int)-1+-1*(k:Int)).toNat]?=_;rw[j];simp
section
variable{prog:R0}{w:RS}{A:Sw}{E:Rg->Rl->Prop}{s:Rl}
def oa (z:IsTup s.heap t items)(hs:s.heap.IsSliceOf sl .none .none (.int (-1) k))
 (h:Q (.ref s.heap.objs.size) {s with heap:=s.heap.push {cls:=.type "tuple",data:=.seq items.toList.reverse.toArray}})
 (hsz:items.size<=sizeLine):wpAny (model prog w) A (getItem (.ref t) (.ref sl)) Q E s:=by
 have j:sizeOk (.seq items.toList.reverse.toArray):=by
  show items.toList.reverse.toArray.size<=sizeLine;simpa using hsz
 obtain⟨os,u,F,v⟩:=id hs;have B:s.TypeIs (.ref sl) "slice":=⟨os,u,F⟩;unfold getItem;try with_reducible refine tqo ?_
 first|refine tqa (tqb ?_)|skip
 refine tqa (wpAny_sequenceKey z.typeIs `d ?_)
 refine tqa (wpAny_callSpecial?_slot z.typeIs R3
  (wpAny_call_entry R3 z.typeIs entry_tuple_getitem ?_ (args_tuple_getitem _ _)))
 show wpAny _ _ (Builtin.Tuple.tupleItemsOf (.ref t) >>= _) _ _ s;refine tqa (tupleItemsOf_ z ?_);refine tqa (wpAny_typeOf B ?_);rw[if_pos `d]
 refine tqa (tqa (tqa (tqf u v rfl (tqa (tqf u v rfl (tqa (tqf u v rfl (tqb ?_))))))));refine tqa (slicePart_int ?_);rw[if_neg `d]
 refine tqa (slicePart_none (tqa (slicePart_none (tqa (tqb ?_)))));have ea:Builtin.Slice.sliceAdjust none none (-1) (items.size:Int)=((items.size:Int)-1,-1):=by simp[Builtin.Slice.sliceAdjust]
 have J:Builtin.Slice.slicePlaces ((items.size:Int)-1) (-1) (-1)=items.size:=by
  unfold Builtin.Slice.slicePlaces;rw[if_neg `d]
  split
  ·simp
  ·omega
 show wpAny _ _ (match Builtin.Slice.sliceAdjust none none (-1) (items.size:Int) with|(lo,L)=>pure (lo,(-1:Int),Builtin.Slice.slicePlaces lo L (-1))) _ _ s
 rw[ea];show wpAny _ _ (pure ((items.size:Int)-1,(-1:Int),Builtin.Slice.slicePlaces ((items.size:Int)-1) (-1) (-1))) _ _ s;rw[J];refine tqb ?_;have H:¬ ((((items.size:Int)-1)==0&&(-1:Int)==1&&items.size==items.size)=true):=`s
 show wpAny _ _ (if (((items.size:Int)-1)==0&&(-1:Int)==1&&items.size==items.size)=true then _ else _) _ _ s;rw[if_neg H];have y:((List.range items.size).filterMap λ(m:Nat)=>items[(((items.size:Int)-1)+(m:Int) * -1).toNat]?).toArray=items.toList.reverse.toArray:=by
  rw[<- sC items.size items.toList `s]
  congr 1
  refine jy λm hm=>?_;have I:((items.size:Int)-1+(m:Int) * -1).toNat=items.size-1-m:=`a
  rw[I];simp
 rw[y];first
  |exact tqa (wpAny_newObj_type (tqb {_,rfl,tqb h}) j)
  |exact tqa (wpAny_newObj_type (tqa (tqb (tqb {_,rfl,tqb h}))) j)
  |exact tqa (tqa (wpAny_newObj_type (tqb (tqb {_,rfl,tqb h})) j))
  |exact tqa (tqa (wpAny_newObj_type (tqb {_,rfl,tqb h}) j))
end
section
variable{fa:Fa}{X:Cx}{a st:Expr}{ga:GE}{pos p2:Pos}
def ym (m:Bool)(x:D)(M:Mem):Res D:=match x with
 |.tup xs=>.ok (.tup xs.reverse) M
 | x=>match g9 M x with
   |some xs=>bB m xs.reverse M
   |none=>.bad
def pF (m:Bool)(a:GE):GE:=λh M=>(a h M).bind λx M=>ym m x M
def KJ (K:Q9):V->Hp->VK->Prop:=λx H Q=>∃a xs,x=.ref a/\((cE K H a xs/\∀p,H p=none->Q (.ref p) (upd H p (.lst xs.reverse)))\/(dI K H a xs/\∀p,H p=none->Q (.ref p) (upd H p (.tup xs.reverse))))
noncomputable def oM:∀{xs:List V}{us:List Rg},Vals xs us->Vals xs.reverse us.reverse
 |_,_,.nil=>.nil
 | _,_,.cons p r=>by
   rw[Tj,Tj];exact(oM r).append (.cons p .nil)
def La (ha:PE X a ta)(P:PE X st ts) :
 PE X (.Subscript a (.Slice none none (some st) p2) pos) (λF H Q=>ta F H λx O=>ts F O λy W=>y=.int (-1)/\KJ X.K x W Q):=by
 intro j s F H Q I h;refine Subscript_ (aV (ha j s F H _ I h) λv s1 ⟨x,O,I1,r1,q1⟩=>?_);refine wpAny_Slice ?_;rw[evalPart_none];refine tqb ?_;refine tqb ?_;rw[evalPart_some];refine aV (P j s1 F O _ I1 q1) ?_;rintro vu u ⟨y,Y,I3,r3,ey,q3⟩;subst ey;obtain⟨k,rfl⟩:=r3;have J:Inv X j F Y {u with heap:=u.heap.push {cls:=.type "slice",data:=.fields #[.none,.none,.int (-1) k]}}:=I3.kept λb ob q=>Rf _ q
 have L:(u.heap.push {cls:=.type "slice",data:=.fields #[.none,.none,.int (-1) k]}).IsSliceOf u.heap.objs.size .none .none (.int (-1) k):=Heap.IsSliceOf.new ..;obtain⟨b,xs,rfl,q⟩:=q3;cases r1;have U:∃T id,typeLookup (.type T) "__getitem__"=pure (some (.builtin id))/\Shared.TypeIs {u with heap:=u.heap.push {cls:=.type "slice",data:=.fields #[.none,.none,.int (-1) k]}} (.ref b) T/\wpAny (model X.prog X.w) X.A (getItem (.ref b) (.ref u.heap.objs.size)) (EP X j F Q) X.xe {u with heap:=u.heap.push {cls:=.type "slice",data:=.fields #[.none,.none,.int (-1) k]}}:=by
  rcases q with⟨R,q⟩|⟨R,q⟩
  ·obtain⟨S,r,B,M⟩:=J.list R;have z:=r.length;refine{"list",_,slot_list_getitem.lookup,B.isList.typeIs,?_};refine wpAny_getItem_list_slice B.isList L .none .none (.int (-1) k) `d ?_ (by rw[Ru]<;>omega)
   rw[tD];refine{.ref _,_,J.laid (λb ob q=>Rf _ q) (Rj _) ?_,rfl,q _ (J.hok.fresh (Rj _))};exact{by simpa using M,_,0,oM r,RB _ rfl}
  ·obtain⟨S,r,B,M⟩:=J.tuple R;have z:=r.length;refine{"tuple",_,R3.lookup,B.typeIs,?_};refine oa B L ?_ (by rw[Ru,<- z];exact M)
   refine{.ref _,_,J.laid (λb ob q=>Rf _ q) (Rj _) ?_,rfl,q _ (J.hok.fresh (Rj _))};exact{by simpa using M,_,oM r,IsTup.new _ _}
 obtain⟨T,id,hT,B,hg⟩:=U;exact tail_any B hT hg (by with_unfolding_all rfl)
def NO (m:Bool)(U:DE fa X a ga):DE fa X (.Subscript a (.Slice none none (some (.UnaryOp .USub (.Constant (.int 1) k pc) pu)) p2) pos) (pF m ga):=
 bA (La U (Ft zI AQ)) λY H Q ⟨L,W,M,O,S,h⟩=>t1 O S h λx F v B I J P y r1 h1=>by
  refine{1,rfl,rfl,?_};have lst:∀(u:List D) (b:Addr) (j:List V),cE X.K B b j->aH fa X.K I B u j->af (bB m u.reverse F) (bq fa X.K L H Q)->KJ X.K (.ref b) B Q:=λu b j hs hr h1=>by
   obtain⟨_,q⟩:=gF y hr.reverse (kc h1 J);exact{b,j,rfl,.inl ⟨hs,q⟩}
  cases x with
  | tup u=>
    obtain⟨b,j,rfl,hs,hr⟩:=r1;exact{b,j,rfl,.inr {hs,iz y hr.reverse (bq.ext h1 J)}}
  | lst u=>
    obtain⟨b,j,rfl,hs,hr⟩:=r1;exact lst u b j (cE.of hs.1) hr h1
  | frz u=>
    obtain⟨b,j,rfl,hs,hr⟩:=r1;exact lst u b j (hs.elim ((by rintro⟨o,z⟩;exact .inl (.inr ⟨o,z⟩))) .inr) hr h1
  | cell k=>
    obtain⟨b,rfl,hk⟩:=r1;obtain⟨u,j,e,R,hr⟩:=y.mu_lt hk;have h1:af (match F[k]? with|some xs=>bB m xs.reverse F|none=>.bad) (bq fa X.K L H Q):=h1
    rw[e] at h1;exact lst u b j (cE.of R) hr h1
  |_=>exact h1.elim
def pG (a:GE):GE:=λh M=>(a h M).bind λx M=>match x with
 |.int i=>.ok (.int i) M
 |.bl k=>.ok (.int (if k then 1 else 0)) M
 |_=>.bad
def Kx (J:DE fa X a ga)(L:Gl X "int")(hm:X.mg "int"=none)(he:starEach [a] X.env=(false,eval a X.env)::starEach [] X.env):DE fa X (.Call (.Name "int" p) [a] [] pos) (pG ga):=
 bA (sF BV L hm `k (bM J dz he) `d `d he `r) λS H Q ⟨P,R,M,B,I,h⟩=>t1 B I h λx O v y u z F j r1 h1=>by
  cases x with
  |int i=>obtain rfl:v=.int i:=r1;exact .inl {i,rfl,h1 _ y u z j rfl}
  |bl k=>obtain rfl:v=.bl k:=r1;exact .inr {k,rfl,h1 _ y u z j rfl}
  |_=>exact h1.elim
end
def mm {fa:Fa}{mg:Str->Option Rg}(e:fa i=some f)(m:mg x=some (.ref f)):∀ad,fa i=some ad->mg x=some (.ref ad):=λad h=>by rw[e] at h;cases h;exact m
def us1 {j:Type}{p:List j->Prop}(h:∀a,p [a])(us:List j)(hl:us.length=1):p us:=by
 obtain⟨a,rfl⟩:=List.length_eq_one_iff.mp hl;exact h a
def OZ {j:Type}{p:List j->Prop}(h:∀a b,p [a,b]):∀(us:List j) (hl:us.length=2),p us
 |[a,b],_=>h a b
def us3 {j:Type}{p:List j->Prop}(h:∀a b c,p [a,b,c]):∀(us:List j) (hl:us.length=3),p us
 |[a,b,c],_=>h a b c
def us4 {j:Type}{p:List j->Prop}(h:∀a b c d,p [a,b,c,d]):∀(us:List j) (hl:us.length=4),p us
 |[a,b,c,d],_=>h a b c d
def Bk:To (pO P) [] []:=.nil
def gV (h:To (pO P) es kvs):To (pO P) ({PyData.keyHash P x,.str x t,.ref a}::es) ((x,a)::kvs):=.cons ⟨t,rfl⟩ h
def Fm (K:Q9):Sp:=λj H Q _=>∃(a:Addr) (ns:List Int),j=[.ref a]/\cE K H a (ns.map V.int)/\zt H/\ns.length<=63/\∀h,Q (.bl true) h
def L0 {K:Q9}{ad:Addr}{st:Stmt}(h:∀f d,Pg f=some d->zx fa P w K mg base f d)
 (hl:∀ns:List Int,ns.length<=63->∃M,ah Pg (n+1) f [.frz (ns.map D.int)] []=.ok (.bl true) M) (e:Pg f=some d) (F:oH K x qual st ad fd) (S:gZ N [y] (aJ st)) (hs:d.slots=N.length)
 (u:∀(call:Call) (n:Nat) (j:Rg) (A:Sw) (outer:List SH) (s:Rl) (H:Hp) (E:XK),(∀f,et fa P w K mg base n f (call f))->bL (2*n+5) (A.deeper (envOfC qual (aJ st) s.heap.objs.size ad j))->
  lC fa (eV (fU P w) P w K mg base N qual (aJ st) ad j A outer s H E) (b5 st) (d.body call)):iw P w K mg base (fU P w) (2*n+5+1) ad fd [y] (Fm K):=by
 have eq:∀I M,ah Pg (n+1) f I M=fW (ah Pg n) d I M:=λI M=>by show(match Pg f with|none=>Res.bad|some d=>fW (ah Pg n) d I M)=_;rw[e]
 refine rK (oH.toD F) S (λU H Q E B=>?_) λj A outer s H U Q E hr B=>{_,u (ah Pg n) n j A outer s H E (vU h n) hr,?_}
 ·obtain⟨a,ns,rfl,_⟩:=B;rfl
 ·obtain⟨a,ns,rfl,R,O,hn,q⟩:=B;obtain⟨Y,J⟩:=hl ns hn;rw[eq] at J;have rp:aH fa K {λ_=>none,[],λ_=>none} H [.frz (ns.map D.int)] [.ref a]:=by
   refine{.ref a,[],rfl,{a,ns.map V.int,rfl,?_,aH.ints ns},rfl};rcases R with(z|⟨o,z⟩)|z
   ·rcases O a with y|⟨o,xs,y⟩
    ·rw[y] at z;cases z
    ·rw[y] at z;cases z
   ·exact .inl ⟨o,z⟩
   ·exact .inr z
  refine sV (μ:={λ_=>none,[],λ_=>none}) (M:=[]) hs {λk I z=>by simp at z,λ_ _=>rfl,λ_ _=>rfl,(λ_ _ _ z=>nomatch z),(λ_ _ _ z=>nomatch z),(λ_ _ z=>nomatch z),(λ_ z=>nomatch z)} rp ?_
  rw[J];intro v L X _ _ r;obtain rfl:v=.bl true:=r;exact q L
def xo {K:Q9}{ad:Addr}(X:K.In h)(G:h.Ns mainGlobals mg)(a:PySem.W.nsIn K mainGlobals x=some (some (.ref ad)))
 (l:K.lookup ad=some {cls:=.type "dict",data:=.dict es n}) (he:To (pO P) es.toList j) (nd:(j.map (·.1)).Nodup) (ns:(ad==sysModules)=false) (dk:eJ fa j fs):∃ad j,mg x=some (.ref ad)/\fR K P ad j/\eJ fa j fs:=
 {ad,j,Su X G a,{⟨es,n,l,he⟩,nd,ns},dk}
def Ah (lo hi:Option Int)(n:Nat):Builtin.Str.strSliceIndices lo hi 1 n=(List.range (HT.aL n n hi-HT.aL n 0 lo)).map (HT.aL n 0 lo+·):=by
 rw[<- sliceRange_one];unfold Builtin.Str.strSliceIndices;simp only[show(1:Int) > 0 by decide,if_true]
 congr 1
 ·cases lo with
  |none=>rfl
  | some i=>
    simp only[HT.aL];split<;>omega
 ·cases hi with
  |none=>rfl
  | some i=>
    simp only[HT.aL];split<;>omega
def iJ (z:Str)(l h:Nat):Str:={(cut z.cps.toList l h).toArray}
section
variable{fa:Fa}{X:Cx}{a b:Expr}{ga gb:GE}{pos p2:Pos}{tg:Expr}
def u4 (h:IsPart v o):∃p:Option (Int×Tok),v=partValue p/\p.map (·.1)=o:=by
 cases h with
 |none=>exact⟨none,rfl,rfl⟩
 |int i t=>exact{some (i,t),rfl,rfl}
set_option tactic.hygienic true in
def Kd:mj X (λx lo hi H Q=>∃z:Str,x=.str z/\z.cps.size<=sizeLine/\Q (.str (iJ z (HT.aL z.cps.size 0 lo) (HT.aL z.cps.size z.cps.size hi))) H):=by
 intro F s S H x v P R lo hi sl Q I J hs pl pu h;obtain⟨z,rfl,O,q⟩:=h;obtain⟨t,rfl⟩:=J;obtain⟨l,rfl,B⟩:=u4 pl;obtain⟨u,rfl,E⟩:=u4 pu;refine{"str",_,slot_str_getitem.lookup,typeIs_str s z t,?_};refine wpAny_getItem_str_slice (st:=none) hs rfl ?_;have e:(slicePicked z l u none).filterMap (z.cps[·]?)=cut z.cps.toList (HT.aL z.cps.size 0 lo) (HT.aL z.cps.size z.cps.size hi):=by
  unfold slicePicked;rw[B,E];show(Builtin.Str.strSliceIndices lo hi 1 z.cps.size).filterMap _=_;rw[Ah,pick_run];rfl
 unfold sliceMade;split
 ·next c=>
  have j:(slicePicked z l u none).length=z.length:=by simpa using c
  have e2:iJ z (HT.aL z.cps.size 0 lo) (HT.aL z.cps.size z.cps.size hi)=z:=by
   have hl:HT.aL z.cps.size z.cps.size hi-HT.aL z.cps.size 0 lo=z.cps.size:=by
    unfold slicePicked at j;rw[B,E] at j;have j:(Builtin.Str.strSliceIndices lo hi 1 z.cps.size).length=z.cps.size:=j;rw[Ah] at j;simpa using j
   have M:HT.aL z.cps.size z.cps.size hi<=z.cps.size:=by
    cases hi with
    |none=>exact Rj _
    |some i=>simp only[HT.aL];split<;>omega
   have y:HT.aL z.cps.size 0 lo=0\/z.cps.size=0:=`a
   unfold iJ cut;rw[hl];rcases y with y|y
   ·rw[y];rcases z with⟨L⟩
    rw[List.drop_zero,Sz `s]
   ·have:z.cps=#[]:=Array.eq_empty_of_size_eq_zero y;rcases z with⟨L⟩
    simp at this;subst this;simp
  rw[e2] at q;exact{.str z,H,I,⟨t,rfl⟩,q}
 ·rw[e];refine{?_,.str _,H,I.tok _,{_,rfl},q};have:(cut z.cps.toList (HT.aL z.cps.size 0 lo) (HT.aL z.cps.size z.cps.size hi)).length<=z.cps.size:=by
   unfold cut;rw[Se,List.length_drop];simp;omega
  show(cut z.cps.toList _ _).toArray.size<=sizeLine;simp at this ⊢;omega
def nR (hl hh:Bool)(a lo hi:GE):GE:=λj M=>(a j M).bind λx M=>(lo j M).bind λl M=>(hi j M).bind λh M=>if cg hl l&&cg hh h then(match x with
 | .str z=>if z.cps.size <= sz then(match aL z.cps.size 0 l,aL z.cps.size z.cps.size h with
   |some l,some h=>.ok (.str (iJ z l h)) M
   |_,_=>.bad) else .bad
 |_=>.bad) else .bad
set_option tactic.hygienic true in
def Kw (hl hh:Bool){lo hi:Option Expr}(ha:DE fa X a ga)(I:DO fa X lo hl gl)(F:DO fa X hi hh gh):DE fa X (.Subscript a (.Slice lo hi none p2) pos) (nR hl hh ga gl gh):=
 bA (u1 Kd ha I F) λσ H Q ⟨μ,S,M,hE,hM,h⟩=>t1 hE hM h λx U v H1 J x1 j y r1 h1=>by
  obtain⟨l,W,e2,h2⟩:=aO h1;obtain⟨u,M3,Y,h3⟩:=aO h2;split at h3
  ·next c=>
   rw[Ra] at c;obtain⟨ol,O⟩:=part_of c.1;obtain⟨ou,P⟩:=part_of c.2;refine{J,S,U,j,y,?_};rw[e2];refine{ol,c.1,O,λH2 L R B=>{L,S,W,j.ext R,B,?_}};rw[Y];refine{ou,c.2,P,λH3 μ3 x3 E=>?_};cases x with
   | str z=>
     obtain rfl:v=.str z:=r1;dsimp only at h3;split at h3
     ·next hz=>
      simp only[oV,O,P,Option.map_some] at h3;exact{z,rfl,by rw[<- dh];exact hz,ba E (bq.ext h3 ((x1.trans R).trans x3)) rfl}
     ·exact h3.elim
   |_=>exact h3.elim
  ·exact h3.elim
def signs (z:Str):List D:=z.cps.toList.map λc=>.str {#[c]}
def Nk (z:Str):It:={λi _=>i<z.cps.size,λi H x h=>h=H/\∃c,z.cps[i]?=some c/\x=.str {#[c]},λi _=>z.cps.size<=i}
def um {K:Q9}(hn:["enumerate","zip","dict_itemiterator","dict_reverseitemiterator","odict_iterator","itertools.zip_longest","itertools.pairwise"].contains n=false)(j:Addr)(z:Str)(t:Tok)
 (W:∀A':Sw,A'.handled=none->Walks P w A' j [j] [j] z.cps.size (SignAt z) (λi h=>h.IsStrIter j n z t i))
 (S:∀(A:Sw) (i:Nat) (s:Rl) (Q:Rg->Rl->Prop) (E:Rg->Rl->Prop),s.heap.IsStrIter j n z t i->Q (.ref j) s->wpAny (model P w) A (pyIter (.ref j)) Q E s)
 (D:∀(A:Sw) (hh:A.handled=none) (i:Nat) (s:Rl) (Q:Option Rg->Rl->Prop) (E:Rg->Rl->Prop),s.heap.IsStrIter j n z t i->z.cps.size<=i->(∀F,(∀b o,b≠j->s.heap.get? b=some o->F.get? b=some o)->Q none {s with heap:=F})->wpAny (model P w) A (pyNext (.ref j)) Q E s) :
 Turn P w K tg (Nk z) [j] j (λi h=>h.IsStrIter j n z t i) where
 mem:=`s
 obj:=λi h st b B=>by
  have e:b=j:=by simpa using B
  subst e;obtain⟨o,e,c,d⟩:=st;exact{o,e,λv z=>by rw[d] at z;cases z}
 keep:=λi h F st k=>let⟨o,e,r⟩:=st;{o,k j `s o e,r}
 item:=by
  intro X Y hw U hc i y s σ H E I hf st hg;subst Y hw U;obtain⟨L,f1,f2,M,O,R⟩:=hf j `s
  refine(W X.A (I.ok.hd hc)).item i s _ _ hg st λv F tk hv J kk=>?_;obtain⟨c,u,hc',rfl⟩:=hv;have I1:Inv X y σ H {s with heap:=F,toks:=tk}:=I.turned (λb o B e=>kk b o (by simpa using B) e) L f1 M O R
  obtain⟨o,e,co,d⟩:=id J;exact{_,rfl,tZ e co d hn {.str {#[c]},H,I1,⟨u,rfl⟩,⟨rfl,c,hc',rfl⟩,J,λb B=>(hf b B).1}}
 done:=by
  intro X Y hw U hc i y s σ H E I hf st hg;subst Y hw U;obtain⟨L,f1,f2,M,O,R⟩:=hf j `s
  exact D X.A (I.ok.hd hc) i s _ _ st hg λF eb=>{rfl,I.turned (λb o B e=>eb b o B e) L f1 M O R}
 self:=λA i s Q E st h=>S A i s Q E st h
def K1 {l:Expr}{tl:TE}(hl:PE X l tl):PI X tg l (λF H R=>tl F H λx u=>∃z,x=.str z/\R (Nk z) u):=by
 intro j s F H R I h;refine aV (hl j s F H _ I h) ?_;rintro v s1 ⟨x,u,y,r1,S⟩;obtain⟨z,rfl,q⟩:=S;obtain⟨t,rfl⟩:=r1;have J:∀b∈[s1.heap.objs.size],f6 X j u b:=λb O=>by
  have e:b=s1.heap.objs.size:=by simpa using O
  subst e;exact y.fpOk (Rj _) (y.hok.fresh (Rj _))
 cases L:z.cps.all (· < 128)
 ·refine wpAny_pyIter_wide L ?_;exact{s1.heap.objs.size,[s1.heap.objs.size],_,_,u,rfl,y.kept λb o e=>Rf _ e,um rfl _ z t (λM h=>Walks.strWide h _ z t) (λA i s Q E st h=>wpAny_pyIter_striter_wide st h) (λA B i s Q E st P k=>wpAny_pyNext_wide_end B st `o k),{_,RB _ rfl,rfl,rfl},J,q}
 ·refine wpAny_pyIter_ascii L ?_;exact{s1.heap.objs.size,[s1.heap.objs.size],_,_,u,rfl,y.kept λb o e=>Rf _ e,um rfl _ z t (λM h=>Walks.strAscii h _ z t) (λA i s Q E st h=>wpAny_pyIter_striter_ascii st h) (λA B i s Q E st P k=>wpAny_pyNext_ascii_end B st `o k),{_,RB _ rfl,rfl,rfl},J,q}
def qC (ga:GE):Env->Mem->Res Walk:=λh M=>(ga h M).bind λx M=>match x with
 |.str z=>.ok (λ_=>some (signs z)) M
 |_=>.bad
def Cb (z:Str):dU fa X.K μ0 H0 (λ_=>some (signs z)) (Nk z):=λJ H M I x v e=>by
 cases e;refine{λi d hd=>?_,λi B=>(show z.cps.size<=i by simpa[signs] using B)}
 unfold signs at hd;rw[R5] at hd;cases e:z.cps.toList[i]? with
 |none=>rw[e] at hd;cases hd
 | some c=>
   rw[e] at hd;have j:=Ro hd;subst j;have e2:z.cps[i]?=some c:=by simpa using e
   refine{(RZ.mp e2).1,λy E ⟨e1,F,h,u⟩=>?_};rw[e2] at h;cases h;subst e1 u;exact{.refl,v,rfl}
def Jg (F:DE fa X a ga):DI fa X tg a (qC ga):=λj s Q H R I ⟨O,P,M,B,E,h⟩=>by
 obtain⟨x,S,e,q⟩:=aO h;refine K1 F j s Q H R I {O,P,M,B,E,?_};rw[e];intro v y u L J r1;cases x with
 | str z=>
   obtain rfl:v=.str z:=r1;exact{z,rfl,q _ y u L J (Cb z)}
 |_=>exact q.elim
end
end LD
namespace LD
open PySem PySem.Spec PySem.Calls PyProof.Rows PySem.W
section
variable{prog:R0}{w:RS}{A:Sw}{E:Rg->Rl->Prop}{s:Rl}{K:Frag}{x C:Addr}{ox:Obj}{od:Option Obj}{name:Str}
noncomputable def lD (K:Frag)(C:Addr):Bool:=findIn K (.ref C) "__getattribute__"==some (some (.builtin "BaseException.__getattribute__"))&&findIn K (.ref C) "__getattr__"==some none&&mroIn K C (.type "BaseException")==some true&&mroIn K C (.type "object")==some true &&
 findIn K (.ref C) "__class__"==some (some (.builtin "object.__class__"))&&specialIn K (.builtin "object.__class__") "__get__"==some (some (.builtin "getset_descriptor.__get__"))&&takesIn K (.builtin "object.__class__")==some true
def QA (prog:R0)(w:RS)(A:Sw)(x C:Addr)(Q:Rg->Rl->Prop)(E:Rg->Rl->Prop)(s:Rl):Builtin.ObjectAttr.Found->Prop
 |.value v=>wpAny (model prog w) A (handedOut v) Q E s
 |.bind g a=>wpAny (model prog w) A.in1 (call g [a,.ref x,.ref C]) (λv h=>wpAny (model prog w) A (handedOut v) Q E h) (λ_ _=>False) s
 |.missing=>False
def xC {u j:Bool}(X:K.In s.heap)(I:InstAt s.heap x ox C od)(B:lD K C=true)(hf:findObj K C od name=some r)
 (h:QA prog w A x C Q E s r) :
 wpAny (model prog w) A (getAttrBy (.ref x) (.str name tk) u j) Q E s:=by
 unfold lD at B;simp only[Ra,beq_iff_eq] at B;obtain⟨⟨⟨⟨⟨⟨H,J⟩,L⟩,Y⟩,_⟩,_⟩,_⟩:=B;obtain⟨hh,g,d,t,os⟩:=s;have P:=I.type (M:=model prog w);have R:=looks_findIn (M:=model prog w) X H;have S:=looks_findIn (M:=model prog w) X J;have U:=looks_find (M:=model prog w) X I hf;have W:=looks_mroIn (M:=model prog w) X L;have O:(Value.builtin "BaseException.__getattribute__"==Value.builtin "object.__getattribute__")=false:=`k
 have hk:builtinKind "BaseException.__getattribute__"=some .slot:=`k
 have y:splitId "BaseException.__getattribute__"=some ("BaseException","__getattribute__"):=`k
 refine tqo (tqa (P.at (tqa (R.at ?_))));show wpAny _ _ (if (true&&Value.builtin "BaseException.__getattribute__"==Value.builtin "object.__getattribute__")=true then _ else _) _ _ _;rw[O,if_neg `d]
 refine tqa (S.at (tqa (wpAny_attempt (tqo ?_))));unfold callGetattribute;rw[if_neg (by cases j<;>decide)]
 refine tqa (wpAny_of_eq (PySem.F.excAttr_ValueError.ga.bind (.ref x)) ?_);refine wpAny_call (codeAny_call_builtin PySem.F.excAttr_ValueError.ga.plain F.entry_bexc_ga ?_);refine tqa (tqa (P.at (W.at ?_)))
 repeat (any_goals (first|assumption|wp_step))
 refine wpAny_loadPart_at I.at_ (tqb ?_);rw[I.cls];refine tqa (U.at ?_);cases r with
 |value v=>exact tqb h
 | bind g a=>
   exact tqa (tqo (wpAny_mono h (λv s' z=>tqb z) λ_ _ z=>z.elim))
 |missing=>exact h.elim
def BA {Q:Option Rg->Rl->Prop}(X:K.In s.heap)(I:InstAt s.heap x ox C od)(v:lD K C=true)(h:Q (some (.ref C)) {s with toks:=s.toks+1}):wpAny (model prog w) A (getAttr? (.ref x) "__class__") Q E s:=by
 have j:=v;unfold lD at j;simp only[Ra,beq_iff_eq] at j;obtain⟨⟨⟨⟨⟨⟨_,_⟩,_⟩,hm⟩,y⟩,hn⟩,u⟩:=j;have hf:findObj K C od "__class__"=some (.bind (.builtin "getset_descriptor.__get__") (.builtin "object.__class__")):=by
  obtain⟨B,z,_⟩:=R4.mp hm;unfold findObj;rw[z,Ta,y,Ta];simp[hn,u]
 refine tqa (wpAny_mkText (tqa (wpAny_attempt (xC X I v hf ?_))));exact wpAny_call (class_get X I hm (handed_on rfl (tqb h)))
set_option tactic.hygienic true in
def IX (X:K.In s.heap)(I:InstAt s.heap x ox C od)(L:lD K C=true)(z:∀(M:Model) u,K.In u->Looks M u (typeOf c) (.type "type"))(y:∀(M:Model) u,K.In u->Looks M u (isType c) true)
 (H:(Value.ref C==c)=false) (j:∀(M:Model) u,K.In u->Looks M u (isSubtype (.ref C) c) false) (h:Q (.bool false) {s with toks:=s.toks+1}):wpAny (model prog w) A (call (.builtin "isinstance") [.ref x,c]) Q E s:=by
 refine call_isinstance_of ?_ (by intro q;cases q)
 have B:Looks (model prog w) s.heap (isType (.ref C)) true:=by
  have v:=L;unfold lD at v;simp only[Ra,beq_iff_eq] at v;obtain⟨cd,F,_⟩:=R4.mp v.1.1.1.2;unfold clsIn at F;split at F
  ·rename_i c' d' P S ho;intro U Y W s' k q;exact tqa (wpAny_loadPart (k _ _ (X _ _ ho)) (tqb q))
  ·cases F
 have z:=z (model prog w) s.heap X;have y:=y (model prog w) s.heap X;have j:=j (model prog w) s.heap X;obtain⟨R,g,d,tt,os⟩:=s;have J:=I.type (M:=model prog w);have O:Looks (model prog w) R (isInstance (.ref x) c) false:=J.andThen j;refine tqa (J.at ?_);rw[if_neg (λq=>by rw[H] at q;exact Bool.noConfusion q)]
 refine tqa (z.at ?_);rw[if_pos `d]
 k_delta "plainIsInstance"
 refine tqa (tqa (y.at ?_));refine tqa (O.at ?_);refine tqa (BA X I L ?_);refine tqa (B.at ?_);refine tqa (wpAny_rule ?_);refine j.at ?_;exact tqb h
set_option tactic.hygienic true in
def Ej {D:Addr}(X:K.In s.heap)(I:InstAt s.heap x ox C od)(B:lD K C=true)(e:kin_not K C D=true)(h:Q (.bool false) {s with toks:=s.toks+1}):wpAny (model prog w) A (call (.builtin "isinstance") [.ref x,.ref D]) Q E s:=by
 unfold kin_not at e;rw[Ra,Ra,Ra] at e;obtain⟨⟨⟨y,e1⟩,e2⟩,z⟩:=e;refine IX X I B (λ_ u j=>looks_typeIn j (Tw.mp e2)) (λ_ u j=>?_) ?_ (λ_ u j=>looks_subIn j (Tw.mp z)) h
 ·unfold clsIn at e1;split at e1
  ·rename_i M O v F ho;intro H L J P k q;exact tqa (wpAny_loadPart (k _ _ (j _ _ ho)) (tqb q))
  ·cases e1
 ·exact Bool.eq_false_iff.mpr λq=>of_decide_eq_true y (Value.ref.inj (Tw.mp q))
def IY (X:K.In s.heap)(I:InstAt s.heap x ox C od)(j:typeOf (.type T)=pure (.type "type"))(hm:mroIn K C (.type T)=some true)(h:Q (.bool true) s):wpAny (model prog w) A (call (.builtin "isinstance") [.ref x,.type T]) Q E s:=by
 refine call_isinstance_of ?_ (by intro q;cases q)
 have v:=looks_mroIn (M:=model prog w) X hm;obtain⟨z,g,d,B,os⟩:=s;have u:=I.type (M:=model prog w);have y:Looks (model prog w) z (isInstance (.ref x) (.type T)) true:=u.andThen v;refine tqa (u.at ?_);rw[if_neg (by intro q;cases Tw.mp q)]
 refine tqa (wpAny_of_eq j ?_);rw[if_pos `d]
 k_delta "plainIsInstance"
 refine tqa (tqa (wpAny_of_eq rfl ?_));refine tqa (y.at ?_);exact tqb (tqb h)
end
end LD
namespace LD
open PySem PySem.Spec PyProof.Rows L2
noncomputable def cy (f:Nat)(c:Call)(s:GA):GE:=λj M=>match s j M with
 |.ok h M=>c f h M
 |_=>.bad
noncomputable def xV (k:D->Mem->Res Fl)(Z:Env):Res D->Res Fl
 |.ok d M=>k d M
 |.err x M=>.ok (.exc x Z) M
 |.bad=>.bad
def gK (a:GE):GS:=λh M=>xV (λ_ M=>.ok (.next h) M) h (a h M)
def eP (t:gr)(a:GE):GS:=λh M=>xV (λx M=>(b7 M (b9 t x h)).bind λj M=>.ok (.next j) M) h (a h M)
def jt (a:GE):GS:=λh M=>xV (λx M=>.ok (.ret x) M) h (a h M)
noncomputable def kr (t:GT)(a b:GE):GE:=λh M=>match t h M with
 |.ok k M=>if k then a h M else b h M
 |_=>.bad
noncomputable def eK (c:Nat)(s:GA):GS:=λh M=>match s h M with
 |.ok j M=>if j.length<=sz then .ok (.exc (.exc c none) h) M else .bad
 |_=>.bad
def bZ (o:Option Nat)(a:GE):GE:=λh M=>(a h M).bind λx M=>match x with
 |.exc c _=>.ok (.bl (match o with|some k=>k==c|none=>true)) M
 |_=>.bad
noncomputable def JI (i:Nat):Fl->Mem->Res Fl
 |.next h,M=>.ok (.next (h.set i none)) M
 |.ret d,M=>.ok (.ret d) M
 |.exc _ _,_=>.bad
def Py (i:Nat)(h:GS):Fl->Mem->Res Fl
 |.exc x j,M=>(h (j.set i (some x)) M).bind (JI i)
 |fl,M=>.ok fl M
def mB (b:GS)(i:Nat)(h:GS):GS:=λj M=>(b j M).bind (Py i h)
def O4 (fa:Fa)(X:Cx)(g:GE):TE:=λv H Q=>∃h j M,bp fa X.K h H v j/\RelM fa X.K h H M/\hR (g j M) (bq fa X.K h H Q) (λx u=>XW fa X h H x j u)
abbrev DX (fa:Fa)(X:Cx)(e:Expr)(g:GE):Prop:=PE X e (O4 fa X g)
section
variable{fa:Fa}{X:Cx}{a b:Expr}{ga gb:GE}{ta:GT}{pos p:Pos}{es:List Expr}{gs:GA}{n:Nat}
def x_call (f:Nat){call:Call}(C:∀f,et fa X.prog X.w X.K X.mg X.base n f (call f))(hr:bL (2*n+4) X.A)(hex:X.ex=[])(hg:Gl X x)(hm:∀ad,fa f=some ad->X.mg x=some (.ref ad))(hs:DA fa X (a::es) gs)
 (hdb:(x==("__debug__":Str))=false) (he:notStar a=true) (hpl:es.all notStar=true):DX fa X (.Call (.Name x p) (a::es) [] pos) (cy f call gs):=by
 rintro B s σ H Q I ⟨μ,Z,M,hE,hM,h⟩;unfold cy at h;cases eg:gs Z M with
 |err=>rw[eg] at h;exact h.elim
 |bad=>rw[eg] at h;exact h.elim
 | ok E R=>
   rw[eg] at h;have h:hR (call f E R) (bq fa X.K μ H Q) (λx P=>XW fa X μ H x Z P):=h;rcases C f with hb|⟨ad,fd,ps,h1,h2,h3,h4,F,_⟩
   ·rw[hb] at h;exact h.elim
   ·have hl:E.length=ps.length:=by
     by_cases hl:E.length=ps.length
     ·exact hl
     ·rw[h4 E R hl] at h;exact h.elim
    refine wpAny_Call_Name_kw (fL I hg (hm ad h1) ?_ hdb);refine SU I.ok.mod.kin h2 (aV (hs pos B s σ H (λU z=>∃j,Ext μ H j z/\RelM fa X.K j z R/\aH fa X.K j z E U) I {μ,Z,M,hE,hM,by rw[eg];exact λU z j Y m1 r1=>⟨j,Y,m1,r1⟩}) λus s1 ⟨U,z,O,r,j,Y,m1,r1⟩=>{O.kIn,?_}) (bC he) (cu hpl)
    have hsp:uH fa X.K ps.length (call f) U z Q λCv dx J=>∃y P v C' c p,Cv=.ref C'/\Ext j z v J/\RelM fa X.K v J P/\y=.exc c p/\fa (d7 c)=some C'/\rX J c dx p/\XW fa X μ H y Z P:=by
     refine{by rw[r1.length];exact hl,j,R,E,m1,r1,?_}
     cases S:call f E R with
     |ok d M2=>rw[S] at h;exact bq.ext h Y
     |err y M2=>rw[S] at h;exact λC dx c p J v y' m ex hc hn=>{_,M2,v,C,c,p,rfl,y',m,ex,hc,hn,h}
     |bad=>rw[S] at h;exact h.elim
    have hl2:us.length=ps.length:=by rw[<- r.length,r1.length];exact hl
    have hb:=h3 s1 us O.kIn (by simpa using hl2)
    rw[S1] at hb;refine wpAny_call (codeAny_mono (F.run X.A X.stack s1 z {us,[]} us U Q _ hr O.env0 hb r hsp) λr' s' L=>?_);cases r' with
    | error e=>
      unfold CR at L;obtain⟨a',C',dx,J,rfl,I',fl,y,P,v,C2,c,p,S,ye,m',ey,hc,hn,hw⟩:=mW O hex L;cases S;exact hw B σ J v s' a' C' dx c p I' (Y.trans ye) ((hE.ext Y).ext ye) m' ey hc hn fl
    | ok fl=>
      cases fl with
      |ret u=>exact O.after L
      |next=>exact False.elim L
      |brk=>exact False.elim L
      |cont=>exact False.elim L
def Nr (S:DT fa X c ta)(P:DX fa X a ga)(R:DX fa X b gb):DX fa X (.IfExp c a b pos) (kr ta ga gb):=
 bA (u2 S P R) λW H Q ⟨B,j,M,F,O,h⟩=>by
  unfold kr at h;cases u:ta j M with
  |err=>rw[u] at h;exact h.elim
  |bad=>rw[u] at h;exact h.elim
  | ok k v=>
    rw[u] at h;refine{B,j,M,F,O,?_};rw[u];intro I E z U;have go:∀g:GE,hR (g j v) (bq fa X.K B H Q) (λx J=>XW fa X B H x j J)->O4 fa X g W I Q:=λg q=>by
     refine{E,j,v,F.ext z,U,?_};cases e:g j v with
     |ok d L=>rw[e] at q;exact bq.ext q z
     |err y L=>rw[e] at q;exact XW.ext q z
     |bad=>rw[e] at q;exact q
    cases k with
    |true=>exact go ga h
    |false=>exact go gb h
def NK (I:DX fa X a ga)(hs:swapsWith a none pos.line X.env=pure false):DS fa X (.Expr a pos) (gK ga):=
 d3 (nF I hs) λP O H ⟨L,z,M,u,F,h⟩=>{L,z,M,u,F,by
  unfold gK at h;cases e:ga z M with
  |ok d E=>rw[e] at h;exact λv B j y J r1=>h O B j y (u.ext y) J
  |err x E=>rw[e] at h;exact h
  |bad=>rw[e] at h;exact h.elim}
def Kk (R:DX fa X a ga)(S:PG X tg (gT fa X.K t))(hs:swapsWithSole [tg] a pos.line X.env=pure false)(U:swappedStores [tg] a X.env=pure none)(h1:(assignEach [tg] X.env).map (·.2)=[assign tg X.env]) :
 DS fa X (.Assign [tg] a pos) (eP t ga):=
 d3 (uV R S hs U h1) λD σ H ⟨W,y,M,I,Q,h⟩=>{W,y,M,I,Q,by
  unfold eP at h;cases e:ga y M with
  | ok d P=>
    rw[e] at h;obtain⟨E,M2,u,q⟩:=aO h;cases z:b9 t d y with
    |none=>rw[z] at u;cases u
    | some Y=>
      rw[z] at u;cases u;exact λv O j L J r1=>{j,y,_,d,E,I.ext L,J,r1,z,λF B=>q F O j L B J}
  |err x P=>rw[e] at h;exact h
  |bad=>rw[e] at h;exact h.elim}
def Ki (z:DX fa X a ga):DS fa X (.Return (some a) pos) (jt ga):=
 d3 (AL z) λE F H ⟨B,j,M,v,y,h⟩=>{B,j,M,v,y,by
  unfold jt at h;cases e:ga j M with
  |ok d u=>rw[e] at h;exact h
  |err x u=>rw[e] at h;exact h
  |bad=>rw[e] at h;exact h.elim}
end
noncomputable abbrev oB:List Rg:=[.type "ValueError",.type "Exception",.type "BaseException",.type "object"]
noncomputable def Kg (K:Q9)(C:Addr)(f:ClassData->Addr->List Rg->String->Bool):Bool:=match K.lookup C with
 | some {.type "type",_,.cls h,sl}=>(match h.mro,sl.toList with
   |.ref j::bm,[_,_,_,_,some (.builtin n),_]=>f h j bm n
   |_,_=>false)
 |_=>false
set_option tactic.hygienic true in
def AB {K:Q9}(X:K.In h)(q:Kg K C f=true) :
 ∃u N nm q bs hdct sn sub ab col dd k0 k1 k2 k3 k5 dl n j,f {nm,bs,.ref j::u,N,q,hdct,sn,sub,ab,col,dl} j u n=true/\h.get? C=some {.type "type",dd,.cls {nm,bs,.ref j::u,N,q,hdct,sn,sub,ab,col,dl},#[k0,k1,k2,k3,some (.builtin n),k5]}:=by
 unfold Kg at q;split at q
 ·rename_i dd y sl ho;split at q
  ·rename_i j u k0 k1 k2 k3 n k5 hm hs;obtain⟨nm,bs,z,ns,qn,hd,sn,sub,ab,col,del⟩:=y;subst hm;have v:sl=#[k0,k1,k2,k3,some (.builtin n),k5]:=by
    obtain⟨l⟩:=sl;simp only at hs;rw[hs]
   subst v;exact{_,_,_,_,_,_,_,_,_,_,_,_,_,_,_,_,_,_,_,q,X _ _ ho}
  ·cases q
 ·cases q
def El {K:Q9}(X:K.In h)(q:PySem.W.excIn K C bmB newId=true) :
 ∃j N nm q bs hdct sn sub ab col dd k0 k1 k2 k3 k5 v,h.get? C=some (excClassObj nm q C N bs j hdct sn sub ab col dd k0 k1 k2 k3 k5 newId)/\h.Ns N v/\v "__init__"=none/\OwnTail h bmB j:=by
 obtain⟨j,ns,nm,qn,bs,hd,sn,sub,ab,col,dd,k0,k1,k2,k3,k5,dl,n,z,q,ho⟩:=AB X q;simp only[Ra,beq_iff_eq,S5] at q;obtain⟨⟨⟨⟨⟨rfl,rfl⟩,rfl⟩,y⟩,hok⟩,u⟩:=q;exact{j,ns,nm,qn,bs,hd,sn,sub,ab,col,dd,k0,k1,k2,k3,k5,_,ho,.of_isNs (PySem.W.isNs_of_in X hok),PySem.W.nsMap_none_of_in X hok u,PySem.W.tail_of_in X y}
def A2 (x:d9 P w H h a o):∃ob,h.get? a=some ob:=by
 cases o with
 |lst xs=>obtain⟨_,_,_,_,e⟩:=x;exact{_,e}
 |tup xs=>obtain⟨_,_,_,ob,e,_⟩:=x;exact{_,e}
 |dK j=>obtain⟨_,_,_,_,o,_,_,e,_⟩:=x;exact{_,e}
 |dT j=>obtain⟨_,_,_,_,o,_,_,e,_⟩:=x;exact{_,e}
 |set S n=>obtain⟨o,_,_,_,e,_⟩:=x;exact{_,e}
 |ins C v fs=>obtain⟨_,_,_,e,_⟩:=x;exact{_,e}
 |own y=>exact x
 |xd fs=>obtain⟨_,⟨_,_,_,e,_⟩,_⟩:=x;exact{_,e}
 |rng lo z=>obtain⟨_,_,_,e⟩:=x;exact{_,e}
 |frz ob u=>obtain⟨e,_⟩:=x;exact{_,e}
 |tbl ps=>exact{_,x}
 |met f y=>exact{_,x}
 |ext B=>obtain⟨_,e,_⟩:=x;exact e
 |dn es=>obtain⟨_,_,o,e,_⟩:=x;exact⟨o,e⟩
def pD (I:Inv X pins σ H s)(h:X.ex=[])(hn:s.heap.get? e=none):pM X e/\H e=none:=by
 refine{{?_,λp v z=>?_},?_}
 ·cases q:X.s₀.heap.get? e with
  |none=>rfl
  | some o=>
    obtain⟨y,j⟩:=I.base.there e o q (by rw[h];simp)
    rw[hn] at j;cases j
 ·have:=(I.pin p (Sx _ v)).1;rw[z,hn] at this;cases this
 ·cases q:H e with
  |none=>rfl
  | some u=>
    obtain⟨ob,z⟩:=A2 (I.hok e u q);rw[hn] at z;cases z
section
variable{fa:Fa}{X:Cx}{a b:Expr}{ga gb:GE}{ta:GT}{pos p:Pos}{es:List Expr}{gs:GA}{n:Nat}
set_option tactic.hygienic true in
def HL (c:Nat){x:Str}(hx:∃C,X.mg x=some (.ref C)/\fa (d7 c)=some C/\PySem.W.excIn X.K C oB "ValueError.__new__"=true)(L:X.ex=[])(hg:Gl X x)(hc:X.calm=true)(hs:DA fa X (a::es) gs)
 (J:(x==("__debug__":Str))=false) (he:notStar a=true) (S:es.all notStar=true):DS fa X (.Raise (some (.Call (.Name x np) (a::es) [] cpos)) none pos) (eK c gs):=by
 rintro u s σ H D' I ⟨μ,Z,M,hE,hM,h⟩;obtain⟨C,Q,O,P⟩:=hx;obtain⟨bm,N,nm,q,bs,hdct,sn,sub,ab,col,dd,k0,k1,k2,k3,k5,mN,hC,hN,R,T⟩:=El I.ok.mod.kin P;unfold eK at h;cases z:gs Z M with
 |err=>rw[z] at h;exact h.elim
 |bad=>rw[z] at h;exact h.elim
 | ok ds M1=>
   rw[z] at h;dsimp only at h;split at h
   ·next hz=>
    refine wpAny_Raise_call_subT (nm:=nm) (q:=q) (N:=N) (bs:=bs) (hdct:=hdct) (sn:=sn) (sub:=sub) (ab:=ab) (col:=col) (dd:=dd) (k0:=k0) (k1:=k1) (k2:=k2) (k3:=k3) (k5:=k5) PySem.F.excBase_ValueError (T.hasType `k) (I.ok.hd hc) (cu (by simp[he,S])) R (fL I hg Q {rfl,?_} J)
    have ar:=aV (hs cpos u s σ H (λvs v=>∃j,Ext μ H j v/\RelM fa X.K j v M1/\aH fa X.K j v ds vs) I {μ,Z,M,hE,hM,by rw[z];exact λvs v j E U r1=>⟨j,E,U,r1⟩}) (Q':=λY s2=>([]:List (Str×Rg))=[]/\Y.length<=sizeLine/\s2.heap.get? C=some (excClassObj nm q C N bs bm hdct sn sub ab col dd k0 k1 k2 k3 k5 "ValueError.__new__")/\s2.heap.Ns N mN/\OwnTail s2.heap oB bm/\∀B e,Heap.MadeExcOf s2.heap B e (.ref C) Y->X.xe (.ref e) {s2 with heap:=B}) λY s1 ⟨vs,v,y,r,j,E,U,r1⟩=>by
     refine{rfl,?_,y.bk _ _ hC,hN.keeps y.bk,T.keeps y.bk,λB e hm=>?_}
     ·rw[<- r.length,r1.length,<- dh];exact hz
     ·obtain⟨t,ht,_,_⟩:=hm.there;obtain⟨n1,n2⟩:=pD y L hm.new;exact h u σ v j {s1 with heap:=B} e C none c none (y.kept hm.keeps) E (hE.ext E) U rfl O rfl {n1,n2,_,_,ht,rfl,rfl,rfl,.inl rfl}
    rw[bC he] at ar ⊢;exact PySem.Calls.evalArgs_plain ar
   ·exact h.elim
end
structure nq (fa:Fa) (K:Q9):Prop where
 g:∀c C,fa (d7 c)=some C->lD K C=true/\PySem.W.mroIn K C (.type "ValueError")=some true/\PySem.W.isIn K (.ref C) C=true
 d:∀c C D,fa (d7 c)=some C->fa 999=some D->PySem.W.isIn K (.ref C) D=true/\PySem.W.mroIn K C (.ref D)=some true/\PySem.W.mroIn K D (.type "BaseException")=some true/\PySem.W.typeIn K (.ref D)=some (.type "type")
 n:∀c C c' C',fa (d7 c)=some C->fa (d7 c')=some C'->c'≠c->PySem.W.kin_not K C C'=true
section
variable{fa:Fa}{X:Cx}{pins:List (Addr×Obj)}{σ:L2.St}{H:Hp}{s:Rl}{μ:Mu}
def rG (I:Inv X pins σ H s)(r:Rep fa X.K μ H (.exc c p) v):∃a C u od,v=.ref a/\fa (d7 c)=some C/\S8 s.heap a u C od:=by
 obtain⟨a,C,y,rfl,hf,j,hn⟩:=r;obtain⟨⟨o,J,h1,h2,h3,h4,E⟩,_,_⟩:=I.hok a _ j;have h:PySem.W.notCls o=true:=by unfold PySem.W.notCls;rw[h4]
 cases p with
 | none=>
   exact{a,C,o,none,rfl,hf,h1,h2,h,by rw[h3,hn];trivial}
 | some i=>
   obtain⟨d,rfl,hd⟩:=hn;obtain⟨F,⟨od,B,z,e,_⟩,_⟩:=I.hok d _ hd;exact{a,C,o,some od,rfl,hf,h1,h2,h,by rw[h3];exact e}
def qb (fa:Fa)(K:Q9)(o:Option Nat)(w:V)(xs:List V)(H:Hp)(Q:VK):Prop:=∃μ c p v,xs=[v,w]/\Rep fa K μ H (.exc c p) v/\Q (.bl (match o with|some k=>k==c|none=>true)) H
def IT (B:nq fa X.K){D:Addr}(j:fa (d7 k)=some D):cq X (.builtin "isinstance") (qb fa X.K (some k) (.ref D)):=by
 intro pins s σ H xs L Q I r h;obtain⟨μ,c,p,v,rfl,F,q⟩:=h;obtain⟨u,w,rfl,r1,r2⟩:=vals2 r;obtain rfl:w=Value.ref D:=r2;obtain⟨a,C,J,od,rfl,hf,E⟩:=rG I F;obtain rfl:u=Value.ref a:=r1;dsimp only at q;by_cases y:k=c
 ·subst y;rw[j] at hf;cases hf;rw[beq_self_eq_true] at q;exact PySem.W.isi_call I.kIn (λM=>E.type) (B.g k D j).2.2 (by intro z;cases z) {.bl true,H,I,rfl,q}
 ·rw[RJ.mpr y] at q;exact Ej I.kIn E (B.g c C hf).1 (B.n c C k D hf j y) {.bl false,H,I.tok _,rfl,q}
def IV (B:nq fa X.K){D:Addr}(y:fa 999=some D):cq X (.builtin "isinstance") (qb fa X.K none (.ref D)):=by
 intro pins s σ H xs J Q I r h;obtain⟨μ,c,p,v,rfl,E,q⟩:=h;obtain⟨u,w,rfl,r1,r2⟩:=vals2 r;obtain rfl:w=Value.ref D:=r2;obtain⟨a,C,F,od,rfl,hf,j⟩:=rG I E;obtain rfl:u=Value.ref a:=r1;exact PySem.W.isi_call I.kIn (λM=>j.type) (B.d c C D hf y).1 (by intro z;cases z) {.bl true,H,I,rfl,q}
def IU (y:nq fa X.K):cq X (.builtin "isinstance") (qb fa X.K none (.ty "ValueError")):=by
 intro pins s σ H xs E Q I r h;obtain⟨μ,c,p,v,rfl,z,q⟩:=h;obtain⟨u,w,rfl,r1,r2⟩:=vals2 r;obtain rfl:w=Value.type "ValueError":=r2;obtain⟨a,C,B,od,rfl,hf,j⟩:=rG I z;obtain rfl:u=Value.ref a:=r1;exact IY I.kIn j (by kernel_rfl) (y.g c C hf).2.1 {.bl true,H,I,rfl,q}
end
section
variable{fa:Fa}{X:Cx}{a:Expr}{ga:GE}{pos p1 p2:Pos}{x:Str}
def rJ (h:tE fa X.K (bZ o ga) σ H Q):tE fa X.K ga σ H λv y=>qb fa X.K o w [v,w] y Q:=by
 obtain⟨μ,J,M,z,E,h⟩:=h;exact t1 z E h λx I v y u F B j r1 h1=>by
  cases x with
  |exc c p=>exact{u,c,p,v,rfl,r1,ba j (bq.ext h1 F) rfl}
  |_=>exact h1.elim
def rg (k:Nat)(z:nq fa X.K)(E:∃D,X.mg x=some (.ref D)/\fa (d7 k)=some D)(y:DE fa X a ga)(B:Gl X "isinstance")(hm:X.mg "isinstance"=none)(u:Gl X x)(j:(x==("__debug__":Str))=false)
 (he:starEach [a,.Name x p1] X.env=(false,eval a X.env)::starEach [.Name x p1] X.env):DE fa X (.Call (.Name "isinstance" p2) [a,.Name x p1] [] pos) (bZ (some k) ga):=by
 obtain⟨D,h1,h2⟩:=E;exact bA (jO (IT z h2) B hm `k (bM y (bM (iE u h1 (v:=.ref D) rfl j) dz `r) he) `d `d he `r) λσ H Q h=>rJ h
def HR (z:nq fa X.K)(E:∃D,X.mg x=some (.ref D)/\fa 999=some D)(y:DE fa X a ga)(B:Gl X "isinstance")(hm:X.mg "isinstance"=none)(u:Gl X x)(j:(x==("__debug__":Str))=false)
 (he:starEach [a,.Name x p1] X.env=(false,eval a X.env)::starEach [.Name x p1] X.env):DE fa X (.Call (.Name "isinstance" p2) [a,.Name x p1] [] pos) (bZ none ga):=by
 obtain⟨D,h1,h2⟩:=E;exact bA (jO (IV z h2) B hm `k (bM y (bM (iE u h1 (v:=.ref D) rfl j) dz `r) he) `d `d he `r) λσ H Q h=>rJ h
def HQ (z:nq fa X.K)(y:DE fa X a ga)(B:Gl X "isinstance")(hm:X.mg "isinstance"=none)(j:Gl X "ValueError")(u:X.mg "ValueError"=none)
 (he:starEach [a,.Name "ValueError" p1] X.env=(false,eval a X.env)::starEach [.Name "ValueError" p1] X.env):DE fa X (.Call (.Name "isinstance" p2) [a,.Name "ValueError" p1] [] pos) (bZ none ga):=
 bA (jO (IU z) B hm `k (bM y (bM (xb j u `k (v:=.ty "ValueError") rfl) dz `r) he) `d `d he `r) λσ H Q h=>rJ h
end
set_option tactic.hygienic true in
def wo {K:Q9}{x C D:Addr}(X:K.In s.heap)(I:S8 s.heap x ox C od)
 (y:PySem.W.mroIn K D (.type "BaseException")=some true) (L:PySem.W.typeIn K (.ref D)=some (.type "type")) (hs:PySem.W.mroIn K C (.ref D)=some true) (h:Q true s):wpAny (model prog w) A (excMatches (.ref x) (.ref D)) Q E s:=by
 obtain⟨O,g,d,t,os⟩:=s;have v:=PySem.W.looks_mroIn (M:=model prog w) X hs;have z:=PySem.W.looks_mroIn (M:=model prog w) X y;have F:=PySem.W.looks_typeIn (M:=model prog w) X L;have f:=tc_notTuple;obtain⟨cd,u,_⟩:=R4.mp y;unfold PySem.W.clsIn at u;split at u
 ·rename_i Y d' J P ho;have j:=X _ _ ho;have B:PySem.W.Looks (model prog w) O (isType (.ref D)) true:=λR U S s' k q=>by
   exact tqa (wpAny_loadPart (k _ _ j) (tqb q))
  refine tqa (tqa (F.at (wpAny_of_eq f ?_)))
  repeat (first|with_reducible refine tqa (B.at ?_)|with_reducible refine z.at ?_|with_reducible refine v.at ?_|with_reducible refine wpAny_loadPart_at I.at_ ?_|wp_step)
  rw[I.cls];refine v.at ?_
  repeat (first|exact h|wp_step)
 ·cases u
def yY (f:nt New C dx a s.heap H)(h:Q () s):wpAny M A (setFlight (.ref a) none) Q E s:=by
 obtain⟨_,_,o,B,h1,_,_,h4,z⟩:=f;rcases z with t|⟨T,y,ts,t1,_,_,_,j,u,v⟩
 ·refine tqa (tqf h1 h4 t ?_);rw[if_neg `d]
  exact tqb h
 ·refine tqa (tqf h1 h4 t1 ?_);rw[if_pos `s]
  refine wpAny_setField j u (RZ.mp v).1 ?_;have e:=Heap.update_setField_same s.heap T y ts 3 .none j u v;show Q () {s with heap:=s.heap.update T (Obj.mapFields (·.setIfInBounds 3 .none))}
  rw[e];exact h
section
variable{X:Cx}{pins:List (Addr×Obj)}{σ:L2.St}{H:Hp}{s:Rl}
def xy (I:Inv X pins σ H s)(W:X.N.Nodup)(hi:X.N[i]?=some x)(hk:X.env.scope.names.lookup x=some .local)
 (h:∀R,Inv X pins (σ.set i none) H R->Q () R):wpAny M A (do bindName X.env x .none;unbindBehindTheSuite X.env x ps) Q E s:=by
 obtain⟨m,hn,hl⟩:=id I.loc;have B:(X.env.scope.kind==.class||(X.env.scope.kind==.module&&X.env.locals != X.env.globals))=false:=by rw[I.ok.kind];rfl
 refine wpAny_nameGoes_keeps hk hn B λh' v P hs=>h _ ?_;obtain⟨oL,_,_,Y,_⟩:=id hn;have n0:∀b o,X.s₀.heap.get? b=some o->b≠X.env.locals:=λb o e=>RX (RD (Rz e) I.ok.above);refine{I.ok,I.os,I.bare,{λb o e n L J=>?_,λb o e n L J=>?_,I.base.free,λb o e J=>?_,I.base.tups,I.base.frzs,I.base.tbls},{_,P,λj y v' e1 e2 U=>?_},λy c e=>?_,I.free,I.freeC,λp hp=>?_,λb ob e=>?_,by simpa using I.len}
 ·exact(hs.2 b (n0 b o e)).trans (I.base.keep b o e n L J)
 ·obtain⟨sl,e1⟩:=I.base.slot b o e n L J;exact{sl,(hs.2 b (n0 b o e)).trans e1}
 ·obtain⟨o',e1⟩:=I.base.there b o e J;exact{o',(hs.2 b (n0 b o e)).trans e1}
 ·by_cases O:j=i
  ·subst O;by_cases F:j<σ.length
   ·rw[RF F] at e2;cases e2
   ·rw[SG (by simpa using F)] at e2;cases e2
  ·rw[Rx (So O)] at e2;obtain⟨u',r',q⟩:=hl j y v' e1 e2 U;refine{u',r',?_};rcases q with⟨k,e⟩|⟨k,c,e,z⟩
   ·refine .inl {k,?_};have:y≠x:=λe=>O (pj W e1 (e ▸ hi));simp[this,e]
   ·exact .inr {k,c,e,z.sameBut hs (I.cne y c e)}
 ·obtain⟨S,z⟩:=I.cell y c e;exact{S,z.sameBut hs (I.cne y c e)}
 ·obtain⟨e,n,ne,nf,d⟩:=I.pin p hp;exact{(hs.2 p.1 ne).trans e,n,ne,nf,d}
 ·refine(I.hok b ob e).stay (λc S u q=>(hs.2 c ?_).trans q) (λ_ q=>q) λ_ _ q=>q;rintro rfl;rcases u with u|u
  ·rw[<- u,I.free] at e;cases e
  ·rw[I.free] at u;cases u
noncomputable abbrev tX (X:Cx)(pn:List (Addr×Obj))(E:Rg->Rl->Prop):Cx:={X with pn:=pn,xe:=E}
noncomputable abbrev tY (X:Cx)(v:Rg)(E:Rg->Rl->Prop):Cx:={X with A:=X.A.mark (some v),calm:=false,xe:=E}
def Bp (I:Inv X pins σ H s)(E:Rg->Rl->Prop):Inv (tX X (X.pn++pins) E) [] σ H s:=
 {⟨I.ok.mod,I.ok.kind,I.ok.glob,I.ok.blt,I.ok.above,I.ok.inj,I.ok.has,I.ok.cab,I.ok.hd,I.ok.frames,I.ok.stk,I.ok.exf,I.ok.bs,I.ok.bsz,I.ok.noex,I.ok.exfs,I.ok.funs,I.ok.frf⟩,I.os,I.bare,I.base,I.loc,I.cell,I.free,I.freeC,λp hp=>I.pin p (by simpa using hp),I.hok,I.len}
def i5 (I:Inv (tX X (X.pn++pins) E) pins' σ H s):Inv X pins σ H s:=
 {⟨I.ok.mod,I.ok.kind,I.ok.glob,I.ok.blt,I.ok.above,I.ok.inj,I.ok.has,I.ok.cab,I.ok.hd,I.ok.frames,I.ok.stk,I.ok.exf,I.ok.bs,I.ok.bsz,I.ok.noex,I.ok.exfs,I.ok.funs,I.ok.frf⟩,I.os,I.bare,I.base,I.loc,I.cell,I.free,I.freeC,λp hp=>I.pin p (Sx _ hp),I.hok,I.len}
def sO (I:Inv X pins σ H s)(v:Rg)(E:Rg->Rl->Prop):Inv (tY X v E) pins σ H s:=
 {{I.ok.mod,I.ok.kind,I.ok.glob,I.ok.blt,I.ok.above,I.ok.inj,I.ok.has,I.ok.cab,(λz=>nomatch z),I.ok.frames,I.ok.stk,I.ok.exf,I.ok.bs,I.ok.bsz,I.ok.noex,I.ok.exfs,I.ok.funs,I.ok.frf},I.os,I.bare,I.base,I.loc,I.cell,I.free,I.freeC,I.pin,I.hok,I.len}
def sP (hh:X.calm=true->X.A.handled=none)(I:Inv (tY X v E) pins σ H s):Inv X pins σ H s:=
 {⟨I.ok.mod,I.ok.kind,I.ok.glob,I.ok.blt,I.ok.above,I.ok.inj,I.ok.has,I.ok.cab,hh,I.ok.frames,I.ok.stk,I.ok.exf,I.ok.bs,I.ok.bsz,I.ok.noex,I.ok.exfs,I.ok.funs,I.ok.frf⟩,I.os,I.bare,I.base,I.loc,I.cell,I.free,I.freeC,I.pin,I.hok,I.len}
end
section
variable{fa:Fa}{X:Cx}{pos np hp:Pos}{x nm:Str}{i:Nat}{body suite:List Stmt}{b0:Stmt}{gB gH:GS}
def bp.unset {K:Q9}(h:bp fa K μ H σ Z)(i:Nat):bp fa K μ H (σ.set i none) (Z.set i none):=by
 refine{by simp[h.len],λj d e=>?_}
 by_cases u:j=i
 ·subst u;by_cases hl:j<Z.length
  ·rw[RF hl] at e;cases e
  ·rw[SG (by simpa using hl)] at e;cases e
 ·rw[Rx (So u)] at e;obtain⟨v,h1,h2⟩:=h.at' j d e;exact{v,by rw[Rx (So u)];exact h1,h2}
set_option tactic.hygienic true in
def NI (hc:nq fa X.K)(hx:∃D,X.mg x=some (.ref D)/\fa 999=some D)(hex:X.ex=[])(J:X.stack=X.env::X.outer)(hfr:X.env.frame=some X.env.locals)(hN:X.N.Nodup)(hi:X.N[i]?=some nm)(hl:X.env.scope.names.lookup nm=some .local)
 (hg:Gl X x) (hdb:(x==("__debug__":Str))=false) (hb:∀pn E,lC fa (tX X pn E) body gB) (hh:∀v E,lC fa (tY X v E) (b0::suite) gH) :
 DS fa X (.Try body [.ExceptHandler (some (.Name x np)) (some nm) (b0::suite) hp] [] [] pos) (mB gB i gH):=by
 rintro pins s σ H D' I ⟨μ,Z,M,hE,hM,h⟩;obtain⟨D,hmD,hfD⟩:=hx;obtain⟨fl,M1,e,q⟩:=aO h;refine wpAny_Try_except (wpAny_mono (hb (X.pn++pins) (λe s₁=>wpAny (model X.prog X.w) X.A (noteFrame e X.env) (λ_ s₂=>wpAny (model X.prog X.w) X.A (setFlight e none) (λ_ s₃=>wpAny (model X.prog X.w) X.A (handleBy e X.env [.ExceptHandler (some (.Name x np)) (some nm) (b0::suite) hp]) (SP X pins D') X.xe s₃) X.xe s₂) X.xe s₁) [] s σ H D' (Bp I _) {μ,Z,M,hE,hM,?_}) (λf s1 z=>?_) λ_ _ z=>z)
 ·rw[e];cases fl with
  |next ρ'=>exact q
  |ret d=>exact q
  | exc y ρ1=>
    intro pins' σ' U L s' a C S c p R ye hE1 hM1 ey hcC hn fl;have hall:=fl.1.2;refine xg (by rw[<- J];exact R.ok.frames) (by rw[<- J];exact R.stack) hfr fl (λb z=>(pD R hex (Tv z)).1) R.hok (by rw[<- J];exact R.stkFree) λh' ch P u hok fl2=>?_
    have Y:=D8 (i5 R) (λb hb=>{(P b hb).1.1,(P b hb).2.2,(P b hb).1.2}) (by rw[J];exact u) hok
    have O:=hc.d c C D hcC hfD;obtain⟨nw,ha,o,vs,h1,h2,h3,h4,tr⟩:=id fl2;have hxat:xR C S a h':={o,vs,h1,h2,h3,h4,by
     rcases tr with t|⟨T,oT,ts,t,_⟩
     ·exact(RZ.mp t).1
     ·exact(RZ.mp t).1}
    have hnc:PySem.W.notCls o=true:=by unfold PySem.W.notCls;rw[h4]
    refine wpAny_handleBy_cons (codeAny_handlers_test (fL (sO Y (.ref a) X.xe) hg hmD ?_ hdb)) (by intro z;cases z)
    have IA:∃od,S8 h' a o C od:=by
     cases p with
     | none=>
       exact{none,h1,h2,hnc,by rw[h3,hn];trivial}
     | some k=>
       obtain⟨d,rfl,hd⟩:=hn;obtain⟨mA,⟨od,es,ep,ed,_⟩,_⟩:=hok d _ hd;exact{some od,h1,h2,hnc,by rw[h3];exact ed}
    obtain⟨od,IA⟩:=IA;refine wo Y.kIn IA O.2.2.1 O.2.2.2 O.2.1 ?_;refine codeAny_handlers_suite_as (yY fl2 ?_);have I3:Inv X pins σ' (upd U a (.ext (xR C S a))) {s' with heap:=h'}:=sN Y hex ha nw.1 ⟨o,vs,h1,h4⟩ hall {hxat,⟨o,h1⟩,(by rintro g1 g2 ⟨o,vs,k1,k2⟩ kk;exact{o,vs,kk o k1,k2})}
    have xa:Ext L U L (upd U a (.ext (xR C S a))):=Ext.alloc hM1 ha;have rp:Rep fa X.K L (upd U a (.ext (xR C S a))) y (.ref a):=by
     rw[ey];refine{a,C,S,rfl,hcC,bI,?_};cases p with
     |none=>exact hn
     |some k=>exact let⟨d,z1,z2⟩:=hn;{d,z1,by rw[ay (aX z2 ha)];exact z2}
    refine uy I3 hN hi (.inl hl) (v:=.ref a) rfl (λs4 I4=>?_) (.inr hl);obtain⟨fl3,M2,e3,q3⟩:=aO q;refine wpAny_mono (hh (.ref a) _ pins s4 (σ'.set i (some (.ref a))) (upd U a (.ext (xR C S a))) {nx:=λQ H2=>D'.nx (Q.set i none) H2,rt:=D'.rt} (sO I4 (.ref a) _) {L,_,M1,(hE1.ext xa).set rp,hM1.alloc ha,?_}) (λf s5 z=>?_) λ_ _ z=>z
    ·rw[e3];cases fl3 with
     |next ρ2=>exact λQ H2 μ2 x2 hE2 hM2=>q3 (Q.set i none) H2 μ2 ((ye.trans xa).trans x2) (hE2.unset i) hM2
     |ret d=>exact bq.ext q3 (ye.trans xa)
     |exc=>exact q3.elim
    ·dsimp only;cases f with
     | next=>
       obtain⟨j,B,F,z⟩:=z;exact xy (sP Y.ok.hd F) hN hi hl λs6 I6=>{_,B,I6,z}
     | ret u=>
       obtain⟨v,j,B,F,r5,z⟩:=z;exact xy (sP Y.ok.hd F) hN hi hl λs6 I6=>{v,_,B,I6,r5,z}
     |brk=>obtain⟨_,_,_,z⟩:=z;exact z.elim
     |cont=>obtain⟨_,_,_,z⟩:=z;exact z.elim
 ·cases f with
  |next=>obtain⟨j,B,F,z⟩:=z;exact wpAny_execs_nil {j,B,i5 F,z}
  |ret u=>obtain⟨v,j,B,F,r5,z⟩:=z;exact{v,j,B,i5 F,r5,z}
  |brk=>obtain⟨j,B,F,z⟩:=z;exact{j,B,i5 F,z}
  |cont=>obtain⟨j,B,F,z⟩:=z;exact{j,B,i5 F,z}
end
noncomputable def JF (K:Q9)(cl:List (Nat×Addr))(D:Addr):Bool:=PySem.W.mroIn K D (.type "BaseException")==some true&&PySem.W.typeIn K (.ref D)==some (.type "type") &&
 cl.all λq=>lD K q.2&&PySem.W.mroIn K q.2 (.type "ValueError")==some true&&PySem.W.isIn K (.ref q.2) q.2&&PySem.W.isIn K (.ref q.2) D&&PySem.W.mroIn K q.2 (.ref D)==some true&&cl.all λr=>r.1==q.1||PySem.W.kin_not K q.2 r.2
noncomputable def vD (l cl:List (Nat×Addr))(D:Addr):Fa:=λi=>if i<999 then l.lookup i else if i=999 then some D else cl.lookup (i-1000)
set_option tactic.hygienic true in
noncomputable def lookup_mem:∀{l:List (Nat×Addr)}{c:Nat}{C:Addr},l.lookup c=some C->(c,C)∈l
 |[],_,_,h=>by cases h
 | (a,b)::r,c,C,h=>by
   rw[RM] at h;split at h
   ·next e=>cases h;rw[eq_of_beq e];exact Rw
   ·exact Rk _ (lookup_mem h)
def lg {D:Addr}(h:vD l cl D (d7 c)=some C):(c,C)∈cl:=by
 unfold vD d7 at h;rw[if_neg `a,if_neg `a,Sh] at h
 exact lookup_mem h
def JE {K:Q9}{D:Addr}(h:JF K cl D=true):nq (vD l cl D) K:=by
 unfold JF at h;simp only[Ra,beq_iff_eq,Rq,S4] at h;obtain⟨⟨h1,h2⟩,h3⟩:=h;refine{λc C e=>?_,λc C v e j=>?_,λc C y u e j n=>?_}
 ·obtain⟨⟨⟨⟨⟨a1,a2⟩,a3⟩,a4⟩,a5⟩,a6⟩:=h3 _ (lg e);exact⟨a1,a2,a3⟩
 ·obtain⟨⟨⟨⟨⟨a1,a2⟩,a3⟩,a4⟩,a5⟩,a6⟩:=h3 _ (lg e);cases j;exact⟨a4,a5,h1,h2⟩
 ·obtain⟨⟨⟨⟨⟨a1,a2⟩,a3⟩,a4⟩,a5⟩,a6⟩:=h3 _ (lg e);exact(a6 _ (lg j)).elim (λz=>absurd z n) id
end LD
namespace LD
open PySem PySem.Spec PyProof.Rows L2 PySem.SeqAt
def pT (M:Mem)(x:D):Option (List Bool):=(g9 M x).bind boolsOf
def yX (a:GE):GE:=λh M=>(a h M).bind λx M=>match pT M x with
 |some bs=>.ok (.int (bs.count true)) M
 |none=>.bad
def yW (a:GE):GE:=λh M=>(a h M).bind λx M=>match pT M x with
 |some bs=>if true∈bs then .ok (.int (bs.idxOf true)) M else .bad
 |none=>.bad
noncomputable def qy:Rg->Bool
 |.bool b=>b
 |_=>false
section
variable{fa:Fa}{X:Cx}
def eqT {bs:List Bool}(h:us=bs.map Value.bool):∀y,y∈us.toArray->EqAt A s y (.bool true) (qy y):=λy u=>by
 have u:y∈us:=by simpa using u
 rw[h] at u;obtain⟨b,_,rfl⟩:=RI.mp u;have e:=EqAt.bool_bool (A:=A) (s:=s) b true;have q:(b==true)=qy (.bool b):=by cases b<;>rfl
 rw[<- q];exact e
def QI {bs:List Bool}:(bs.map Value.bool).countP qy=bs.count true:=by
 induction bs with
 |nil=>rfl
 |cons b r h=>cases b<;>simp[List.countP_cons,qy,h]
def sU:∀{us:List Rg}{bs:List Bool},PyProof.Rows.LSm.BoolsAre us bs->us=bs.map Value.bool:=by
 intro us bs h;induction h with
 |nil=>rfl
 |cons _ _ u=>simp[u]
def P7 (fa:Fa)(K:Q9)(x:V)(vs:List V)(H:Hp)(Q:VK):Prop:=∃v h bs p u,x=.ref p/\vs=[.bl true]/\cE K H p u/\aH fa K v H h u/\boolsOf h=some bs/\Q (.int (bs.count true)) H
def NQ (fa:Fa)(K:Q9)(x:V)(vs:List V)(H:Hp)(Q:VK):Prop:=∃v h bs p u,x=.ref p/\vs=[.bl true]/\cE K H p u/\aH fa K v H h u/\boolsOf h=some bs/\true∈bs/\Q (.int (bs.idxOf true)) H
def LR:GD X "list.count" (P7 fa X.K):=by
 intro M s σ H x vs v us Q I W J h;obtain⟨μ,Y,bs,p,ws,rfl,rfl,R,S,P,q⟩:=h;cases W;obtain⟨u,rfl,U⟩:=vals1 J;obtain rfl:u=Value.bool true:=U;obtain⟨y,J,⟨o,n,e1,e2,e3,O⟩,hz⟩:=I.list R;have L:=sU (mD P S J);obtain⟨oc,od,B,E⟩:=o;obtain rfl:oc=.type "list":=e2;obtain rfl:B=.seq y.toArray n:=O;refine call_meets PySem.F.slot_list_count {_,e1,rfl} PySem.F.entry_list_count (PySem.F.args_list_count_2 _ _) (PySem.SeqAt.list_countAt p y.toArray n od E (.bool true) qy) {e1,eqT L,?_};have z:y.toArray.toList.countP qy=bs.count true:=by rw[L,List.toList_toArray];exact QI
 exact{.int (bs.count true),H,I.tok _,{s.toks,by rw[z]},q}
def LQ:GD X "list.index" (NQ fa X.K):=by
 intro L s σ H x vs v us Q I rx z h;obtain⟨μ,ds,bs,p,ws,rfl,rfl,R,W,O,hm,q⟩:=h;cases rx;obtain⟨u,rfl,Y⟩:=vals1 z;obtain rfl:u=Value.bool true:=Y;obtain⟨y,z,⟨o,n,e1,e2,e3,M⟩,S⟩:=I.list R;have B:=sU (mD O W z);obtain⟨oc,od,E,J⟩:=o;obtain rfl:oc=.type "list":=e2;obtain rfl:E=.seq y.toArray n:=M;have hl:=List.idxOf_lt_length_of_mem hm;have P:y.length=bs.length:=by rw[B];simp
 have U:y.length<=sizeLine:=by rw[<- z.length];exact S
 have hs:((bs.idxOf true:Nat):Int)<2^63-1:=by
  have:sizeLine<2^62:=`d
  omega
 have at':∀m (hm:m<y.toArray.size),qy y.toArray[m]=bs[m]'(by simp at hm;omega):=λm hm=>by subst B;simp[qy]
 refine call_meets PySem.F.slot_list_index {_,e1,rfl} PySem.F.entry_list_index (PySem.F.args_list_index_2 _ _) (PySem.SeqAt.list_indexAt p y.toArray n od J (.bool true) qy (bs.idxOf true) `o hs (by rw[at'];simp) λm hm h=>?_) {e1,eqT B,?_}
 ·rw[at'];have:=List.not_of_lt_findIdx h;simpa using this
 ·exact{.int (bs.idxOf true),H,I.tok _,{_,rfl},q}
variable{a:Expr}{ga:GE}{apos cpos kp:Pos}{j:Nat}
def KG (U:DE fa X a ga)(u:attributeBase a "count" X.env (eval a X.env)=eval a X.env)(y:(apos.endLine==cpos.line)=true):DE fa X (.Call (.Attribute a "count" apos) [.Constant (.bool true) j kp] [] cpos) (yX ga):=
 bA (yp S9 PySem.F.slot_list_count PySem.F.type_list_count (LR) U (bM yq dz `r) u `r y `r `r) λσ H Q ⟨μ,Z,M,P,S,h⟩=>t1 P S h λx L v H1 E Y R z r1 h1=>by
  cases B:pT L x with
  |none=>rw[B] at h1;exact h1.elim
  |some bs=>
   rw[B] at h1;obtain⟨O,e,e2⟩:=R4.mp B;obtain⟨p,J,rfl,I,W⟩:=bS z r1 e;exact{.inl ⟨rfl,J,I⟩,E,O,bs,p,J,rfl,rfl,I,W,e2,ba z (bq.ext h1 Y) rfl}
set_option tactic.hygienic true in
def Ky (U:DE fa X a ga)(u:attributeBase a "index" X.env (eval a X.env)=eval a X.env)(y:(apos.endLine==cpos.line)=true):DE fa X (.Call (.Attribute a "index" apos) [.Constant (.bool true) j kp] [] cpos) (yW ga):=
 bA (yp S9 PySem.F.slot_list_index PySem.F.type_list_index (LQ) U (bM yq dz `r) u `r y `r `r) λσ H Q ⟨μ,Z,M,P,S,h⟩=>t1 P S h λx I v H1 E Y R z r1 h1=>by
  cases B:pT I x with
  |none=>rw[B] at h1;exact h1.elim
  |some bs=>
   rw[B] at h1;obtain⟨O,e,e2⟩:=R4.mp B;have h1:af (if true∈bs then .ok (.int (bs.idxOf true)) I else .bad) (bq fa X.K μ H Q):=h1;split at h1
   ·next hm=>
    obtain⟨p,L,rfl,J,W⟩:=bS z r1 e;exact{.inl ⟨rfl,L,J⟩,E,O,bs,p,L,rfl,rfl,J,W,e2,hm,ba z (bq.ext h1 Y) rfl}
   ·exact h1.elim
end
end LD
namespace LD
open PySem PySem.Spec PySem.Calls PyProof.Rows
section
variable{prog:R0}{w:RS}{A:Sw}{E:Rg->Rl->Prop}{h:Heap}{g:Array GenState}{d:Drawn}{t:Nat}{os:Sa}
variable{nm q:Str}{C N:Addr}{bs bm:List Rg}{hdct:Bool}{sn:List Str}{sub:List Rg}{ab:Bool}{col:Option Bool}{dd:Option Addr}{k0 k1 k2 k3 k5:Option Rg}
def Ek (L:h.get? C=some (excClassObj nm q C N bs bm hdct sn sub ab col dd k0 k1 k2 k3 k5 "ValueError.__new__"))(T:OwnTail h oB bm)
 (he:h.get? e=some oe) (v:oe.cls=.ref C) (hd:oe.data=.fields vs) (I:vs[0]?=some (.ref t0))
 (O:∀H P,(∀b o,b≠e->h.get? b=some o->H.get? b=some o)->H.get? e=some (oe.mapFields (·.setIfInBounds 0 (.ref P)))->Q .none ⟨H,g,d,t,os⟩) :
 wpAny (model prog w) A (call (.builtin "ValueError.__init__") [.ref e,u]) Q E ⟨h,g,d,t,os⟩:=by
 refine wpAny_call (codeAny_call_builtin PySem.F.excBase_ValueError.init.plain PySem.F.excBase_ValueError.initEntry (wpAny_check_init_subT PySem.F.excBase_ValueError T L he v ?_));wp_walk
 have B:(h.push {cls:=.type "tuple",data:=.seq #[u]}).get? e=some oe:=Rf _ he;rw[hd];refine tqb ?_;rw[I];refine tqb ?_;refine tqa (wpAny_setField B hd (RZ.mp I).1 ?_);wp_walk
 refine O _ h.objs.size (λb o M J=>?_) ?_
 ·rw[Sf _ _ (So M)];exact Rf _ J
 ·exact SJ _ B (Tq (Sy hd _))
end
noncomputable def oX:List Rg->Bool
 |.ref _::r=>oX r
 |l=>l==oB
noncomputable def uS (self:Rg):∀{l:List Rg},oX l=true->refuseLoop self "__setattr__" l=pure ()
 |[],e=>absurd e `d
 | a::r,e=>by
   cases a with
   |ref c=>rw[refuseLoop_ref];exact uS self e
   | _=>
     have q:=eq_of_beq (e);rw[q];exact PySem.F.store_ValueError.passes self
def tP (K:Q9)(C:Addr):Bool:=(PySem.W.clsIn K C).any (λu=>oX u.mro)&&PySem.W.mroIn K C (.type "object")==some true
def NY {K:Q9}(X:K.In s.heap)(J:S8 s.heap x ox C od)(u:tP K C=true)(S:PySem.W.takerIn K C name=some none)
 (h:∀b,wpAny (model prog w) A.in1 (Builtin.ObjectAttr.storeInOwnDict (.ref x) (.ref C) (.str name tk) name v b) (λH B=>match H with|.done f=>R (.ok f) B|.again I=>I.quiet=true/\codeAny (model prog w) A I R B) (λe B=>R (.error e) B) s) :
 codeAny (model prog w) A (.call (.builtin "object.__setattr__") {[.ref x,.str name tk,v],[]}) R s:=by
 unfold tP at u;rw[Ra,beq_iff_eq] at u;obtain⟨L,Q,ho⟩:=PySem.W.any_some u.1;have G:=PySem.F.store_ValueError;have M:PySem.W.Looks (model prog w) s.heap (isInstance (.ref x) (.type "object")) true:=J.type.andThen (PySem.W.looks_mroIn X u.2);obtain⟨at',O,hr⟩:=R4.mp S;have e1:PySem.W.Looks (model prog w) s.heap (mroOf (.ref C)) L.mro:=(PySem.W.looks_clsIn X Q).andThen .now;have e2:PySem.W.Looks (model prog w) s.heap (Builtin.ObjectAttr.storeTaker? at') none:=by
  cases at' with
  |none=>exact .now
  | some a=>
    obtain⟨b,P,hn⟩:=Ry.mp hr;cases b with
    |true=>cases hn
    |false=>exact(PySem.W.looks_takesIn X P).andThen .now
 refine codeAny_call_builtin PySem.F.store_object.slot.plain G.entry (@PySem.W.check_slot (model prog w) _ _ s "object.__setattr__" "object" "__setattr__" (.ref x) [.str name tk,v] [] _ G.kind G.split M (G.args (.ref x) (.str name tk) v) ?_);rw[PySem.W.osa_eq];refine tqa ?_;rw[refuse_eq];refine tqa (J.type.here (tqa (e1.here ?_)));rw[uS _ ho];exact tqb (tqa (J.type.here (tqa ((PySem.W.looks_findIn X O).here (tqa (e2.here (h _)))))))
def IW {K:Q9}(X:K.In s.heap)(J:S8 s.heap x ox C none)
 (hs:PySem.W.findIn K (.ref C) "__setattr__"=some (some (.builtin "object.__setattr__"))) (hp:tP K C=true) (ht:PySem.W.takerIn K C name=some none) (hh:PySem.W.hasDictIn K C=true) (hd:ox.data=.fields vs)
 (h:∀u d,s.heap.objs.size<=d->u.Ns1 d (λy=>if y=name then some v else none)->u.get? x=some {ox with dict:=some d}->(∀b o,b≠x->s.heap.get? b=some o->u.get? b=some o)->Q () {s with heap:=u,toks:=s.toks+2}) :
 wpAny (model prog w) A (setAttr (.ref x) name v) Q E s:=by
 refine PySem.W.set_plain X J hs (NY X J hp ht λb=>?_);obtain⟨cd,hc,O⟩:=PySem.W.any_some hh;have U:=J.at_;obtain⟨oc,L,Y,osl⟩:=ox;obtain rfl:oc=.ref C:=J.cls;obtain rfl:Y=.fields vs:=hd;have R:L=none:=by
  have:=J.dict;cases L with
  |none=>rfl
  |some d=>exact this.elim
 subst R;refine tqa (tqb (tqa (tqa (wpAny_loadPart U (tqa (PySem.W.Looks.here (PySem.W.looks_clsIn X hc) ?_))))));rw[O];refine tqa (wpAny_alloc ?_);have I:(s.heap.push {cls:=.type "dict",data:=.dict #[]}).get? x=some {.ref C,none,.fields vs,osl}:=Rf _ U;refine tqa (wpAny_update I (tqb ?_));have B:=Sr (Rz U);have e1:(s.heap.push {cls:=.type "dict",data:=.dict #[]}).get? s.heap.objs.size=some {cls:=.type "dict",data:=.dict #[]}:=RB s.heap rfl;have e2:((s.heap.push {cls:=.type "dict",data:=.dict #[]}).update x (λo=>{o with dict:=some s.heap.objs.size})).get? s.heap.objs.size=some {cls:=.type "dict",data:=.dict #[]}:=(Sf _ _ (So B)).trans e1
 have e3:((s.heap.push {cls:=.type "dict",data:=.dict #[]}).update x (λo=>{o with dict:=some s.heap.objs.size})).Ns s.heap.objs.size (λ_=>none):={_,#[],_,e2,rfl,(λe he=>absurd he `s),λ_=>rfl}
 have e4:=SJ (λo=>{o with dict:=some s.heap.objs.size}) I rfl
 refine tqa (tqb (tqa ?_));refine wpAny_nsSet1 (Heap.Ns1.of_empty e3) λu F H=>?_;obtain⟨oD,esD,epD,S,P,M⟩:=F.count (PySem.Within.cons name v PySem.Within.nil);refine tqa (wpAny_lookBehind S (by rw[P];exact pastItsLine_dict (Rp M (by show 1<=sizeLine+1;omega))) ?_)
 refine tqb (h _ s.heap.objs.size (Rj _) F ((H.2 _ (So B)).trans e4) λb o hb e=>?_);rw[H.2 b (RX (Rz e)),Sf _ _ (So hb)];exact Rf _ e
end LD
namespace LD
open PySem PySem.Spec PyProof.Rows L2
def fit (z:Str)(i:Int)(y:Str):Prop:=i.natAbs.log2<1920/\(z++(toString i:Str)).length<=sizeLine/\(z++(toString i:Str)++y).length<=sizeLine
section
variable{X:Cx}{a:Expr}{ta:TE}{pos p1 p2 p3:Pos}{j j2:Nat}{z y:Str}
def O3 (z y:Str)(ta:TE):TE:=λB H Q=>z.length<=sizeLine/\ta B H λv u=>∃i,v=.int i/\fit z i y/\Q (.str (z++(toString i:Str)++y)) u
def tj (z:Str):Str.empty++z=z:=by
 cases z with
 |mk c=>show Str.mk (#[]++c)=_;simp
def zo (z:Str):z++Str.empty=z:=by
 cases z with
 |mk c=>show Str.mk (c++#[])=_;simp
def NW (P:PE X a ta):PE X (.JoinedStr [.Constant (.str z) j p1,.FormattedValue a (-1) none p2,.Constant (.str y) j2 p3] pos) (O3 z y ta):=by
 rintro B s S H Q I ⟨R,h⟩;refine JoinedStr_many (joinParts_cons (Calls.Constant_str ?_));show(Str.empty++z).length<=sizeLine/\_;rw[tj];refine{R,joinParts_cons (FormattedValue_plain (aV (P B _ S H _ (I.tok _) h) λu s1 ⟨v,J,L,r1,i,M,⟨f1,O,F⟩,q⟩=>?_))};subst M;obtain⟨t,rfl⟩:=r1;refine formatField_int_small f1 {O,joinParts_cons (Calls.Constant_str {F,joinParts_nil ?_ F})};exact{.str _,J,L.tok _,{_,rfl},q}
def NX (O:PE X a ta):PE X (.JoinedStr [.Constant (.str z) j p1,.FormattedValue a (-1) none p2] pos) (O3 z Str.empty ta):=by
 rintro B s R H Q I ⟨P,h⟩;refine JoinedStr_many (joinParts_cons (Calls.Constant_str ?_));show(Str.empty++z).length<=sizeLine/\_;rw[tj];refine{P,joinParts_cons (FormattedValue_plain (aV (O B _ R H _ (I.tok _) h) λu s1 ⟨v,J,L,r1,i,M,⟨f1,F,S⟩,q⟩=>?_))};subst M;obtain⟨t,rfl⟩:=r1;refine formatField_int_small f1 {F,joinParts_nil ?_ F};have e:z++(toString i:Str)++Str.empty=z++(toString i:Str):=by
  exact zo _
 rw[e] at q;exact{.str _,J,L.tok _,{_,rfl},q}
end
def fF (C:Addr)(v:Option Addr)(a:Addr)(h:Heap):Prop:=∃o u B,h.get? a=some o/\o.cls=.ref C/\o.dict=v/\o.data=.fields u/\u[0]?=some (.ref B)/\u[1]?=some .none
def lh (K:Q9)(C:Addr)(fI:Addr):Bool:=Kg K C λcd C' bm n=>C'==C&&n=="ValueError.__new__"&&!cd.hasDel&&PySem.W.tailIn K oB bm&&PySem.W.nsOkIn K cd.ns&&PySem.W.nsIn K cd.ns "__init__"==some (some (.ref fI))
set_option tactic.hygienic true in
def yw {K:Q9}(X:K.In h)(G:h.Ns N mg)(e:PySem.W.nsIn K N x=some (some v)):mg x=some v:=by
 obtain⟨o,F,B,ho,hd,_,hf⟩:=G;unfold PySem.W.nsIn at e;split at e
 ·rename_i c d u H sl q;have:=X _ _ q;rw[ho] at this;cases this;cases hd;split at e
  ·rename_i en he;cases e;rw[<- hf];unfold nsFind findBy;rw[<- Array.find?_toList,he];rfl
  ·split at e<;>cases e
 ·cases e
def m7 {K:Q9}(X:K.In h)(q:lh K C fI=true) :
 ∃bm N nm q bs hdct sn sub ab col dd k0 k1 k2 k3 k5 v,h.get? C=some (excClassObj nm q C N bs bm hdct sn sub ab col dd k0 k1 k2 k3 k5 "ValueError.__new__")/\h.Ns N v/\v "__init__"=some (.ref fI)/\OwnTail h oB bm:=by
 obtain⟨bm,ns,nm,qn,bs,hd,sn,sub,ab,col,dd,k0,k1,k2,k3,k5,dl,n,F,q,ho⟩:=AB X q;simp only[Ra,beq_iff_eq,S5] at q;obtain⟨⟨⟨⟨⟨rfl,rfl⟩,rfl⟩,B⟩,hok⟩,u⟩:=q;exact{bm,ns,nm,qn,bs,hd,sn,sub,ab,col,dd,k0,k1,k2,k3,k5,_,ho,.of_isNs (PySem.W.isNs_of_in X hok),yw X (.of_isNs (PySem.W.isNs_of_in X hok)) u,PySem.W.tail_of_in X B}
set_option tactic.hygienic true in
def Cj (h:H a=some o):upd H a o=H:=by
 funext b
 unfold upd;split
 ·next e=>rw[e,h]
 ·rfl
section
variable{X:Cx}{a b:Expr}{ta tb:TE}{apos cpos p1 pos:Pos}{x:Str}{D:Addr}
def PM (K:Q9)(ta tb:TE):TE:=λF H Q=>ta F H λv I=>tb F I λu B=>∃e C J,v=.ref e/\B e=some (.ext (fF C none e))/\lh K C J=true/\Q .non B
def qX (x:fF C dx e h):d9 P w H h e (.ext (fF C dx e)):=by
 refine{x,let{o,_,_,e,_}:=x;⟨o,e⟩,(by rintro B F ⟨o,v,u,k1,k2⟩ kk;exact{o,v,u,kk o k1,k2})}
def Lg {pl:Sem Bool}(hD:X.mg x=some (.ref D))(hg:Gl X x)(h1:PySem.W.readsIn X.K D (.type "type")=true)(h2:PySem.W.findCls X.K (.ref D) (.type "type") "__init__"=some (.val (.builtin "ValueError.__init__")))
 (h3:PySem.W.specialIn X.K (.ref D) "__getattribute__"=some (some (.builtin "type.__getattribute__"))) (ha:PE X a ta) (P:PE X b tb) (he:notStar a=true) (J:notStar b=true) (R:(x==("__debug__":Str))=false)
 (ht:eval (.Call (.Attribute (.Name x p1) "__init__" apos) [a,b] [] cpos) X.env=(do
  let ov <- eval (.Name x p1) X.env
  standAt apos.atName
  let(f,first) <- holding [ov] (getMethod ov "__init__" pl)
  callWith cpos f first (backTo cpos (starEach [a,b] X.env)) (backToKw cpos (keywordEach [] X.env)))) :
 PE X (.Call (.Attribute (.Name x p1) "__init__" apos) [a,b] [] cpos) (PM X.K ta tb):=by
 intro B s σ H Q I h;refine Ti (fL I hg hD ?_ R) ht;refine PySem.W.method_cls I.kIn h3 (PySem.W.cls_value I.kIn h1 h2 rfl ?_);refine Calls.callWith_builtin (cu (by simp[he,J])) ?_
 have ar:=aV ((bM ha (bM P dz (bC J)) (bC he)) cpos B {s with toks:=s.toks+1} σ H (λL S=>match L with|[v,u]=>∃e C Y,v=.ref e/\S e=some (.ext (fF C none e))/\lh X.K C Y=true/\Q .non S|_=>False) (I.tok _) h) (Q':=λus s2=>wpAny (model X.prog X.w) X.A (call (.builtin "ValueError.__init__") ([]++us) []) (EP X B σ Q) X.xe s2) λus s1 ⟨L,H1,M,r,F⟩=>by
  match L,r,F with
  |[],_,F=>exact F.elim
  |[_],_,F=>exact F.elim
  |_::_::_::_,_,F=>exact F.elim
  | [v,u],r,⟨e,C,Y,ev,O,hx,q⟩=>
    subst ev;obtain⟨w1,w2,rfl,r1,r2⟩:=vals2 r;obtain rfl:w1=Value.ref e:=r1;obtain⟨⟨o,L,t0,k1,k2,k3,k4,k5,k6⟩,_,_⟩:=M.hok e _ O;obtain⟨bm,N,nm,qq,bs,hdct,sn,sub,ab,col,dd,c0,c1,c2,c3,c5,mN,hC,hN,hni,T⟩:=m7 M.kIn hx;obtain⟨hp,gg,dr,tk,os⟩:=s1;refine Ek hC T k1 k2 k4 k5 λh' tp kk ke=>?_;have nw:fF C none e h':={_,_,tp,ke,by rw[Obj.cls_mapFields];exact k2,by rw[m9];exact k3,Sy k4 _,by simp[(RZ.mp k5).1],by rw[Array.getElem?_setIfInBounds_ne `d];exact k6}
    have U:=M.write (t':=tk) (by rw[O];exact True.intro) (.inl rfl) (λb u P z=>kk b u P z) {_,ke} (qX nw)
    rw[Cj O] at U;exact{.non,H1,U,rfl,q}
 rw[bC he] at ar ⊢;exact PySem.Calls.evalArgs_plain ar
end
def setIn (K:Q9)(C:Addr)(fld:Str):Bool:=PySem.W.findIn K (.ref C) "__setattr__"==some (some (.builtin "object.__setattr__"))&&tP K C&&PySem.W.takerIn K C fld==some none&&PySem.W.hasDictIn K C
section
variable{X:Cx}{o value:Expr}{to tv:TE}{p' pos:Pos}{fld:Str}
def Ny (K:Q9)(tv to:TE)(fld:Str):TS:=λD v H=>tv v H λy B=>to v B λx u=>∃e C i,x=.ref e/\y=.int i/\u e=some (.ext (fF C none e))/\setIn K C fld=true/\∀d,u d=none->d≠e->D.nx v (upd (upd u d (.xd [(fld,.int i)])) e (.ext (fF C (some d) e)))
def H9 (ho:PE X o to)(hv:PE X value tv)(hs:swapsWith value (some (.Attribute o fld p')) pos.line X.env=pure false):PS X (.Assign [.Attribute o fld p'] value pos) (Ny X.K tv to fld):=by
 intro L s σ H D I h;refine plainObj_wpAny_Assign_Attribute (aV (hv L s σ H _ I h) λu s1 ⟨y,H1,I1,ry,q⟩=>aV (ho L s1 σ H1 _ I1 q) λov s2 ⟨x,S,P,rx,e,C,i,ex,ey,B,J,q2⟩=>?_) hs;subst ex ey;obtain rfl:ov=Value.ref e:=rx;obtain⟨t,rfl⟩:=ry;simp only[setIn,Ra,beq_iff_eq] at J;obtain⟨⟨⟨g1,g2⟩,g3⟩,g4⟩:=J;obtain⟨⟨ob,vs,t0,k1,k2,k3,k4,k5,k6⟩,_,_⟩:=P.hok e _ B;have IA:S8 s2.heap e ob C none:={k1,k2,by unfold PySem.W.notCls;rw[k4],by rw[k3];trivial}
 refine IW P.kIn IA g1 g2 g3 g4 k4 λh' d hd Y R kk=>?_;have F:=P.hok.fresh hd;have Q:d≠e:=λz=>by rw[z,B] at F;cases F
 have lt:∀b o,s2.heap.get? b=some o->b≠d:=λb o q z=>absurd (Rz q) (by rw[z];exact Nat.not_lt.mpr hd)
 have ne:∀b,S b=none->b≠e:=λb q z=>by rw[z,B] at q;cases q
 have M:∀b,b≠d->b≠e->upd (upd S d (.xd [(fld,.int i)])) e (.ext (fF C (some d) e)) b=S b:=λb z1 U=>by rw[ay U,ay z1]
 have nd:∀b u,S b=some u->b≠d:=λb u q=>aX q F;refine{σ,_,P.un {λb o q n _ _=>kk b o (ne b n) q,λb o q n _ _=>{o.slots,kk b o (ne b n) q},λb o q n _=>?_,λb o q _=>?_,λb xs q=>?_,λb o u q=>?_,λb ps q=>{#[],?_}} λb u q=>?_,q2 d F Q}
 ·rw[M b (lt b o q) (ne b n)];exact n
 ·by_cases z:b=e
  ·exact{_,by rw[z];exact R}
  ·exact{o,kk b o z q}
 ·rw[M b (nd b _ q) (λz=>by rw[z,B] at q;cases q)];exact q
 ·rw[M b (nd b _ q) (λz=>by rw[z,B] at q;cases q)];exact q
 ·rw[M b (nd b _ q) (λz=>by rw[z,B] at q;cases q)];simpa using q
 ·by_cases z:b=e
  ·subst z;rw[bI] at q;cases q;exact qX {_,vs,t0,R,k2,rfl,k4,k5,k6}
  ·by_cases U:b=d
   ·subst U;rw[ay Q,bI] at q;cases q;refine{_,Y,λf=>?_};by_cases hf:f=fld
    ·subst hf;simp only[RM,beq_self_eq_true,if_true];exact⟨t,rfl⟩
    ·rw[if_neg hf];have:([(fld,V.int i)]:List (Str×V)).lookup f=none:=by simp[RM,RJ.mpr hf]
     rw[this];trivial
   ·rw[M b U z] at q;refine(P.hok b u q).stay (λc v O w=>kk c v ?_ w) (λc w=>?_) λc xs w=>?_
    ·rcases O with O|O
     ·rw[O];exact z
     ·intro y;rw[y,B] at O;cases O
    ·rw[M c (nd c _ w) (λy=>by rw[y,B] at w;cases w)];exact w
    ·rw[M c (nd c _ w) (λy=>by rw[y,B] at w;cases w)];exact w
end
end LD
namespace LD
open PySem PySem.Spec PyProof.Rows
section
variable{prog:R0}{w:RS}{A:Sw}{E:Rg->Rl->Prop}{h:Heap}{g:Array GenState}{d:Drawn}{t:Nat}{os:Sa}
variable{nm q:Str}{C N:Addr}{bs bm:List Rg}{hdct:Bool}{sn:List Str}{sub:List Rg}{ab:Bool}{col:Option Bool}{dd:Option Addr}{k0 k1 k2 k3 k5:Option Rg}
def tB
 (H:h.get? C=some (excClassObj nm q C N bs bm hdct sn sub ab col dd k0 k1 k2 k3 k5 "ValueError.__new__")) (T:OwnTail h oB bm) (hn:h.Ns N mN) (hi:mN "__init__"=some (.ref fI)) (J:h.get? fI=some oI) (L:oI.cls=.type "function")
 (S:∀M e,Heap.MadeExcOf h M e (.ref C) rest->wpAny (model prog w) A (call (.ref fI) (.ref e::rest)) (λr O=>r=.none/\Q (.done (.ret (.ref e))) O) E ⟨M,g,d,t,os⟩) (z:rest.length<=sizeLine) :
 wpAny (model prog w) A (Builtin.«type.__call__» {.ref C::rest,[]}) Q E ⟨h,g,d,t,os⟩:=by
 have F:=PySem.F.excBase_ValueError
 repeat (first|with_reducible refine wpAny_loadPart_at H ?_|with_reducible refine wpAny_madeBy_exc H ?_|wp_step)
 refine codeAny_call_builtin_code (Code.quiet_builtin _ F.quiet) (wpAny_check_new_subT F T H ?_);refine codeAny_exc_new_subT F T H ?_ z;have kp:∀b o,h.get? b=some o->((h.push {cls:=.type "tuple",data:=.seq rest.toArray}).push {cls:=.ref C,data:=.fields #[.ref h.objs.size,.none,.none,.none,.bool false,.none]}).get? b=some o:=λb o R=>Rf _ (Rf _ R);have j:=kp _ _ H;have u:=kp _ _ J;have y:=hn.keeps kp;have B:=T.keeps kp;have v:((h.push {cls:=.type "tuple",data:=.seq rest.toArray}).push {cls:=.ref C,data:=.fields #[.ref h.objs.size,.none,.none,.none,.bool false,.none]}).get? (h.objs.size+1)=some {cls:=.ref C,data:=.fields #[.ref h.objs.size,.none,.none,.none,.bool false,.none]}:=by heap_get
 have I:(Value.ref C::bm).contains (.ref C)=true:=`s
 repeat (first|with_reducible refine wpAny_loadPart_at v ?_|(with_reducible refine wpAny_isSubtype_exc j ?_;rw[I])|wp_step)
 refine wpAny_typeLookup_tail j y B F.mroIs F.init.lookup ?_;rw[hi];refine tqo (tqa ?_);refine tqa (wpAny_typeOf {_,u,L} ?_);rw[if_pos `d]
 refine tqb (tqa (wpAny_mono (S _ (h.objs.size+1) {kp,Tv (SR _),h.objs.size,v,Tv (Rj _),?_}) (λr O hr=>?_) λ_ _ x=>x))
 ·exact Rf _ (Heap.get?_push_at rfl rfl)
 ·obtain⟨rfl,P⟩:=hr;wp_walk
  exact P
def BW
 (v:h.get? C=some (excClassObj nm q C N bs bm hdct sn sub ab col dd k0 k1 k2 k3 k5 "ValueError.__new__")) (T:OwnTail h oB bm) (hn:h.Ns N mN) (hi:mN "__init__"=some (.ref fI)) (y:h.get? fI=some oI) (z:oI.cls=.type "function")
 (B:∀u e,Heap.MadeExcOf h u e (.ref C) rest->wpAny (model prog w) (A.under (.builtin "type.__call__" {.ref C::rest,[]})) (call (.ref fI) (.ref e::rest)) (λr F=>r=.none/\Q (.ref e) F) E ⟨u,g,d,t,os⟩) (j:rest.length<=sizeLine) :
 wpAny (model prog w) A (call (.ref C) rest) Q E ⟨h,g,d,t,os⟩:=by
 have f1:=tc_lookup;have H:=tc_bind (.ref C);refine wpAny_call (codeAny_of_tree ?_)
 repeat (any_goals (first|assumption|with_reducible refine wpAny_loadPart_at v ?_|wp_step))
 refine{rfl,?_};refine codeAny_call_builtin_at (Code.quiet_builtin _ `k) entry_typeCall (wpAny_check_type_call_sub v (tB v T hn hi y z (λu e hm=>?_) j))
 exact B u e hm
end
end LD
namespace LD
open PySem PySem.Spec PyProof.Rows L2
def GI (x m:Str)(a b:Expr)(p1 u h:Pos)(env:SH):Prop:=∃pl,eval (.Call (.Attribute (.Name x p1) m u) [a,b] [] h) env=(do
 let v <- eval (.Name x p1) env
 standAt u.atName
 let(f,first) <- holding [v] (getMethod v m pl)
 callWith h f first (backTo h (starEach [a,b] env)) (backToKw h (keywordEach [] env)))
def O6 (C:Addr)(fld:Str):Sp:=λh H Q _=>∃e i,h=[.ref e,.int i]/\H e=some (.ext (fF C none e))/\i.natAbs<2^64/\∀d,H d=none->d≠e->Q .non (upd (upd H d (.xd [(fld,.int i)])) e (.ext (fF C (some d) e)))
def len_app (a b:Str):(a++b).length=a.length+b.length:=by
 show(Str.append a b).length=_;unfold Str.append Str.length;simp
def By {i:Int}(hz:z.length<=1000)(u:y.length<=1000)(hi:i.natAbs<2^64):fit z i y:=by
 have h1:i.natAbs.log2<1920:=by
  by_cases h:i.natAbs=0
  ·rw[h];decide
  ·exact RD ((Nat.log2_lt h).mpr hi) `a
 have h2:=PyProof.Rows.int_text_len_1921 h1;have hs:sizeLine=16777216:=dh.symm;refine{h1,?_,?_}
 ·rw[len_app];omega
 ·rw[len_app,len_app];omega
section
variable{P:R0}{w:RS}{K:Q9}{mg:Str->Option Rg}{base:Heap}{qual y fld z:Str}{st:Stmt}{f C D fI:Addr}{fd:FuncData}{p1 p2 p3 p4 p5 p6 p7 p8 p9 p10 p11 p12 p13:Pos}{j:Nat}
def Mh (F:oH K "__init__" qual st f fd)(S:gZ ["self",y] ["self",y] (aJ st))
 (hb:b5 st=[.Expr (.Call (.Attribute (.Name "DeedError" p1) "__init__" p2) [.Name "self" p3,.JoinedStr [.Constant (.str z) j p4,.FormattedValue (.Name y p5) (-1) none p6] p7] [] p8) p9,.Assign [.Attribute (.Name "self" p10) fld p11] (.Name y p12) p13])
 (u:∀L cd,GI "DeedError" "__init__" (.Name "self" p3) (.JoinedStr [.Constant (.str z) j p4,.FormattedValue (.Name y p5) (-1) none p6] p7) p1 p2 p8 (envOfC qual (aJ st) L f cd))
 (hz:z.length<=1000) (M:(y==("__debug__":Str))=false) (J:(y==("__classdict__":Str))=false) (v0:(aJ st).names.lookup ("self":Str)=some .local) (v1:(aJ st).names.lookup y=some .local)
 (hg:∀L cd,(envOfC qual (aJ st) L f cd).kindOf "DeedError"=some .globalImplicit) (Y:mg "DeedError"=some (.ref D)) (h1:PySem.W.readsIn K D (.type "type")=true) (h2:PySem.W.findCls K (.ref D) (.type "type") "__init__"=some (.val (.builtin "ValueError.__init__")))
 (h3:PySem.W.specialIn K (.ref D) "__getattribute__"=some (some (.builtin "type.__getattribute__"))) (X:lh K C fI=true) (v:setIn K C fld=true):iw P w K mg base (fU P w) 1 f fd ["self",y] (O6 C fld):=by
 refine rK (oH.toD F) S (λvs H Q E ⟨e,i,B,_⟩=>by rw[B];rfl) λh A outer s H vs Q E hr ⟨e,i,B,O,hi,q⟩=>?_
 subst B;rw[hb];have R:wb (eV (fU P w) P w K mg base ["self",y] qual (aJ st) f h A outer s H E).env.scope "self":=.inl v0;have U:wb (eV (fU P w) P w K mg base ["self",y] qual (aJ st) f h A outer s H E).env.scope y:=.inl v1;have a0:∀p,PE (eV (fU P w) P w K mg base ["self",y] qual (aJ st) f h A outer s H E) (.Name "self" p) (CG 0):=λp=>qf rfl R;have a1:∀p,PE (eV (fU P w) P w K mg base ["self",y] qual (aJ st) f h A outer s H E) (.Name y p) (CG 1):=λp=>qf rfl U M J;obtain⟨pl,u⟩:=u s.heap.objs.size h;refine{_,oZ (nF (Lg Y (hg _ _) h1 h2 h3 (a0 p3) (NX (a1 p5)) rfl rfl rfl u) rfl) (oZ (H9 (a0 p10) (a1 p12) rfl) wY),?_};refine{.ref e,rfl,Rp hz (by rw[<- dh];decide),.int i,rfl,i,rfl,By hz `d hi,e,C,fI,rfl,O,X,?_}
 exact{.int i,rfl,.ref e,rfl,e,C,i,rfl,rfl,O,v,λd hd I=>q d hd I}
end
def lB (fa:Fa)(P:R0)(w:RS)(K:Q9)(mg:Str->Option Rg)(base:Heap)(c:Nat)(x:Str):Prop:=
 ∃C h j y u,mg x=some (.ref C)/\fa (d7 c)=some C/\lh K C h=true/\PySem.W.keepIn K (.ref C)=true/\K.lookup h=some u/\u.cls=.type "function"/\Binds K j ["self",y] []/\iw P w K mg base (fU P w) 1 h j ["self",y] (O6 C (fu c))
section
variable{X:Cx}{pins:List (Addr×Obj)}{σ:L2.St}{H H0:Hp}{s:Rl}{fa:Fa}
def wm (I:Inv X pins σ H s)(B:H a=some (.ext F))(h:∀b,b≠a->H0 b=H b)(hz:H0 a=none):Inv X pins σ H0 s:=by
 have j:∀b,H b=none->b≠a:=λb q z=>by rw[z,B] at q;cases q
 have no:∀b u,H b=some u->(∀F,u≠.ext F)->H0 b=some u:=λb u q n=>by
  rw[h b (λz=>by rw[z,B] at q;cases q;exact n _ rfl)];exact q
 refine{I.ok,I.os,I.bare,{I.base.keep,I.base.slot,λb o e n J=>?_,I.base.there,λb xs e=>?_,λb o u e=>?_,λb ps e=>?_},I.loc,I.cell,?_,λx c e=>?_,λp y=>?_,λb u e=>?_,I.len}
 ·have q:=I.base.free b o e n J;rw[h b (j b q)];exact q
 ·exact no _ _ (I.base.tups b xs e) (λ_ z=>nomatch z)
 ·exact no _ _ (I.base.frzs b o u e) (λ_ z=>nomatch z)
 ·obtain⟨m,q⟩:=I.base.tbls b ps e;exact{m,no _ _ q (λ_ z=>nomatch z)}
 ·rw[h _ (j _ I.free)];exact I.free
 ·rw[h _ (j _ (I.freeC x c e))];exact I.freeC x c e
 ·obtain⟨e,n,r⟩:=I.pin p y;exact{e,by rw[h _ (j _ n)];exact n,r}
 ·by_cases E:b=a
  ·rw[E,hz] at e;cases e
  ·rw[h b E] at e;exact(I.hok b u e).stay (λc v _ q=>q) (λc q=>no _ _ q (λ_ z=>nomatch z)) λc xs q=>no _ _ q (λ_ z=>nomatch z)
def LS {i:Int}(J:lB fa X.prog X.w X.K X.mg X.base c x)(hr:bL 2 X.A)(L:X.ex=[])(I:Inv X pins σ H s)(hC:X.mg x=some (.ref C))(hi:i.natAbs<2^64)
 (h:∀e d M,fa (d7 c)=some C->pM X e->H e=none->H d=none->d≠e->Inv X pins σ (upd (upd H d (.xd [(fu c,.int i)])) e (.ext (fF C (some d) e))) M->Q (.ref e) M):wpAny (model X.prog X.w) X.A (call (.ref C) [.int i t]) Q X.xe s:=by
 obtain⟨C',fI,fd,y,oI,m1,hf,U,hk,R,S,hb,F⟩:=J;rw[hC] at m1;cases m1;obtain⟨bm,N,nm,q,bs,hdct,sn,sub,ab,col,dd,k0,k1,k2,k3,k5,mN,P,hN,W,T⟩:=m7 I.kIn U;obtain⟨hp,g,dr,tk,os⟩:=s;refine BW P T hN W (I.kIn _ _ R) S (λh' e hm=>?_) (by rw[<- dh];exact Rh rfl)
 obtain⟨tp,ht,_,_⟩:=hm.there;obtain⟨n1,n2⟩:=pD I L hm.new;have I1:=I.kept (t':=tk) hm.keeps;have O:=sN I1 L n2 n1.1 {_,_,ht,rfl} (λp hp z=>by
  have:=(I.pin p hp).1;rw[z,hm.new] at this;cases this) (qX {_,_,tp,ht,rfl,rfl,rfl,rfl,rfl})
 have E:=hb ⟨h',g,dr,tk,os⟩ [.ref e,.int i t] O.kIn rfl;rw[S1] at E;refine wpAny_call (codeAny_mono (F.run _ X.stack ⟨h',g,dr,tk,os⟩ (upd H e (.ext (fF C none e))) {[.ref e,.int i t],[]} [.ref e,.int i t] [.ref e,.int i] (λv Y=>v=.non/\∃d,H d=none/\d≠e/\Y=upd (upd H d (.xd [(fu c,.int i)])) e (.ext (fF C (some d) e))) (λ_ _ _=>False) (hr.make C [.int i t] []) (O.env0.make C [.int i t] []) E (.cons rfl (.cons ⟨t,rfl⟩ .nil)) ?_) λr M j=>?_)
 ·refine{e,i,rfl,bI,hi,λd hd B=>{rfl,d,by rw[ay B] at hd;exact hd,B,?_}}
  funext b
  unfold upd;split
  ·rfl
  ·split
   ·rfl
   ·rfl
 ·cases r with
  | error e'=>
    obtain⟨_,_,_,_,_,_,_,_,_,_,z⟩:=j;exact z.elim
  | ok fl=>
    cases fl with
    | ret u=>
      obtain⟨v,Y,I3,rv,ev,d,hd,B,eH⟩:=O.after j;subst ev eH;exact{rv,h e d M hf n1 n2 hd B I3}
    |next=>exact False.elim j
    |brk=>exact False.elim j
    |cont=>exact False.elim j
end
def iD (c:Nat)(a:GE):GS:=λh M=>match a h M with
 |.ok (.int i) M=>if i.natAbs<2^64 then .ok (.exc (.exc c (some i)) h) M else .bad
 |_=>.bad
def jV (f:Str)(a:GE):GE:=λh M=>(a h M).bind λd M=>match d with
 |.exc c (some i)=>if fu c=f then .ok (.int i) M else .bad
 |_=>.bad
def yn
 (u:bm.contains (.type "BaseException")=true) (hh:A.handled=none)
 (h:wpAny M A x (λv j=>∃e o vs,v=.ref e/\j.heap.get? C=some (excClassObj nm q C N bs bm hdct sn sub ab col dd k0 k1 k2 k3 k5 newId)/\j.heap.get? e=some o/\o.cls=.ref C/\o.data=.fields vs/\vs[1]?=some .none/\E (.ref e) j) E s) :
 wpAny M A (raiseStmt env (some x) none) Q E s:=by
 have z:(Value.ref C::bm).contains (.type "BaseException")=true:=by rw[List.contains_cons,u,Bool.or_true]
 refine tqa (wpAny_mono h (λv j y=>?_) λ_ _ x=>x);obtain⟨e,⟨cl,od,F,sl⟩,vs,rfl,B,he,J,hd,h1,I⟩:=y;obtain rfl:cl=.ref C:=J;obtain rfl:F=.fields vs:=hd;obtain⟨L,g,d,tk,os⟩:=j
 repeat (first|with_reducible refine wpAny_loadPart_at he ?_|with_reducible refine wpAny_loadPart_at B ?_|(with_reducible refine wpAny_isSubtype_exc B ?_;rw[z])|(with_reducible refine tqf he rfl h1 ?_)|wp_step)
 exact wpAny_raiseNew_none hh I
section
variable{fa:Fa}{X:Cx}{a b:Expr}{ga gb:GE}{ta:GT}{pos p np cpos:Pos}{es:List Expr}{gs:GA}{n:Nat}{x:Str}
def Em (c:Nat)(J:lB fa X.prog X.w X.K X.mg X.base c x)(hr:bL 2 X.A)(P:X.ex=[])(hg:Gl X x)(ha:DE fa X a ga)(L:(x==("__debug__":Str))=false)(he:notStar a=true)(I:Inv X pins σ H s)
 (h:∃μ Z M,bp fa X.K μ H σ Z/\RelM fa X.K μ H M/\af (ga Z M) λd M'=>∃i,d=.int i/\i.natAbs<2^64/\∀u j e d C z,Ext μ H j u->bp fa X.K j u σ Z->RelM fa X.K j u M'->X.mg x=some (.ref C)->fa (d7 c)=some C->pM X e->u e=none->u d=none->d≠e->Inv X pins σ (upd (upd u d (.xd [(fu c,.int i)])) e (.ext (fF C (some d) e))) z->Q (.ref e) z) :
 wpAny (model X.prog X.w) X.A (eval (.Call (.Name x np) [a] [] cpos) X.env) Q X.xe s:=by
 obtain⟨μ,Z,M,Y,hM,h⟩:=h;obtain⟨C,fI,fd,y,oI,B,hf,hin,hk,r⟩:=id J;refine wpAny_Call_Name_kw (fL I hg B ?_ L);refine SU I.ok.mod.kin hk (aV (bM ha dz (bC he) cpos pins s σ H (λvs u=>∃j F i,Ext μ H j u/\RelM fa X.K j u F/\vs=[.int i]/\i.natAbs<2^64/\∀u j e d C z,Ext μ H j u->bp fa X.K j u σ Z->RelM fa X.K j u F->X.mg x=some (.ref C)->fa (d7 c)=some C->pM X e->u e=none->u d=none->d≠e->Inv X pins σ (upd (upd u d (.xd [(fu c,.int i)])) e (.ext (fF C (some d) e))) z->Q (.ref e) z) I {μ,Z,M,Y,hM,aN h λd M' ⟨i,ed,S,k⟩ v u j E B r1=>by
  subst ed;obtain rfl:v=.int i:=r1;exact⟨j,M',i,E,B,rfl,S,k⟩}) λus s1 ⟨vs,u,U,r,j,F,i,E,mm,ev,S,k⟩=>{U.kIn,?_}) (bC he) (cu rfl)
 subst ev;cases r with
 | cons r1 r2=>
   cases r2;obtain⟨t,rfl⟩:=r1;exact LS J hr P U B S λe d z R n1 n2 hd O I3=>k u j e d C z E (Y.ext E) mm B R n1 n2 hd O I3
set_option tactic.hygienic true in
def C5 (c:Nat)(J:lB fa X.prog X.w X.K X.mg X.base c x)(hr:bL 2 X.A)(hex:X.ex=[])(hg:Gl X x)(hc:X.calm=true)(ha:DE fa X a ga)(hdb:(x==("__debug__":Str))=false)(he:notStar a=true):DS fa X (.Raise (some (.Call (.Name x np) [a] [] cpos)) none pos) (iD c ga):=by
 rintro pins s σ H D' I ⟨μ,Z,M,hE,hM,h⟩;obtain⟨C,fI,fd,y,oI,m1,hf,hin,hk,r⟩:=id J;obtain⟨bm,N,nm,q,bs,z,sn,sub,ab,R,dd,k0,k1,k2,k3,k5,mN,U,hN,hni,T⟩:=m7 I.ok.mod.kin hin;rw[arm_exec_Raise];refine tqa (wpAny_standAt (yn (T.hasType `k) (I.ok.hd hc) (tqa (wpAny_mono (Em (Q:=λv j=>∃e o F,v=.ref e/\j.heap.get? C=some (excClassObj nm q C N bs bm z sn sub ab R dd k0 k1 k2 k3 k5 "ValueError.__new__")/\j.heap.get? e=some o/\o.cls=.ref C/\o.data=.fields F/\F[1]?=some .none/\X.xe (.ref e) j) c J hr hex hg ha hdb he I ?_) (λv s₃ E=>tqa (wpAny_standAt (tqb E))) λ_ _ x=>x))))
 refine{μ,Z,M,hE,hM,?_};unfold iD at h;cases S:ga Z M with
 |err=>rw[S] at h;exact h.elim
 |bad=>rw[S] at h;exact h.elim
 | ok x0 M1=>
   rw[S] at h;cases x0 with
   | int i=>
     dsimp only at h;split at h
     ·next hi=>
      refine{i,rfl,hi,λO L e d C' s' x1 W u hm hf nw he hd hde P=>?_};rw[m1] at hm;cases hm;have ne:upd (upd O d (.xd [(fu c,.int i)])) e (.ext (fF C (some d) e)) e=some (.ext (fF C (some d) e)):=bI;obtain⟨⟨o,F,t0,g1,g2,g3,g4,g5,g6⟩,_,_⟩:=P.hok e _ ne;have B:upd O d (.xd [(fu c,.int i)]) e=none:=by rw[ay (So hde)];exact he
      have I4:=wm P ne (λb hb=>(ay hb).symm) B;have Y:RelM fa X.K L (upd O d (.xd [(fu c,.int i)])) M1:=u.alloc hd;have xd:=Ext.alloc (o:=.xd [(fu c,.int i)]) u hd;exact{e,o,F,rfl,P.bk _ _ U,g1,g2,g4,g6,h pins σ _ L s' e C (some d) c (some i) I4 (x1.trans xd) (W.ext xd) Y rfl hf ⟨d,rfl,bI⟩ {nw,B,o,F,g1,g2,g3,g4,.inl g6}}
     ·exact h.elim
   |_=>exact h.elim
def xQ (fa:Fa)(K:Q9)(f:Str):Prop:=∀c C,fa (d7 c)=some C->fu c=f->PySem.W.hasDictIn K C=true/\PySem.W.findIn K (.ref C) f=some none
set_option tactic.hygienic true in
def HW (f:Str)(hc:nq fa X.K)(hf:xQ fa X.K f)(ha:DE fa X a ga)(hb:attributeBase a f X.env (eval a X.env)=eval a X.env):DE fa X (.Attribute a f pos) (jV f ga):=by
 rintro pins s σ H Q I ⟨S,Z,M,hE,hM,h⟩;obtain⟨R,Y,eg,h⟩:=aO h;refine xN hb (aV (ha pins s σ H (λv y=>∃j,Ext S H j y/\RelM fa X.K j y Y/\Rep fa X.K j y R v) I {S,Z,M,hE,hM,by rw[eg];exact λv y j O L r1=>⟨j,O,L,r1⟩}) λu s1 ⟨v,y,E,rv,j,O,L,r1⟩=>?_)
 cases R with
 | exc c p=>
   cases p with
   |none=>exact h.elim
   | some i=>
     dsimp only at h;split at h
     ·next P=>
      obtain⟨e,C,dx,rfl,B,hH,d,rfl,hd⟩:=r1;obtain rfl:u=Value.ref e:=rv;obtain⟨⟨o,vs,h1,h2,h3,h4,h5⟩,_,_⟩:=E.hok e _ hH;obtain⟨mA,F,hl⟩:=E.hok d _ hd;obtain⟨od,J,look⟩:=sL F;have U:S8 s1.heap e o C (some od):={h1,h2,by unfold PySem.W.notCls;rw[h4],by rw[h3];exact J}
      have z:=hl f;rw[P] at z;simp only[RM,beq_self_eq_true] at z;obtain⟨u,hu,ru⟩:=j0.some_of z;obtain⟨t,rfl⟩:=ru;obtain⟨f1,f2⟩:=hf c C B P;refine tqa (wpAny_mkText (xC E.kIn U (hc.g c C B).1 (PySem.W.findObj_own f1 f2 rfl (by rw[look f,hu])) ?_))
      exact PySem.W.handed_on rfl {.int i,y,E.tok _,⟨t,rfl⟩,h (.int i) y j O L rfl}
     ·exact h.elim
 |_=>exact h.elim
end
noncomputable def inC (s:Stmt):Stmt:=match s with
 |.ClassDef _ _ _ (b::_) _ _ _ _ _ _ _=>b
 |_=>s
def Gd (z y:Str)(a:GE):GE:=λh M=>(a h M).bind λd M=>match d with
 |.int i=>if z.length<=1000/\y.length<=1000/\i.natAbs<2^64 then .ok (.str (z++(toString i:Str)++y)) M else .bad
 |_=>.bad
set_option tactic.hygienic true in
def PZ (O:DE fa X a ga):DE fa X (.JoinedStr [.Constant (.str z) j p1,.FormattedValue a (-1) none p2,.Constant (.str y) j2 p3] pos) (Gd z y ga):=
 bA (NW O) λW H Q ⟨B,U,M,J,L,h⟩=>by
  obtain⟨R,F,I,h1⟩:=aO h;cases R with
  | int i=>
    have h1:af (if z.length<=1000/\y.length<=1000/\i.natAbs<2^64 then .ok (.str (z++(toString i:Str)++y)) F else .bad) (bq fa X.K B H Q):=h1;split at h1
    ·next hm=>
     refine{Rp hm.1 (by rw[<- dh];decide),B,U,M,J,L,?_}
     rw[I];intro v E u S P r1;obtain rfl:v=.int i:=r1;exact{i,rfl,By hm.1 hm.2.1 hm.2.2,h1 (.str _) E u S P rfl}
    ·exact h1.elim
  |_=>exact h1.elim
def Mi (K:Q9)(C D fI:Addr)(h:Str):Bool:=lh K C fI&&PySem.W.keepIn K (.ref C)&&PySem.W.readsIn K D (.type "type")&&(PySem.W.specialIn K (.ref D) "__getattribute__"==some (some (.builtin "type.__getattribute__")))&&setIn K C h&&PySem.W.keepIn K (.ref fI)
def D9 {K:Q9}{st:Stmt}{C D fI cd:Addr}(X:K.In h)(G:h.Ns mainGlobals mg)
 (a:PySem.W.nsIn K mainGlobals x=some (some (.ref C))) (R:PySem.W.nsIn K mainGlobals "DeedError"=some (some (.ref D))) (hf:fa (d7 c)=some C) (b:Mi K C D fI (fu c)=true) (h2:PySem.W.findCls K (.ref D) (.type "type") "__init__"=some (.val (.builtin "ValueError.__init__")))
 (l:K.lookup fI=some {.type "function",none,.func (PySem.W.fnOf "__init__" qual (di st) (b5 st) (aJ st) .none .none .none (.str pm t) none (.ref cd) .none),#[]}) (e:PySem.W.codeIn K (.ref cd) qual=true) (S:gZ ["self",y] ["self",y] (aJ st))
 (hb:b5 st=[.Expr (.Call (.Attribute (.Name "DeedError" p1) "__init__" p2) [.Name "self" p3,.JoinedStr [.Constant (.str z) j p4,.FormattedValue (.Name y p5) (-1) none p6] p7] [] p8) p9,.Assign [.Attribute (.Name "self" p10) (fu c) p11] (.Name y p12) p13])
 (I:∀L cd,GI "DeedError" "__init__" (.Name "self" p3) (.JoinedStr [.Constant (.str z) j p4,.FormattedValue (.Name y p5) (-1) none p6] p7) p1 p2 p8 (envOfC qual (aJ st) L fI cd))
 (hz:z.length<=1000) (M:(y==("__debug__":Str))=false) (J:(y==("__classdict__":Str))=false) (v0:(aJ st).names.lookup ("self":Str)=some .local) (v1:(aJ st).names.lookup y=some .local)
 (hg:∀L cd,(envOfC qual (aJ st) L fI cd).kindOf "DeedError"=some .globalImplicit)
 (H:∀(kV v pm:Rg) (B:Option Addr) (u ct O Q:Rg),bindArgs (PySem.W.fnOf "__init__" qual (di st) (b5 st) (aJ st) .none kV v pm B u ct) {[O,Q],[]}=pure ((["self",y]:List Str).zip [O,Q])) (P:R0) (base:Heap):lB fa P w K mg base c x:=by
 simp only[Mi,Ra,beq_iff_eq] at b;obtain⟨⟨⟨⟨⟨b1,b2⟩,b3⟩,U⟩,Y⟩,b6⟩:=b;have F:=Bw l e b6;exact{C,fI,_,y,_,Su X G a,hf,b1,b2,l,rfl,F.binds λkV v pm B u ct E hl=>OZ (p:=λE=>bindArgs (PySem.W.fnOf "__init__" qual (di st) (b5 st) (aJ st) .none kV v pm B u ct) {E,[]}=pure ((["self",y]:List Str).zip E)) (H kV v pm B u ct) E hl,
  Mh F S hb I hz M J v0 v1 hg (Su X G R) b3 h2 U b1 Y}
noncomputable def Px (K:Q9)(cl:List (Nat×Addr))(f:Str):Bool:=cl.all λq=>!(fu q.1==f)||(PySem.W.hasDictIn K q.2&&PySem.W.findIn K (.ref q.2) f==some none)
def zC {K:Q9}{D:Addr}(h:Px K cl f=true):xQ (vD l cl D) K f:=λc C e j=>by
 have:=(Rq.mp h) _ (lg e);simp only[j,beq_self_eq_true,Bool.not_true,Bool.false_or,Ra,beq_iff_eq] at this;exact this
def AA (M:Mem)(x:D):Str:=(toPy (cF 64 M x)).shown
def NH (M:Mem)(x:D):Bool:=ax 64 (cF 64 M x)&&((toPy (cF 64 M x)).showable&&decide ((AA M x).length<=sizeLine))
def NM:List D->Mem->Res D
 |[x],M=>if NH M x=true then .ok (.str (AA M x)) M else .bad
 |_,_=>.bad
def Gb (s:GA):GE:=λj M=>(s j M).bind λh M=>NM h M
def Gy (fa:Fa)(K:Q9)(mg:Str->Option Rg)(x1 x2:Str)(k1 k2:Nat):Prop:=∃h j,mg x1=some (.ref h)/\mg x2=some (.ref j)/\∀c C,c=k1\/c=k2->fa (d7 c)=some C->PySem.W.exmAny K (.ref C) [.ref h,.ref j]=some true
def vC (M:Mem)(o:Nat)(nm:Str):Option D:=if 5000<=o then(match M[o-5000]? with
 |some (.int c::es)=>((bT c.toNat).findIdx? (·==nm)).bind λi=>es[i]?
 |_=>none) else none
def cQ (nm:Str)(a:GE):GE:=λh M=>(a h M).bind λx M=>match x with
 |.fn o=>b7 M (vC M o nm)
 |_=>.bad
def B4 (fa:Fa)(K:Q9):Prop:=∀c C,fa (fT c)=some C->bT c≠[]->je K C/\∀f∈bT c,j5 K C f
section
variable{fa:Fa}{K:Q9}{μ:Mu}{H:Hp}{M:Mem}
def RelM.obj {c:Int}(h:RelM fa K μ H M)(ho:5000<=o)(z:μ.ob o=some a)(e:M[o-5000]?=some (.int c::es))(hf:bT c.toNat≠[]) :
 ∃n C j fs,c=(n:Nat)/\fa (fT n)=some C/\H a=some (.ins C j fs)/\fs.map (·.1)=(bT n).take fs.length/\aH fa K μ H es (fs.map (·.2)):=by
 have y:aM (o-5000)=o:=Nat.add_sub_cancel' ho;rcases h.at' _ _ e with⟨b,J,h1,_⟩|⟨b,h1,h2,⟨n,C,j,fs,u,h3,h4,B,v,E⟩|⟨c,u,I,_,F,v,_⟩⟩
 ·have:=h.sep _ _ h1;rw[y,z] at this;cases this
 ·rw[y,z] at h1;cases h1;cases v;exact⟨n,C,j,fs,rfl,h3,h4,B,E⟩
 ·cases v;rcases F with rfl|rfl<;>exact absurd rfl hf
set_option tactic.hygienic true in
theorem vk:∀{fs:List (Str×V)}{ns:List Str}{i:Nat}{v:V},fs.map (·.1)=ns.take fs.length->ns.findIdx? (·==nm)=some i->(fs.map (·.2))[i]?=some v->fs.lookup nm=some v
 |[],_,_,_,_,_,e=>by simp at e
 |(x,u)::fs,[],_,_,h,_,_=>by simp at h
 | (x,u)::fs,y::ns,i,v,h,f,e=>by
   simp only[Sk,R1,List.take_succ_cons,List.cons.injEq] at h;obtain⟨rfl,h⟩:=h;rw[List.findIdx?_cons] at f;split at f
   ·next q=>
    cases f;cases e;rw[RM,show(nm==x)=true by rw[<- eq_of_beq q,beq_self_eq_true]]
   ·next q=>
    obtain⟨j,B,rfl⟩:=Ry.mp f;rw[RM,show(nm==x)=false by rw[Bool.eq_false_iff];exact λz=>q (by rw[<- eq_of_beq z,beq_self_eq_true])]
    exact vk h B e
end
section
variable{fa:Fa}{X:Cx}{a:Expr}{ga:GE}{pos:Pos}
set_option tactic.hygienic true in
def OJ (nm:Str)(Y:B4 fa X.K)(hf:∀o,5000<=o->fa o=none)(W:DE fa X a ga)(j:attributeBase a nm X.env (eval a X.env)=eval a X.env):DE fa X (.Attribute a nm pos) (cQ nm ga):=
 bA (Lh W j) λσ H Q ⟨μ,Z,M,R,U,h⟩=>by
  obtain⟨x0,M1,J,h⟩:=aO h;refine{μ,Z,M,R,U,?_};rw[J];intro v F B x1 E r1;cases x0 with
  | fn o=>
    obtain⟨d,y,q⟩:=kS h;unfold vC at y;split at y
    ·next ho=>
     split at y
     ·next c es O=>
      obtain⟨i,u,L⟩:=R4.mp y;obtain⟨b,rfl,j⟩:=r1;rcases j with j|⟨_,j⟩
      ·rw[hf o ho] at j;cases j
      obtain⟨n,C,I,fs,rfl,P,S,hn,hr⟩:=E.obj ho j O (λz=>by rw[z] at u;cases u)
      rw[SD] at u;obtain⟨v,hv,rv⟩:=hr.get L;have ne:bT n≠[]:=λz=>by rw[z] at u;cases u
      obtain⟨cl,na⟩:=Y n C P ne;have mem:nm∈bT n:=by
       obtain⟨hl,h1,_⟩:=S0.mp u;rw[<- eq_of_beq h1];exact Sl _
      exact{b,C,I,fs,v,rfl,S,cl,na nm mem,vk hn u hv,q v F B x1 E rv}
     ·cases y
    ·cases y
  |_=>exact h.elim
end
def lX (M:Mem)(o:Nat)(nm:Str)(z:D):Option Mem:=if 5000<=o then(match M[o-5000]? with
 |some (.int c::es)=>((bT c.toNat).findIdx? (·==nm)).bind λi=>if i<es.length then some (M.set (o-5000) (.int c::es.set i z)) else if i=es.length then some (M.set (o-5000) (.int c::(es++[z]))) else none
 |_=>none) else none
def iR (nm:Str)(a v:GE):GS:=λh M=>(v h M).bind λz M=>(a h M).bind λx M=>match x with
 | .fn o=>(match lX M o nm z with
   |some j=>.ok (.next h) j
   |none=>.bad)
 |_=>.bad
def Ef (n:Nat):(bT n).length<1000:=by
 unfold bT;split<;>decide
set_option tactic.hygienic true in
theorem wV:∀{fs:List (Str×V)}{ns:List Str}{i:Nat},fs.map (·.1)=ns.take fs.length->ns.findIdx? (·==nm)=some i->i<fs.length->(cY nm v fs).map (·.1)=fs.map (·.1)/\(cY nm v fs).map (·.2)=(fs.map (·.2)).set i v
 |(x,u)::fs,[],_,h,_,_=>by simp at h
 | (x,u)::fs,y::ns,i,h,f,l=>by
   simp only[Sk,R1,List.take_succ_cons,List.cons.injEq] at h;obtain⟨rfl,h⟩:=h;rw[List.findIdx?_cons] at f;show(if x=nm then(x,v)::fs else(x,u)::cY nm v fs).map _=_/\(if x=nm then(x,v)::fs else(x,u)::cY nm v fs).map _=_;split at f
   ·next q=>
    cases f;rw[if_pos (eq_of_beq q)];exact⟨rfl,rfl⟩
   ·next q=>
    obtain⟨j,B,rfl⟩:=Ry.mp f;rw[if_neg (λz=>q (by rw[z,beq_self_eq_true]))]
    obtain⟨h1,h2⟩:=wV h B (Nat.lt_of_succ_lt_succ l);exact{by rw[Sk,h1];rfl,by rw[Sk,h2];rfl}
set_option tactic.hygienic true in
theorem wW:∀{fs:List (Str×V)}{ns:List Str},fs.map (·.1)=ns.take fs.length->ns.findIdx? (·==nm)=some fs.length->cY nm v fs=fs++[(nm,v)]
 |[],_,_,_=>rfl
 |(x,u)::fs,[],h,_=>by simp at h
 | (x,u)::fs,y::ns,h,f=>by
   simp only[Sk,R1,List.take_succ_cons,List.cons.injEq] at h;obtain⟨rfl,h⟩:=h;rw[List.findIdx?_cons] at f;show(if x=nm then(x,v)::fs else(x,u)::cY nm v fs)=_;split at f
   ·cases f
   ·next q=>
    obtain⟨j,B,e⟩:=Ry.mp f;cases e;rw[if_neg (λz=>q (by rw[z,beq_self_eq_true])),wW h B];rfl
section
variable{fa:Fa}{K:Q9}{μ:Mu}{H:Hp}{M:Mem}
def Ext.ins (h:RelM fa K μ H M)(y:H a=some (.ins C j fs)):Ext μ H μ (upd H a (.ins C j fs')):=by
 have ne:∀{b o},H b=some o->(∀C j fs,o≠.ins C j fs)->b≠a:=λg n z=>by rw[z,y] at g;cases g;exact n _ _ _ rfl
 refine{{λ_ _ q=>q,λb v g=>?_,λb v g n=>{by rw[ay (ne g (λ_ _ _ z=>by cases z))];exact g,n},λb ob u g=>by rw[ay (ne g (λ_ _ _ z=>by cases z))];exact g,λb o i g=>?_,λ_ _ q=>q},rfl,λb B=>?_}
 ·rcases g with g|⟨ob,g⟩
  ·exact .inl (by rw[ay (ne g (λ_ _ _ z=>by cases z))];exact g)
  ·exact .inr {ob,by rw[ay (ne g (λ_ _ _ z=>by cases z))];exact g}
 ·rw[ay (ne g (λ_ _ _ z=>by rcases i with⟨_,i⟩|⟨_,i⟩<;>(rw[i] at z;cases z)))];exact g
 ·obtain⟨⟨v,g⟩,_⟩:=h.pv b B;rw[ay (ne g (λ_ _ _ z=>by cases z))]
def RelM.objW (h:RelM fa K μ H M)(e:M[k]?=some ds)(v:μ.ob (aM k)=some a)(I:fa (fT n)=some C)(F:H a=some (.ins C dx fs))(hn:fs'.map (·.1)=(bT n).take fs'.length)(hr:aH fa K μ H es (fs'.map (·.2))) :
 RelM fa K μ (upd H a (.ins C dx fs')) (M.set k (.int n::es)):=by
 have x:Ext μ H μ (upd H a (.ins C dx fs')):=Ext.ins h F;refine{λj y q=>?_,λj u=>h.out j (by simpa using u),λj u=>h.oout j (by simpa using u),h.inj,h.oinj,h.sep,λb B=>{let{⟨E,g⟩,_}:=h.pv b B;{E,by rw[x.pk b B];exact g},(h.pv b B).2}}
 by_cases u:j=k
 ·subst u;have hl:j<M.length:=(Rb.mp e).1;rw[RF hl] at q;cases q;have L:μ.pub j=none:=by
   cases z:μ.pub j with
   |none=>rfl
   |some b=>rw[h.sep j b z] at v;cases v
  exact .inr {a,v,L,.inl {n,C,dx,fs',es,I,bI,hn,rfl,hr.ext x}}
 ·rw[Rx (So u)] at q;rcases h.at' j y q with⟨b,E,h1,h2,h3⟩|⟨b,h1,h2,h3⟩
  ·exact .inl {b,E,h1,by rw[ay (λz=>by rw[z,F] at h2;cases h2)];exact h2,h3.ext x}
  ·have J:b≠a:=λz=>u (h.oinj _ _ a (z ▸ h1) v);exact .inr {b,h1,h2,h3.extW x.toExtW (ay J)}
end
section
variable{fa:Fa}{X:Cx}{a e:Expr}{ga gv:GE}{pos pos':Pos}
set_option tactic.hygienic true in
def NJ (nm:Str)(hc:B4 fa X.K)(hf:∀o,5000<=o->fa o=none)(ha:DE fa X a ga)(hv:DE fa X e gv)(hs:swapsWith e (some (.Attribute a nm pos')) pos.line X.env=pure false):DS fa X (.Assign [.Attribute a nm pos'] e pos) (iR nm ga gv):=
 d3 (KZ ha hv hs) λD' σ H ⟨μ,Z,M,hE,hM,h⟩=>t2 hE hM h λz x Y v u W I x2 Q y rz rx h2=>by
  cases x with
  | fn o=>
    dsimp only at h2;cases j:lX Y o nm z with
    |none=>rw[j] at h2;exact h2.elim
    | some M'=>
      rw[j] at h2;have q:=h2;unfold lX at j;split at j
      ·next ho=>
       split at j
       ·next c es em=>
        obtain⟨i,B,j⟩:=R4.mp j;obtain⟨b,rfl,F⟩:=rx;rcases F with F|⟨_,F⟩
        ·rw[hf o ho] at F;cases F
        obtain⟨n,C,dx,fs,rfl,hC,P,hn,hr⟩:=y.obj ho F em (λz=>by rw[z] at B;cases B)
        rw[SD] at B;have ne:bT n≠[]:=λz=>by rw[z] at B;cases B
        obtain⟨cl,na⟩:=hc n C hC ne;obtain⟨S,O,_⟩:=S0.mp B;have mem:nm∈bT n:=by rw[<- eq_of_beq O];exact Sl _
        have lf:fs.length<=(bT n).length:=by
         have:=congrArg List.length hn;rw[Rn,Se] at this;omega
        have le:es.length=fs.length:=by rw[<- hr.length,Rn]
        have R:I.ob (aM (o-5000))=some b:=by rw[show aM (o-5000)=o from Nat.add_sub_cancel' ho];exact F
        refine{b,C,dx,fs,rfl,P,cl,na nm mem,Nat.lt_of_le_of_lt lf (Ef n),?_};have J:∀E,M'=Y.set (o-5000) (.int n::E)->(cY nm v fs).map (·.1)=(bT n).take (cY nm v fs).length->aH fa X.K I W E ((cY nm v fs).map (·.2))->D'.nx σ (upd W b (.ins C dx (cY nm v fs))):=λE e1 e2 e3=>by
         subst e1;exact q σ _ I (x2.trans (Ext.ins y P)) (Q.ext (Ext.ins y P)) (y.objW em R hC P e2 e3)
        split at j
        ·next U=>
         obtain⟨p1,p2⟩:=wV hn B (le ▸ U);have pl:(cY nm v fs).length=fs.length:=by have:=congrArg List.length p1;simpa using this
         exact J _ (Ro j).symm (by rw[p1,pl];exact hn) (by rw[p2];exact hr.set i rz)
        ·split at j
         ·next _ L=>
          rw[L,le] at B;have pa:=wW (v:=v) hn B;refine J _ (Ro j).symm ?_ (by rw[pa,SF];exact hr.append (.one rz))
          rw[pa,SF,hn,RO];subst L;rw[List.length_singleton,List.take_add_one]
          congr 1
          rw[RE (by rw[<- le];exact S)]
          have:=eq_of_beq O;simp only[le] at this;simp[this]
         ·cases j
       ·cases j
      ·cases j
  |_=>exact h2.elim
end
def qV (fa:Fa)(K:Q9)(m:Str)(c f:Nat):Prop:=∃C,fa (fT c)=some C/\je K C/\(∀ad,fa f=some ad->Meth K C m ad)/\m∉bT c/\bT c≠[]
noncomputable def fy (M:Mem)(o:Nat):Option Nat:=if 5000<=o then(match M[o-5000]? with
 |some (.int c::_)=>some c.toNat
 |_=>none) else none
def dW (c f:Nat)(call:Call)(a:GE)(s:GA):GE:=λh M=>(a h M).bind λx M=>match x with
 |.fn o=>if fy M o=some c then(s h M).bind λj M=>call f (.fn o::j) M else .bad
 |_=>.bad
theorem mT:∀{fs:List (Str×V)}{ns:List Str},fs.map (·.1)=ns.take fs.length->m∉ns->fs.lookup m=none
 |[],_,_,_=>rfl
 |(x,u)::fs,[],h,_=>by simp at h
 | (x,u)::fs,y::ns,h,n=>by
   simp only[Sk,R1,List.take_succ_cons,List.cons.injEq] at h;obtain⟨rfl,h⟩:=h;rw[RM,show(m==x)=false from RJ.mpr λz=>n (by rw[z];exact Rw)]
   exact mT h λz=>n (Rk _ z)
def nM (h:attributeBase o m env (eval o env)=eval o env)(u:methodCallForm args.length (backTo pos (starEach args env)) (backToKw pos (keywordEach [] env))=true)(j:(apos.endLine==pos.line)=true) :
 ∃pl,eval (.Call (.Attribute o m apos) args [] pos) env=(do
  let v <- eval o env
  standAt apos.atName
  let(f,first) <- holding [v] (getMethod v m pl)
  callWith pos f first (backTo pos (starEach args env)) (backToKw pos (keywordEach [] env))):=by
 refine{(do let b <- importBound o env;pure (b.getD true)),?_}
 show attributeBase o m env (eval o env) >>= _=_;rw[h];unfold methodCall;simp only[List.length_nil,Nat.add_zero,u];have e:methodCallPos true o env apos pos=pure pos:=by unfold methodCallPos;rw[j];rfl
 simp only[e,pure_bind];rfl
section
variable{fa:Fa}{X:Cx}{o e:Expr}{es:List Expr}{go:GE}{gs:GA}{pos apos:Pos}{n c f:Nat}{m:Str}{call:Call}
set_option tactic.hygienic true in
def sI (ht:∀E H R,tA fa X.K gs E H R->t E H R)(hf:∀o,5000<=o->fa o=none)(W:fa (fT c)=some C)(B:m∉bT c/\bT c≠[])(Y:bp fa X.K μ H E Z)(hM:RelM fa X.K μ H M)(h:af (dW c f call go gs Z M) (bq fa X.K μ H Q))
 (hk:∀ds M1,ds.length≠k->call f ds M1=.bad):ya C m (uH fa X.K k (call f)) [] E0 (tE fa X.K go) t E H Q:=
 t1 Y hM h λx M1 v H1 μ1 x1 F z r1 h1=>by
  cases x with
  | fn o=>
    dsimp only at h1;split at h1
    ·next j=>
     unfold fy at j;split at j
     ·next ho=>
      split at j
      ·next c' U S=>
       obtain⟨b,rfl,u⟩:=id r1;rcases u with u|⟨_,u⟩
       ·rw[hf o ho] at u;cases u
       obtain⟨n',C',P,fs,rfl,y,hH,hn,_⟩:=z.obj ho u S (by rw[Ro j];exact B.2)
       rw[SD] at j;obtain rfl:n'=c:=Ro j;rw[W] at y;cases y;refine{b,P,fs,rfl,hH,mT hn B.1,?_};refine ht _ _ _ (uw F z h1 λds L vs H2 J O hE2 I r2 h2=>?_);rw[S1];refine{?_,J,L,.fn o::ds,I,{_,vs,rfl,Rep.ext O r1,r2},va (kc h2 (x1.trans O))};rw[R1,r2.length];by_cases hl:(D.fn o::ds).length=k
       ·exact hl
       ·rw[hk _ L hl] at h2;exact h2.elim
      ·cases j
     ·cases j
    ·exact h1.elim
  |_=>exact h1.elim
def vh (j:∀ds M,call f ds M=.bad)(h:af (dW c f call go gs Z M) P):False:=by
 obtain⟨x,u,_,h⟩:=aO h;cases x with
 | fn o=>
   dsimp only at h;split at h
   ·obtain⟨ds,v,_,h⟩:=aO h;rw[j] at h;exact h
   ·exact h
 |_=>exact h
def MQ (O:et fa X.prog X.w X.K X.mg X.base n f (call f))(hr:bL (2*n+4) X.A)(hf:∀o,5000<=o->fa o=none)(P:fa (fT c)=some C)(cl:je X.K C)(hm:∀ad,fa f=some ad->Meth X.K C m ad)(y:m∉bT c/\bT c≠[])(ho:DE fa X o go)(hs:DA fa X (e::es) gs)
 (j:attributeBase o m X.env (eval o X.env)=eval o X.env) (v:methodCallForm (e::es).length (backTo pos (starEach (e::es) X.env)) (backToKw pos (keywordEach [] X.env))=true) (u:(apos.endLine==pos.line)=true)
 (he:starEach (e::es) X.env=(false,eval e X.env)::starEach es X.env) (B:(backTo pos (starEach es X.env)).any (·.1)=false) :
 DE fa X (.Call (.Attribute o m apos) (e::es) [] pos) (dW c f call go gs):=by
 rcases O with R|⟨ad,Y,ps,h1,h2,h3,h4,F,_⟩
 ·exact(by rintro L s W H Q I ⟨μ,U,M,E,J,h⟩;exact(vh R h).elim)
 ·obtain⟨pl,S⟩:=nM j v u;exact bA (Ii ho cl (hm ad h1) F hr h3 .nil qg hs he B S) (by rintro W H Q ⟨μ,U,M,E,J,h⟩;exact sI (λ_ _ _ z=>z) hf P y E J h h4)
def Jn (L:et fa X.prog X.w X.K X.mg X.base n f (call f))(hr:bL (2*n+4) X.A)(hf:∀o,5000<=o->fa o=none)(O:fa (fT c)=some C)(cl:je X.K C)(hm:∀ad,fa f=some ad->Meth X.K C m ad)(y:m∉bT c/\bT c≠[])(ho:DE fa X o go)
 (j:attributeBase o m X.env (eval o X.env)=eval o X.env) (u:(apos.endLine==pos.line)=true) :
 DE fa X (.Call (.Attribute o m apos) [] [] pos) (dW c f call go bE):=by
 rcases L with P|⟨ad,U,ps,h1,h2,h3,h4,F,_⟩
 ·exact(by rintro B s J H Q I ⟨μ,E,M,z,v,h⟩;exact(vh P h).elim)
 ·obtain⟨pl,S⟩:=nM (args:=[]) j rfl u;exact bA (Dn ho cl (hm ad h1) F hr h3 .nil qg S) (by rintro J H Q ⟨μ,E,M,z,v,h⟩;exact sI (λJ H R ⟨μ,E,M,_,v,h⟩=>h [] H μ Ext.refl v rfl) hf O y z v h h4)
end
noncomputable def kj (μ:Mu)(k:Nat)(p:Addr):Mu:={μ.pub,μ.priv,λj=>if j=aM k then some p else μ.ob j}
section
variable{fa:Fa}{K:Q9}{μ:Mu}{H:Hp}{M:Mem}
def RelM.ob_ins (h:RelM fa K μ H M)(e:μ.ob (aM k)=some a):∃o,H a=some o:=by
 by_cases hk:k<M.length
 ·rcases h.at' k M[k] (by simp[hk]) with⟨b,j,h1,_⟩|⟨b,h1,h2,h3⟩
  ·rw[h.sep _ _ h1] at e;cases e
  ·rw[e] at h1;cases h1;exact let{o,z,_}:=h3.hold;⟨o,z⟩
 ·rw[h.oout k (Nat.le_of_not_lt hk)] at e;cases e
set_option tactic.hygienic true in
def Ext.objNew (h:RelM fa K μ H M)(u:H x=none)(hd:H dx=none)(ne:dx≠x):Ext μ H (kj μ M.length x) (upd (upd H dx (.own x)) x (.ins C dx [])):=by
 have e1:Ext μ H μ (upd H dx (.own x)):=Ext.alloc h hd;have e2:Ext μ (upd H dx (.own x)) μ (upd (upd H dx (.own x)) x (.ins C dx [])):=Ext.alloc (h.alloc hd) (by rw[ay (So ne)];exact u)
 have e:=e1.trans e2;refine{{e.mu,e.tups,λb v g n=>{(e.lsts b v g n).1,n},e.frzs,e.exts,λj b z=>?_},rfl,e.pk};show(if j=aM M.length then some x else μ.ob j)=some b;split
 ·next q=>rw[q,h.oout _ (Rj _)] at z;cases z
 ·exact z
set_option tactic.hygienic true in
def RelM.objNew (h:RelM fa K μ H M)(u:H x=none)(hd:H dx=none)(ne:dx≠x)(F:fa (fT c)=some C):RelM fa K (kj μ M.length x) (upd (upd H dx (.own x)) x (.ins C dx [])) (M++[[.int c]]):=by
 have X:Ext μ H (kj μ M.length x) (upd (upd H dx (.own x)) x (.ins C dx [])):=Ext.objNew h u hd ne;have old:∀{b o},H b=some o->(upd (upd H dx (.own x)) x (.ins C dx [])) b=some o:=λg=>by rw[ay (aX g u),ay (aX g hd)];exact g
 have pc:∀{k b},(kj μ M.length x).ob (aM k)=some b->(k=M.length/\b=x)\/μ.ob (aM k)=some b:=λ{k b} z=>by
  have z:(if aM k=aM M.length then some x else μ.ob (aM k))=some b:=z;split at z
  ·next q=>cases z;exact .inl {Nat.add_left_cancel q,rfl}
  ·exact .inr z
 refine{λk E q=>?_,λk hk=>h.out k (by simp at hk;omega),λk hk=>?_,h.inj,λj k b e1 e2=>?_,λk b z=>?_,λb B=>{?_,(h.pv b B).2}}
 ·by_cases hk:k<M.length
  ·rw[RN hk] at q;rcases h.at' k E q with⟨b,y,h1,h2,h3⟩|⟨b,h1,h2,h3⟩
   ·exact .inl {b,y,h1,old h2,h3.ext X}
   ·exact .inr {b,X.obs _ _ h1,h2,h3.extW X.toExtW (by obtain⟨o,e,_⟩:=h3.hold;rw[old e,e])}
  ·have v:k=M.length:=by
    have:=(Rb.mp q).1;simp at this;omega
   subst v;rw[Si (Rj _)] at q;simp at q;subst q;exact .inr {x,by show(if aM M.length=aM M.length then some x else _)=some x;rw[if_pos rfl],h.out _ (Rj _),.inl {c,C,dx,[],[],F,bI,rfl,rfl,rfl}}
 ·show(if aM k=aM M.length then some x else μ.ob (aM k))=none;simp at hk;rw[if_neg (λz=>by have:=Nat.add_left_cancel z;omega)]
  exact h.oout k `a
 ·rcases pc e1 with⟨a1,a2⟩|a1<;>rcases pc e2 with⟨b1,b2⟩|b1
  ·omega
  ·subst a2;obtain⟨_,z⟩:=h.ob_ins b1;rw[u] at z;cases z
  ·subst b2;obtain⟨_,z⟩:=h.ob_ins a1;rw[u] at z;cases z
  ·exact h.oinj j k b a1 b1
 ·show(if aM k=aM M.length then some x else μ.ob (aM k))=none;have z:μ.pub k=some b:=z;rw[if_neg (λq=>by rw[Nat.add_left_cancel q,h.out _ (Rj _)] at z;cases z)]
  exact h.sep k b z
 ·obtain⟨⟨y,g⟩,_⟩:=h.pv b B;exact{y,old g}
end
def vv (a:GE):GE:=λj M=>(a j M).bind λx M=>match x with
 | .cell k=>match M[k]? with
   | some h=>match h[h.length - 1]? with
     |some y=>.ok y (M.set k h.dropLast)
     |none=>.bad
   |none=>.bad
 |_=>.bad
def Ga (a:GE):GE:=λj M=>(a j M).bind λx M=>match x with
 | .cell k=>match M[k]? with
   |some h=>.ok .non (M.set k h.reverse)
   |none=>.bad
 |_=>.bad
section
variable{fa:Fa}{X:Cx}{a:Expr}{ga:GE}{apos cpos:Pos}
def OB (W:DE fa X a ga)(u:attributeBase a "pop" X.env (eval a X.env)=eval a X.env)(z:(apos.endLine==cpos.line)=true) :
 DE fa X (.Call (.Attribute a "pop" apos) [] [] cpos) (vv ga):=
 bA (AR S9 PySem.F.slot_list_pop PySem.F.type_list_pop LP W u z) λσ H Q ⟨μ,Z,M,R,U,h⟩=>
  t1 R U h λx P v H1 L x1 S j r1 h1=>by
   cases x with
   | cell k=>
     dsimp only at h1;cases e:P[k]? with
     |none=>rw[e] at h1;exact h1.elim
     | some E=>
       rw[e] at h1;dsimp only at h1;cases I:E[E.length-1]? with
       |none=>rw[I] at h1;exact h1.elim
       | some y=>
         rw[I] at h1;obtain⟨ad,rfl,hk⟩:=r1;obtain⟨ws,h4,B⟩:=j.at_ e hk;obtain⟨w,Y,J⟩:=B.get I;refine{.inl {rfl,ws,cE.of h4},ad,ws,w,rfl,rfl,h4,by rw[B.length];exact Y,?_}
         have O:=Ext.write (vs:=ws) (ws:=ws.dropLast) j hk;have r:=B.take (E.length-1);rw[<- List.dropLast_eq_take,<- B.length,<- List.dropLast_eq_take] at r;exact h1 w _ L (x1.trans O) (j.write hk r) (J.ext O)
   |_=>exact h1.elim
def MP (O:DE fa X a ga)(u:attributeBase a "reverse" X.env (eval a X.env)=eval a X.env)(y:(apos.endLine==cpos.line)=true) :
 DE fa X (.Call (.Attribute a "reverse" apos) [] [] cpos) (Ga ga):=
 bA (AR S9 PySem.F.slot_list_reverse PySem.F.type_list_reverse yB O u y) λσ H Q ⟨W,Y,M,I,L,h⟩=>
  t1 I L h λx B v S z P J j r1 h1=>by
   cases x with
   | cell k=>
     dsimp only at h1;cases e:B[k]? with
     |none=>rw[e] at h1;exact h1.elim
     | some U=>
       rw[e] at h1;obtain⟨ad,rfl,hk⟩:=r1;obtain⟨ws,h4,E⟩:=j.at_ e hk;refine{.inl {rfl,ws,cE.of h4},ad,ws,rfl,rfl,h4,?_};have R:=Ext.write (vs:=ws) (ws:=ws.reverse) j hk;exact h1 .non _ z (P.trans R) (j.write hk E.reverse) rfl
   |_=>exact h1.elim
def Jp {call:Call}(C:et fa X.prog X.w X.K X.mg X.base n f (call f))(hr:bL (2*n+4) X.A)(L:Gl X x)(hm:∀ad,fa f=some ad->X.mg x=some (.ref ad))
 (u:(x==("__debug__":Str))=false):DE fa X (.Call (.Name x p) [] [] pos) (aj f call bE):=by
 rcases C with J|⟨ad,W,ps,h1,h2,h3,h4,F,_⟩
 ·exact(by rintro B s S H Q I ⟨O,P,M,y,z,h⟩;exact(v5 J h).elim)
 ·exact bA (Dq F hr L (hm ad h1) h2 h3 .nil qg u) λS H Q ⟨O,P,M,y,z,h⟩=>by
   obtain⟨v,R,U,_,j,E⟩:=ng y z h h4;exact E [] H v Ext.refl j rfl
end
end LD
namespace LD
open PySem
section
variable{prog:R0}{w:RS}{A:Sw}{E:Rg->Rl->Prop}{s:Rl}
abbrev TK (prog:R0)(w:RS)(h:Heap)(ks:List Int)(a:Addr):Prop:=IsTupleKey (intKind prog w) h ks a
end
end LD
namespace LD
open PySem PySem.Spec PyProof.Rows L2
def gj (c f:Nat)(call:Call)(a:GE)(s:GA):GE:=λh M=>match a h M with
 | .ok (.fn o) M=>if fy M o = some c then(match s h M with
   |.ok j M=>call f (.fn o::j) M
   |_=>.bad) else .bad
 |_=>.bad
section
variable{fa:Fa}{X:Cx}{o e:Expr}{es:List Expr}{go:GE}{gs:GA}{pos apos:Pos}{n c f:Nat}{m:Str}{call:Call}
def EZ {ad:Addr}(h3:Binds X.K fd ps [])(h4:∀ds M1,ds.length≠ps.length->call f ds M1=.bad)(F:iw X.prog X.w X.K X.mg X.base (fU X.prog X.w) (2*n+4) ad fd ps (uH fa X.K ps.length (call f)))(hr:bL (2*n+4) X.A)(M:X.ex=[])
 (I:Inv X pins σ H1 s1) (r:Vals vs us) (hE:bp fa X.K μ H σ Z) (x1:Ext μ H μ1 H1) (m1:RelM fa X.K μ1 H1 M1) (r1:aH fa X.K μ1 H1 ds vs) (h:hR (call f ds M1) (bq fa X.K μ H Q) (λx M'=>XW fa X μ H x Z M')):wpAny (model X.prog X.w) X.A (PySem.call (.ref ad) us) (EP X pins σ Q) X.xe s1:=by
 have hl:ds.length=ps.length:=by
  by_cases hl:ds.length=ps.length
  ·exact hl
  ·rw[h4 ds M1 hl] at h;exact h.elim
 have P:uH fa X.K ps.length (call f) vs H1 Q λW J v=>∃y M' j E c p,W=.ref E/\Ext μ1 H1 j v/\RelM fa X.K j v M'/\y=.exc c p/\fa (d7 c)=some E/\rX v c J p/\XW fa X μ H y Z M':=by
  refine{by rw[r1.length];exact hl,μ1,M1,ds,m1,r1,?_}
  cases B:call f ds M1 with
  |ok d R=>rw[B] at h;exact bq.ext h x1
  |err y R=>rw[B] at h;exact λC J c p v j y' m ex L hn=>{_,R,j,C,c,p,rfl,y',m,ex,L,hn,h}
  |bad=>rw[B] at h;exact h.elim
 have O:us.length=ps.length:=by rw[<- r.length,r1.length];exact hl
 have S:=h3 s1 us I.kIn (by simpa using O)
 rw[S1] at S;refine wpAny_call (codeAny_mono (F.run X.A X.stack s1 H1 {us,[]} us vs Q _ hr I.env0 S r P) λr' s' z=>?_);cases r' with
 | error e=>
   unfold CR at z;obtain⟨a',E,J,v,rfl,Y,fl,y,M',j,C2,c,p,B,U,m',ey,L,hn,hw⟩:=mW I M z;cases B;exact hw pins σ v j s' a' E J c p Y (x1.trans U) ((hE.ext x1).ext U) m' ey L hn fl
 | ok fl=>
   cases fl with
   |ret u=>exact I.after z
   |next=>exact False.elim z
   |brk=>exact False.elim z
   |cont=>exact False.elim z
set_option tactic.hygienic true in
def A3 {o:Nat}(hf:∀o,5000<=o->fa o=none)(F:fa (fT c)=some C)(y:m∉bT c/\bT c≠[])(I:RelM fa X.K μ1 H1 M1)(r1:Rep fa X.K μ1 H1 (.fn o) v)(h:fy M1 o=some c):∃b z fs,v=.ref b/\H1 b=some (.ins C z fs)/\fs.lookup m=none:=by
 unfold fy at h;split at h
 ·next ho=>
  split at h
  ·next M E B=>
   obtain⟨b,rfl,j⟩:=r1;rcases j with j|⟨_,j⟩
   ·rw[hf o ho] at j;cases j
   obtain⟨J,L,z,fs,rfl,u,H,hn,_⟩:=I.obj ho j B (by rw[Ro h];exact y.2)
   rw[SD] at h;obtain rfl:J=c:=Ro h;rw[F] at u;cases u;exact{b,z,fs,rfl,H,mT hn y.1}
  ·cases h
 ·cases h
set_option tactic.hygienic true in
def sJ (h:hR (gj c f call go gs Z M) k kx):∃o M1 ds j,go Z M=.ok (.fn o) M1/\fy M1 o=some c/\gs Z M1=.ok ds j/\hR (call f (.fn o::ds) j) k kx:=by
 unfold gj at h;cases u:go Z M with
 | ok x M1=>
   rw[u] at h;cases x with
   | fn o=>
     dsimp only at h;split at h
     ·next v=>
      cases es:gs Z M1 with
      |ok ds j=>rw[es] at h;exact⟨o,M1,ds,j,rfl,v,es,h⟩
      |err=>rw[es] at h;exact h.elim
      |bad=>rw[es] at h;exact h.elim
     ·exact h.elim
   |_=>exact h.elim
 |err=>rw[u] at h;exact h.elim
 |bad=>rw[u] at h;exact h.elim
def GQ (Y:et fa X.prog X.w X.K X.mg X.base n f (call f))(hr:bL (2*n+4) X.A)(P:X.ex=[])(hf:∀o,5000<=o->fa o=none)(hC:fa (fT c)=some C)(cl:je X.K C)(hm:∀ad,fa f=some ad->Meth X.K C m ad)(R:m∉bT c/\bT c≠[])(ho:DE fa X o go)
 (y:attributeBase o m X.env (eval o X.env)=eval o X.env) (z:(apos.endLine==pos.line)=true) :
 DX fa X (.Call (.Attribute o m apos) [] [] pos) (gj c f call go bE):=by
 rintro E s σ H Q I ⟨U,Z,M,S,hM,h⟩;obtain⟨o,M1,ds,M2,eg,ec,es,h⟩:=sJ h;cases es;obtain⟨pl,ht⟩:=nM (args:=[]) y rfl z;rcases Y with hb|⟨ad,fd,ps,h1,h2,h3,h4,F,_⟩
 ·rw[hb] at h;exact h.elim
 refine Ti (aV (ho E s σ H (λv B=>∃b J fs j,v=.ref b/\B b=some (.ins C J fs)/\fs.lookup m=none/\Ext U H j B/\RelM fa X.K j B M1/\Rep fa X.K j B (.fn o) v) I {U,Z,M,S,hM,?_}) λu s1 ⟨x,B,O,rx,b,J,fs,j,ex,ea,l,x1,L,r1⟩=>?_) ht
 ·rw[eg];intro v B j x1 L r1;obtain⟨b,J,fs,e1,e2,e3⟩:=A3 hf hC R L r1 ec;exact⟨b,J,fs,j,e1,e2,e3,x1,L,r1⟩
 subst ex;obtain rfl:u=Value.ref b:=rx;refine jx O ea cl (hm ad h1) l ?_;exact PySem.W.callWith_K0 O.kIn (hm ad h1).kp (EZ (vs:=[.ref b]) h3 h4 F hr P O (.cons rfl .nil) S x1 L (.one r1) h)
def JG (CO:et fa X.prog X.w X.K X.mg X.base n f (call f))(hr:bL (2*n+4) X.A)(Y:X.ex=[])(hf:∀o,5000<=o->fa o=none)(hC:fa (fT c)=some C)(cl:je X.K C)(hm:∀ad,fa f=some ad->Meth X.K C m ad)(hnm:m∉bT c/\bT c≠[])(ho:DE fa X o go)(hs:DA fa X (e::es) gs)
 (E:attributeBase o m X.env (eval o X.env)=eval o X.env) (O:methodCallForm (e::es).length (backTo pos (starEach (e::es) X.env)) (backToKw pos (keywordEach [] X.env))=true) (J:(apos.endLine==pos.line)=true)
 (he:starEach (e::es) X.env=(false,eval e X.env)::starEach es X.env) (hpl:(backTo pos (starEach es X.env)).any (·.1)=false) :
 DX fa X (.Call (.Attribute o m apos) (e::es) [] pos) (gj c f call go gs):=by
 rintro B s σ H Q I ⟨μ,Z,M,U,hM,h⟩;obtain⟨o,M1,ds,M2,eg,ec,es,h⟩:=sJ h;obtain⟨pl,ht⟩:=nM E O J;rcases CO with hb|⟨ad,fd,ps,h1,h2,h3,h4,F,_⟩
 ·rw[hb] at h;exact h.elim
 refine Ti (aV (ho B s σ H (λv z=>∃b P fs j,v=.ref b/\z b=some (.ins C P fs)/\fs.lookup m=none/\Ext μ H j z/\RelM fa X.K j z M1/\Rep fa X.K j z (.fn o) v) I {μ,Z,M,U,hM,?_}) λu s1 ⟨x,z,I1,rx,b,P,fs,j,ex,ea,l,x1,R,r1⟩=>?_) ht
 ·rw[eg];intro v z j x1 R r1;obtain⟨b,P,fs,e1,e2,e3⟩:=A3 hf hC hnm R r1 ec;exact⟨b,P,fs,j,e1,e2,e3,x1,R,r1⟩
 subst ex;obtain rfl:u=Value.ref b:=rx;refine jx I1 ea cl (hm ad h1) l ?_;refine SU I.ok.mod.kin (hm ad h1).kp (aV (hs pos B s1 σ z (λvs L=>∃y,Ext j z y L/\RelM fa X.K y L M2/\aH fa X.K y L ds vs) I1 {j,Z,M1,U.ext x1,R,by rw[es];exact λvs L y S m2 r2=>⟨y,S,m2,r2⟩}) λus s2 ⟨vs,L,I2,r,y,S,m2,r2⟩=>{I2.kIn,?_}) he hpl
 exact EZ (vs:=.ref b::vs) h3 h4 F hr Y I2 (.cons rfl r) U (x1.trans S) m2 (show aH fa X.K y L (.fn o::ds) (.ref b::vs) from{_,vs,rfl,Rep.ext S r1,r2}) h
end
noncomputable def gk (c f:Nat)(call:Call)(s:GA):GE:=λu M=>match s u M with
 | .ok j M=>(match call f (.fn (aM M.length)::j) (M++[[.int c]]) with
   |.ok .non h=>.ok (.fn (aM M.length)) h
   |.err x h=>.err x h
   |_=>.bad)
 |_=>.bad
section
variable{fa:Fa}{X:Cx}{e:Expr}{es:List Expr}{gs:GA}{pos p:Pos}{n c f:Nat}{x:Str}{call:Call}
def JH (CO:et fa X.prog X.w X.K X.mg X.base n f (call f))(hr:bL (2*n+4+1) X.A)(hex:X.ex=[])(hf:∀o,5000<=o->fa o=none)(hC:fa (fT c)=some C)(mk:∀ad,fa f=some ad->Mk X.K C ad)(hg:Gl X x)(hm:X.mg x=some (.ref C))(hs:DA fa X (e::es) gs)
 (hdb:(x==("__debug__":Str))=false) (he:starEach (e::es) X.env=(false,eval e X.env)::starEach es X.env) (hpl:(backTo pos (starEach es X.env)).any (·.1)=false) :
 DX fa X (.Call (.Name x p) (e::es) [] pos) (gk c f call gs):=by
 rintro L s σ H Q I ⟨μ,Z,M,hE,hM,h⟩;unfold gk at h;cases eg:gs Z M with
 |err=>rw[eg] at h;exact h.elim
 |bad=>rw[eg] at h;exact h.elim
 | ok U z=>
   rw[eg] at h;dsimp only at h;rcases CO with hb|⟨ad,fd,ps,h1,h2,h3,h4,F,_⟩
   ·rw[hb] at h;exact h.elim
   have K:=mk ad h1;refine wpAny_Call_Name_kw (fL I hg hm ?_ hdb);refine SU I.ok.mod.kin K.kp (aV (hs pos L s σ H (λR E=>∃j,Ext μ H j E/\RelM fa X.K j E z/\aH fa X.K j E U R) I {μ,Z,M,hE,hM,by rw[eg];exact λR E j x1 m1 r1=>⟨j,x1,m1,r1⟩}) λO s1 ⟨R,E,S,r,j,x1,m1,r1⟩=>{S.kIn,?_}) he hpl
   have na:=S.hok.fresh (SR _);have nd:=S.hok.fresh (Rj _);have ne:s1.heap.objs.size≠s1.heap.objs.size+1:=RX (Nat.lt_succ_self _);have I2:=Inv.made (C:=C) S;have X2:Ext j E (kj j z.length (s1.heap.objs.size+1)) (upd (upd E s1.heap.objs.size (.own (s1.heap.objs.size+1))) (s1.heap.objs.size+1) (.ins C s1.heap.objs.size [])):=Ext.objNew m1 na nd ne;have hob:(kj j z.length (s1.heap.objs.size+1)).ob (aM z.length)=some (s1.heap.objs.size+1):=by
    show(if aM z.length=aM z.length then some (s1.heap.objs.size+1) else _)=_;rw[if_pos rfl]
   have rs:Rep fa X.K (kj j z.length (s1.heap.objs.size+1)) (upd (upd E s1.heap.objs.size (.own (s1.heap.objs.size+1))) (s1.heap.objs.size+1) (.ins C s1.heap.objs.size [])) (.fn (aM z.length)) (.ref (s1.heap.objs.size+1)):={_,rfl,.inr {hf _ (SI _ _),hob}};have hl:(D.fn (aM z.length)::U).length=ps.length:=by
    by_cases hl:(D.fn (aM z.length)::U).length=ps.length
    ·exact hl
    ·rw[h4 _ _ hl] at h;exact h.elim
   have hsp:uH fa X.K ps.length (call f) (V.ref (s1.heap.objs.size+1)::R) (upd (upd E s1.heap.objs.size (.own (s1.heap.objs.size+1))) (s1.heap.objs.size+1) (.ins C s1.heap.objs.size [])) (λv H2=>v=.non/\Q (.ref (s1.heap.objs.size+1)) H2) λCv dx J=>∃y M' B C' c p,Cv=.ref C'/\Ext μ H B J/\RelM fa X.K B J M'/\y=.exc c p/\fa (d7 c)=some C'/\rX J c dx p/\XW fa X μ H y Z M':=by
    refine{by rw[<- hl,R1,R1,r1.length],kj j z.length (s1.heap.objs.size+1),z++[[.int c]],.fn (aM z.length)::U,m1.objNew na nd ne hC,{_,R,rfl,rs,r1.ext X2},?_}
    cases Y:call f (.fn (aM z.length)::U) (z++[[.int c]]) with
    |bad=>rw[Y] at h;exact h.elim
    |err y M2=>rw[Y] at h;exact λC dx c p J B y' m ex hc hn=>{_,M2,B,C,c,p,rfl,x1.trans (X2.trans y'),m,ex,hc,hn,h}
    | ok d M2=>
      rw[Y] at h;intro v H3 μ3 x3 hM3 r3;cases d with
      | non=>
        obtain rfl:v=.non:=r3;exact{rfl,h (.ref (s1.heap.objs.size+1)) H3 μ3 (x1.trans (X2.trans x3)) hM3 (rs.ext x3)}
      |_=>exact h.elim
   have r2:Vals (V.ref (s1.heap.objs.size+1)::R) (Value.ref (s1.heap.objs.size+1)::O):=.cons rfl r;have hl2:(Value.ref (s1.heap.objs.size+1)::O).length=ps.length:=by rw[<- r2.length,<- hl,R1,R1,r1.length]
   have hb:=h3 _ (Value.ref (s1.heap.objs.size+1)::O) I2.kIn (by simpa using hl2)
   rw[S1] at hb;refine wpAny_call (DN S.kIn K.makes K.init (Tw.mp K.fn) (codeAny_mono (F.run _ X.stack _ _ {Value.ref (s1.heap.objs.size+1)::O,[]} (Value.ref (s1.heap.objs.size+1)::O) _ _ _ (hr.make C O []) (I2.env0.make C O []) hb r2 hsp) λr' s' P=>?_));cases r' with
   | error e=>
     unfold CR at P;obtain⟨a',C',dx,J,rfl,I',fl,y,M',B,C2,c,p,Y,ye,m',ey,hc,hn,hw⟩:=mW I2 hex P;cases Y;exact hw L σ J B s' a' C' dx c p I' ye (hE.ext ye) m' ey hc hn fl
   | ok fl=>
     cases fl with
     | ret u=>
       obtain⟨v,J,I3,rv,ev,q3⟩:=I2.after P;subst ev;exact{rv,{V.ref (s1.heap.objs.size+1),J,I3,rfl,q3}}
     |next=>exact False.elim P
     |brk=>exact False.elim P
     |cont=>exact False.elim P
end
noncomputable def pS (c:GT)(b:GS):Nat->Env->Mem->Res Fl
 |0,_,_=>.bad
 | n+1,h,M=>(c h M).bind λk M=>if k then(b h M).bind λfl M=>(match fl with
   |.next h=>pS c b n h M
   |fl=>.ok fl M) else .ok (.next h) M
def uO (c:GT)(b:GS):GS:=λh M=>pS c b 100000 h M
section
variable{fa:Fa}{X:Cx}{c:Expr}{body:List Stmt}{gc:GT}{gb:GS}{pos:Pos}
set_option tactic.hygienic true in
def HK (hp:PassesOwn (model X.prog X.w) X.A X.env X.xe)(hc:DT fa X c gc)(hb:lC fa X body gb):DS fa X (.While c body [] pos) (uO gc gb):=
 d3 (Dk hp hc hb) λD' σ H ⟨L,Z,M,hE,hM,h⟩=>by
  refine{λm v y=>∃j u B,Ext L H j y/\bp fa X.K j y v u/\RelM fa X.K j y B/\af (pS gc gb m u B) (oJ fa X L H D'),{100000,L,Z,M,.refl,hE,hM,h},?_};rintro m σ2 H2 ⟨μ2,P,M2,R,E,U,q2⟩;cases m with
  |zero=>exact q2.elim
  | succ m=>
    obtain⟨k,M3,e3,q3⟩:=aO q2;refine{μ2,P,M2,E,U,?_};rw[e3];intro H3 O J I;have F:=E.ext J;cases k with
    |false=>exact q3 σ2 H3 O (R.trans J) F I
    | true=>
      obtain⟨fl,M4,e4,Y⟩:=aO q3;refine{λv y=>∃j u B,Ext L H j y/\bp fa X.K j y v u/\RelM fa X.K j y B/\af (pS gc gb m u B) (oJ fa X L H D'),λv y z=>{m,Nat.lt_succ_self m,z},O,P,M3,F,I,?_};rw[e4];cases fl with
      |next Q=>exact λσ6 H6 μ6 x6 S W=>{μ6,Q,M4,(R.trans J).trans x6,S,W,Y}
      |ret d6=>exact bq.ext Y (R.trans J)
      |exc x6 Q=>exact XW.ext Y (R.trans J)
end
theorem xx {K:Q9}:∀{ds:List D}{vs:List V}{us:List Rg}{ks:List Int},aH fa K μ H ds vs->Vals vs us->intsOf ds=some ks->ItemsAre (intKind prog w) ks us
 | [],vs,us,ks,h,r,e=>by
   obtain rfl:vs=[]:=h;cases r;cases e;exact .nil
 | .int i::ds,vs,us,ks,h,r,e=>by
   obtain⟨v,vr,rfl,p,q⟩:=h;cases r with
   | cons r1 r2=>
     obtain⟨k,ek,e⟩:=Ry.mp e;subst e;obtain rfl:v=.int i:=p;obtain⟨t,rfl⟩:=r1;exact .cons (by simp[intKind,Value.isInt]) (xx q r2 ek)
 |.non::_,_,_,_,_,_,e=>by cases e
 |.bl _::_,_,_,_,_,_,e=>by cases e
 |.str _::_,_,_,_,_,_,e=>by cases e
 |.tup _::_,_,_,_,_,_,e=>by cases e
 |.lst _::_,_,_,_,_,_,e=>by cases e
 |.frz _::_,_,_,_,_,_,e=>by cases e
 |.cell _::_,_,_,_,_,_,e=>by cases e
 |.fn _::_,_,_,_,_,_,e=>by cases e
 |.exc _ _::_,_,_,_,_,_,e=>by cases e
section
variable{fa:Fa}{X:Cx}{pins:List (Addr×Obj)}{σ:L2.St}{H:Hp}{s:Rl}{μ:Mu}
def J3 (I:Inv X pins σ H s)(r:Rep fa X.K μ H (.tup ds) (.ref b)):∃vs h o n,aH fa X.K μ H ds vs/\Vals vs h/\s.heap.get? b=some o/\o.cls=.type "tuple"/\o.data=.seq h.toArray n:=by
 obtain⟨a,vs,e,j,u⟩:=r;cases e;obtain⟨h,v,p,_⟩:=I.tuple j;obtain⟨o,h1,h2,n,h3⟩:=p;exact⟨vs,h,o,n,u,v,h1,h2,h3⟩
def II (I:Inv X pins σ H s)(r:Rep fa X.K μ H d (.ref b))(e:mV d=some ks):TK X.prog X.w s.heap ks b:=by
 cases d with
 | tup v=>
   obtain⟨y,h,o,n,j,u,h1,h2,h3⟩:=J3 I r;exact{o,h.toArray,n,h1,h2,h3,by simpa using xx j u e}
 |_=>cases e
end
theorem vq:∀{a b:List D}{x y:List Int},intsOf a=some x->intsOf b=some y->ik a b=decide (x=y)/\(x=y->a=b)
 |[],[],_,_,e,f=>by cases e;cases f;exact{rfl,λ_=>rfl}
 | [],.int j::b,_,_,e,f=>by
   obtain⟨_,_,rfl⟩:=Ry.mp f;cases e;exact{by simp[ik],λz=>by cases z}
 | .int i::a,[],_,_,e,f=>by
   obtain⟨_,_,rfl⟩:=Ry.mp e;cases f;exact{by simp[ik],λz=>by cases z}
 | .int i::a,.int j::b,_,_,e,f=>by
   obtain⟨x,e1,rfl⟩:=Ry.mp e;obtain⟨y,f1,rfl⟩:=Ry.mp f;obtain⟨h1,h2⟩:=vq e1 f1;refine{?_,λz=>?_}
   ·show(i==j&&ik a b)=_;rw[h1];by_cases z:i=j<;>simp[z]
   ·cases z;rw[h2 rfl]
 |.non::_,_,_,_,e,_=>by cases e
 |.bl _::_,_,_,_,e,_=>by cases e
 |.str _::_,_,_,_,e,_=>by cases e
 |.tup _::_,_,_,_,e,_=>by cases e
 |.lst _::_,_,_,_,e,_=>by cases e
 |.frz _::_,_,_,_,e,_=>by cases e
 |.cell _::_,_,_,_,e,_=>by cases e
 |.fn _::_,_,_,_,e,_=>by cases e
 |.exc _ _::_,_,_,_,e,_=>by cases e
 |_,.non::_,_,_,_,e=>by cases e
 |_,.bl _::_,_,_,_,e=>by cases e
 |_,.str _::_,_,_,_,e=>by cases e
 |_,.tup _::_,_,_,_,e=>by cases e
 |_,.lst _::_,_,_,_,e=>by cases e
 |_,.frz _::_,_,_,_,e=>by cases e
 |_,.cell _::_,_,_,_,e=>by cases e
 |_,.fn _::_,_,_,_,e=>by cases e
 |_,.exc _ _::_,_,_,_,e=>by cases e
def pC (e:mV d=some x):∃ds,d=.tup ds/\intsOf ds=some x:=by
 cases d with
 |tup ds=>exact⟨ds,rfl,e⟩
 |_=>cases e
def D3 (e:mV a=some x)(f:mV b=some y):cS a b=decide (x=y)/\(x=y->a=b):=by
 obtain⟨h,rfl,e⟩:=pC e;obtain⟨bs,rfl,f⟩:=pC f;obtain⟨h1,h2⟩:=vq e f;exact{h1,λz=>by rw[h2 z]}
structure KD (X:Cx) (c:Int) where
 K:Type
 dq:DecidableEq K
 knd:HeapKind X.prog X.w K
 dec:D->Option K
 hash:∀d,yQ c d=(dec d).map knd.hash
 is:∀{fa:Fa}{μ:Mu}{H:Hp}{pins:List (Addr×Obj)}{σ:L2.St}{s:Rl}{d:D}{b:Addr}{k:K},Inv X pins σ H s->Rep fa X.K μ H d (.ref b)->dec d=some k->knd.is s.heap k b
 beq:∀{a b:D}{x y:K},dec a=some x->dec b=some y->cS a b=decide (x=y)/\(x=y->a=b)
 ref:∀{fa:Fa}{μ:Mu}{H:Hp}{d:D}{v:V}{k:K},Rep fa X.K μ H d v->dec d=some k->∃b,v=.ref b
 room:Rm X->knd.room X.A.in1
 room0:Rm X->knd.room X.A
def KD.f (X:Cx):KD X 77 where
 K:=List Int
 dq:=inferInstance
 knd:=tupleKind (intKind X.prog X.w)
 dec:=mV
 hash:=λd=>by unfold yQ;rw[if_pos rfl];rfl
 is:=λI r e=>II I r e
 beq:=λe f=>D3 e f
 ref:=λr e=>by
  obtain⟨j,rfl,_⟩:=pC e;obtain⟨a,_,rfl,_⟩:=r;exact⟨a,rfl⟩
 room:=λh=>by show X.A.units+1<cLine;unfold Rm at h;omega
 room0:=λh=>by show X.A.units<cLine;unfold Rm at h;omega
instance kdq {X:Cx}{c:Int} (kd:KD X c):DecidableEq kd.K:=kd.dq
end LD
namespace LD
open PySem
def ob {α β:Type}{a:Option α}{f:α->Option β}{r:β}(h:a.bind f=some r):∃x,a=some x/\f x=some r:=R4.mp h
def oi {α:Type}{c:Prop}[Decidable c]{a:Option α}{r:α}(h:(if c then a else none)=some r):c/\a=some r:=by
 split at h
 ·exact{by assumption,h}
 ·cases h
section
variable{β:Type}{r:β}{e:Expr}{st:Stmt}
def od {c:Prop}[Decidable c]{f:c->Option β}(h:(if x:c then f x else none)=some r):∃x,f x=some r:=by
 by_cases z:c
 ·rw[dif_pos z] at h;exact⟨z,h⟩
 ·rw[dif_neg z] at h;cases h
local macro_rules|`(command|#check $n:ident $a*)=>do
 let m:=a[0]!.raw;let c:Lean.TSyntax `ident:=⟨a[1]!.raw⟩;let v:Array (Lean.TSyntax `ident):=(a.extract 3 a.size).map λx=>⟨x.raw⟩;let f:=Lean.mkIdentFrom c (c.getId++`elim)
 `(noncomputable def $n {β:Type} e:=λg=>if h:e.ctorIdx=$(⟨a[2]!.raw⟩) then @$f (λ_=>Option β) e h g else none
 theorem $(⟨m⟩) {β:Type}{e}{g}{y:β}(h:$n e g=some y):∃$[$v:ident]*,e=$c $v*∧g $v*=some y:=(od h).elim λz h=>@$f (λe=>∀z,@$f (λ_=>Option β) e z g=some y→∃$[$v:ident]*,e=$c $v*∧g $v*=some y) e z (λ$v* _ h=>by exact⟨$v,*,rfl,h⟩) z h)
#check LF ve Expr.UnaryOp 3 a b c
#check FC vg Expr.BoolOp 0 a b c
#check Pc A7 Expr.ListComp 8 a b c d
#check LH xm Expr.IfExp 5 a b c d
#check Qd xn Expr.Compare 15 a b c d
#check qp jQ Expr.Call 16 a b c d
#check Qc IC Expr.FormattedValue 17 a b c d
#check Qb Iz Expr.JoinedStr 18 a b
#check yA nK Expr.Constant 19 a b c
#check lP gL Expr.Attribute 20 a b c
#check vf kY Expr.Subscript 21 a b c
#check nName cZ Expr.Name 23 a b
#check rn gU Expr.Tuple 25 a b c
#check DM rq Expr.Slice 26 a b c d
#check yk nE Stmt.Assign 5 a b c
#check Kp wO Stmt.Raise 16 a b c
#check sTr Kn Stmt.Try 17 a b c d f
#check Kt wQ Stmt.Expr 24 a b
#check Qe ID Expr.BinOp 2 a b c d
#check Qa Iy Expr.List 24 a b
#check sRt Ko Stmt.Return 3 a b
#check sFr Ks Stmt.For 9 a b c d f
#check sIf Kr Stmt.If 12 a b c d
#check sPs Kq Stmt.Pass 25 a
variable{α:Type}{l:List α}
noncomputable def n0 (l:List α)(v:Option β):Option β:=if l.isEmpty=true then v else none
def eR {v:Option β}(h:n0 l v=some r):l=[]/\v=some r:=(oi h).elim λc h=>{List.isEmpty_iff.mp c,h}
noncomputable def nC (l:List α)(k:α->List α->Option β):Option β:=match l with
 |[]=>none
 |a::s=>k a s
def hU {k:α->List α->Option β}(h:nC l k=some r):∃a s,l=a::s/\k a s=some r:=by
 cases l with
 |nil=>cases h
 |cons a s=>exact⟨a,s,rfl,h⟩
def n1 (l:List α)(k:α->Option β):Option β:=nC l λa s=>n0 s (k a)
def eQ {k:α->Option β}(h:n1 l k=some r):∃a,l=[a]/\k a=some r:=by
 obtain⟨a,s,rfl,h⟩:=hU h;obtain⟨rfl,h⟩:=eR h;exact⟨a,rfl,h⟩
def n2 (l:List α)(k:α->α->Option β):Option β:=nC l λa s=>n1 s (k a)
def iT {k:α->α->Option β}(h:n2 l k=some r):∃a b,l=[a,b]/\k a b=some r:=by
 obtain⟨a,s,rfl,h⟩:=hU h;obtain⟨b,rfl,h⟩:=eQ h;exact⟨a,b,rfl,h⟩
def DL (e:Expr)(k:Str->Option β):Option β:=yA e λc _ _=>match c with
 |.str z=>k z
 |_=>none
def xl {k:Str->Option β}(h:DL e k=some r):∃z i p,e=.Constant (.str z) i p/\k z=some r:=by
 obtain⟨c,i,p,rfl,h⟩:=nK h;cases c with
 |str z=>exact⟨z,i,p,rfl,h⟩
 |_=>cases h
def FA (e:Expr)(v:Option β):Option β:=yA e λc _ _=>match c with
 |.bool b=>if b=true then v else none
 |_=>none
def DK {v:Option β}(h:FA e v=some r):∃i p,e=.Constant (.bool true) i p/\v=some r:=by
 obtain⟨c,i,p,rfl,h⟩:=nK h;cases c with
 |bool b=>obtain⟨rfl,k⟩:=oi h;exact⟨i,p,rfl,k⟩
 |_=>cases h
def LG (e:Expr)(k:Int->Option β):Option β:=yA e λc _ _=>match c with
 |.int z=>k z
 |_=>none
def IB {k:Int->Option β}(h:LG e k=some r):∃z i p,e=.Constant (.int z) i p/\k z=some r:=by
 obtain⟨c,i,p,rfl,h⟩:=nK h;cases c with
 |int z=>exact⟨z,i,p,rfl,h⟩
 |_=>cases h
def Pd (e:Expr)(k:Expr->Option β):Option β:=Qc e λa i s _=>if i=-1/\s.isNone=true then k a else none
def LI {k:Expr->Option β}(h:Pd e k=some r):∃a p,e=.FormattedValue a (-1) none p/\k a=some r:=by
 obtain⟨a,i,s,p,rfl,h⟩:=IC h;obtain⟨⟨rfl,c⟩,k⟩:=oi h;rw[Ss.mp c];exact⟨a,p,rfl,k⟩
noncomputable def nG (c:Comprehension)(k:Expr->Expr->List Expr->Option β):Option β:=if c.is_async=0 then k c.target c.iter c.ifs else none
def yz {c:Comprehension}{k:Expr->Expr->List Expr->Option β}(h:nG c k=some r):∃t i f,c={t,i,f,0}/\k t i f=some r:=by
 obtain⟨z,h⟩:=oi h;cases c;cases z;exact{_,_,_,rfl,h}
def ma (e:Expr)(k:Str->List Expr->Pos->Option β):Option β:=qp e λf es ks p=>nName f λx _=>n0 ks (k x es p)
def fz {k:Str->List Expr->Pos->Option β}(h:ma e k=some r):∃x q es p,e=.Call (.Name x q) es [] p/\k x es p=some r:=by
 obtain⟨f,es,ks,p,rfl,h⟩:=jQ h;obtain⟨x,q,rfl,h⟩:=cZ h;obtain⟨rfl,h⟩:=eR h;exact⟨x,q,es,p,rfl,h⟩
def LJ (e:Expr)(k:Expr->Str->Expr->Bool->Option β):Option β:=qp e λf es ks p=>lP f λa m q=>n0 ks (n1 es λd=>k a m d (q.endLine==p.line))
def A8 {k:Expr->Str->Expr->Bool->Option β}(h:LJ e k=some r):∃a m q d p,e=.Call (.Attribute a m q) [d] [] p/\k a m d (q.endLine==p.line)=some r:=by
 obtain⟨f,es,ks,p,rfl,h⟩:=jQ h;obtain⟨a,m,q,rfl,h⟩:=gL h;obtain⟨rfl,h⟩:=eR h;obtain⟨d,rfl,h⟩:=eQ h;exact⟨a,m,q,d,p,rfl,h⟩
def cb {a b:Option β}(h:a.or b=some r):a=some r\/b=some r:=by
 cases a with
 |none=>exact .inr h
 |some x=>exact .inl h
end
end LD
namespace LD
open PySem PySem.Spec PyProof.Rows L2
inductive En where
 |fn (i:Nat) (r:Bool)|fnD (i:Nat)|int (i:Int)|str (z:Str)|dct (fs:List (Str×Nat))|xc (k:Nat)|xi (k:Nat)|xk (k:Nat)|de|bl|cls (c f:Nat)
structure Gz (fa:Fa) (P:R0) (w:RS) (K:Q9) (mg:Str->Option Rg) (base:Heap) (T:List (Str×En)):Prop where
 fn:∀{x:Str}{i:Nat}{r:Bool},T.lookup x=some (.fn i r)->∀ad,fa i=some ad->mg x=some (.ref ad)
 fnD:∀{x:Str}{i:Nat},T.lookup x=some (.fnD i)->(∀ad,fa i=some ad->mg x=some (.ref ad))/\(fa (500+i)).isSome=true
 int:∀{x:Str}{i:Int},T.lookup x=some (.int i)->∃t,mg x=some (.int i t)
 str:∀{x:Str}{z:Str},T.lookup x=some (.str z)->∃t,mg x=some (.str z t)
 dct:∀{x:Str}{fs:List (Str×Nat)},T.lookup x=some (.dct fs)->∃ad kvs,mg x=some (.ref ad)/\fR K w.params ad kvs/\eJ fa kvs fs
 xc:∀{x:Str}{k:Nat},T.lookup x=some (.xc k)->∃C,mg x=some (.ref C)/\fa (d7 k)=some C/\PySem.W.excIn K C oB "ValueError.__new__"=true/\PySem.W.keepIn K (.ref C)=true
 xi:∀{x:Str}{k:Nat},T.lookup x=some (.xi k)->lB fa P w K mg base k x/\∃D,mg x=some (.ref D)/\fa (d7 k)=some D
 xk:∀{x:Str}{k:Nat},T.lookup x=some (.xk k)->∃D,mg x=some (.ref D)/\fa (d7 k)=some D
 de:∀{x:Str},T.lookup x=some .de->∃D,mg x=some (.ref D)/\fa 999=some D
 bl:∀{x:Str},T.lookup x=some .bl->mg x=none
 xcs:nq fa K
 ob:B4 fa K
 of:∀o,5000<=o->fa o=none
 od:fa (fT 77)=none/\fa (fT 78)=none
 cls:∀{x:Str}{c f:Nat},T.lookup x=some (.cls c f)->∃C,mg x=some (.ref C)/\fa (fT c)=some C/\∀ad,fa f=some ad->Mk K C ad
structure G where
 T:List (Str×En)
 tw:List (Str×Str×Nat×Nat)
 xf:List Str
 cel:List (Nat×Nat×Nat)
 txt:List (Nat×Nat×Nat)
 ms:List (Str×Nat×Nat)
 c:Call
 N:List Str
 sc:Scope
 lv:Nat
 oc:List Str:=[]
structure eC (fa:Fa) (n:Nat) (g:G) (X:Cx):Prop where
 N:X.N=g.N
 nd:g.N.Nodup
 sc:X.env.scope=g.sc
 T:Gz fa X.prog X.w X.K X.mg X.base g.T
 tw:∀q∈g.tw,Gy fa X.K X.mg q.1 q.2.1 q.2.2.1 q.2.2.2
 xf:∀f∈g.xf,xQ fa X.K f
 ms:∀q∈g.ms,qV fa X.K q.1 q.2.1 q.2.2
 fn:g.lv≠1->∀x,X.fn x=true
 oc:∀x∈g.oc,X.fn x=true
 calm:0<g.lv->X.calm=true
 C:0<g.lv->∀f,et fa X.prog X.w X.K X.mg X.base n f (g.c f)
 hr:0<g.lv->bL (2*n+4+1) X.A
 top:2<=g.lv->X.ex=[]/\X.stack=X.env::X.outer/\X.env.frame=some X.env.locals/\X.env.scope.kind=.function
 po:g.lv=2->PassesOwn (model X.prog X.w) X.A X.env X.xe
structure Rc where
 e:G->Expr->Option GE
 t:G->Expr->Option GT
 x:G->Expr->Option GE
 w:G->Expr->Expr->Option GW
 s:G->Stmt->Option GS
abbrev dB:=Rc->G->Expr->Option GE
abbrev Nf:=Rc->G->Expr->Option GT
abbrev tq:=Rc->G->Expr->Expr->Option GW
abbrev ml:=Rc->G->Stmt->Option GS
structure j4 (fa:Fa) (n:Nat) (R:Rc):Prop where
 e:∀{g:G}{X:Cx}{a:Expr}{ga:GE},eC fa n g X->R.e g a=some ga->DE fa X a ga
 t:∀{g:G}{X:Cx}{a:Expr}{ga:GT},eC fa n g X->R.t g a=some ga->DT fa X a ga
 x:∀{g:G}{X:Cx}{a:Expr}{ga:GE},eC fa n g X->R.x g a=some ga->DX fa X a ga
 w:∀{g:G}{X:Cx}{t a:Expr}{ga:GW},eC fa n g X->R.w g t a=some ga->DI fa X t a ga
 s:∀{g:G}{X:Cx}{a:Stmt}{ga:GS},eC fa n g X->R.s g a=some ga->DS fa X a ga
def SE (r:dB):Prop:=∀{fa:Fa}{n:Nat}{R:Rc},j4 fa n R->∀{g:G}{X:Cx},eC fa n g X->∀{a:Expr}{h:GE},r R g a=some h->DE fa X a h
def ST (r:Nf):Prop:=∀{fa:Fa}{n:Nat}{R:Rc},j4 fa n R->∀{g:G}{X:Cx},eC fa n g X->∀{a:Expr}{h:GT},r R g a=some h->DT fa X a h
def SX (r:dB):Prop:=∀{fa:Fa}{n:Nat}{R:Rc},j4 fa n R->∀{g:G}{X:Cx},eC fa n g X->∀{a:Expr}{h:GE},r R g a=some h->DX fa X a h
def SW (r:tq):Prop:=∀{fa:Fa}{n:Nat}{R:Rc},j4 fa n R->∀{g:G}{X:Cx},eC fa n g X->∀{t a:Expr}{h:GW},r R g t a=some h->DI fa X t a h
def SS (r:ml):Prop:=∀{fa:Fa}{n:Nat}{R:Rc},j4 fa n R->∀{g:G}{X:Cx},eC fa n g X->∀{a:Stmt}{h:GS},r R g a=some h->DS fa X a h
structure Rs where
 e:List dB
 t:List Nf
 x:List dB
 w:List tq
 s:List ml
noncomputable def It (rs:Rs):Nat->Rc
 |0=>{λ_ _=>none,λ_ _=>none,λ_ _=>none,λ_ _ _=>none,λ_ _=>none}
 |n+1=>{λg a=>rs.e.findSome? λr=>r (It rs n) g a,λg a=>rs.t.findSome? λr=>r (It rs n) g a,λg a=>rs.x.findSome? λr=>r (It rs n) g a,λg t a=>rs.w.findSome? λr=>r (It rs n) g t a,λg a=>rs.s.findSome? λr=>r (It rs n) g a}
noncomputable def AllP {h:Type}(p:h->Prop):List h->Prop
 |[]=>True
 |a::l=>p a/\AllP p l
noncomputable def AllP.mem {j:Type}{p:j->Prop}:∀{l:List j},AllP p l->∀a∈l,p a
 |_::_,h,a,m=>(Rv.mp m).elim (λe=>e ▸ h.1) (AllP.mem h.2 a)
structure EO (rs:Rs):Prop where
 e:AllP SE rs.e
 t:AllP ST rs.t
 x:AllP SX rs.x
 w:AllP SW rs.w
 s:AllP SS rs.s
theorem GH (h:EO rs):∀k,j4 fa n (It rs k)
 |0=>{(λ_ z=>nomatch z),(λ_ z=>nomatch z),(λ_ z=>nomatch z),(λ_ z=>nomatch z),(λ_ z=>nomatch z)}
 | k+1=>by
   have j:=GH (n:=n) (fa:=fa) h k;refine{λo z=>?_,λo z=>?_,λo z=>?_,λo z=>?_,λo z=>?_}
   ·obtain⟨r,m,e⟩:=SA z;exact h.e.mem r m j o e
   ·obtain⟨r,m,e⟩:=SA z;exact h.t.mem r m j o e
   ·obtain⟨r,m,e⟩:=SA z;exact h.x.mem r m j o e
   ·obtain⟨r,m,e⟩:=SA z;exact h.w.mem r m j o e
   ·obtain⟨r,m,e⟩:=SA z;exact h.s.mem r m j o e
noncomputable def Pr:Str:="__debug__"
def i6 (g:G)(x:Str):Bool:=g.sc.names.lookup x==some .globalImplicit&&!(x==Pr)
def vr (g:G)(x:Str):Option Nat:=if (g.sc.names.lookup x==some .local||g.sc.names.lookup x==some .cell||g.sc.names.lookup x==some .free)&&!(x==Pr)&&!(x==("__classdict__":Str)) then g.N.findIdx? (·==x) else none
section
variable{fa:Fa}{n:Nat}{g:G}{X:Cx}{R:Rc}(o:eC fa n g X)
include o
theorem cJ (h:i6 g x=true):Gl X x/\(x==("__debug__":Str))=false:=by
 unfold i6 at h;rw[Ra,S5] at h;exact{by show X.env.scope.names.lookup x=_;rw[o.sc];exact eq_of_beq h.1,h.2}
theorem tW (h:g.N.findIdx? (·==x)=some i):X.N[i]?=some x:=by
 obtain⟨j,h1,_⟩:=S0.mp h;rw[o.N,RE j,eq_of_beq h1]
theorem E6 (h:vr g x=some i):X.N[i]?=some x/\wb X.env.scope x/\(x==("__debug__":Str))=false/\(x==("__classdict__":Str))=false:=by
 obtain⟨c,h⟩:=oi h;simp only[Ra,S4,S5] at c;refine{tW o h,?_,c.1.2,c.2};rw[o.sc];rcases c.1.1 with(z|z)|z
 ·exact .inl (eq_of_beq z)
 ·exact .inr (.inl (eq_of_beq z))
 ·exact .inr (.inr (eq_of_beq z))
omit o
theorem eC.rm (o:eC fa n g X)(h:0<g.lv):Rm X:=HM (o.hr h)
end
noncomputable def cA (f:Expr->Option GE):List Expr->Option GA
 |[]=>some bE
 |a::r=>if notStar a=true then(f a).bind λx=>(cA f r).bind λy=>some (ia x y) else none
theorem ig (hf:∀{a:Expr}{j:GE},f a=some j->DE fa X a j):∀{es:List Expr}{u:GA},cA f es=some u->DA fa X es u/\es.all notStar=true
 |[],_,h=>by cases h;exact⟨MO,rfl⟩
 | a::r,_,h=>by
   obtain⟨c,h⟩:=oi h;obtain⟨x,v,h⟩:=ob h;obtain⟨y,z,h⟩:=ob h;cases h;obtain⟨h1,h2⟩:=ig hf z;exact{Jm (hf v) h1 (bC c),by rw[RY,c,h2];rfl}
noncomputable def v7 (f:Expr->Option GE)(k:GE->GE->GE):List Expr->Option GE
 |[]=>none
 |[a]=>f a
 |a::b::r=>(f a).bind λx=>(v7 f k (b::r)).bind λy=>some (k x y)
noncomputable def xM (hf:∀{a:Expr}{j:GE},f a=some j->DE fa X a j):∀{es:List Expr}{ge:GE},v7 f dY es=some ge->DE fa X (.BoolOp .And es pos) ge
 |[a],_,h=>Gi (hf h)
 | a::b::r,_,h=>by
   obtain⟨x,u,h⟩:=ob h;obtain⟨y,v,h⟩:=ob h;cases h;exact ON (hf u) (xM hf v)
noncomputable def B1 (hf:∀{a:Expr}{j:GE},f a=some j->DE fa X a j):∀{es:List Expr}{ge:GE},v7 f Pq es=some ge->DE fa X (.BoolOp .Or es pos) ge
 |[a],_,h=>Gi (hf h)
 | a::b::r,_,h=>by
   obtain⟨x,u,h⟩:=ob h;obtain⟨y,v,h⟩:=ob h;cases h;exact QG (hf u) (B1 hf v)
noncomputable def uv (f:Expr->Option GT)(k:GT->GT->GT):List Expr->Option GT
 |[]=>none
 |[a]=>f a
 |a::b::r=>(f a).bind λx=>(uv f k (b::r)).bind λy=>some (k x y)
noncomputable def wD (hf:∀{a:Expr}{j:GT},f a=some j->DT fa X a j):∀{es:List Expr}{ge:GT},uv f dX es=some ge->DW fa X (.BoolOp .And es pos) ge
 |[a],_,h=>I0 (hf h)
 | a::b::r,_,h=>by
   obtain⟨x,u,h⟩:=ob h;obtain⟨y,v,h⟩:=ob h;cases h;exact Mx (hf u) (wD hf v)
noncomputable def Ad (hf:∀{a:Expr}{j:GT},f a=some j->DT fa X a j):∀{es:List Expr}{ge:GT},uv f cV es=some ge->DW fa X (.BoolOp .Or es pos) ge
 |[a],_,h=>Mw (hf h)
 | a::b::r,_,h=>by
   obtain⟨x,u,h⟩:=ob h;obtain⟨y,v,h⟩:=ob h;cases h;exact Oq (hf u) (Ad hf v)
def E9:dB:=λ_ g e=>nName e λx _=>((vr g x).bind λi=>some (aa i)).or (if i6 g x=true then(g.T.lookup x).bind fun
 |.int i=>some (gC (.int i))
 |.str i=>some (gC (.str i))
 |_=>none else none)
def Cm:SE E9:=by
 intro fa n R y g X o a u h;replace h:=cZ h;obtain⟨x,p,rfl,h⟩:=h;rcases cb h with h|h
 ·obtain⟨i,e,h⟩:=ob h;cases h;obtain⟨a,b,c,d⟩:=E6 o e;exact Ox a b c d
 ·obtain⟨c,h⟩:=oi h;obtain⟨j,hd⟩:=cJ o c;obtain⟨t,e,h⟩:=ob h;cases t with
  |int i=>cases h;exact HS j (o.T.int e) hd
  |str i=>cases h;obtain⟨t,e⟩:=o.T.str e;exact jF (v:=.str _) (iE j e ⟨t,rfl⟩ hd) λ_ _=>rfl
  |_=>cases h
def zQ:dB:=λ_ _ e=>yA e fun
 |.int i,_,_=>some (gC (.int i))
 |.bool i,_,_=>some (gC (.bl i))
 |.str i,_,_=>some (gC (.str i))
 |.none,_,_=>some (gC .non)
 |_,_,_=>none
def zP:SE zQ:=by
 intro fa n R u g X o a j h;replace h:=nK h;obtain⟨c,i,p,rfl,h⟩:=h;cases c with
 |int i=>cases h;exact OH
 |bool i=>cases h;exact QH
 |str i=>cases h;exact Oz
 |none=>cases h;exact OD
 |_=>cases h
noncomputable def G.cl (g:G)(p:Pos):Bool:=g.cel.contains (p.line,p.col,p.endCol)
def G.tx (g:G)(p:Pos):Bool:=g.txt.contains (p.line,p.col,p.endCol)
noncomputable def Gs:Operator->Option tu
 |.Add=>some .add|.Sub=>some .sub|.Mult=>some .mul|.FloorDiv=>some .fdiv|.Mod=>some .mod|.Pow=>some .pow|_=>none
def EI (h:Gs q=some b):q=binOp b:=by cases q<;>cases h<;>rfl
noncomputable def gz:CmpOp->j7
 |.Eq=>.eq|.NotEq=>.ne|.Lt=>.lt|.LtE=>.le|.Gt=>.gt|.GtE=>.ge|.Is=>.isN|.IsNot=>.notN|.In=>.isin|.NotIn=>.notin
def c6 (q:CmpOp):eW (gz q)=q:=by cases q<;>rfl
def JT:dB:=λR g e=>(Qe e λa q b p=>(Gs q).bind λq=>(R.e g a).bind λx=>(R.e g b).bind λy=>some (ak (g.cl p) q x y)).or
 ((LF e λq a _=>match q with
   |.USub=>(R.e g a).bind λx=>some (dg x)
   |.Not=>(R.e g a).bind λx=>some (Mm x)
   |_=>none).or
 ((FC e λq h _=>match q with
   |.And=>v7 (R.e g) dY h
   |.Or=>v7 (R.e g) Pq h).or
 ((LH e λc a b _=>(R.t g c).bind λt=>(R.e g a).bind λx=>(R.e g b).bind λy=>some (fh t x y)).or
 ((rn e λh _ _=>(cA (R.e g) h).bind λs=>some (bt s)).or (Qa e λh p=>(cA (R.e g) h).bind λs=>some (aG (g.cl p) s))))))
def G3:SE JT:=by
 intro fa n R j g X o a F h;replace h:=cb h;rcases h with h|h
 ·obtain⟨a,q,b,p,rfl,h⟩:=ID h;obtain⟨q,B,h⟩:=ob h;obtain⟨x,u,h⟩:=ob h;obtain⟨y,v,h⟩:=ob h;cases h;rw[EI B];exact OM _ _ (j.e o u) (j.e o v)
 replace h:=cb h;rcases h with h|h
 ·obtain⟨q,a,p,rfl,h⟩:=ve h;cases q with
  |USub=>obtain⟨x,u,h⟩:=ob h;cases h;exact OE (j.e o u)
  |Not=>obtain⟨x,u,h⟩:=ob h;cases h;exact OC (j.e o u)
  |_=>cases h
 replace h:=cb h;rcases h with h|h
 ·obtain⟨q,z,p,rfl,h⟩:=vg h;cases q with
  |And=>exact xM (j.e o) h
  |Or=>exact B1 (j.e o) h
 replace h:=cb h;rcases h with h|h
 ·obtain⟨c,a,b,p,rfl,h⟩:=xm h;obtain⟨t,E,h⟩:=ob h;obtain⟨x,u,h⟩:=ob h;obtain⟨y,v,h⟩:=ob h;cases h;exact OG (j.t o E) (j.e o u) (j.e o v)
 replace h:=cb h;rcases h with h|h
 ·obtain⟨z,k,p,rfl,h⟩:=gU h;obtain⟨s,hs,h⟩:=ob h;cases h;exact Oy (ig (j.e o) hs).1
 ·obtain⟨z,p,rfl,h⟩:=Iy h;obtain⟨s,hs,h⟩:=ob h;cases h;exact OF _ (ig (j.e o) hs).1
def Ex (g:G)(x:Str):Option (List (Str×Nat)):=if i6 g x=true then(match g.T.lookup x with|some (.dct fs)=>some fs|_=>none) else none
set_option tactic.hygienic true in
def vI (o:eC fa n g X)(h:Ex g x=some fs):(∃ad j,X.mg x=some (.ref ad)/\fR X.K X.w.params ad j/\eJ fa j fs)/\Gl X x/\(x==("__debug__":Str))=false:=by
 obtain⟨c,h⟩:=oi h;split at h
 ·next e=>cases h;exact{o.T.dct e,cJ o c}
 ·cases h
def EG (R:Rc)(g:G)(e:Expr):Option GE:=Qd e λa h bs _=>
 (n2 h λq r=>n2 bs λb c=>if 0<g.lv/\behindInMarks r c=false then(R.e g a).bind λy=>(R.e g b).bind λz=>(R.e g c).bind λu=>some (jU (gz q) (gz r) y z u) else none).or
 (n1 h λq=>n1 bs λb=>(if gz q=.notin then nName b λx _=>(Ex g x).bind λfs=>(R.e g a).bind λy=>some (h9 fs y) else none).or
  (if 0<g.lv/\behindInMarks q b=false then(R.e g a).bind λy=>(R.e g b).bind λz=>some (aE (gz q) y z) else none))
def J0:dB:=EG
def vc (h:gz q=.notin):q=.NotIn:=(c6 q).symm.trans (congrArg eW h)
def G9:SE J0:=by
 intro fa n R j g X o a F h;replace h:=xn h;obtain⟨a,H,bs,p,rfl,h⟩:=h;replace h:=cb h;rcases h with h|h
 ·replace h:=iT h;obtain⟨q,r,rfl,h⟩:=h;obtain⟨b,d,rfl,h⟩:=iT h;obtain⟨c,h⟩:=oi h;replace h:=ob h;obtain⟨y,v,h⟩:=h;replace h:=ob h;obtain⟨z,B,h⟩:=h;replace h:=ob h;obtain⟨u,E,h⟩:=h;cases h;have:=OL (o.rm c.1) (gz q) (gz r) (j.e o v) (j.e o B) (j.e o E) (by rw[c6,c6];exact c.2) (pos:=p)
  rw[c6,c6] at this;exact this
 replace h:=eQ h;obtain⟨q,rfl,h⟩:=h;replace h:=eQ h;obtain⟨b,rfl,h⟩:=h;replace h:=cb h;rcases h with h|h
 ·replace h:=oi h;obtain⟨c,h⟩:=h;obtain⟨x,_,rfl,h⟩:=cZ h;obtain⟨fs,e,h⟩:=ob h;obtain⟨y,v,h⟩:=ob h;cases h;obtain⟨d,e1,e2⟩:=vI o e;rw[vc c];exact HU d e1 e2 (j.e o v) rfl
 ·obtain⟨c,h⟩:=oi h;obtain⟨y,v,h⟩:=ob h;obtain⟨z,B,h⟩:=ob h;cases h;have:=OK (o.rm c.1) (gz q) (j.e o v) (j.e o B) (by rw[c6];exact c.2) (pos:=p)
  rw[c6] at this;exact this
noncomputable def PB:Expr->Bool
 |.Compare ..=>false
 |.BoolOp ..=>false
 |.UnaryOp ..=>false
 |.IfExp ..=>false
 |_=>true
def vT:Nf:=λR g e=>((EG R g e).bind λx=>some (au x)).or
 ((FC e λq h _=>match q with
   |.And=>uv (R.t g) dX h
   |.Or=>uv (R.t g) cV h).or
 ((LF e λq a _=>match q with
   |.Not=>(R.t g a).bind λx=>some (bo x)
   |_=>none).or (if PB e=true then(R.e g e).bind λx=>some (au x) else none)))
def GX (j:j4 fa n R)(o:eC fa n g X)(h:EG R g a=some ga):DT fa X a (au ga):=by
 replace h:=xn h;obtain⟨a,F,bs,p,rfl,h⟩:=h;replace h:=cb h;rcases h with h|h
 ·replace h:=iT h;obtain⟨q,r,rfl,h⟩:=h;obtain⟨b,d,rfl,h⟩:=iT h;obtain⟨c,h⟩:=oi h;replace h:=ob h;obtain⟨y,v,h⟩:=h;replace h:=ob h;obtain⟨z,B,h⟩:=h;replace h:=ob h;obtain⟨u,E,h⟩:=h;cases h;have:=MA (o.rm c.1) (gz q) (gz r) (j.e o v) (j.e o B) (j.e o E) (by rw[c6,c6];exact c.2) (pos:=p)
  rw[c6,c6] at this;exact this
 replace h:=eQ h;obtain⟨q,rfl,h⟩:=h;replace h:=eQ h;obtain⟨b,rfl,h⟩:=h;replace h:=cb h;rcases h with h|h
 ·replace h:=oi h;obtain⟨c,h⟩:=h;obtain⟨x,_,rfl,h⟩:=cZ h;obtain⟨fs,e,h⟩:=ob h;obtain⟨y,v,h⟩:=ob h;cases h;obtain⟨d,e1,e2⟩:=vI o e;rw[vc c];exact HY d e1 e2 (j.e o v) rfl
 ·obtain⟨c,h⟩:=oi h;obtain⟨y,v,h⟩:=ob h;obtain⟨z,B,h⟩:=ob h;cases h;have:=Mz (o.rm c.1) (gz q) (j.e o v) (j.e o B) (by rw[c6];exact c.2) (pos:=p)
  rw[c6] at this;exact this
def Nt:ST vT:=by
 intro fa n R u g X o a y h;replace h:=cb h;rcases h with h|h
 ·obtain⟨x,j,h⟩:=ob h;cases h;exact GX u o j
 replace h:=cb h;rcases h with h|h
 ·obtain⟨q,v,p,rfl,h⟩:=vg h;cases q with
  |And=>exact PW.pt (wD (u.t o) h)
  |Or=>exact PW.pt (Ad (u.t o) h)
 replace h:=cb h;rcases h with h|h
 ·obtain⟨q,a,p,rfl,h⟩:=ve h;cases q with
  |Not=>obtain⟨x,j,h⟩:=ob h;cases h;exact My (u.t o j)
  |_=>cases h
 ·obtain⟨c,h⟩:=oi h;obtain⟨x,j,h⟩:=ob h;cases h;exact Er (u.e o j) λ_=>by cases a<;>first|rfl|cases c
noncomputable def qo:Expr->Bool
 |.Slice ..=>false
 |_=>true
def uX (h:qo b=true):lr b:=by
 intro x i;cases b<;>first|rfl|cases h
noncomputable def cO (f:Expr->Option GE):Option Expr->Option GE
 |none=>some (gC .non)
 |some a=>f a
def ub (hf:∀{a:Expr}{j:GE},f a=some j->DE fa X a j)(h:cO f q=some ge):DO fa X q q.isSome ge:=by
 cases q with
 |none=>cases h;exact Jd
 |some a=>exact Jc (hf h)
noncomputable def JN:UnaryOp->Bool
 |.USub=>true
 |_=>false
def GY (h:JN q=true):q=.USub:=by cases q<;>first|rfl|cases h
def JQ:dB:=λR g e=>vf e λa b _=>nName a λx _=>(Ex g x).bind λfs=>if qo b=true then(R.e g b).bind λy=>some (lW fs y) else none
def G0:SE JQ:=by
 intro fa n R u g X o a v h;replace h:=kY h;obtain⟨a,b,p,rfl,h⟩:=h;replace h:=cZ h;obtain⟨x,q,rfl,h⟩:=h;obtain⟨fs,e,h⟩:=ob h;obtain⟨c,h⟩:=oi h;obtain⟨y,j,h⟩:=ob h;cases h;obtain⟨d,e1,e2⟩:=vI o e;exact HV d e1 e2 (u.e o j) (uX c)
def JW:dB:=λR g e=>vf e λa b p=>(DM b λlo h st _=>if st.isNone=true/\g.tx p=false then(R.e g a).bind λx=>(cO (R.e g) lo).bind λy=>(cO (R.e g) h).bind λz=>some (bQ (g.cl p) lo.isSome h.isSome x y z) else none).or
 (if qo b=true then(R.e g a).bind λx=>(R.e g b).bind λy=>some (aD x y) else none)
def G6:SE JW:=by
 intro fa n R j g X o a E h;replace h:=kY h;obtain⟨a,b,p,rfl,h⟩:=h;replace h:=cb h;rcases h with h|h
 ·obtain⟨lo,F,st,p2,rfl,h⟩:=rq h;obtain⟨⟨c,_⟩,h⟩:=oi h;replace h:=ob h;obtain⟨x,u,h⟩:=h;replace h:=ob h;obtain⟨y,v,h⟩:=h;replace h:=ob h;obtain⟨z,B,h⟩:=h;cases h;rw[Ss.mp c];exact OA _ _ _ (j.e o u) (ub (j.e o) v) (ub (j.e o) B)
 ·obtain⟨c,h⟩:=oi h;obtain⟨x,u,h⟩:=ob h;obtain⟨y,v,h⟩:=ob h;cases h;exact OI (j.e o u) (j.e o v) (uX c)
def E8:dB:=λR g e=>vf e λa b p=>DM b λlo h st _=>if st.isNone=true/\g.tx p=true then(R.e g a).bind λx=>(cO (R.e g) lo).bind λy=>(cO (R.e g) h).bind λz=>some (nR lo.isSome h.isSome x y z) else none
def Ck:SE E8:=by
 intro fa n R j g X o a E h;replace h:=kY h;obtain⟨a,b,p,rfl,h⟩:=h;replace h:=rq h;obtain⟨lo,F,st,p2,rfl,h⟩:=h;obtain⟨⟨c,_⟩,h⟩:=oi h;replace h:=ob h;obtain⟨x,u,h⟩:=h;replace h:=ob h;obtain⟨y,v,h⟩:=h;replace h:=ob h;obtain⟨z,B,h⟩:=h;cases h;rw[Ss.mp c];exact Kw _ _ (j.e o u) (ub (j.e o) v) (ub (j.e o) B)
def JR:dB:=λR g e=>vf e λa b p=>DM b λlo h st _=>st.bind λs=>LF s λq c _=>LG c λz=>if lo.isNone=true/\h.isNone=true/\JN q=true/\z=1 then(R.e g a).bind λx=>some (pF (g.cl p) x) else none
def G1:SE JR:=by
 intro fa n R E g X o a F h;replace h:=kY h;obtain⟨a,b,p,rfl,h⟩:=h;replace h:=rq h;obtain⟨lo,H,st,p2,rfl,h⟩:=h;obtain⟨s,rfl,h⟩:=ob h;replace h:=ve h;obtain⟨q,c,_,rfl,h⟩:=h;replace h:=IB h;obtain⟨z,_,_,rfl,h⟩:=h;obtain⟨⟨j,u,v,y⟩,k⟩:=oi h;rw[Ss.mp j,Ss.mp u,GY v,y];obtain⟨x,B,k⟩:=ob k;cases k;exact NO _ (E.e o B)
noncomputable def lx (g:G)(x:Str):Option Nat:=if (g.sc.names.lookup x==some .local||(g.sc.names.lookup x==some .cell&&(g.lv != 1||g.oc.contains x)))=true then g.N.findIdx? (·==x) else none
noncomputable def FD (g:G):List Expr->Option (List Nat)
 |[]=>some []
 |e::r=>nName e λx _=>(lx g x).bind λi=>(FD g r).bind λl=>some (i::l)
def cG (g:G)(e:Expr):Option gr:=(nName e λx _=>(lx g x).bind λi=>some (.one i)).or (rn e λh _ _=>if 0<g.lv then((FD g h).bind λl=>some (.tup l)).or (n2 h λa b=>nName a λx _=>rn b λbs _ _=>(lx g x).bind λi=>(FD g bs).bind λl=>some (.two i l)) else none)
section
variable{fa:Fa}{n:Nat}{g:G}{X:Cx}{R:Rc}(o:eC fa n g X)
include o
theorem yH (h:lx g x=some i):X.N[i]?=some x/\L2.Loc X.env.scope x/\(X.fn x=true\/X.env.scope.names.lookup x=some .local):=by
 obtain⟨c,h⟩:=oi h;rw[S4,Ra] at c;refine{tW o h,?_,?_}
 ·unfold L2.Loc;rw[o.sc];rcases c with z|z
  ·exact .inl (eq_of_beq z)
  ·exact .inr (eq_of_beq z.1)
 ·rcases c with z|z
  ·right;rw[o.sc];exact eq_of_beq z
  ·rcases Bool.or_eq_true_iff.mp z.2 with q|q
   ·exact .inl (o.fn (by simpa using q) x)
   ·exact .inl (o.oc x (List.contains_iff_mem.mp q))
theorem vj:∀{es:List Expr}{l:List Nat},FD g es=some l->jC X l es
 |[],_,h=>by cases h;exact .nil
 | e::r,_,h=>by
   replace h:=cZ h;obtain⟨x,p,rfl,h⟩:=h;obtain⟨i,j,h⟩:=ob h;obtain⟨l,hl,h⟩:=ob h;cases h;obtain⟨a,b,c⟩:=yH o j;exact .cons a b c (vj hl)
theorem l4 (h:cG g t=some tt):PG X t (gT fa X.K tt):=by
 replace h:=cb h;rcases h with h|h
 ·obtain⟨x,p,rfl,h⟩:=cZ h;replace h:=ob h;obtain⟨i,j,h⟩:=h;cases h;obtain⟨a,b,c⟩:=yH o j;exact Jj (o.N ▸ o.nd) a b c
 ·replace h:=gU h;obtain⟨v,k,p,rfl,h⟩:=h;replace h:=oi h;obtain⟨c,h⟩:=h;replace h:=cb h;rcases h with h|h
  ·obtain⟨l,hl,h⟩:=ob h;cases h;exact MM (o.calm c) (o.N ▸ o.nd) (vj o hl)
  ·obtain⟨a,b,rfl,h⟩:=iT h;replace h:=cZ h;obtain⟨x,y,rfl,h⟩:=h;replace h:=gU h;obtain⟨bs,k2,p2,rfl,h⟩:=h;obtain⟨i,j,h⟩:=ob h;obtain⟨l,hl,h⟩:=ob h;cases h;obtain⟨e1,e2,u⟩:=yH o j;exact MK (o.calm c) (o.N ▸ o.nd) e1 e2 u (vj o hl)
end
def cB (nm:Str)(R:Rc)(g:G)(e:Expr):Option (List Expr×GA):=ma e λx h _=>nC h λa h=>if x=nm/\i6 g x=true/\(match g.T.lookup x with|some .bl=>true|_=>false)=true/\0<g.lv then(cA (R.e g) (a::h)).bind λj=>some (a::h,j) else none
def n5 {g:G}(h:(match g.T.lookup x with|some .bl=>true|_=>false)=true):g.T.lookup x=some .bl:=by
 split at h
 ·assumption
 ·cases h
def qM (B:j4 fa n R)(o:eC fa n g X)(h:cB nm R g e=some (as,u)):∃p pos a es,as=a::es/\e=.Call (.Name nm p) (a::es) [] pos/\Gl X nm/\X.mg nm=none/\0<g.lv/\DA fa X (a::es) u/\notStar a=true/\es.all notStar=true:=by
 replace h:=fz h;obtain⟨x,q,es,p,rfl,h⟩:=h;replace h:=hU h;obtain⟨a,es,rfl,h⟩:=h;replace h:=oi h;obtain⟨⟨rfl,v,y,z⟩,h⟩:=h;obtain⟨u,j,h⟩:=ob h;cases h;obtain⟨d,ns⟩:=ig (B.e o) j;rw[RY,Ra] at ns;exact{_,_,_,_,rfl,rfl,(cJ o v).1,o.T.bl (n5 y),z,d,ns.1,ns.2}
def JU:dB:=λR g e=>(cB "len" R g e).bind λq=>some (aI .len q.2)
def G4:SE JU:=λ{fa n R} v {g X} o {a z} h=>by
 obtain⟨⟨y,B⟩,u,h⟩:=ob h;cases h;obtain⟨_,_,_,_,_,rfl,j,hm,_,d,n1,n2⟩:=qM v o u;exact ze .len Oj j hm PySem.boot_len d `d `d (bC n1) (cu n2)
def J1:dB:=λR g e=>(cB "all" R g e).bind λq=>some (aI .all q.2)
def Ha:SE J1:=λ{fa n R} v {g X} o {a z} h=>by
 obtain⟨⟨y,B⟩,u,h⟩:=ob h;cases h;obtain⟨_,_,_,_,_,rfl,j,hm,lv,d,n1,n2⟩:=qM v o u;exact ze .all (Ol (o.calm lv)) j hm `k d `d `d (bC n1) (cu n2)
def JP:dB:=λR g e=>(cB "sum" R g e).bind λq=>some (aI .sum q.2)
def GZ:SE JP:=λ{fa n R} v {g X} o {a z} h=>by
 obtain⟨⟨y,B⟩,u,h⟩:=ob h;cases h;obtain⟨_,_,_,_,_,rfl,j,hm,lv,d,n1,n2⟩:=qM v o u;exact ze .sum (Oi (o.calm lv)) j hm `k d `d `d (bC n1) (cu n2)
def zK:dB:=λR g e=>(cB "tuple" R g e).bind λq=>some (aI .tuple q.2)
def zJ:SE zK:=λ{fa n R} v {g X} o {a z} h=>by
 obtain⟨⟨y,B⟩,u,h⟩:=ob h;cases h;obtain⟨_,_,_,_,_,rfl,j,hm,_,d,n1,n2⟩:=qM v o u;exact BI .tuple IS j hm `k d `d `d (bC n1) (cu n2)
def Fc:dB:=λR g e=>(cB "list" R g e).bind λq=>some (aI (.list (g.cl e.pos)) q.2)
def Co:SE Fc:=λ{fa n R} v {g X} o {a z} h=>by
 obtain⟨⟨y,B⟩,u,h⟩:=ob h;cases h;obtain⟨_,_,_,_,_,rfl,j,hm,_,d,n1,n2⟩:=qM v o u;exact BI (.list _) (Mo _) j hm `k d `d `d (bC n1) (cu n2)
def cR (R:Rc)(g:G)(nm:Str)(e:Expr):Option (Expr×GE):=ma e λx h _=>n1 h λa=>if x=nm/\i6 g x=true/\(match g.T.lookup x with|some .bl=>true|_=>false)=true/\0<g.lv/\notStar a=true then(R.e g a).bind λy=>some (a,y) else none
def ua (E:j4 fa n R)(o:eC fa n g X)(h:cR R g nm e=some (a,ga)):∃p pos,e=.Call (.Name nm p) [a] [] pos/\Gl X nm/\X.mg nm=none/\0<g.lv/\DE fa X a ga/\starEach [a] X.env=[(false,eval a X.env)]:=by
 replace h:=fz h;obtain⟨x,q,F,p,rfl,h⟩:=h;replace h:=eQ h;obtain⟨a,rfl,h⟩:=h;replace h:=oi h;obtain⟨⟨rfl,j,u,v,z⟩,h⟩:=h;obtain⟨y,B,h⟩:=ob h;cases h;exact{_,_,rfl,(cJ o j).1,o.T.bl (n5 u),v,E.e o B,bC z}
def zM:dB:=λR g e=>ma e λx h p=>n1 h λb=>if x="list"/\i6 g x=true/\(match g.T.lookup x with|some .bl=>true|_=>false)=true then(cR R g "range" b).bind λq=>some (mY (g.cl p) q.2) else none
def zL:SE zM:=λ{fa n R} B {g X} o {a F} h=>by
 replace h:=fz h;obtain⟨x,q,E,p,rfl,h⟩:=h;replace h:=eQ h;obtain⟨b,rfl,h⟩:=h;replace h:=oi h;obtain⟨⟨rfl,j,u⟩,h⟩:=h;obtain⟨⟨b,y⟩,z,h⟩:=ob h;cases h;obtain⟨_,_,rfl,v,hm,lv,d,hs⟩:=ua B o z;exact HP _ (o.calm lv) d (cJ o j).1 (o.T.bl (n5 u)) v hm hs rfl
def JV:dB:=λR g e=>(cR R g "int" e).bind λq=>some (pG q.2)
def G5:SE JV:=λ{fa n R} v {g X} o {a z} h=>by
 obtain⟨⟨b,y⟩,u,h⟩:=ob h;cases h;obtain⟨_,_,rfl,j,hm,lv,d,hs⟩:=ua v o u;exact Kx d j hm hs
def Cu (x:Str):Option Ty:=if x="int" then some .int else if x="bool" then some .bool else if x="str" then some .str else if x="tuple" then some .tuple else if x="list" then some .list else none
def Hb (h:Cu x=some t):bootBuiltins x=some (.type (tyName t))/\(∀c,t≠.own c)/\x≠"__name__"/\(x==("__debug__":Str))=false:=by
 unfold Cu at h;split at h
 ·subst x;cases h;exact{`k,(λ_ z=>nomatch z),`d,`d}
 split at h
 ·subst x;cases h;exact{`k,(λ_ z=>nomatch z),`d,`d}
 split at h
 ·subst x;cases h;exact{`k,(λ_ z=>nomatch z),`d,`d}
 split at h
 ·subst x;cases h;exact{`k,(λ_ z=>nomatch z),`d,`d}
 split at h
 ·subst x;cases h;exact{`k,(λ_ z=>nomatch z),`d,`d}
 ·cases h
def cI (R:Rc)(g:G)(e:Expr):Option (Str×GE):=ma e λy h _=>n2 h λa b=>nName b λx _=>if y="isinstance"/\i6 g y=true/\(match g.T.lookup y with|some .bl=>true|_=>false)=true/\i6 g x=true/\notStar a=true then(R.e g a).bind λz=>some (x,z) else none
def Gp (F:j4 fa n R)(o:eC fa n g X)(h:cI R g e=some (x,ga)):∃p q a pos,e=.Call (.Name "isinstance" p) [a,.Name x q] [] pos/\Gl X "isinstance"/\X.mg "isinstance"=none/\Gl X x/\(x==("__debug__":Str))=false/\DE fa X a ga/\starEach [a,.Name x q] X.env=(false,eval a X.env)::starEach [.Name x q] X.env:=by
 replace h:=fz h;obtain⟨y,q,H,p,rfl,h⟩:=h;replace h:=iT h;obtain⟨a,b,rfl,h⟩:=h;replace h:=cZ h;obtain⟨x,I,rfl,h⟩:=h;replace h:=oi h;obtain⟨⟨rfl,u,v,j,B⟩,h⟩:=h;obtain⟨z,E,h⟩:=ob h;cases h;exact{_,_,_,_,rfl,(cJ o u).1,o.T.bl (n5 v),(cJ o j).1,(cJ o j).2,F.e o E,bC B}
def Fd:dB:=λR g e=>(cI R g e).bind λq=>if (match g.T.lookup q.1 with|some .bl=>true|_=>false)=true then(Cu q.1).bind λt=>some (bH t q.2) else none
def Cp:SE Fd:=λ{fa n R} E {g X} o {a F} h=>by
 obtain⟨⟨x,z⟩,v,h⟩:=ob h;obtain⟨c,h⟩:=oi h;obtain⟨t,y,h⟩:=ob h;cases h;obtain⟨_,_,_,_,rfl,u,hm,B,hd,d,hs⟩:=Gp E o v;obtain⟨b1,b2,b3,j⟩:=Hb y;exact MR t b2 d u hm `k B (o.T.bl (n5 c)) b1 b3 j hs
def zO:dB:=λR g e=>(cI R g e).bind λq=>match g.T.lookup q.1 with
 |some (.xc k)=>some (bZ (some k) q.2)
 |some (.xi k)=>some (bZ (some k) q.2)
 |some (.xk k)=>some (bZ (some k) q.2)
 |some .de=>some (bZ none q.2)
 |some .bl=>if q.1="ValueError" then some (bZ none q.2) else none
 |_=>none
set_option tactic.hygienic true in
def zN:SE zO:=λ{fa n R} y {g X} o {a B} h=>by
 obtain⟨⟨x,z⟩,v,k⟩:=ob h;clear h;obtain⟨_,_,_,_,rfl,j,hm,u,hd,d,hs⟩:=Gp y o v;split at k
 ·next e=>cases k;obtain⟨C,h1,h2,_⟩:=o.T.xc e;exact rg _ o.T.xcs ⟨C,h1,h2⟩ d j hm u hd hs
 ·next e=>cases k;exact rg _ o.T.xcs (o.T.xi e).2 d j hm u hd hs
 ·next e=>cases k;exact rg _ o.T.xcs (o.T.xk e) d j hm u hd hs
 ·next e=>cases k;exact HR o.T.xcs (o.T.de e) d j hm u hd hs
 ·next e=>
  obtain⟨c,h⟩:=oi k;cases h;subst c;exact HQ o.T.xcs d j hm u (o.T.bl e) hs
 ·cases k
def Ff:dB:=λR g e=>ma e λx h _=>nC h λa h=>if 0<g.lv then(match vr g x with
 |some i=>(cA (R.e g) (a::h)).bind λj=>some (mZ i g.c j)
 | none=>if i6 g x = true then(match g.T.lookup x with
   |some (.fn i _)=>(cA (R.e g) (a::h)).bind λj=>some (aj i g.c j)
   |_=>none) else none) else none
set_option tactic.hygienic true in
def Cr:SE Ff:=λ{fa n R} u {g X} o {a E} h=>by
 replace h:=fz h;obtain⟨x,q,z,p,rfl,h⟩:=h;replace h:=hU h;obtain⟨a,z,rfl,h⟩:=h
 ·obtain⟨lv,h⟩:=oi h;split at h
  ·next e=>
   obtain⟨B,j,h⟩:=ob h;cases h;obtain⟨d,ns⟩:=ig (u.e o) j;rw[RY,Ra] at ns;obtain⟨a,b,v,y⟩:=E6 o e;exact Jo (o.C lv) ((o.hr lv).mono (SR _)) a b d v y (bC ns.1) (cu ns.2)
  ·obtain⟨c,h⟩:=oi h;split at h
   ·next e=>
    obtain⟨B,j,h⟩:=ob h;cases h;obtain⟨d,ns⟩:=ig (u.e o) j;rw[RY,Ra] at ns;exact MT (o.C lv _) ((o.hr lv).mono (SR _)) (cJ o c).1 (o.T.fn e) d (cJ o c).2 (bC ns.1) (cu ns.2)
   ·cases h
def EY:dB:=λR g e=>(ma e λx h _=>nC h λa h=>if 2<=g.lv/\i6 g x=true then(match g.T.lookup x with
 |some (.fn i true)=>(cA (R.e g) (a::h)).bind λj=>some (cy i g.c j)
 |_=>none) else none).or (LH e λc a b _=>(R.x g a).bind λx=>(R.x g b).bind λy=>(R.t g c).bind λt=>some (kr t x y))
set_option tactic.hygienic true in
def B8:SX EY:=λ{fa n R} j {g X} o {a F} h=>by
 replace h:=cb h;rcases h with h|h
 ·obtain⟨x,q,v,p,rfl,h⟩:=fz h;obtain⟨a,v,rfl,h⟩:=hU h;replace h:=oi h;obtain⟨⟨lv,c⟩,h⟩:=h;split at h
  ·next e=>
   replace h:=ob h;obtain⟨H,u,h⟩:=h;cases h;obtain⟨d,ns⟩:=ig (j.e o) u;rw[RY,Ra] at ns;exact x_call _ (o.C `a) ((o.hr `a).mono (SR _)) (o.top lv).1 (cJ o c).1 (o.T.fn e) d (cJ o c).2 ns.1 ns.2
  ·cases h
 ·obtain⟨c,a,b,p,rfl,h⟩:=xm h;obtain⟨x,B,h⟩:=ob h;obtain⟨y,E,h⟩:=ob h;obtain⟨t,z,h⟩:=ob h;cases h;exact Nr (j.t o z) (j.x o B) (j.x o E)
def Kv (h:bL (n+4) A):bL 2 A:=h.mono `a
noncomputable def gR:Expr->Bool
 |.Call _ [] _ _=>false
 |_=>true
def dm (h:gR a=true):attributeBase a m env w=w:=by
 cases a with
 | Call f j ks p=>
   cases j with
   |nil=>cases h
   |cons _ _=>cases f<;>rfl
 |_=>rfl
def JZ:dB:=λR g e=>LJ e λa m d q=>FA d (if gR a=true/\q=true then(if m="count" then(R.e g a).bind λx=>some (yX x) else if m="index" then(R.e g a).bind λx=>some (yW x) else none) else none)
set_option tactic.hygienic true in
def G8:SE JZ:=λ{fa n R} y {g X} o {a B} h=>by
 replace h:=A8 h;obtain⟨a,m,q,d,p,rfl,h⟩:=h;replace h:=DK h;obtain⟨_,_,rfl,h⟩:=h;replace h:=oi h;obtain⟨⟨u,v⟩,h⟩:=h;split at h
 ·next z=>subst z;obtain⟨x,j,h⟩:=ob h;cases h;exact KG (y.e o j) (dm u) v
 ·obtain⟨rfl,k⟩:=oi h;obtain⟨x,j,k⟩:=ob k;cases k;exact Ky (y.e o j) (dm u) v
def Fg:dB:=λR g e=>lP e λa f _=>if gR a=true/\f∈g.xf then(R.e g a).bind λx=>some (jV f x) else none
def Cs:SE Fg:=λ{fa n R} y {g X} o {a z} h=>by
 replace h:=gL h;obtain⟨a,f,p,rfl,h⟩:=h;obtain⟨⟨j,u⟩,h⟩:=oi h;obtain⟨x,v,h⟩:=ob h;cases h;exact HW _ o.T.xcs (o.xf _ u) (y.e o v) (dm j)
def O0:dB:=λR g e=>Qb e λl _=>nC l λa l=>n2 l λb c=>DL a λz=>Pd b λb=>DL c λy=>(R.e g b).bind λx=>some (Gd z y x)
def JY:SE O0:=λ{fa n R} u {g X} o {a v} h=>by
 replace h:=Iz h;obtain⟨l,p,rfl,h⟩:=h;replace h:=hU h;obtain⟨a,l,rfl,h⟩:=h;replace h:=iT h;obtain⟨b,c,rfl,h⟩:=h;replace h:=xl h;obtain⟨z,_,_,rfl,h⟩:=h;replace h:=LI h;obtain⟨b,_,rfl,h⟩:=h;replace h:=xl h;obtain⟨y,_,_,rfl,h⟩:=h;obtain⟨x,j,h⟩:=ob h;cases h;exact PZ (u.e o j)
def E4:tq:=λR g _ e=>(cR R g "range" e).bind λq=>some (eI q.2)
def Cg:SW E4:=λ{z n R} v {g X} o {t a B} h=>by
 obtain⟨⟨b,y⟩,u,h⟩:=ob h;cases h;obtain⟨_,_,rfl,j,hm,_,d,hs⟩:=ua v o u;exact Jh d j hm hs
def E5:tq:=λR g t e=>rn t λ_ _ _=>(cR R g "enumerate" e).bind λq=>some (lV q.2)
def Ci:SW E5:=λ{z n R} v {g X} o {t a B} h=>by
 replace h:=gU h;obtain⟨_,_,_,rfl,h⟩:=h;obtain⟨⟨b,y⟩,u,h⟩:=ob h;cases h;obtain⟨_,_,rfl,j,hm,_,d,hs⟩:=ua v o u;exact Ji d j hm hs
def cN (R:Rc)(g:G)(nm:Str)(e:Expr):Option (List Expr):=ma e λx h _=>if x=nm/\i6 g x=true/\(match g.T.lookup x with|some .bl=>true|_=>false)=true/\0<g.lv/\h.all notStar=true then some h else none
def Gn (o:eC fa n g X)(h:cN R g nm e=some es):∃p pos,e=.Call (.Name nm p) es [] pos/\Gl X nm/\X.mg nm=none/\es.all notStar=true:=by
 replace h:=fz h;obtain⟨x,q,es,p,rfl,h⟩:=h;replace h:=oi h;obtain⟨⟨rfl,j,u,y,v⟩,h⟩:=h;cases h;exact{_,_,rfl,(cJ o j).1,o.T.bl (n5 u),v}
noncomputable def lF:∀{es:List Expr},es.all notStar=true->starEach es env=es.map λa=>(false,eval a env)
 |[],_=>rfl
 | a::es,h=>by
   rw[RY,Ra] at h;rw[bC h.1,lF h.2];rfl
def E2:tq:=λR g t e=>rn t λ_ _ _=>(cN R g "zip" e).bind λh=>n2 h λa b=>(R.e g a).bind λx=>(R.e g b).bind λy=>some (nQ x y)
def Ce:SW E2:=λ{F n R} j {g X} o {t a H} h=>by
 replace h:=gU h;obtain⟨_,_,_,rfl,h⟩:=h;obtain⟨E,v,k⟩:=ob h;clear h;obtain⟨_,_,rfl,u,hm,ns⟩:=Gn o v;replace k:=iT k;obtain⟨a,b,rfl,k⟩:=k;obtain⟨x,z,k⟩:=ob k;obtain⟨y,B,k⟩:=ob k;cases k;exact Jf (j.e o z) (j.e o B) u hm (lF ns) (lF (Tp.mp (RY ▸ ns)).2)
def E1:tq:=λR g t e=>rn t λ_ _ _=>(cN R g "zip" e).bind λh=>nC h λa h=>n2 h λb c=>(R.e g a).bind λx=>(R.e g b).bind λy=>(R.e g c).bind λz=>some (nP x y z)
def Cd:SW E1:=λ{J n R} j {g X} o {t a L} h=>by
 replace h:=gU h;obtain⟨_,_,_,rfl,h⟩:=h;obtain⟨u,B,k⟩:=ob h;clear h;obtain⟨_,_,rfl,v,hm,ns⟩:=Gn o B;replace k:=hU k;obtain⟨a,u,rfl,k⟩:=k;replace k:=iT k;obtain⟨b,c,rfl,k⟩:=k;obtain⟨x,E,k⟩:=ob k;obtain⟨y,F,k⟩:=ob k;obtain⟨z,H,k⟩:=ob k;cases k;have n2:=(Tp.mp (RY ▸ ns)).2;have I:=(Tp.mp (RY ▸ n2)).2;exact Je (j.e o E) (j.e o F) (j.e o H) v hm (lF ns) (lF n2) (lF I)
def JM:tq:=λR g _ e=>if g.tx e.pos=false then(R.e g e).bind λx=>some (dE x) else none
def GU:SW JM:=λ{v n R} u {g X} o {t a y} h=>by
 obtain⟨_,h⟩:=oi h;obtain⟨x,j,h⟩:=ob h;cases h;exact MJ (u.e o j)
def E3:tq:=λR g _ e=>if g.tx e.pos=true then(R.e g e).bind λx=>some (qC x) else none
def Cf:SW E3:=λ{v n R} u {g X} o {t a y} h=>by
 obtain⟨_,h⟩:=oi h;obtain⟨x,j,h⟩:=ob h;cases h;exact Jg (u.e o j)
noncomputable def mP:Expr->Bool
 |.Set ..=>false
 |_=>true
def Bx (h:mP a=true)(x:Rg):foldedSetIterable a env x=pure x:=by
 cases a<;>first|rfl|cases h
noncomputable def Dr:Expr->List Str
 |.Name x _=>[x]
 |.Tuple h _ _=>(h.map fun|.Name x _=>[x]|.Tuple bs _ _=>bs.filterMap (fun|.Name x _=>some x|_=>none)|_=>[]).flatten
 |_=>[]
noncomputable def vV (g:G)(own:List Str):List Str:=g.N.map λx=>if own.contains x then x++("%":Str) else x
noncomputable def Dd (h sc:Scope):Scope:={h with names:=h.names.map λ(n,k)=>if (k==.free&&sc.kind==.function&&sc.names.lookup n==some .cell) then(n,.cell) else(n,k)}
def G.inC (g:G)(own:List Str)(h:Scope):G:={g with N:=own++vV g own,sc:=Dd h g.sc,lv:=1,oc:=(h.names.filter λy=>h.names.lookup y.1==some .cell).map (·.1)}
def AY (g:G)(own:List Str)(h:Scope):Prop:=0<g.lv/\h.kind=.function/\rP (vV g own) g.N g.sc h=true/\(own++vV g own).Nodup
instance (g:G) (own:List Str) (scope:Scope):Decidable (AY g own scope):=by unfold AY;infer_instance
def Gj (o:eC fa n g X)(c:AY g own scope):ix X own (vV g own) scope/\∀cl C j s H,eC fa n (g.inC own scope) (i7 X own (vV g own) scope cl C j s H):=by
 obtain⟨h,u,v,B⟩:=c;refine{BO u o.sc o.N v,λcl C j s H=>{rfl,B,?_,o.T,o.tw,o.xf,o.ms,(λz=>absurd rfl z),(λx E=>by obtain⟨y,F,e⟩:=RI.mp E;subst e;exact(Te.mp F).2),λ_=>o.calm h,λ_=>o.C h,λ_=>o.hr h,(λz=>absurd (show 2<=1 from z) `d),(λz=>nomatch z)}}
 show relabel scope X.env=Dd scope g.sc;unfold relabel Dd Env.kindOf;rw[o.sc]
structure Nn (fa:Fa) (X:Cx) (e:Expr) (k:Nat) (t:gr) (gw:GW) (gb:GB):Prop where
 ex:∃elt tg iter ifs rest scope pos own bn W body,e=.ListComp elt ({tg,iter,ifs,0}::rest) scope pos/\k=own.length/\ix X own bn scope/\DI fa X tg iter gw/\Block fa X (LA fa X.K) own bn scope tg t W body gb/\qU X elt tg iter ifs rest scope pos body/\(∀i∈W,i∉slots t)/\(∀i∈slots t++W,i<own.length)/\∀x,foldedSetIterable iter X.env x=pure x
def cC (R:Rc)(g:G)(e:Expr):Option (Nat×gr×GW×GB):=Pc e λB y h _=>(n1 y λc=>nG c λz j v=>let own:=Dr z
 if AY g own h/\mP j=true then(R.w g z j).bind λw=>(cG (g.inC own h) z).bind λt=>(R.e (g.inC own h) B).bind λx=>if (slots t).all (· < own.length)=true then(n0 v (some (own.length,t,w,b8 x))).or (n1 v λc=>(R.t (g.inC own h) c).bind λq=>some (own.length,t,w,qD q (b8 x))) else none else none).or
 (n2 y λc d=>nG c λz j v=>nG d λt2 F E=>let own:=Dr z++Dr t2
  n0 v (n0 E (if AY g own h/\mP j=true/\mP F=true then(R.w g z j).bind λw=>(cG (g.inC own h) z).bind λt=>(R.w (g.inC own h) t2 F).bind λw2=>(cG (g.inC own h) t2).bind λu=>(R.e (g.inC own h) B).bind λx=>if (slots t++slots u).all (· < own.length)=true/\(slots u).all (λi=>!(slots t).contains i)=true then some (own.length,t,w,vw u w2 (b8 x)) else none else none)))
def Gq (z:j4 fa n R)(o:eC fa n g X)(h:cC R g e=some (k,t,gw,gb)):Nn fa X e k t gw gb:=by
 replace h:=A7 h;obtain⟨B,gens,E,p,rfl,h⟩:=h;replace h:=cb h;rcases h with h|h
 ·replace h:=eQ h;obtain⟨c,rfl,h⟩:=h;replace h:=yz h;obtain⟨tg,y,Y,rfl,h⟩:=h;replace h:=oi h;obtain⟨⟨c,J⟩,h⟩:=h;replace h:=ob h;obtain⟨w,M,h⟩:=h;replace h:=ob h;obtain⟨t,L,h⟩:=h;replace h:=ob h;obtain⟨x,P,h⟩:=h;replace h:=oi h;obtain⟨I,h⟩:=h;obtain⟨S,O⟩:=Gj o c;replace h:=cb h;rcases h with h|h
  ·obtain⟨rfl,h⟩:=eR h;cases h;exact{_,_,_,_,_,_,_,_,_,[],(λa env=>eval B env >>= λx=>call (.builtin "list.append") [.ref a,x] >>= λ_=>pure ()),rfl,rfl,S,z.w o M,{λcl C v s H=>l4 (O cl C v s H) L,λcl C v s H a=>vJ (z.e (O cl C v s H) P)},(λF a env=>Cz _ _ _ [] _ _ (.ref F) (.ref a) env),(λi h=>nomatch h),(by simpa using oR I),Bx J}
  ·obtain⟨d,rfl,h⟩:=eQ h;obtain⟨q,hq,h⟩:=ob h;cases h;exact{_,_,_,_,_,_,_,_,_,[],(λa env=>PySem.isTrue d env (eval d env) >>= λok=>if ok=true then(eval B env >>= λx=>call (.builtin "list.append") [.ref a,x] >>= λ_=>pure ()) else pure ()),rfl,rfl,S,z.w o M,{λcl C v s H=>l4 (O cl C v s H) L,λcl C v s H a=>Ow LA.stab (z.t (O cl C v s H) hq) (vJ (z.e (O cl C v s H) P))},(λF a env=>turn_if _ _ _ _ _ _ (.ref F) (.ref a) env),(λi h=>nomatch h),(by simpa using oR I),Bx J}
 ·replace h:=iT h;obtain⟨c,d,rfl,h⟩:=h;replace h:=yz h;obtain⟨tg,y,Y,rfl,h⟩:=h;replace h:=yz h;obtain⟨t2,Q,ifs2,rfl,h⟩:=h;replace h:=eR h;obtain⟨rfl,h⟩:=h;replace h:=eR h;obtain⟨rfl,h⟩:=h;obtain⟨⟨c,J,U⟩,h⟩:=oi h;obtain⟨w,M,h⟩:=ob h;obtain⟨t,L,h⟩:=ob h;obtain⟨w2,W,h⟩:=ob h;obtain⟨u,hu,h⟩:=ob h;obtain⟨x,P,h⟩:=ob h;obtain⟨⟨I,c3⟩,h⟩:=oi h;cases h;obtain⟨S,O⟩:=Gj o c;exact{_,_,_,_,_,_,_,_,_,slots u,(λa env=>eval Q env >>= λx=>standAt Q.pos >>= λ_=>foldedSetIterable Q env x >>= λx=>holding [x] (pyIter x) >>= λj=>runOwn (.compStart (.ListComp B [{tg,y,[],0},{t2,Q,[],0}] E p) 1 j (.ref a) env) env >>= λ_=>pure ()),rfl,rfl,S,z.w o M,{λcl C v s H=>l4 (O cl C v s H) L,λcl C v s H a=>MN rfl (o.calm c.1) (z.w (O cl C v s H) W) (l4 (O cl C v s H) hu) (z.e (O cl C v s H) P) (Bx U)},(λF a env=>Cw _ _ _ _ _ _ _ (.ref F) (.ref a) env),Az c3,oR I,Bx J}
def Fe:dB:=λR g e=>if 0<g.lv then(cC R g e).bind λq=>some (cf (g.cl e.pos) q.1 q.2.1 q.2.2.1 q.2.2.2) else none
def Cq:SE Fe:=λ{J n R} H {g X} o {a L} h=>by
 obtain⟨lv,h⟩:=oi h;obtain⟨⟨k,t,w,b⟩,z,h⟩:=ob h;cases h;obtain⟨v,M,u,E,rest,j,F,own,I,W,body,rfl,rfl,S,y,B,T,h1,h2,h3⟩:=(Gq H o z).ex;exact MS _ S (o.calm lv) y B T h1 h2 h3
noncomputable def qL (f:Stmt->Option GS):List Stmt->Option GS
 |[]=>some az
 |a::r=>(f a).bind λx=>(qL f r).bind λy=>some (aK x y)
noncomputable def i8 (hf:∀{a:Stmt}{j:GS},f a=some j->DS fa X a j):∀{ss:List Stmt}{u:GS},qL f ss=some u->lC fa X ss u
 |[],_,h=>by cases h;exact I9
 | a::r,_,h=>by
   obtain⟨x,v,h⟩:=ob h;obtain⟨y,z,h⟩:=ob h;cases h;exact Es (hf v) (i8 hf z)
noncomputable def nJ:Expr->Bool
 |.ListComp ..=>false
 |.SetComp ..=>false
 |.DictComp ..=>false
 |_=>true
def xh (h:nJ a=true):swapsWith a t l env=pure false:=by
 cases a<;>first|rfl|cases h
def M9 (g:G)(h a:Expr):Bool:=match a with
 |.ListComp ..=>(match h with|.Name y _=>g.sc.names.lookup y==some .cell|_=>false)
 |.Tuple ..=>(match h with|.Name ..=>true|_=>false)
 |.SetComp ..=>false
 |.DictComp ..=>(match h with|.Name y _=>g.sc.names.lookup y==some .cell|_=>false)
 |_=>true
set_option tactic.hygienic true in
def M8 (o:eC fa n g X)(c:M9 g tg a=true)(j:cG g tg=some t):swapsWithSole [tg] a l X.env=pure false/\swappedStores [tg] a X.env=pure none/\(assignEach [tg] X.env).map (·.2)=[assign tg X.env]:=by
 refine{?_,?_,?_}
 ·cases a<;>first|rfl|cases c|skip
  all_goals cases tg<;>first|cases c|skip
  all_goals
  next y p=>
  have e:=eq_of_beq c;have hk:(X.env.kindOf y==some .local)=false:=by unfold Env.kindOf;rw[o.sc,e];rfl
  show(pure (X.env.blockKind==.function&&X.env.kindOf y==some .local&&_&&_):Sem Bool)=pure false;rw[hk,Bool.and_false,Bool.false_and,Bool.false_and]
 ·replace j:=cb j;rcases j with h|h
  ·obtain⟨_,_,rfl,_⟩:=cZ h;cases a<;>first|rfl|cases c
  ·obtain⟨_,_,_,rfl,_⟩:=gU h;cases a<;>first|rfl|cases c
 ·replace j:=cb j;rcases j with h|h
  ·obtain⟨_,_,rfl,_⟩:=cZ h;rfl
  ·obtain⟨_,_,_,rfl,_⟩:=gU h;rfl
def JC:ml:=λR g st=>yk st λts a _=>n1 ts λh=>if M9 g h a=true then(cG g h).bind λt=>((R.x g a).bind λx=>some (eP t x)).or ((R.e g a).bind λx=>some (aA t x)) else none
def GO:SS JC:=λ{y n R} u {g X} o {a z} h=>by
 replace h:=nE h;obtain⟨ts,a,p,rfl,h⟩:=h;replace h:=eQ h;obtain⟨B,rfl,h⟩:=h;obtain⟨c,h⟩:=oi h;obtain⟨t,j,h⟩:=ob h;obtain⟨a1,a2,a3⟩:=M8 o c j;replace h:=cb h;rcases h with h|h
 ·obtain⟨x,e,h⟩:=ob h;cases h;exact Kk (u.x o e) (l4 o j) a1 a2 a3
 ·obtain⟨x,v,h⟩:=ob h;cases h;exact MF (u.e o v) (l4 o j) a1 a2 a3
def EV:ml:=λR g st=>yk st λts d _=>n1 ts λt=>nName t λy v=>Pc d λu j h p=>if 2<=g.lv/\g.sc.names.lookup y=some .local/\(v.line==p.line)=true/\(h.names.any λ(n,k)=>n==y&&(k==.local||k==.cell))=false then(cC R g (.ListComp u j h p)).bind λq=>(g.N.findIdx? (·==y)).bind λi=>some (aA (.one i) (cf (g.cl p) q.1 q.2.1 q.2.2.1 q.2.2.2)) else none
def B5:SS EV:=λ{fa n R} rc {g X} o {a ga} h=>by
 replace h:=nE h;obtain⟨ts,d,_,rfl,h⟩:=h;replace h:=eQ h;obtain⟨t,rfl,h⟩:=h;replace h:=cZ h;obtain⟨y,Y,rfl,h⟩:=h;replace h:=A7 h;obtain⟨_,_,v,p,rfl,h⟩:=h
 ·next=>
  obtain⟨⟨lv,F,H,I⟩,h⟩:=oi h;obtain⟨⟨k,t,w,b⟩,P,h⟩:=ob h;obtain⟨i,O,h⟩:=ob h;cases h;obtain⟨L,tg,E,Q,rest,z,U,own,bn,W,body,J,rfl,S,j,B,T,h1,h2,h3⟩:=(Gq rc o P).ex;cases J;have hl:X.env.scope.names.lookup y=some .local:=by rw[o.sc];exact F
  refine zd _ S (o.calm `a) j B T h1 h2 h3 (o.N ▸ o.nd) (tW o O) hl ?_
  have hk:=(o.top lv).2.2.2;have M:(X.env.blockKind==.function)=true:=by unfold Env.blockKind;rw[hk];rfl
  have u:(X.env.kindOf y==some .local)=true:=by unfold Env.kindOf;rw[hl];rfl
  show(pure (X.env.blockKind==.function&&X.env.kindOf y==some .local&&(Y.line==p.line)&&!(v.names.any λ(n,k)=>n==y&&(k==.local||k==.cell))):Sem Bool)=pure true;rw[M,u,H,I];rfl
def JA:ml:=λR g st=>yk st λts d _=>n1 ts λt=>vf t λa b _=>if qo b=true then(R.e g a).bind λx=>(R.e g b).bind λy=>(R.e g d).bind λz=>some (fg x y z) else none
def GL:SS JA:=λ{F n R} j {g X} o {a H} h=>by
 replace h:=nE h;obtain⟨ts,d,_,rfl,h⟩:=h;replace h:=eQ h;obtain⟨t,rfl,h⟩:=h;replace h:=kY h;obtain⟨a,b,p2,rfl,h⟩:=h
 ·next=>
  obtain⟨c,h⟩:=oi h;obtain⟨x,u,h⟩:=ob h;obtain⟨y,B,h⟩:=ob h;obtain⟨z,E,h⟩:=ob h;cases h;refine MC (j.e o u) (j.e o B) (j.e o E) (λv=>?_) ?_ ?_ rfl
  ·cases b<;>first|rfl|cases c
  ·cases d<;>rfl
  ·cases d<;>rfl
def JD:ml:=λR g st=>Kt st λe _=>LJ e λa m d q=>if m="append"/\gR a=true/\q=true/\notStar d=true then(R.e g a).bind λx=>(R.e g d).bind λy=>some (kD x y) else none
def GP:SS JD:=λ{F n R} j {g X} o {a H} h=>by
 replace h:=wQ h;obtain⟨e,_,rfl,h⟩:=h;replace h:=A8 h;obtain⟨a,m,q,d,p,rfl,h⟩:=h;replace h:=oi h;obtain⟨⟨rfl,u,v,z⟩,h⟩:=h;obtain⟨x,B,h⟩:=ob h;obtain⟨y,E,h⟩:=ob h;cases h;exact MG (j.e o B) (j.e o E) (dm u) v (bC z) rfl
def Jz:ml:=λR g st=>(Kt st λa _=>if nJ a=true then((R.x g a).bind λx=>some (gK x)).or ((R.e g a).bind λx=>some (sEx x)) else none).or
 ((sRt st λq _=>match q with
   |none=>some Fp
   |some a=>((R.x g a).bind λx=>some (jt x)).or ((R.e g a).bind λx=>some (aB x))).or
 ((sPs st λ_=>some yj).or
 ((sIf st λc st u _=>(R.t g c).bind λt=>(qL (R.s g) st).bind λx=>(qL (R.s g) u).bind λy=>some (aF t x y)).or
 (sFr st λh a body j _=>n0 j (if g.lv=2/\mP a=true then(R.w g h a).bind λw=>(cG g h).bind λt=>(qL (R.s g) body).bind λx=>some (dQ t w x) else none)))))
def GK:SS Jz:=λ{F n R} j {g X} o {a H} h=>by
 replace h:=cb h;rcases h with h|h
 ·obtain⟨a,p,rfl,h⟩:=wQ h;obtain⟨c,h⟩:=oi h;rcases cb h with h|h
  ·obtain⟨x,e,h⟩:=ob h;cases h;exact NK (j.x o e) (xh c)
  ·obtain⟨x,u,h⟩:=ob h;cases h;exact Ot (j.e o u) (xh c)
 replace h:=cb h;rcases h with h|h
 ·obtain⟨q,p,rfl,h⟩:=Ko h;cases q with
  |none=>cases h;exact Ja
  | some a=>
    rcases cb h with h|h
    ·obtain⟨x,e,h⟩:=ob h;cases h;exact Ki (j.x o e)
    ·obtain⟨x,u,h⟩:=ob h;cases h;exact MB (j.e o u)
 replace h:=cb h;rcases h with h|h
 ·obtain⟨p,rfl,h⟩:=Kq h;cases h;exact Jb
 replace h:=cb h;rcases h with h|h
 ·obtain⟨c,st,I,p,rfl,h⟩:=Kr h;obtain⟨t,v,h⟩:=ob h;obtain⟨x,u,h⟩:=ob h;obtain⟨y,B,h⟩:=ob h;cases h;exact MD (j.t o v) (i8 (j.s o) u) (i8 (j.s o) B)
 ·obtain⟨J,a,body,E,p,rfl,h⟩:=Ks h;obtain⟨rfl,h⟩:=eR h;obtain⟨⟨lv,c⟩,h⟩:=oi h;obtain⟨w,z,h⟩:=ob h;obtain⟨t,v,h⟩:=ob h;obtain⟨x,u,h⟩:=ob h;cases h;exact ME (o.po lv) (o.calm `a) (j.w o z) (l4 o v) (Ov (i8 (j.s o) u)) (Bx c)
def zB:ml:=λR g st=>Kp st λe c _=>if c.isNone=true then e.bind λe=>ma e λx h _=>nC h λa h=>if 2<=g.lv/\i6 g x=true then(match g.T.lookup x with
 |some (.xc k)=>(cA (R.e g) (a::h)).bind λj=>some (eK k j)
 |_=>none) else none else none
set_option tactic.hygienic true in
def zA:SS zB:=λ{y n R} v {g X} o {a z} h=>by
 replace h:=wO h;obtain⟨e,c,_,rfl,h⟩:=h;replace h:=oi h;obtain⟨c,h⟩:=h;rw[Ss.mp c];replace h:=ob h;obtain⟨e,rfl,h⟩:=h;replace h:=fz h;obtain⟨x,q,u,p,rfl,h⟩:=h;replace h:=hU h;obtain⟨a,u,rfl,h⟩:=h
 ·obtain⟨⟨lv,c⟩,k⟩:=oi h;clear h;split at k
  ·next e=>
   obtain⟨B,j,k⟩:=ob k;cases k;obtain⟨d,ns⟩:=ig (v.e o) j;rw[RY,Ra] at ns;obtain⟨C,h1,h2,h3,_⟩:=o.T.xc e;exact HL _ ⟨C,h1,h2,h3⟩ (o.top lv).1 (cJ o c).1 (o.calm `a) d (cJ o c).2 ns.1 ns.2
  ·cases k
def wu:ml:=λR g st=>Kp st λe c _=>if c.isNone=true then e.bind λe=>ma e λx h _=>nC h λa h=>if 2<=g.lv/\i6 g x=true then(match g.T.lookup x with
 |some (.xi k)=>if notStar a=true/\h.isEmpty=true then(R.e g a).bind λy=>some (iD k y) else none
 |_=>none) else none else none
set_option tactic.hygienic true in
def xU:SS wu:=λ{E n R} B {g X} o {a F} h=>by
 replace h:=wO h;obtain⟨e,c,_,rfl,h⟩:=h;replace h:=oi h;obtain⟨c,h⟩:=h;rw[Ss.mp c];replace h:=ob h;obtain⟨e,rfl,h⟩:=h;replace h:=fz h;obtain⟨x,q,v,p,rfl,h⟩:=h;replace h:=hU h;obtain⟨a,v,rfl,h⟩:=h
 ·obtain⟨⟨lv,c⟩,k⟩:=oi h;clear h;split at k
  ·next e=>
   obtain⟨⟨j,u⟩,k⟩:=oi k;obtain⟨y,z,k⟩:=ob k;cases k;rw[List.isEmpty_iff.mp u];exact C5 _ (o.T.xi e).1 (Kv (o.hr `a)) (o.top lv).1 (cJ o c).1 (o.calm `a) (B.e o z) (cJ o c).2 j
  ·cases k
def Ea (o:eC fa n g X)(lv:2<=g.lv)(pn:List (Addr×Obj))(E:Rg->Rl->Prop):eC fa n {g with lv:=3} (tX X pn E):={o.N,o.nd,o.sc,o.T,o.tw,o.xf,o.ms,λ_=>o.fn `a,o.oc,λ_=>o.calm `a,λ_=>o.C `a,λ_=>o.hr `a,λ_=>o.top lv,(λz=>nomatch z)}
def Eb (o:eC fa n g X)(lv:2<=g.lv)(v:Rg)(E:Rg->Rl->Prop):eC fa n {g with lv:=0} (tY X v E):={o.N,o.nd,o.sc,o.T,o.tw,o.xf,o.ms,λ_=>o.fn `a,o.oc,(λz=>absurd (show 0<0 from z) `d),(λz=>absurd (show 0<0 from z) `d),(λz=>absurd (show 0<0 from z) `d),(λz=>absurd (show 2<=0 from z) `d),(λz=>nomatch z)}
def Jy:ml:=λR g st=>sTr st λbody hs j y _=>n0 j (n0 y (n1 hs fun
 | .ExceptHandler t nm z _=>t.bind λt=>nName t λx _=>nm.bind λnm=>nC z λb h=>if 2 <= g.lv /\ i6 g x = true /\ g.sc.names.lookup nm = some .local then(match g.T.lookup x with
   |some .de=>(g.N.findIdx? (·==nm)).bind λi=>(qL (R.s {g with lv:=3}) body).bind λu=>(qL (R.s {g with lv:=0}) (b::h)).bind λv=>some (mB u i v)
   |_=>none) else none))
set_option tactic.hygienic true in
def GJ:SS Jy:=λ{L n R} z {g X} o {a O} h=>by
 replace h:=Kn h;obtain⟨body,hs,J,M,_,rfl,h⟩:=h;replace h:=eR h;obtain⟨rfl,h⟩:=h;replace h:=eR h;obtain⟨rfl,h⟩:=h;replace h:=eQ h;obtain⟨hd,rfl,h⟩:=h;obtain⟨t,nm,P,_⟩:=hd;replace h:=ob h;obtain⟨t,rfl,h⟩:=h;replace h:=cZ h;obtain⟨x,_,rfl,h⟩:=h;replace h:=ob h;obtain⟨nm,rfl,h⟩:=h;replace h:=hU h;obtain⟨b,j,rfl,h⟩:=h
 ·obtain⟨⟨lv,c,B⟩,k⟩:=oi h;clear h;split at k
  ·next e=>
   obtain⟨i,F,k⟩:=ob k;obtain⟨u,H,k⟩:=ob k;obtain⟨v,I,k⟩:=ob k;cases k;have y:=o.top lv;exact NI o.T.xcs (o.T.de e) y.1 y.2.1 y.2.2.1 (o.N ▸ o.nd) (tW o F) (by rw[o.sc];exact B) (cJ o c).1 (cJ o c).2 (λpn E=>i8 (z.s (Ea o lv pn E)) H) (λv E=>i8 (z.s (Eb o lv v E)) I)
  ·cases k
def Bz (h:es.all notStar=true)(hl:es.length<30):methodCallForm es.length (backTo pos (starEach es env)) (backToKw pos (keywordEach [] env))=true:=by
 rw[lF h];have:backToKw pos (keywordEach [] env)=[]:=rfl;rw[this];unfold methodCallForm backTo;simp[hl]
def JX:dB:=λR g e=>lP e λa f _=>if gR a=true then(R.e g a).bind λx=>some (cQ f x) else none
def G7:SE JX:=λ{y n R} v {g X} o {a z} h=>by
 obtain⟨a,f,p,rfl,h⟩:=gL h;obtain⟨j,h⟩:=oi h;obtain⟨x,u,h⟩:=ob h;cases h;exact OJ f o.T.ob o.T.of (v.e o u) (dm j)
def Fb:dB:=λR g e=>qp e λh j ks p=>lP h λa m ap=>n0 ks (if gR a=true/\(ap.endLine==p.line)=true/\0<g.lv/\j.length<30 then(g.ms.find? (·.1==m)).bind λq=>(cA (R.e g) j).bind λu=>(R.e g a).bind λx=>some (dW q.2.1 q.2.2 g.c x u) else none)
def Cn:SE Fb:=λ{M n R} y {g X} o {a O} h=>by
 replace h:=jQ h;obtain⟨hd,E,ks,p,rfl,h⟩:=h;replace h:=gL h;obtain⟨a,m,ap,rfl,h⟩:=h;replace h:=eR h;obtain⟨rfl,h⟩:=h;replace h:=oi h;obtain⟨⟨z,B,u,J⟩,h⟩:=h;replace h:=ob h;obtain⟨q,H,h⟩:=h;obtain⟨P,j,h⟩:=ob h;obtain⟨x,I,h⟩:=ob h;cases h;obtain⟨C,F,cl,v,nm⟩:=o.ms q (Tr H);have e:=List.find?_some H;have e:=eq_of_beq e;rw[e] at v nm;have hr:=(o.hr u).mono (SR _);cases E with
 |nil=>cases j;exact Jn (o.C u _) hr o.T.of F cl v nm (y.e o I) (dm z) B
 | cons b E=>
   obtain⟨d,ns⟩:=ig (y.e o) j;have L:=Bz (env:=X.env) (pos:=p) ns J;rw[RY,Ra] at ns;exact MQ (o.C u _) hr o.T.of F cl v nm (y.e o I) d (dm z) L B (bC ns.1) (cu ns.2)
def JB:ml:=λR g st=>yk st λts v _=>n1 ts λt=>lP t λa f _=>if nJ v=true then(R.e g a).bind λx=>(R.e g v).bind λy=>some (iR f x y) else none
def Af (h:nJ v=true):swapsWith v (some (.Attribute a f p)) l env=pure false:=by
 cases v<;>first|rfl|cases h
def GN:SS JB:=λ{B n R} j {g X} o {a E} h=>by
 replace h:=nE h;obtain⟨ts,v,p,rfl,h⟩:=h;replace h:=eQ h;obtain⟨t,rfl,h⟩:=h;replace h:=gL h;obtain⟨a,f,p2,rfl,h⟩:=h;obtain⟨c,h⟩:=oi h;obtain⟨x,u,h⟩:=ob h;obtain⟨y,z,h⟩:=ob h;cases h;exact NJ f o.T.ob o.T.of (j.e o u) (j.e o z) (Af c)
def JS:dB:=λR g e=>qp e λh j ks p=>lP h λa m ap=>n0 ks (n0 j (if gR a=true/\(ap.endLine==p.line)=true then
 if m="pop" then(R.e g a).bind λx=>some (vv x) else if m="reverse" then(R.e g a).bind λx=>some (Ga x) else none else none))
set_option tactic.hygienic true in
def G2:SE JS:=λ{B n R} y {g X} o {a E} h=>by
 replace h:=jQ h;obtain⟨hd,z,ks,p,rfl,h⟩:=h;replace h:=gL h;obtain⟨a,m,ap,rfl,h⟩:=h;replace h:=eR h;obtain⟨rfl,h⟩:=h;replace h:=eR h;obtain⟨rfl,h⟩:=h;replace h:=oi h;obtain⟨⟨u,v⟩,h⟩:=h;split at h
 ·next e=>subst e;obtain⟨x,j,h⟩:=ob h;cases h;exact OB (y.e o j) (dm u) v
 ·split at h
  ·next e=>subst e;obtain⟨x,j,h⟩:=ob h;cases h;exact MP (y.e o j) (dm u) v
  ·cases h
def zS:dB:=λR g e=>ma e λx h _=>n0 h (if 0<g.lv/\i6 g x=true then(g.T.lookup x).bind fun
 |.fn i _=>some (aj i g.c bE)
 |_=>none else none)
def zR:SE zS:=λ{u n R} y {g X} o {a v} h=>by
 replace h:=fz h;obtain⟨x,q,j,p,rfl,h⟩:=h;replace h:=eR h;obtain⟨rfl,h⟩:=h;obtain⟨⟨lv,c⟩,h⟩:=oi h;obtain⟨t,e,h⟩:=ob h;cases t with
 |fn k f=>cases h;exact Jp (o.C lv _) ((o.hr lv).mono (SR _)) (cJ o c).1 (o.T.fn e) (cJ o c).2
 |_=>cases h
def EW:dB:=λR g e=>qp e λh j ks p=>lP h λa m ap=>n0 ks (if g.tx p=true/\gR a=true/\(ap.endLine==p.line)=true/\2<=g.lv/\j.length<30 then(g.ms.find? (·.1==m)).bind λq=>(cA (R.e g) j).bind λu=>(R.e g a).bind λx=>some (gj q.2.1 q.2.2 g.c x u) else none)
def B6:SX EW:=λ{M n R} v {g X} o {a O} h=>by
 replace h:=jQ h;obtain⟨hd,E,ks,p,rfl,h⟩:=h;replace h:=gL h;obtain⟨a,m,ap,rfl,h⟩:=h;replace h:=eR h;obtain⟨rfl,h⟩:=h;replace h:=oi h;obtain⟨⟨_,y,z,B,J⟩,h⟩:=h;replace h:=ob h;obtain⟨q,H,h⟩:=h;obtain⟨P,j,h⟩:=ob h;obtain⟨x,I,h⟩:=ob h;cases h;obtain⟨C,F,cl,u,nm⟩:=o.ms q (Tr H);have e:=List.find?_some H;have e:=eq_of_beq e;rw[e] at u nm;have hr:=(o.hr `a).mono (SR _)
 cases E with
 |nil=>cases j;exact GQ (o.C `a _) hr (o.top B).1 o.T.of F cl u nm (v.e o I) (dm y) z
 | cons b E=>
   obtain⟨d,ns⟩:=ig (v.e o) j;have L:=Bz (env:=X.env) (pos:=p) ns J;rw[RY,Ra] at ns;exact JG (o.C `a _) hr (o.top B).1 o.T.of F cl u nm (v.e o I) d (dm y) L z (bC ns.1) (cu ns.2)
def EX:dB:=λR g e=>ma e λx h p=>nC h λa h=>if g.tx p=true/\2<=g.lv/\i6 g x=true then(g.T.lookup x).bind fun
 |.cls c f=>(cA (R.e g) (a::h)).bind λj=>some (gk c f g.c j)
 |_=>none else none
def B7:SX EX:=λ{y n R} v {g X} o {a z} h=>by
 replace h:=fz h;obtain⟨x,q,u,p,rfl,h⟩:=h;replace h:=hU h;obtain⟨a,u,rfl,h⟩:=h;obtain⟨⟨_,lv,c⟩,h⟩:=oi h;obtain⟨t,e,h⟩:=ob h;cases t with
 | cls k f=>
   obtain⟨B,j,h⟩:=ob h;cases h;obtain⟨d,ns⟩:=ig (v.e o) j;rw[RY,Ra] at ns;obtain⟨C,h1,h2,h3⟩:=o.T.cls e;exact JH (o.C `a _) (o.hr `a) (o.top lv).1 o.T.of h2 h3 (cJ o c).1 h1 d (cJ o c).2 (bC ns.1) (cu ns.2)
 |_=>cases h
section
variable{β:Type}{e:Expr}{st:Stmt}{r:β}
noncomputable def O9 (e:Stmt)(k:Expr->List Stmt->List Stmt->Pos->Option β):Option β:=if h:e.ctorIdx=11 then @Stmt.While.elim (λ_=>Option β) e h k else none
def Km (h:O9 st k=some r):∃a b c d,st=.While a b c d/\k a b c d=some r:=(od h).elim λz h=>@Stmt.While.elim (λe=>∀z,@Stmt.While.elim (λ_=>Option β) e z k=some r->∃a b c d,e=.While a b c d/\k a b c d=some r) st z (λa b c d _ h=>⟨a,b,c,d,rfl,h⟩) z h
end
def isIn (q:CmpOp):Option Bool:=match q with
 |.In=>some false
 |.NotIn=>some true
 |_=>none
def zz:ml:=λR g st=>O9 st λc body h _=>n0 h (if g.lv=2 then(R.t g c).bind λt=>(qL (R.s g) body).bind λb=>some (uO t b) else none)
def zy:SS zz:=λ{z n R} j {g X} o {a B} h=>by
 replace h:=Km h;obtain⟨c,body,y,p,rfl,h⟩:=h;replace h:=eR h;obtain⟨rfl,h⟩:=h;replace h:=oi h;obtain⟨lv,h⟩:=h;obtain⟨t,v,h⟩:=ob h;obtain⟨b,u,h⟩:=ob h;cases h;exact HK (o.po lv) (j.t o v) (i8 (j.s o) u)
structure Ent where
 i:Nat
 x:Str
 st:Stmt
 ps:Nat
 N:List Str
 f:Addr
 pm:Str×Tok
 b:Call->GS
 r:Bool:=false
 q:Option Str:=none
 df:Addr:=0
noncomputable def Ent.qn (e:Ent):Str:=e.q.getD e.x
structure nr where
 T:List (Str×En)
 tw:List (Str×Str×Nat×Nat)
 xf:List Str
 dl:List (Str×List (Str×Nat))
 il:List (Str×Nat)
 cel:List (Nat×Nat×Nat)
 txt:List (Nat×Nat×Nat)
 ms:List (Str×Nat×Nat)
 rs:Rs
 tb:List Ent
def nr.g (t:nr)(e:Ent)(c:Call):G:={t.T,t.tw,t.xf,t.cel,t.txt,t.ms,c,e.N,aJ e.st,2,[]}
noncomputable def nr.Pg (t:nr)(i:Nat):Option Df:=(t.tb.find? (·.i==i)).map λe=>⟨e.ps,e.N.length,e.b⟩
def nr.rd (t:nr)(c:Call)(e:Ent):Option GS:=qL ((It t.rs 60).s (t.g e c)) (b5 e.st)
def Eo (e:Ent):Bool:=decide ((aJ e.st).kind=.function)&&!(aJ e.st).isCoroutine&&!(aJ e.st).isGenerator&&decide e.N.Nodup&&((e.N.take e.ps).length==e.ps)&&((e.N.take e.ps).all λx=>(aJ e.st).names.lookup x==some .local||(aJ e.st).names.lookup x==some .cell)&&((aJ e.st).names.all (·.2 != .free))
def qH (h:Eo e=true):gZ e.N (e.N.take e.ps) (aJ e.st)/\(e.N.take e.ps).length=e.ps:=by
 unfold Eo at h;simp only[Ra,decide_eq_true_eq,S5,Rq,S4,beq_iff_eq,bne_iff_ne] at h;obtain⟨⟨⟨⟨⟨⟨h1,h2⟩,h3⟩,h4⟩,j⟩,u⟩,v⟩:=h;exact{{h1,h2,h3,h4,by rw[j],u,v},j}
noncomputable def Ent.dV (e:Ent):Rg:=if e.df=0 then .none else .ref e.df
def Mq (e:Ent):Option Obj:=some {.type "function",none,.func (PySem.W.fnOf e.x e.qn (di e.st) (b5 e.st) (aJ e.st) e.dV .none .none (.str e.pm.1 e.pm.2) none (.ref (e.f-1)) .none),#[]}
def mQ {j u:Type}{f g:j->u}{l:List j}(h:l.map f=l.map g){a:j}(m:a∈l):f a=g a:=List.map_inj_left.mp h a m
def pI (e:Ent)(us:List Rg)(kV j pm:Rg)(u:Option Addr)(h ct:Rg):Sem (List (Str×Rg)):=bindArgs (PySem.W.fnOf e.x e.qn (di e.st) (b5 e.st) (aJ e.st) e.dV kV j pm u h ct) {us,[]}
def nu (tb:List Ent)(k:Nat)(us:List Rg):Prop:=∀(kV j pm:Rg) (u:Option Addr) (h ct:Rg),(tb.filter λe=>e.ps==k&&e.df==0).map (λe=>pI e us kV j pm u h ct)=(tb.filter λe=>e.ps==k&&e.df==0).map λe=>pure ((e.N.take e.ps).zip us)
structure zr (t:nr):Prop where
 rs:EO t.rs
 rd:∀c,t.tb.map (t.rd c)=t.tb.map λe=>some (e.b c)
 sc:t.tb.all Eo=true
 ar:t.tb.all (λe=>e.ps==0||e.ps==1||e.ps==2||e.ps==3||e.ps==4||e.ps==6||e.ps==5)=true
 a0:nu t.tb 0 []
 a1:∀a,nu t.tb 1 [a]
 a2:∀a b,nu t.tb 2 [a,b]
 a3:∀a b c,nu t.tb 3 [a,b,c]
 a4:∀a b c d,nu t.tb 4 [a,b,c,d]
 a6:∀a b c d e f,nu t.tb 6 [a,b,c,d,e,f]
 a5:∀a b c d e,nu t.tb 5 [a,b,c,d,e]
 ad:AllP (λe=>e.ps=2/\∀(a b kV doc pm:Rg) (an:Option Addr) (cdv ct:Rg),∃k k1,pI e [a,b] kV doc pm an cdv ct=seqItems? (.ref e.df) >>= k/\k (some #[.none])=pure ((e.N.take e.ps).zip [a,b])/\pI e [a] kV doc pm an cdv ct=seqItems? (.ref e.df) >>= k1/\k1 (some #[.none])=pure ((e.N.take e.ps).zip [a,.none])) (t.tb.filter λe=>!(e.df==0))
structure B3 (K:Q9) (tb:List Ent):Prop where
 ns:(tb.filter (·.q.isNone)).map (λe=>PySem.W.nsIn K mainGlobals e.x)=(tb.filter (·.q.isNone)).map λe=>some (some (.ref e.f))
 lk:tb.map (λe=>K.lookup e.f)=tb.map Mq
 dk:tb.all (λe=>e.df==0||(match K.lookup e.df with|some {_,_,.seq its _,_}=>its==#[.none]|_=>false))=true
 ck:tb.all (λe=>PySem.W.codeIn K (.ref (e.f-1)) e.qn&&PySem.W.keepIn K (.ref e.f))=true
def J6 {K:Q9}{tb:List Ent}(k:B3 K tb)(m:e∈tb):zw K e.x e.qn e.st e.f (PySem.W.fnOf e.x e.qn (di e.st) (b5 e.st) (aJ e.st) e.dV .none .none (.str e.pm.1 e.pm.2) none (.ref (e.f-1)) .none):=by
 have c:=Rq.mp k.ck e m;rw[Ra] at c;exact{{_,_,_,_,_,_,_,_,_,_,rfl,mQ k.lk m,c.1},c.2}
def Hf {K:Q9}{h:Heap}(k:B3 K tb)(X:K.In h)(G:h.Ns mainGlobals mg)(m:e∈tb)(u:e.q.isNone=true)(hd:e.df=0):mg e.x=some (.ref e.f)/\∃j,oH K e.x e.qn e.st e.f j:=by
 have c:=Rq.mp k.ck e m;rw[Ra] at c;have l:=mQ k.lk m;unfold Mq Ent.dV at l;rw[if_pos hd] at l;exact{Su X G (mQ k.ns (Te.mpr ⟨m,u⟩)),_,Bw l c.1 c.2}
def us6 {j:Type}{p:List j->Prop}(h:∀a b c d e f,p [a,b,c,d,e,f]):∀(us:List j) (hl:us.length=6),p us
 |[a,b,c,d,e,f],_=>h a b c d e f
def us5 {j:Type}{p:List j->Prop}(h:∀a b c d e,p [a,b,c,d,e]):∀(us:List j) (hl:us.length=5),p us
 |[a,b,c,d,e],_=>h a b c d e
def CD {t:nr}(T:zr t){e:Ent}(m:e∈t.tb)(H:e.df=0)(kV B pm:Rg)(E:Option Addr)(j ct:Rg):∀us:List Rg,us.length=(e.N.take e.ps).length->pI e us kV B pm E j ct=pure ((e.N.take e.ps).zip us):=by
 have hl:=(qH (Rq.mp T.sc e m)).2;have a:=Rq.mp T.ar e m;have f:∀{k:Nat}{us:List Rg},e.ps=k->nu t.tb k us->pI e us kV B pm E j ct=pure ((e.N.take e.ps).zip us):=λ{k us} hk F=>mQ (F kV B pm E j ct) (Te.mpr {m,by rw[hk,H];simp})
 rw[hl];simp only[S4,beq_iff_eq] at a;rcases a with(((((a|a)|a)|a)|a)|a)|a
 ·rw[a];exact λus h=>by rw[Tx.mp h];exact a ▸ f a T.a0
 ·rw[a];exact us1 λx=>a ▸ f a (T.a1 x)
 ·rw[a];exact OZ λx y=>a ▸ f a (T.a2 x y)
 ·rw[a];exact us3 λx y z=>a ▸ f a (T.a3 x y z)
 ·rw[a];exact us4 λx y z u=>a ▸ f a (T.a4 x y z u)
 ·rw[a];exact us6 λx y z u v w=>a ▸ f a (T.a6 x y z u v w)
 ·rw[a];exact us5 λx y z u v=>a ▸ f a (T.a5 x y z u v)
section
variable{fa:Fa}{P:R0}{w:RS}{K:Q9}{mg:Str->Option Rg}{base:Heap}{t:nr}
def ur (T:zr t)(TO:Gz fa P w K mg base t.T)(tw:∀q∈t.tw,Gy fa K mg q.1 q.2.1 q.2.2.1 q.2.2.2)(xf:∀f∈t.xf,xQ fa K f)(ms:∀q∈t.ms,qV fa K q.1 q.2.1 q.2.2){e:Ent}(m:e∈t.tb){ad:Addr}(call:Call)(n:Nat)(j:Rg)(A:Sw)(outer:List SH)(s:Rl)(H:Hp)(E:XK)
 (C:∀f,et fa P w K mg base n f (call f)) (hr:bL (2*n+5) (A.deeper (envOfC e.qn (aJ e.st) s.heap.objs.size ad j))):lC fa (eV (fU P w) P w K mg base e.N e.qn (aJ e.st) ad j A outer s H E) (b5 e.st) (e.b call):=by
 have S:=(qH (Rq.mp T.sc e m)).1;exact i8 ((GH T.rs 60).s (g:=t.g e call) (X:=eV (fU P w) P w K mg base e.N e.qn (aJ e.st) ad j A outer s H E) {rfl,S.nd,rfl,TO,tw,xf,ms,λ_ _=>rfl,(λ_ h=>nomatch h),λ_=>rfl,λ_=>C,λ_=>hr,λ_=>⟨rfl,rfl,rfl,S.kind⟩,λ_=>PassesOwn.leaving}) (mQ (T.rd call) m)
set_option tactic.hygienic true in
def Ab (k:B3 K tb)(m:en∈tb)(h:en.df≠0)(X:K.In s.heap)(e1:pI en us .none .none (.str en.pm.1 en.pm.2) none (.ref (en.f-1)) .none=seqItems? (.ref en.df) >>= kk)(e2:kk (some #[.none])=pure out) :
 BindsTo s (PySem.W.fnOf en.x en.qn (di en.st) (b5 en.st) (aJ en.st) en.dV .none .none (.str en.pm.1 en.pm.2) none (.ref (en.f-1)) .none) {us,[]} out:=by
 have dk:=Rq.mp k.dk en m;rw[S4] at dk;rcases dk with dk|dk
 ·exact absurd (eq_of_beq dk) h
 split at dk
 ·next lk=>
  have q:=eq_of_beq dk;subst q;exact BindsTo.of_defaults (by show en.dV=_;unfold Ent.dV;rw[if_neg h]) (X _ _ lk) rfl (by show pI en us _ _ _ _ _ _=seqItems? en.dV >>= _;unfold Ent.dV;rw[if_neg h];exact e1) e2
 ·cases dk
def CC (T:zr t)(k:B3 K t.tb)(X:K.In h)(G:h.Ns mainGlobals mg)(TO:Gz fa P w K mg base t.T)(tw:∀q∈t.tw,Gy fa K mg q.1 q.2.1 q.2.2.1 q.2.2.2)(xf:∀f∈t.xf,xQ fa K f)(ms:∀q∈t.ms,qV fa K q.1 q.2.1 q.2.2)(hf:t.tb.all (λe=>fa e.i==some e.f&&(!(fa (500+e.i)).isSome||!(e.df==0)))=true) :
 ∀f d,t.Pg f=some d->zx fa P w K mg base f d:=by
 intro f d e;obtain⟨en,he,rfl⟩:=Ry.mp e;have m:=Tr he;have J:en.i=f:=by have:=List.find?_some he;simpa using this
 have F:=J6 k m;obtain⟨S,hl⟩:=qH (Rq.mp T.sc en m);have u:=Rq.mp hf en m;rw[Ra,S4] at u;have M:fa f=some en.f:=by rw[<- J];exact eq_of_beq u.1
 have B:Binds K (PySem.W.fnOf en.x en.qn (di en.st) (b5 en.st) (aJ en.st) en.dV .none .none (.str en.pm.1 en.pm.2) none (.ref (en.f-1)) .none) (en.N.take en.ps) []:=by
  by_cases v:en.df=0
  ·exact .all (CD T m v _ _ _ _ _ _)
  ·intro s I X j;obtain⟨h2,hk⟩:=T.ad.mem en (Te.mpr {m,by simpa using v})
   rw[S1] at j ⊢;rw[hl,h2] at j
   match I,j with
   | [a,b],_=>
     obtain⟨kk,_,e1,e2,_⟩:=hk a b .none .none (.str en.pm.1 en.pm.2) none (.ref (en.f-1)) .none;exact Ab k m v X e1 e2
 have L:(fa (500+f)).isSome=true->Binds K (PySem.W.fnOf en.x en.qn (di en.st) (b5 en.st) (aJ en.st) en.dV .none .none (.str en.pm.1 en.pm.2) none (.ref (en.f-1)) .none) (en.N.take en.ps) [.none]:=λhs s I X j=>by
  have v:en.df≠0:=by
   rcases u.2 with z|z
   ·rw[J,hs] at z;cases z
   ·simpa using z
  obtain⟨h2,hk⟩:=T.ad.mem en (Te.mpr {m,by simpa using v})
  rw[hl,h2,RO] at j
  match I,j with
  | [a],_=>
    obtain⟨_,kk,_,_,e1,e2⟩:=hk a .none .none .none (.str en.pm.1 en.pm.2) none (.ref (en.f-1)) .none;exact Ab k m v X e1 e2
 exact{en.f,_,en.N.take en.ps,en.N,en.st,en.x,en.qn,M,F,B,L,S,hl.symm,rfl,λcall n y A outer s H E C hr=>ur T TO tw xf ms m call n y A outer s H E C hr}
noncomputable def Ms (K:Q9)(fa:Fa)(t:nr)(p:Str×En):Bool:=match p.2 with
 |.fn i _=>(match PySem.W.nsIn K mainGlobals p.1 with|some (some (.ref a))=>fa i==some a|_=>false)
 |.fnD i=>(match PySem.W.nsIn K mainGlobals p.1 with|some (some (.ref a))=>fa i==some a&&(fa (500+i)).isSome|_=>false)
 |.int i=>(match PySem.W.nsIn K mainGlobals p.1 with|some (some (.int j _))=>i==j|_=>false)
 |.str i=>(match PySem.W.nsIn K mainGlobals p.1 with|some (some (.str j _))=>i==j|_=>false)
 |.xc k=>(match PySem.W.nsIn K mainGlobals p.1 with|some (some (.ref a))=>fa (d7 k)==some a&&PySem.W.excIn K a oB "ValueError.__new__"&&PySem.W.keepIn K (.ref a)|_=>false)
 |.xi k=>(match PySem.W.nsIn K mainGlobals p.1 with|some (some (.ref a))=>fa (d7 k)==some a&&t.il.contains (p.1,k)|_=>false)
 |.xk k=>(match PySem.W.nsIn K mainGlobals p.1 with|some (some (.ref a))=>fa (d7 k)==some a|_=>false)
 |.de=>(match PySem.W.nsIn K mainGlobals p.1 with|some (some (.ref a))=>fa 999==some a|_=>false)
 |.bl=>(match PySem.W.nsIn K mainGlobals p.1 with|some none=>true|_=>false)
 |.dct fs=>t.dl.contains (p.1,fs)
 |.cls c f=>(match PySem.W.nsIn K mainGlobals p.1 with|some (some (.ref a))=>fa (fT c)==some a&&PySem.W.makesIn K a&&PySem.W.keepIn K (.ref a)&&(match fa f with|some ad=>PySem.W.findIn K (.ref a) "__init__"==some (some (.ref ad))&&PySem.W.isFn K (.ref ad)|none=>true)|_=>false)
set_option tactic.hygienic true in
def He (X:K.In h)(G:h.Ns mainGlobals mg)(F:t.T.all (Ms K fa t)=true)(H:nq fa K)(y:B4 fa K)(B:∀o,5000<=o->fa o=none)(z:fa (fT 77)=none/\fa (fT 78)=none)(hd:AllP (λq=>∃ad j,mg q.1=some (.ref ad)/\fR K w.params ad j/\eJ fa j q.2) t.dl)(hi:AllP (λq=>lB fa P w K mg base q.2 q.1) t.il):Gz fa P w K mg base t.T:=by
 have E:∀{x:Str}{e:En},t.T.lookup x=some e->Ms K fa t (x,e)=true:=λ{x e} l=>Rq.mp F _ (mem_of_lookup l);refine{λ{x i r} l ad u=>?_,λ{x i} l=>?_,λ{x i} l=>?_,λ{x i} l=>?_,λ{x fs} l=>?_,λ{x k} l=>?_,λ{x k} l=>?_,λ{x k} l=>?_,λ{x} l=>?_,λ{x} l=>?_,H,y,B,z,λ{x c f} l=>?_};all_goals have b:=E l;unfold Ms at b;dsimp only at b
 ·split at b
  ·next e=>have b:=eq_of_beq b;rw[u] at b;cases b;exact Su X G e
  ·cases b
 ·split at b
  ·next e=>rw[Ra] at b;exact{λad u=>by have b1:=eq_of_beq b.1;rw[u] at b1;cases b1;exact Su X G e,b.2}
  ·cases b
 ·split at b
  ·next e=>have b:=eq_of_beq b;subst b;exact{_,Su X G e}
  ·cases b
 ·split at b
  ·next e=>have b:=eq_of_beq b;subst b;exact{_,Su X G e}
  ·cases b
 ·exact hd.mem (x,fs) (List.contains_iff_mem.mp b)
 ·split at b
  ·next e=>simp only[Ra] at b;exact{_,Su X G e,eq_of_beq b.1.1,b.1.2,b.2}
  ·cases b
 ·split at b
  ·next e=>rw[Ra] at b;exact{hi.mem (x,k) (List.contains_iff_mem.mp b.2),_,Su X G e,eq_of_beq b.1}
  ·cases b
 ·split at b
  ·next e=>exact{_,Su X G e,eq_of_beq b}
  ·cases b
 ·split at b
  ·next e=>exact{_,Su X G e,eq_of_beq b}
  ·cases b
 ·split at b
  ·next e=>exact PySem.W.mg_none_of X G e
  ·cases b
 ·split at b
  ·next a e=>
   simp only[Ra] at b;refine{a,Su X G e,eq_of_beq b.1.1.1,λad v=>?_};have b2:=b.2;rw[v] at b2;simp only[Ra] at b2;exact{b.1.1.2,eq_of_beq b2.1,b2.2,b.1.2}
  ·cases b
end
noncomputable def zh (K:Q9)(C:Addr):Bool:=PySem.W.plainGet K C Str.empty&&PySem.W.hasDictIn K C&&PySem.W.plainOver K C&&PySem.W.findIn K (.ref C) "__setattr__"==some (some (.builtin "object.__setattr__"))
def BP {K:Q9}(h:zh K C=true):je K C:=by
 unfold zh at h;simp only[Ra] at h;exact{h.1.1.1,h.1.1.2,h.1.2,eq_of_beq h.2}
def Lw (K:Q9)(fa:Fa):Bool:=match fa (fT 40) with
 |some C=>zh K C&&(bT 40).all λf=>PySem.W.findIn K (.ref C) f==some none
 |none=>true
def Lv {K:Q9}(h:Lw K fa=true):B4 fa K:=λc C e ne=>by
 have j:c=40:=by
  unfold bT at ne;split at ne
  ·rfl
  ·exact absurd rfl ne
 subst j;unfold Lw at h;rw[e] at h;simp only[Ra,Rq] at h;exact{BP h.1,λf m=>eq_of_beq (h.2 f m)}
def LO (K:Q9)(fa:Fa)(q:Str×Nat×Nat):Bool:=match fa (fT q.2.1) with
 | some C=>zh K C && (match fa q.2.2 with
   |some ad=>PySem.W.findIn K (.ref C) q.1==some (some (.ref ad))&&PySem.W.isFn K (.ref ad)&&PySem.W.keepIn K (.ref ad)
   |none=>true)&&!(bT q.2.1).contains q.1&&!(bT q.2.1).isEmpty
 |none=>false
def LN {K:Q9}{l:List (Str×Nat×Nat)}(h:l.all (LO K fa)=true):∀q∈l,qV fa K q.1 q.2.1 q.2.2:=λq m=>by
 have h:=Rq.mp h q m;unfold LO at h;cases e:fa (fT q.2.1) with
 |none=>rw[e] at h;cases h
 | some C=>
   rw[e] at h;simp only[Ra,S5] at h;refine{C,e,BP h.1.1.1,λad ea=>?_,λz=>?_,λz=>?_}
   ·have b:=h.1.1.2;rw[ea] at b;simp only[Ra] at b;exact{eq_of_beq b.1.1,b.1.2,b.2}
   ·have:=List.contains_iff_mem.mpr z;rw[h.1.2] at this;cases this
   ·rw[z] at h;exact absurd h.2 `d
def Eg {D:Addr}(h:cl.all (λq=>decide (q.1<4000))=true):∀o,5000<=o->vD l cl D o=none:=λo ho=>by
 unfold vD;rw[if_neg `a,if_neg `a]
 cases e:cl.lookup (o-1000) with
 |none=>rfl
 | some C=>
   have:=of_decide_eq_true (Rq.mp h _ (lookup_mem e));omega
end LD
section
local macro_rules|`(#[$a,*])=>do return<-a.getElems.foldrM (β:=Lean.Term) (λx r=>`(LD.ia $x $r)) (<-`(LD.bE))
local macro_rules|`(#v[$a,*])=>do return<-a.getElems.foldrM (β:=Lean.Term) (λx r=>`(LD.aK $x $r)) (<-`(LD.az))
namespace LD
open PySem
abbrev gI (n:Int):GE:=gC (.int n)
abbrev gS (x:Str):GE:=gC (.str x)
abbrev gN:GE:=gC .non
abbrev oy:GE:=gC (.bl true)
abbrev vA:GE:=gC (.bl false)
abbrev rF:GS:=aK (aB vA) az
noncomputable def cK:List (Str×Nat):=[("turn",7),("join",8),("move",9),("put",10)]
def cL:List (Str×Nat):=[("turn",20),("join",21),("move",22),("put",23)]
def fD (c:Call):GS:=#v[aF (cV (au (bH .bool (aa 0))) (bo (au (bH .int (aa 0))))) rF az,aB (jU .le .le (aa 1) (aa 0) (aa 2))]
def i9 (c:Call):GS:=#v[aB (aj 0 c #[aa 1,gI 0,ak false .sub (aa 0) (gI 1)])]
def iq (c:Call):GS:=#v[aB (aj 0 c #[aa 1,gI 0,ak false .sub (aa 0) (gI 1)])]
def ja (c:Call):GS:=#v[aB (aj 0 c #[aa 0,gI 1,gI 3])]
def fe (c:Call):GS:=#v[aB (dY (bH .tuple (aa 1)) (aE .eq (aI .len #[aa 1]) (aa 0)))]
def ip (c:Call):GS:=#v[aB (dY (aj 4 c #[aa 0,aa 1]) (aI .all #[cf false 1 (.one 0) (dE (aa 1)) (b8 (aj 1 c #[aa 1,aa 0]))]))]
def dA (c:Call):GS:=#v[aB (dY (aj 4 c #[aa 0,aa 1]) (aI .all #[cf false 1 (.one 0) (dE (aa 1)) (b8 (aj 5 c #[aa 1,aa 0]))]))]
def fA (c:Call):GS:=#v[aF (au (aE .ne (aI .len #[aa 2]) (gI 3))) rF az,aA (.tup [3,4,5]) (aa 2),aB (dY (aj 2 c #[aa 1,aa 3]) (dY (aj 5 c #[aa 0,aa 4]) (aj 3 c #[aa 5])))]
def fC (c:Call):GS:=#v[aF (au (aE .ne (aI .len #[aa 2]) (gI 4))) rF az,aA (.tup [3,4,5,6]) (aa 2),aF (cV (bo (au (aj 2 c #[aa 1,aa 3]))) (bo (au (aj 2 c #[aa 1,aa 4])))) rF az,aB (dY (aj 6 c #[aa 0,aa 5]) (aj 3 c #[aa 6]))]
def fB (c:Call):GS:=#v[aF (au (aE .ne (aI .len #[aa 2]) (gI 3))) rF az,aA (.tup [3,4,5]) (aa 2),aB (dY (aj 2 c #[aa 1,aa 3]) (dY (aj 2 c #[aa 1,aa 4]) (aj 3 c #[aa 5])))]
def gO (c:Call):GS:=#v[aF (au (aE .ne (aI .len #[aa 2]) (gI 3))) rF az,aA (.tup [3,4,5]) (aa 2),aB (dY (aj 2 c #[aa 1,aa 3]) (dY (aj 1 c #[aa 0,aa 4]) (aj 3 c #[aa 5])))]
def dH (c:Call):GS:=#v[aF (cV (bo (au (bH .tuple (aa 2)))) (bo (au (aa 2)))) rF az,aA (.one 3) (aD (aa 2) (gI 0)),aF (cV (bo (au (bH .str (aa 3)))) (au (h9 cK (aa 3)))) rF az,aA (.one 4) (lW cK (aa 3)),aB (mZ 4 c #[aa 0,aa 1,bQ false true false (aa 2) (gI 1) gN])]
def ir (c:Call):GS:=#v[aF (bo (au (aj 4 c #[gI 3,aa 0]))) rF az,aA (.tup [1,2,3]) (aa 0),aF (cV (bo (au (aj 0 c #[aa 1,gI 2,gI 4]))) (bo (au (aj 0 c #[aa 2,gI 1,gI 2])))) rF az,aF (cV (bo (au (bH .tuple (aa 3)))) (bo (au (jU .le .le (gI 1) (aI .len #[aa 3]) (gI 6))))) rF az,aB (aI .all #[cf false 1 (.one 0) (dE (aa 3)) (b8 (aj 11 c #[aa 2,aa 3,aa 0]))])]
def c7 (c:Call):GS:=#v[aF (bo (au (aj 12 c #[aa 0]))) #v[eK 3 #[gS "this is no machine"]] az]
def dS (c:Call):GS:=#v[gK (cy 13 c #[aa 0]),aA (.tup [1,2,3]) (aa 0),aA (.one 4) (aG false #[bt bE]),dQ (.one 5) (eI (aa 2)) #v[aA (.one 4) (cf false 2 (.one 0) (dE (aa 4)) (vw (.one 1) (eI (aa 3)) (b8 (ak false .add (aa 0) (bt #[aa 1])))))],aB (aa 4)]
def eZ (c:Call):GS:=#v[aB (aj 0 c #[aa 1,gI 0,ak false .sub (aI .len #[aD (aa 0) (gI 2)]) (gI 1)])]
def cj (c:Call):GS:=#v[aF (bo (au (bH .list (aa 1)))) #v[iD 0 (gI 0)] az,dQ (.tup [2,3]) (lV (aa 1)) #v[aF (bo (au (aj 16 c #[aa 0,aa 3]))) #v[iD 0 (aa 2)] az]]
def dF (c:Call):GS:=#v[gK (cy 13 c #[aa 0]),gK (cy 17 c #[aa 0,aa 1]),aF (au (aE .gt (aI .len #[aa 1]) (gI 40))) #v[eK 4 #[Gd "a row has at most " " deeds" (gI 40)]] az]
def l5 (c:Call):GS:=#v[aA (.tup [2,3,4,5]) (aa 0),aB (aD (aa 4) (aD (aa 1) (aa 3)))]
def l8 (c:Call):GS:=#v[aA (.tup [2,3,4,5,6]) (aa 0),aB (aD (aD (aa 5) (aD (aa 1) (aa 3))) (aD (aa 1) (aa 4)))]
def n8 (c:Call):GS:=#v[aA (.tup [2,3,4,5]) (aa 0),aB (aD (aa 1) (aa 4))]
def l6 (c:Call):GS:=#v[aA (.tup [2,3,4,5]) (aa 0),aB (aa 4)]
def qN (c:Call):GS:=#v[aA (.one 2) (lW cL (aD (aa 0) (gI 0))),aA (.one 3) (aD (aa 0) (gI 1)),aB (ak false .add (ak false .add (bQ false false true (aa 1) gN (aa 3)) (bt #[mZ 2 c #[aa 0,aa 1]])) (bQ false true false (aa 1) (ak false .add (aa 3) (gI 1)) gN))]
def iM (c:Call):GS:=#v[aA (.one 3) (aG true #[aa 2]),dQ (.one 4) (dE (aa 1)) #v[kD (aa 3) (aj 24 c #[aD (aD (aa 0) (gI 2)) (aa 4),aD (aa 3) (dg (gI 1))])],aB (aa 3)]
def iX (c:Call):GS:=#v[gK (cy 18 c #[aa 0,aa 1]),aB (aj 46 c #[aa 0,aa 1])]
def md (c:Call):GS:=#v[aF (au (aE .ge (aa 0) (ak false .pow (gI 10) (gI 18)))) #v[aB (aa 0)] az,aA (.one 2) (aG false #[gI 2147483629,gI 2147483587,gI 2147483579,gI 2147483563,gI 2147483549,gI 2147483543,gI 2147483497,gI 2147483489]),aA (.one 2) (ak false .add (aa 2) (aG false #[gI 2147483477,gI 2147483423,gI 2147483399,gI 2147483353,gI 2147483323])),aA (.one 3) (ak false .mod (ak false .pow (ak false .add (ak false .add (ak false .mul (ak false .mod (aa 0) (gI 1000000007)) (ak false .add (ak false .mul (gI 2) (aa 1)) (gI 69069))) (ak false .mul (aa 1) (gI 40503))) (gI 977)) (gI 3)) (aD (aa 2) (ak false .mod (aa 1) (gI 13)))),aA (.one 4) (ak false .mod (ak false .pow (ak false .add (ak false .add (ak false .mul (aa 3) (ak false .add (aa 1) (gI 3))) (ak false .mod (aa 0) (gI 65537))) (gI 5)) (gI 5)) (aD (aa 2) (ak false .mod (ak false .add (aa 1) (gI 5)) (gI 13)))),aA (.one 5) (ak false .mod (ak false .pow (ak false .add (ak false .add (aa 4) (ak false .mod (aa 3) (gI 1009))) (aa 1)) (gI 3)) (aD (aa 2) (ak false .mod (ak false .add (aa 1) (gI 7)) (gI 13)))),aB (ak false .add (ak false .mul (ak false .add (ak false .mul (aa 3) (gI 2147483647)) (aa 4)) (gI 2147483647)) (aa 5))]
def kF (c:Call):GS:=#v[aA (.one 1) (aI (.list true) #[bQ false false true (aa 0) gN (gI 12)]),dQ (.tup [2,3]) (lV (bQ false true true (aa 0) (gI 12) (gI 63))) #v[fg (aa 1) (ak false .mod (aa 2) (gI 12)) (ak false .add (aD (aa 1) (ak false .mod (aa 2) (gI 12))) (aa 3))],aB (aG true #[aa 1,gI 0,gI 0])]
def kG (c:Call):GS:=#v[fg (aa 0) (gI 2) (gI 0),aB (aa 0)]
def oC (c:Call):GS:=#v[aF (au (aE .lt (aD (aa 0) (gI 2)) (aa 1))) #v[aA (.one 2) (aD (aa 0) (gI 1)),aA (.one 3) (gI 0),aF (au (aE .lt (aa 2) (aI .len #[aD (aa 0) (gI 0)]))) #v[aA (.one 3) (aD (aD (aa 0) (gI 0)) (aa 2))] #v[aF (au (aE .gt (aI .len #[aD (aa 0) (gI 0)]) (gI 0))) #v[aA (.one 3) (ak false .mod (aD (aD (aa 0) (gI 0)) (ak false .mod (ak false .add (ak false .mul (aa 2) (gI 5)) (gI 3)) (aI .len #[aD (aa 0) (gI 0)]))) (ak false .add (ak false .pow (gI 10) (gI 17)) (aa 2)))] az],fg (aa 0) (gI 1) (ak false .add (aa 2) (gI 1)),fg (aa 0) (gI 2) (aj 28 c #[aa 3,aa 2])] az,aA (.one 4) (ak false .mod (aD (aa 0) (gI 2)) (aa 1)),fg (aa 0) (gI 2) (ak false .fdiv (aD (aa 0) (gI 2)) (aa 1)),aB (aa 4)]
def jB (c:Call):GS:=#v[aA (.one 2) (aj 31 c #[aa 0,gI 6]),aA (.one 3) (aj 31 c #[aa 0,aa 1]),aA (.one 4) (aj 31 c #[aa 0,aa 1]),aF (au (aE .lt (aa 2) (gI 2))) #v[aB (aI .tuple #[cf false 1 (.one 0) (eI (aa 1)) (b8 (aj 31 c #[aa 1,aa 2]))])] az,aF (au (aE .eq (aa 2) (gI 2))) #v[aB (aI .tuple #[cf false 1 (.one 0) (eI (aa 1)) (b8 (ak false .mod (ak false .add (ak false .add (aa 0) (gI 1)) (aa 4)) (aa 2)))])] az,aF (au (aE .eq (aa 2) (gI 3))) #v[aB (aI .tuple #[cf false 1 (.one 0) (eI (aa 1)) (b8 (fh (au (aE .eq (aa 0) (aa 4))) (aa 5) (aa 0)))])] az,aF (au (aE .eq (aa 2) (gI 4))) #v[aB (ak false .mul (bt #[aa 3]) (aa 1))] az,aA (.one 5) (mY true (aa 1)),fg (aa 5) (aa 3) (aa 4),fg (aa 5) (aa 4) (aa 3),aB (aI .tuple #[aa 5])]
def iY (c:Call):GS:=#v[aA (.one 3) (aj 31 c #[aa 0,gI 8]),aA (.one 4) (ak false .add (gI 1) (aj 31 c #[aa 0,gI 3])),aA (.one 5) (aj 31 c #[aa 0,aa 2]),aA (.one 6) (aj 31 c #[aa 0,aa 2]),aF (au (aE .lt (aa 3) (gI 3))) #v[aB (bt #[gS "turn",aa 5,aj 32 c #[aa 0,aa 1],aa 4])] az,aF (au (aE .lt (aa 3) (gI 5))) #v[aB (bt #[gS "move",aa 5,fh (au (aE .eq (aa 3) (gI 3))) (ak false .mod (ak false .add (aa 5) (gI 1)) (aa 2)) (aa 6),aa 4])] az,aF (au (aE .eq (aa 3) (gI 5))) #v[aB (bt #[gS "put",aa 5,aj 31 c #[aa 0,aa 1],aa 4])] az,aB (bt #[gS "join",aa 5,aa 6,aI .tuple #[cf false 1 (.one 0) (eI (aa 1)) (b8 (aj 32 c #[aa 1,aa 2]))],aa 4])]
def fP (c:Call):GS:=#v[aA (.one 1) (ak false .add (gI 2) (aj 31 c #[aa 0,ak false .sub (aa 1) (gI 1)])),aA (.one 2) (ak false .add (gI 1) (aj 31 c #[aa 0,aa 2])),aA (.one 4) (aG true bE),dQ (.one 5) (eI (ak false .add (gI 1) (aj 31 c #[aa 0,aa 3]))) #v[aA (.one 6) (aj 31 c #[aa 0,gI 5]),aA (.one 7) (aj 33 c #[aa 0,aa 1,aa 2]),aF (dX (au (aE .eq (aa 6) (gI 0))) (au (aE .ne (aa 4) (aG false bE)))) #v[aA (.one 7) (ak false .add (bQ false false true (aD (aa 4) (aj 31 c #[aa 0,aI .len #[aa 4]])) gN (dg (gI 1))) (bt #[aD (aa 7) (dg (gI 1))]))] az,kD (aa 4) (aa 7)],aB (bt #[aa 1,aa 2,aI .tuple #[aa 4]])]
def fO (c:Call):GS:=#v[aA (.one 3) (aj 31 c #[aa 0,gI 4]),aA (.one 4) (fh (au (aE .eq (aa 3) (gI 0))) (aa 2) (aj 31 c #[aa 0,ak false .add (aa 2) (gI 1)])),aA (.one 5) (cf false 1 (.one 0) (eI (aa 4)) (b8 (aj 31 c #[aa 1,aI .len #[aD (aa 2) (gI 2)]]))),aF (au (aE .eq (aa 3) (gI 1))) #v[aA (.one 5) (bQ false false true (ak false .mul (bQ false false true (aa 5) gN (gI 2)) (aa 4)) gN (aa 4))] az,aB (aa 5)]
def bV (c:Call):GS:=#v[aF (au (aE .isN (aa 1) gN)) #v[aB (aE .isN (aa 0) gN)] az,aF (cV (au (bH .bool (aa 1))) (au (bH .bool (aa 0)))) #v[aB (dY (bH .bool (aa 1)) (dY (bH .bool (aa 0)) (aE .eq (aa 0) (aa 1))))] az,aF (au (bH .int (aa 1))) #v[aB (dY (bH .int (aa 0)) (aE .eq (aa 0) (aa 1)))] az,aF (au (bH .str (aa 1))) #v[aB (dY (bH .str (aa 0)) (aE .eq (aa 0) (aa 1)))] az,aF (cV (au (aE .ne (bH .tuple (aa 1)) (bH .tuple (aa 0)))) (au (aE .ne (bH .list (aa 1)) (bH .list (aa 0))))) rF az,aF (au (aE .ne (aI .len #[aa 0]) (aI .len #[aa 1]))) rF az,aB (aE .notin vA (cf false 2 (.tup [0,1]) (nQ (aa 0) (aa 1)) (b8 (aj 40 c #[aa 0,aa 1]))))]
def gX (c:Call):GS:=#v[aB (aI .tuple #[cf false 1 (.one 0) (dE (aj 15 c #[aa 0])) (b8 (aD (aj 25 c #[aa 1,aa 2,aa 0]) (dg (gI 1))))])]
def gA (c:Call):GS:=#v[aB (aI .sum #[cf false 1 (.one 0) (dE (aa 1)) (b8 (aD (aD (aD (aa 1) (gI 2)) (aa 0)) (dg (gI 1))))])]
def l7 (c:Call):GS:=#v[eP (.one 3) (cy 27 c #[aa 0,aa 1]),eP (.one 4) (cy 27 c #[aa 0,aa 2]),dQ (.tup [5,6,7]) (nP (aj 15 c #[aa 0]) (aa 3) (aa 4)) #v[aF (au (aE .ne (aa 6) (aa 7))) #v[aB (aa 5)] az],aB gN]
def fo (c:Call):GS:=#v[aA (.one 2) (gS " !\"#$&'()*+,-./0123456789:;<=>?@ABCDEFGHIJKLMNOPQRSTUVWXYZ[\\]^_`"),aA (.one 2) (ak false .add (aa 2) (gS "abcdefghijklmnopqrstuvwxyz{|}~\t\n")),aA (.one 3) (cf false 1 (.one 0) (qC (aa 2)) (qD (au (aE .notin (aa 0) (aa 2))) (b8 (aa 0)))),aB (aD (aa 3) (aj 31 c #[aa 0,aI .len #[aa 3]]))]
def fq (c:Call):GS:=#v[aB (aj 64 c #[aa 0,gS ""])]
def gD (c:Call):GS:=#v[aA (.one 2) (aj 31 c #[aa 0,ak false .add (aI .len #[aa 1]) (gI 1)]),aB (ak false .add (ak false .add (nR false true (aa 1) gN (aa 2)) (aj 65 c #[aa 0])) (nR true false (aa 1) (ak false .add (aa 2) (aj 31 c #[aa 0,gI 2])) gN))]
def ky (c:Call):GS:=#v[aB (dY (bH .int (aa 0)) (Mm (bH .bool (aa 0))))]
def nj (c:Call):GS:=#v[aB (dY (aj 67 c #[aa 0]) (jU .le .le (aa 1) (aa 0) (aa 2)))]
def iN (c:Call):GS:=#v[aF (cV (bo (au (bH .tuple (aa 0)))) (au (aE .ne (aI .len #[aa 0]) (aa 1)))) rF az,aB (aE .eq (cf false 1 (.one 0) (dE (aa 0)) (qD (bo (au (aj 68 c #[aa 0,aa 3,aa 4]))) (b8 (gI 1)))) (aG false bE))]
def dN (c:Call):GS:=#v[aF (cV (bo (au (bH .tuple (aa 0)))) (au (aE .notin (aI .len #[aa 0]) (bt #[gI 4,gI 5])))) rF az,aF (cV (au (aE .notin (aD (aa 0) (gI 0)) (bt #[gS "turn",gS "join",gS "move",gS "put"]))) (au (aE .ne (aE .eq (aI .len #[aa 0]) (gI 5)) (aE .eq (aD (aa 0) (gI 0)) (gS "join"))))) rF az,aF (cV (bo (au (aj 69 c #[bt #[aD (aa 0) (gI 1)],gI 1,gI 0,ak false .sub (aa 2) (gI 1)]))) (bo (au (aj 68 c #[aD (aa 0) (dg (gI 1)),gI 1,gI 3])))) rF az,aF (au (aE .eq (aD (aa 0) (gI 0)) (gS "turn"))) #v[aB (aj 69 c #[aD (aa 0) (gI 2),aa 1,gI 0,ak false .sub (aa 1) (gI 1)])] az,aF (au (aE .eq (aD (aa 0) (gI 0)) (gS "put"))) #v[aB (aj 68 c #[aD (aa 0) (gI 2),gI 0,ak false .sub (aa 1) (gI 1)])] az,aF (bo (au (aj 68 c #[aD (aa 0) (gI 2),gI 0,ak false .sub (aa 2) (gI 1)]))) rF az,aF (au (aE .eq (aD (aa 0) (gI 0)) (gS "move"))) #v[aB oy] az,aF (cV (bo (au (bH .tuple (aD (aa 0) (gI 3))))) (au (aE .ne (aI .len #[aD (aa 0) (gI 3)]) (aa 1)))) rF az,aB (aE .eq (cf false 1 (.one 0) (dE (aD (aa 0) (gI 3))) (qD (bo (au (aj 69 c #[aa 0,aa 2,gI 0,ak false .sub (aa 2) (gI 1)]))) (b8 (gI 1)))) (aG false bE))]
def fZ (c:Call):GS:=#v[aF (cV (bo (au (bH .tuple (aa 0)))) (cV (au (aE .ne (aI .len #[aa 0]) (gI 3))) (bo (au (aj 68 c #[aD (aa 0) (gI 0),gI 2,gI 4]))))) rF az,aF (cV (bo (au (aj 68 c #[aD (aa 0) (gI 1),gI 1,gI 2]))) (cV (bo (au (bH .tuple (aD (aa 0) (gI 2))))) (bo (au (jU .le .le (gI 1) (aI .len #[aD (aa 0) (gI 2)]) (gI 6)))))) rF az,aB (aE .eq (cf false 1 (.one 0) (dE (aD (aa 0) (gI 2))) (qD (bo (au (aj 70 c #[aa 0,aD (aa 1) (gI 0),aD (aa 1) (gI 1)]))) (b8 (gI 1)))) (aG false bE))]
def oE (c:Call):GS:=#v[aA (.one 3) (aj 31 c #[aa 0,gI 8]),aA (.one 4) (aj 31 c #[aa 0,gI 20]),aA (.one 5) (ak false .sub (aj 31 c #[aa 0,gI 9]) (gI 2)),aF (dX (au (bH .tuple (aa 1))) (dX (au (aE .ne (aa 1) (bt bE))) (dX (au (aE .gt (aa 2) (gI 0))) (au (aE .gt (aa 4) (gI 4)))))) #v[aA (.one 6) (aj 31 c #[aa 0,aI .len #[aa 1]]),aB (ak false .add (ak false .add (bQ false false true (aa 1) gN (aa 6)) (bt #[aj 72 c #[aa 0,aD (aa 1) (aa 6),ak false .sub (aa 2) (gI 1)]])) (bQ false true false (aa 1) (ak false .add (aa 6) (gI 1)) gN))] az,aA (.one 7) (aG false #[gN,oy,vA,gS "",gS "turn",gS "join",gS "move",gS "put",gS "Turn",bt bE,aG false bE,ak false .pow (gI 10) (gI 20),dg (gI 1),gI 0]),aA (.one 7) (ak false .add (aa 7) (aG false #[gI 1,gI 4,bt #[gI 0],aG false #[gI 0],gS "0",gI 7])),aF (au (bH .tuple (aa 1))) #v[aA (.one 8) (aG false #[aI (.list false) #[aa 1],ak false .add (aa 1) (bQ false false true (aa 1) gN (gI 1)),bQ false false true (aa 1) gN (dg (gI 1)),pF false (aa 1),ak false .add (aa 1) (bt #[aa 5]),bQ false true false (aa 1) (gI 1) gN,bt #[aa 1]]),aB (aD (ak false .add (aa 8) (aG false #[aD (aa 7) (aa 4)])) (aa 3))] az,aF (au (aj 67 c #[aa 1])) #v[aB (aD (aG false #[ak false .add (aa 1) (gI 1),ak false .sub (aa 1) (gI 1),ak false .sub (gI 0) (aa 1),aa 5,aa 5,aE .eq (aa 1) (gI 1),ak false .sub (gI 3) (aa 1),aD (aa 7) (aa 4)]) (aa 3))] az,aF (dX (au (bH .str (aa 1))) (au (aE .lt (aa 3) (gI 3)))) #v[aB (aj 66 c #[aa 0,aa 1])] az,aB (aD (aa 7) (aa 4))]
def cm (c:Call):GS:=#v[aA (.one 1) (aG false #[bZ (some 0) (aa 0),bZ (some 1) (aa 0),bZ (some 2) (aa 0)]),aA (.one 1) (ak false .add (aa 1) (aG false #[bZ (some 3) (aa 0),bZ (some 4) (aa 0),bZ (some 5) (aa 0)])),aA (.one 1) (ak false .add (aa 1) (aG false #[bZ (some 6) (aa 0),bZ (some 7) (aa 0),bZ (some 8) (aa 0)])),aA (.one 1) (ak false .add (aa 1) (aG false #[bZ (some 9) (aa 0),bZ (some 10) (aa 0),bZ (some 11) (aa 0)])),aA (.one 1) (ak false .add (aa 1) (aG false #[bZ (some 12) (aa 0),bZ (some 13) (aa 0)])),aF (cV (au (aE .ne (yX (aa 1)) (gI 1))) (cV (bo (au (bZ none (aa 0)))) (bo (au (bZ none (aa 0)))))) #v[aB (aG false #[gS "odd"])] az,aF (au (aD (aa 1) (gI 0))) #v[aB (aG false #[gS "row",jV "place" (aa 0)])] az,aF (au (aD (aa 1) (gI 1))) #v[aB (aG false #[gS "rule",jV "number" (aa 0)])] az,aF (au (aD (aa 1) (gI 2))) #v[aB (aG false #[gS "step",jV "place" (aa 0)])] az,aA (.one 2) (aG false #[gS "machine",gS "long",gS "word",gS "work",gS "bound",gS "many",gS "place",gS "deed",gS "nothing",gS "text",gS "line"]),aB (aG false #[aD (aa 2) (ak false .sub (yW (aa 1)) (gI 3))])]
def ni (c:Call):GS:=#v[aB (aI .sum #[cf false 1 (.one 0) (dE (aa 1)) (b8 (aD (aD (aD (aa 1) (gI 2)) (aa 0)) (dg (gI 1))))])]
def cz (c:Call):GS:=#v[aF (bo (au (aj 71 c #[aa 0]))) #v[aB (aG false #[gS "machine"])] az,aF (bo (au (bH .list (aa 1)))) #v[aB (aG false #[gS "row",gI 0])] az,dQ (.tup [2,3]) (lV (aa 1)) #v[aF (bo (au (aj 68 c #[aa 3,gI 0,ak false .sub (aI .len #[aD (aa 0) (gI 2)]) (gI 1)]))) #v[aB (aG false #[gS "row",aa 2])] az],aB (fh (au (aE .gt (aI .len #[aa 1]) (gI 40))) (aG false #[gS "long"]) gN)]
def rS (c:Call):GS:=#v[aA (.one 3) gN,mB #v[gK (cy 48 c #[aa 0,aa 1,aa 2])] 4 #v[aA (.one 3) (aa 4)],aB (fh (au (aE .isN (aa 3) gN)) (aG false #[gS "told"]) (aj 75 c #[aa 3]))]
def tO (c:Call):GS:=#v[aA (.one 3) (aj 90 c #[aa 0,aa 1]),aF (au (aE .isN (aa 3) gN)) #v[aA (.one 3) (aj 90 c #[aa 0,aa 2])] az,aB (fh (au (aE .isN (aa 3) gN)) (aG false #[gS "told"]) (aa 3))]
def tN (c:Call):GS:=#v[aA (.one 3) (aj 31 c #[aa 0,gI 5]),aA (.one 4) (aj 31 c #[aa 0,ak false .add (aI .len #[aa 2]) (gI 1)]),aF (au (aE .eq (aa 3) (gI 0))) #v[aB (aa 2)] az,aF (au (aE .eq (aa 3) (gI 1))) #v[aB (bQ false false true (ak false .add (aa 2) (ak false .mul (aG false #[gI 0]) (gI 41))) gN (gI 41))] az,aF (au (aE .eq (aa 3) (gI 2))) #v[aB (aD (aG false #[gN,aI .tuple #[aa 2],gS "0",gI 7,bt bE]) (aj 31 c #[aa 0,gI 5]))] az,aB (ak false .add (ak false .add (ak false .add (bQ false false true (aa 2) gN (aa 4)) (aG false #[aj 72 c #[aa 0,gI 0,gI 0]])) (bQ false true false (aa 2) (aa 4) gN)) (ak false .mul (aG false #[gI 0]) (ak false .mul (gI 40) (ak false .sub (aa 3) (gI 3)))))]
def Ju (c:Call):GS:=#v[aA (.one 1) (aj 29 c #[aa 0]),dQ (.one 2) (eI (gI 5)) #v[aA (.one 3) (aj 34 c #[aj 30 c #[aa 1],gI 3,gI 2,gI 5]),aA (.one 4) (aj 72 c #[aa 1,aa 3,gI 5]),aA (.one 5) (aj 35 c #[aa 1,aa 3,gI 6]),dQ (.one 6) (eI (gI 6)) #v[aA (.one 7) (aj 96 c #[aa 1,aa 3,aa 5]),aA (.one 8) (aj 96 c #[aa 1,aa 3,pF false (aa 5)]),dQ (.one 9) (dE (aG false #[aa 3,aa 4])) #v[aA (.one 10) (Gb #[aG false #[aa 7,aa 8]]),aA (.one 11) (aj 95 c #[aa 9,aa 7,aa 8]),aF (cV (bo (au (aj 40 c #[aj 94 c #[aa 9,aa 7,aa 8],aa 11]))) (au (aE .ne (Gb #[aG false #[aa 7,aa 8]]) (aa 10)))) rF az]]],aB oy]
def Jv (c:Call):GS:=#v[uO (au oy) #v[yj]]
def kA (c:Call):GS:=#v[gK (cy 18 c #[aa 1,aa 2]),iR "machine" (aa 0) (aa 1),iR "standing" (aa 0) (aI (.list false) #[aa 2]),iR "earlier" (aa 0) (aG true bE)]
def qP (c:Call):GS:=#v[aB (aI (.list true) #[cQ "standing" (aa 0)])]
def oG (c:Call):GS:=#v[aB (aj 47 c #[cQ "machine" (aa 0),cQ "standing" (aa 0)])]
def jZ (c:Call):GS:=#v[aB (aj 46 c #[cQ "machine" (aa 0),cQ "standing" (aa 0)])]
def qQ (c:Call):GS:=#v[aF (bo (au (aj 0 c #[aa 1,gI 0,aI .len #[cQ "standing" (aa 0)]]))) #v[eK 9 #[gS "no deed can be put in there"]] az,aF (bo (au (aj 16 c #[cQ "machine" (aa 0),aa 2]))) #v[eK 10 #[gS "the machine has no such deed"]] az,aF (au (aE .ge (aI .len #[cQ "standing" (aa 0)]) (gI 40))) #v[eK 4 #[Gd "a row has at most " " deeds" (gI 40)]] az,aB (dW 40 136 c (aa 0) #[ak false .add (ak false .add (bQ false false true (cQ "standing" (aa 0)) gN (aa 1)) (aG false #[aa 2])) (bQ false true false (cQ "standing" (aa 0)) (aa 1) gN)])]
def qR (c:Call):GS:=#v[aF (bo (au (aj 0 c #[aa 1,gI 0,ak false .sub (aI .len #[cQ "standing" (aa 0)]) (gI 1)]))) #v[eK 9 #[gS "no deed stands there"]] az,aB (dW 40 136 c (aa 0) #[ak false .add (bQ false false true (cQ "standing" (aa 0)) gN (aa 1)) (bQ false true false (cQ "standing" (aa 0)) (ak false .add (aa 1) (gI 1)) gN)])]
def kI (c:Call):GS:=#v[aF (bo (au (cQ "earlier" (aa 0)))) #v[eK 11 #[gS "no change stands"]] az,aB (dW 40 137 c (aa 0) #[vv (cQ "earlier" (aa 0))])]
def mi (c:Call):GS:=#v[kD (cQ "earlier" (aa 0)) (cQ "standing" (aa 0)),aB (dW 40 137 c (aa 0) #[aa 1])]
def oF (c:Call):GS:=#v[eP (.one 2) (cy 48 c #[cQ "machine" (aa 0),cQ "standing" (aa 0),aa 1]),iR "standing" (aa 0) (aa 1),aB (aa 2)]
def mh (c:Call):GS:=#v[aA (.one 3) (aj 31 c #[aa 0,gI 4]),aA (.one 4) (aD (aa 2) (dg (gI 1))),aA (.one 5) (aj 31 c #[aa 0,ak false .add (aI .len #[aa 4]) (gI 1)]),aA (.one 6) (aj 31 c #[aa 0,aI .len #[aD (aa 1) (gI 2)]]),aF (dX (au (aE .eq (aa 3) (gI 0))) (au (aE .gt (aI .len #[aa 2]) (gI 1)))) #v[aB (bt #[bQ false false true (aa 2) gN (dg (gI 1)),bt bE])] az,aF (dX (cV (au (aE .eq (aa 3) (gI 1))) (au (aE .eq (aI .len #[aa 4]) (gI 40)))) (au (aE .ne (aa 4) (aG false bE)))) #v[aA (.one 5) (ak false .mod (aa 5) (aI .len #[aa 4])),aB (bt #[ak false .add (aa 2) (aG false #[ak false .add (bQ false false true (aa 4) gN (aa 5)) (bQ false true false (aa 4) (ak false .add (aa 5) (gI 1)) gN)]),bt #[aa 5]])] az,aB (bt #[ak false .add (aa 2) (aG false #[ak false .add (ak false .add (bQ false false true (aa 4) gN (aa 5)) (aG false #[aa 6])) (bQ false true false (aa 4) (aa 5) gN)]),bt #[aa 5,aa 6]])]
def kz (c:Call):GS:=#v[aF (au (aE .eq (aI .len #[aa 1]) (gI 2))) #v[jt (gj 40 133 c (aa 0) #[aD (aa 1) (gI 0),aD (aa 1) (gI 1)])] az,jt (kr (au (aE .eq (aa 1) (bt bE))) (gj 40 135 c (aa 0) bE) (gj 40 134 c (aa 0) #[aD (aa 1) (gI 0)]))]
def mf (c:Call):GS:=#v[dQ (.tup [3,4,5]) (nP (aj 42 c #[aa 0]) (aj 44 c #[aa 0,aa 1]) (aj 44 c #[aa 0,aa 2])) #v[aF (au (aE .ne (aa 4) (aa 5))) #v[aB (aa 3)] az],aB gN]
def jj (c:Call):GS:=#v[aB (aG false #[aG false #[gI 0,gI 1,gI 2],aG false #[gI 0,gI 2,gI 1],aG false #[gI 1,gI 0,gI 2],aG false #[gI 1,gI 2,gI 0],aG false #[gI 2,gI 0,gI 1],aG false #[gI 2,gI 1,gI 0]])]
def qO (c:Call):GS:=#v[dQ (.one 4) (dE (ak false .add (aD (aj 141 c bE) (aa 3)) (aG false #[gI 0,gI 1,gI 2]))) #v[aF (au (aE .eq (aa 4) (gI 0))) #v[aA (.one 5) (dW 40 130 c (aa 0) bE),aF (bo (au (aj 40 c #[aa 5,aa 2]))) rF az,kD (aa 5) (gI 0)] az,aF (dX (au (aE .eq (aa 4) (gI 1))) (bo (au (aj 40 c #[dW 40 131 c (aa 0) bE,aj 89 c #[aa 1,aa 2]])))) rF az,aF (dX (au (aE .eq (aa 4) (gI 2))) (bo (au (aj 40 c #[dW 40 132 c (aa 0) bE,aj 44 c #[aa 1,aa 2]])))) rF az],aB oy]
def fQ (c:Call):GS:=#v[aA (.one 2) (aG true #[gN,gN,gN]),dQ (.one 3) (dE (aD (aj 141 c bE) (ak false .mod (aa 1) (gI 6)))) #v[aF (au (aE .eq (aa 3) (gI 0))) #v[fg (aa 2) (gI 0) (dW 40 130 c (aa 0) bE)] #v[aF (au (aE .eq (aa 3) (gI 1))) #v[fg (aa 2) (gI 1) (dW 40 131 c (aa 0) bE)] #v[fg (aa 2) (gI 2) (dW 40 132 c (aa 0) bE)]]],aB (aa 2)]
def fm (c:Call):GS:=#v[aA (.one 2) gN,mB #v[gK (cy 139 c #[aa 0,aa 1])] 3 #v[aA (.one 2) (aa 3)],aB (fh (au (aE .isN (aa 2) gN)) (aG false #[gS "told"]) (aj 75 c #[aa 2]))]
def jl (c:Call):GS:=#v[aA (.one 3) (aD (aa 1) (dg (gI 1))),aF (au (aE .eq (aa 2) (bt bE))) #v[aB (aD (aG false #[aG false #[gS "told"],aG false #[gS "nothing"]]) (pG (aE .eq (aI .len #[aa 1]) (gI 1))))] az,aF (bo (au (aj 68 c #[aD (aa 2) (gI 0),gI 0,ak false .add (ak false .sub (aI .len #[aa 3]) (gI 2)) (aI .len #[aa 2])]))) #v[aB (aG false #[gS "place"])] az,aF (au (aE .eq (aI .len #[aa 2]) (gI 1))) #v[aB (aG false #[gS "told"])] az,aF (bo (au (aj 68 c #[aD (aa 2) (gI 1),gI 0,ak false .sub (aI .len #[aD (aa 0) (gI 2)]) (gI 1)]))) #v[aB (aG false #[gS "deed"])] az,aB (aD (aG false #[aG false #[gS "told"],aG false #[gS "long"]]) (pG (aE .eq (aI .len #[aa 3]) (gI 40))))]
def eB (c:Call):GS:=#v[aA (.one 2) gN,mB #v[gK (gk 40 129 c #[aa 0,aa 1])] 3 #v[aA (.one 2) (aa 3)],aB (fh (au (aE .isN (aa 2) gN)) gN (aj 75 c #[aa 2]))]
def dv (c:Call):GS:=#v[aA (.one 2) gN,aA (.one 3) gN,mB #v[eP (.one 2) (cy 139 c #[aa 0,aa 1])] 4 #v[aA (.one 3) (aa 4)],aB (fh (au (aE .isN (aa 3) gN)) (aG false #[gS "told",aa 2]) (aj 75 c #[aa 3]))]
def iO (c:Call):GS:=#v[aA (.tup [5,6]) (aj 138 c #[aa 0,aa 3,aa 4]),aA (.one 7) (aI .len #[aD (aa 4) (dg (gI 1))]),dQ (.one 8) (dE (aG false #[aa 6,bt bE,bt #[gI 0],bt #[gI 0,gI 0],bt #[gI 0,gI 0],bt #[aa 7,gI 0],bt #[ak false .add (aa 7) (gI 1),gI 0],bt #[ak false .add (aa 7) (gI 1),gI 0],bt bE,bt #[gI 0,gI 0],bt bE,bt bE,bt bE])) #v[aF (bo (au (aj 40 c #[aj 229 c #[aa 1,aa 8],aj 229 c #[aa 2,aa 8]]))) rF az,aA (.one 9) (aj 31 c #[aa 0,gI 6]),aF (bo (au (aj 40 c #[aj 144 c #[aa 1,aa 9],aj 144 c #[aa 2,ak false .add (aa 9) (gI 1)]]))) rF az],aB oy]
def Gk (c:Call):GS:=#v[aA (.one 14) (aj 227 c #[aa 3,aa 7,aa 9]),aF (dX (au (aE .ne (aa 14) (aG false #[gS "told"]))) (au (aE .ne (aj 226 c #[aa 5,aa 9]) (aa 14)))) rF az]
def Fw (c:Call):GS:=#v[dQ (.one 9) (dE (ak false .add (aG false #[bt #[aa 13]]) (cf false 1 (.one 0) (dE (aa 12)) (b8 (bt #[aa 14,aa 0]))))) (Gk c)]
def LU (c:Call):GS:=#v[aF (bo (au (aj 40 c #[aj 228 c #[aa 15,aa 18],aj 90 c #[aa 15,aa 18]]))) rF az]
def Gu (c:Call):GS:=#v[aA (.one 16) (aj 31 c #[aa 1,ak false .add (aI .len #[aa 4]) (gI 1)]),aA (.one 17) (ak false .add (ak false .add (ak false .add (bQ false false true (aa 4) gN (aa 16)) (aG false #[aj 72 c #[aa 1,gI 0,gI 0]])) (bQ false true false (aa 4) (aa 16) gN)) (aG false #[dg (gI 1)])),dQ (.one 18) (dE (aG false #[aa 4,ak false .add (aa 4) (aG false #[aj 72 c #[aa 1,gI 0,gI 0]]),aa 17,ak false .mul (aG false #[gI 0]) (gI 41),gN,aI .tuple #[aa 4]])) (LU c)]
def zZ (c:Call):GS:=#v[aA (.one 10) (aj 144 c #[aa 5,aj 31 c #[aa 1,gI 6]]),aA (.one 11) (aI .len #[aD (aa 7) (dg (gI 1))]),aA (.one 12) (aG false #[dg (gI 1),aa 11,ak false .add (aa 11) (gI 1),gI 0,ak false .pow (gI 10) (gI 20),oy,vA,gN,gS "0",aG false #[gI 0],bt #[gI 0],aG false bE,aI .len #[aD (aa 3) (gI 2)]]),dQ (.one 13) (dE (aa 12)) (Fw c),aF (cV (dX (au (aE .eq (aI .len #[aa 7]) (gI 1))) (au (aE .ne (aj 226 c #[aa 5,bt bE]) (aG false #[gS "nothing"])))) (bo (au (aj 40 c #[aj 144 c #[aa 5,gI 1],aa 10])))) rF az,aF (bo (au (aj 230 c #[aa 1,aa 5,aa 6,aa 3,aa 7]))) rF az,dQ (.one 15) (dE (aG false #[aa 3,aj 72 c #[aa 1,aa 3,gI 5]])) (Gu c)]
def Gm (c:Call):GS:=#v[aA (.tup [7,9]) (aj 138 c #[aa 1,aa 3,aa 7]),gK (cy 139 c #[aa 5,aa 9]),gK (cy 139 c #[aa 6,aa 9])]
def uL (c:Call):GS:=(aK (eP (.one 5) (gk 40 129 c #[aa 3,aI (.list false) #[aa 4]])) (aK (eP (.one 6) (gk 40 129 c #[aa 3,aI (.list false) #[aa 4]])) (aK (aA (.one 7) (aG false #[aa 4])) (aK (dQ (.one 8) (eI (aj 31 c #[aa 1,gI 4])) (Gm c)) (zZ c)))))
def zX (c:Call):GS:=(aK (aA (.one 3) (aj 34 c #[aj 30 c #[aa 1],gI 4,gI 2,gI 6])) (aK (aA (.one 4) (aj 35 c #[aa 1,aa 3,gI 6])) (aK (aF (au (aE .eq (aa 2) (gI 2))) #v[aA (.one 4) (bQ false false true (ak false .add (aa 4) (ak false .mul (aG false #[gI 0]) (gI 40))) gN (ak false .add (gI 39) (aj 31 c #[aa 1,gI 2])))] az) (uL c))))
def n9 (c:Call):GS:=#v[aA (.one 1) (aj 29 c #[aa 0]),dQ (.one 2) (eI (gI 3)) (zX c),aB oy]
@[simp] theorem bz {h j:Type}{r:Res h}{f:h->Mem->Res j}{k:j->Mem->Prop}:af (r.bind f) k↔af r λa M=>af (f a M) k:=by cases r<;>rfl
@[simp] theorem bY {h:Type}{a:h}{k:h->Mem->Prop}:af (.ok a M) k↔k a M:=Sj
@[simp] theorem RC {h:Type}{k:h->Mem->Prop}:af (.bad:Res h) k↔False:=Sj
@[simp] theorem jP {h:Type}{M:Mem}{o:Option h}{k:h->Mem->Prop}:af (b7 M o) k↔∃a,o=some a/\k a M:=by cases o<;>simp[b7]
def eE {j:Type}{r:Res j}{k:j->Mem->Prop}:af r k↔∃a M,r=.ok a M/\k a M:=by
 cases r with
 |ok a M=>exact{λh=>⟨a,M,rfl,h⟩,λ⟨_,_,e,h⟩=>by cases e;exact h}
 |err=>simp[af]
 |bad=>simp[af]
def iK (j:ax 64 (view M x)=true)(z:ax 64 (view M y)=true)(h:cS (view M x) (view M y)=v):bw .eq x y M=some v:=by
 have e:qG (view M x) (view M y)=some v:=by unfold qG;rw[j,z,h];simp
 show m8 M x y=_;unfold m8;rw[e]
def lj (j:ax 64 (view M x)=true)(z:ax 64 (view M y)=true)(h:cS (view M x) (view M y)=v):bw .ne x y M=some (!v):=by
 show(bw .eq x y M).map (!·)=_;rw[iK j z h];rfl
section
variable{Z:Env}{M:Mem}{a b d lo hi:GE}{s:GA}{t u:GT}{k:D->Mem->Prop}{c:Call}
@[simp] theorem a8 {i:Nat}:af (aa i Z M) k↔∃d,Z[i]?.getD none=some d/\k d M:=by simp[aa]
@[simp] theorem cX {d:D}:af (gC d Z M) k↔k d M:=Sj
@[simp] theorem c9 {m:Bool}{o:tu}:af (ak m o a b Z M) k↔af (a Z M) λx M=>af (b Z M) λy M=>af (gM m o x y M) k:=by simp[ak]
@[simp] theorem fi {o:j7}:af (aE o a b Z M) k↔af (a Z M) λx M=>af (b Z M) λy M=>∃v,bw o x y M=some v/\k (.bl v) M:=by simp[aE]
@[simp] theorem RV {o h:j7}:af (jU o h a b d Z M) k↔af (a Z M) λx M=>af (b Z M) λy M=>∃v,bw o x y M=some v/\if v=true then af (d Z M) λz M=>∃v,bw h y z M=some v/\k (.bl v) M else k (.bl false) M:=by
 simp only[jU,bz,jP];refine iff_of_eq ?_
 congr 1;funext x M;congr 1;funext y M;refine propext (exists_congr λv=>and_congr_right λ_=>?_)
 cases v<;>simp
@[simp] theorem Gf:af (dg a Z M) k↔af (a Z M) λx M=>∃i,x=.int i/\k (.int (-i)) M:=by
 simp only[dg,bz];refine iff_of_eq ?_;congr 1;funext x M;cases x<;>simp
set_option tactic.hygienic true in
@[simp] theorem Gg:af (dY a b Z M) k↔af (a Z M) λx M=>∃v,x=.bl v/\if v=true then af (b Z M) k else k (.bl false) M:=by
 simp only[dY,bz];refine iff_of_eq ?_;congr 1;funext x M;cases x<;>simp;rename_i v;cases v<;>simp
@[simp] theorem Oo:af (fh t a b Z M) k↔af (t Z M) λv M=>if v=true then af (a Z M) k else af (b Z M) k:=by
 simp only[fh,bz];refine iff_of_eq ?_;congr 1;funext v M;cases v<;>simp
@[simp] theorem lY:af (aD a b Z M) k↔af (a Z M) λx M=>af (b Z M) λy M=>∃d,c4 x y M=some d/\k d M:=by simp[aD]
@[simp] theorem fN {m hl hh:Bool}:af (bQ m hl hh a lo hi Z M) k↔af (a Z M) λx M=>af (lo Z M) λl M=>af (hi Z M) λh M=>cg hl l=true/\cg hh h=true/\af (ez m x l h M) k:=by
 simp only[bQ,bz];refine iff_of_eq ?_
 congr 1;funext x M;congr 1;funext l M;congr 1;funext h M
 cases cg hl l<;>cases cg hh h<;>simp
@[simp] theorem bF {k:List D->Mem->Prop}:af (bE Z M) k↔k [] M:=Sj
@[simp] theorem bc {k:List D->Mem->Prop}:af (ia a s Z M) k↔af (a Z M) λx M=>af (s Z M) λxs M=>k (x::xs) M:=by simp[ia]
@[simp] theorem jz:af (bt s Z M) k↔af (s Z M) λxs M=>xs.length<=sz/\k (.tup xs) M:=by
 simp only[bt,bz];refine iff_of_eq ?_;congr 1;funext xs M;unfold lQ;split<;>simp[*]
def u7 {m:Bool}{xs:List D}:af (bB m xs M) k↔xs.length<=sz/\if m=true then k (.cell M.length) (M++[xs]) else k (.lst xs) M:=by
 unfold bB;cases m<;>split<;>simp[*]
@[simp] theorem bx {xs:List D}:af (bB false xs M) k↔xs.length<=sz/\k (.lst xs) M:=by simp[u7]
@[simp] theorem nI {xs:List D}:af (bB true xs M) k↔xs.length<=sz/\k (.cell M.length) (M++[xs]):=by simp[u7]
@[simp] theorem iV {m:Bool}:af (aG m s Z M) k↔af (s Z M) λxs M=>af (bB m xs M) k:=by simp[aG]
@[simp] theorem gp {f:Nat}:af (aj f c s Z M) k↔af (s Z M) λds M=>af (c f ds M) k:=by simp[aj]
@[simp] theorem xE {i:Nat}:af (mZ i c s Z M) k↔∃f,Z[i]?.getD none=some (.fn f)/\af (s Z M) λds M=>af (c f ds M) k:=by
 unfold mZ;cases e:Z[i]?.getD none with
 |none=>simp
 |some d=>cases d<;>simp
@[simp] theorem d5 {f:wg}:af (aI f s Z M) k↔af (s Z M) λds M=>af (du f ds M) k:=by simp[aI]
@[simp] theorem BC {t:Ty}:af (bH t a Z M) k↔af (a Z M) λx M=>∃v,b4 t x=some v/\k (.bl v) M:=by simp[bH]
@[simp] theorem BD {fs:List (Str×Nat)}:af (lW fs a Z M) k↔af (a Z M) λx M=>∃y f,x=.str y/\fs.lookup y=some f/\k (.fn f) M:=by
 simp only[lW,bz];refine iff_of_eq ?_;congr 1;funext x M;cases x<;>simp;exact{(by rintro⟨_,⟨f,h,e⟩,q⟩;exact{f,h,e ▸ q}),(by rintro⟨f,h,q⟩;exact{_,⟨f,h,rfl⟩,q})}
@[simp] theorem RR {fs:List (Str×Nat)}:af (h9 fs a Z M) k↔af (a Z M) λx M=>∃y,x=.str y/\k (.bl (!(fs.lookup y).isSome)) M:=by
 simp only[h9,bz];refine iff_of_eq ?_;congr 1;funext x M;cases x<;>simp
set_option tactic.hygienic true in
@[simp] theorem IZ {m:Bool}:af (mY m a Z M) k↔af (a Z M) λx M=>∃n,x=.int n/\(-(2^62)<=n/\n<2^20)/\af (bB m ((List.range n.toNat).map λ(k:Nat)=>D.int (k:Int)) M) k:=by
 simp only[mY,bz];refine iff_of_eq ?_;congr 1;funext x M;cases x<;>simp;rename_i n;split<;>simp[*]
variable{kb:Bool->Mem->Prop}
@[simp] theorem iP:af (au a Z M) kb↔af (a Z M) λx M=>∃v,kC M x=some v/\kb v M:=by simp[au]
@[simp] theorem Nx:af (dX t u Z M) kb↔af (t Z M) λv M=>if v=true then af (u Z M) kb else kb false M:=by
 simp only[dX,bz];refine iff_of_eq ?_;congr 1;funext v M;cases v<;>simp
@[simp] theorem PD:af (cV t u Z M) kb↔af (t Z M) λv M=>if v=true then kb true M else af (u Z M) kb:=by
 simp only[cV,bz];refine iff_of_eq ?_;congr 1;funext v M;cases v<;>simp
@[simp] theorem xZ:af (bo t Z M) kb↔af (t Z M) λv M=>kb (!v) M:=by simp[bo]
variable{kf:Fl->Mem->Prop}{sa sb:GS}
def js (b:GS)(k:Fl->Mem->Prop):Fl->Mem->Prop
 |.next Z,M=>af (b Z M) k
 |.ret d,M=>k (.ret d) M
 |.exc x Z,M=>k (.exc x Z) M
@[simp] theorem PC {b:GS}{x:D}:js b kf (.exc x Z) M↔kf (.exc x Z) M:=Sj
@[simp] theorem bJ {b:GS}:js b kf (.next Z) M↔af (b Z M) kf:=Sj
@[simp] theorem CB {b:GS}{d:D}:js b kf (.ret d) M↔kf (.ret d) M:=Sj
@[simp] theorem aw:af (aK sa sb Z M) kf↔af (sa Z M) (js sb kf):=by
 simp only[aK,bz];refine iff_of_eq ?_;congr 1;funext fl M;cases fl<;>rfl
@[simp] theorem kM:af (az Z M) kf↔kf (.next Z) M:=Sj
@[simp] theorem f9 {i:Nat}:af (aA (.one i) a Z M) kf↔af (a Z M) λx M=>kf (.next (Z.set i (some x))) M:=by simp[aA,b9]
@[simp] theorem Rt {l:List Nat}:af (aA (.tup l) a Z M) kf↔af (a Z M) λx M=>∃ds ρ1,x=.tup ds/\cW l ds Z=some ρ1/\kf (.next ρ1) M:=by
 simp only[aA,bz,jP,bY];refine iff_of_eq ?_;congr 1;funext x M;cases x<;>simp[b9]
@[simp] theorem Kj:af (fg a b d Z M) kf↔af (d Z M) λz M=>af (a Z M) λx M=>af (b Z M) λy M=>∃j n ds i,x=.cell j/\y=.int n/\M[j]?=some ds/\bG ds.length n=some i/\kf (.next Z) (M.set j (ds.set i z)):=by
 simp only[fg,bz];refine iff_of_eq ?_
 congr 1;funext z M;congr 1;funext x M;congr 1;funext y M
 cases x with
 | cell j=>
   cases y with
   | int n=>
     cases e:M[j]? with
     |none=>simp[e]
     | some ds=>
       cases e2:bG ds.length n with
       |none=>simp[e,e2]
       |some i=>simp[e,e2]
   |_=>simp
 |_=>simp
set_option tactic.hygienic true in
@[simp] theorem Kl:af (kD a d Z M) kf↔af (a Z M) λx M=>af (d Z M) λz M=>∃j ds,x=.cell j/\M[j]?=some ds/\ds.length<sz/\kf (.next Z) (M.set j (ds++[z])):=by
 simp only[kD,bz];refine iff_of_eq ?_
 congr 1;funext x M;congr 1;funext z M
 cases x<;>simp;rename_i j;cases e:M[j]? with
 |none=>simp
 |some ds=>by_cases h:ds.length<sz<;>simp[h]
@[simp] theorem cn:af (aB a Z M) kf↔af (a Z M) λx M=>kf (.ret x) M:=by simp[aB]
@[simp] theorem QZ:af (Fp Z M) kf↔kf (.ret .non) M:=Sj
@[simp] theorem Q0:af (yj Z M) kf↔kf (.next Z) M:=Sj
@[simp] theorem Rr:af (PY Z M) kf↔False:=Sj
@[simp] theorem f7:af (aF t sa sb Z M) kf↔af (t Z M) λv M=>if v=true then af (sa Z M) kf else af (sb Z M) kf:=by
 simp only[aF,bz];refine iff_of_eq ?_;congr 1;funext v M;cases v<;>simp
variable{kw:Walk->Mem->Prop}
set_option tactic.hygienic true in
@[simp] theorem iZ:af (eI a Z M) kw↔af (a Z M) λx M=>∃n,x=.int n/\(-(2^62)<=n/\n<2^62)/\kw (λ_=>some ((List.range n.toNat).map λ(k:Nat)=>D.int (k:Int))) M:=by
 simp only[eI,bz];refine iff_of_eq ?_;congr 1;funext x M;cases x<;>simp;rename_i n;split<;>simp[*]
@[simp] theorem jr:af (dE a Z M) kw↔af (a Z M) λx M=>cT x=true/\kw (λM=>bW M x) M:=by
 simp only[dE,bz];refine iff_of_eq ?_;congr 1;funext x M;cases x<;>simp[cT]<;>rfl
@[simp] theorem mn:af (lV a Z M) kw↔af (a Z M) λx M=>cT x=true/\kw (λM=>(bW M x).map (gy 0)) M:=by
 simp only[lV,bz];refine iff_of_eq ?_;congr 1;funext x M;split<;>simp[*]
@[simp] theorem JK:af (nQ a b Z M) kw↔af (a Z M) λx M=>af (b Z M) λy M=>(cT x&&cT y)=true/\kw (pQ x y) M:=by
 simp only[nQ,bz];refine iff_of_eq ?_;congr 1;funext x M;congr 1;funext y M;split<;>simp[*]
def fY (k:D->Mem->Prop):Fl->Mem->Prop
 |.ret d,M=>k d M
 |.next _,M=>k .non M
 |.exc _ _,_=>False
@[simp] theorem Q4 {d:D}:fY k (.ret d) M↔k d M:=Sj
@[simp] theorem QB:fY k (.next Z) M↔k .non M:=Sj
def aq {d:Df}{ds:List D}(e:P f=some d)(hl:ds.length=d.params)(h:af (d.body (ah P n) (ds.map some++List.replicate (d.slots-ds.length) none) M) (fY k)):af (ah P (n+1) f ds M) k:=by
 show af (match P f with|none=>Res.bad|some d=>fW (ah P n) d ds M) k
 rw[e];show af (fW (ah P n) d ds M) k;unfold fW;rw[if_pos hl];revert h;cases d.body (ah P n) (ds.map some++List.replicate (d.slots-ds.length) none) M with
 |ok fl M=>cases fl<;>exact id
 |err=>exact id
 |bad=>exact id
@[simp] theorem u9 {h:Type}{a:h}{k:h->Mem->Prop}{j:D->Mem->Prop}:hR (.ok a M) k j↔k a M:=Sj
@[simp] theorem Q2 {h:Type}{x:D}{k:h->Mem->Prop}:hR (.err x M:Res h) k kx↔kx x M:=Sj
def yZ (k h:D->Mem->Prop):Fl->Mem->Prop
 |.ret d,M=>k d M
 |.next _,M=>k .non M
 |.exc x _,M=>h x M
def eA {d:Df}{j:D->Mem->Prop}(e:P f=some d)(hl:ds.length=d.params)(h:af (d.body (ah P n) (ds.map some++List.replicate (d.slots-ds.length) none) M) (yZ k j)):hR (ah P (n+1) f ds M) k j:=by
 show hR (match P f with|none=>Res.bad|some d=>fW (ah P n) d ds M) k j
 rw[e];show hR (fW (ah P n) d ds M) k j;unfold fW;rw[if_pos hl];revert h;cases d.body (ah P n) (ds.map some++List.replicate (d.slots-ds.length) none) M with
 |ok fl M=>cases fl<;>exact id
 |err=>exact id
 |bad=>exact id
def dG {j:Type}{r:Res j}{x:D}{M':Mem}(h:hR r (λ_ _=>False) λy M=>y=x/\M=M'):r=.err x M':=by
 cases r with
 |ok=>exact h.elim
 |err y M=>obtain⟨rfl,rfl⟩:=h;rfl
 |bad=>exact h.elim
@[simp] theorem RP {d:D}{h:D->Mem->Prop}:yZ k h (.ret d) M↔k d M:=Sj
@[simp] theorem Q3 {h:D->Mem->Prop}:yZ k h (.next Z) M↔k .non M:=Sj
@[simp] theorem RQ:yZ k kx (.exc x Z) M↔kx x M:=Sj
@[simp] theorem kL {f:Nat}:hR (cy f c s Z M) k kx↔af (s Z M) λds M=>hR (c f ds M) k kx:=by
 unfold cy;cases s Z M<;>rfl
@[simp] theorem fx:af (gK a Z M) kf↔hR (a Z M) (λ_ M=>kf (.next Z) M) (λx M=>kf (.exc x Z) M):=by
 unfold gK;cases a Z M<;>rfl
@[simp] theorem wN {i:Nat}:af (eP (.one i) a Z M) kf↔hR (a Z M) (λx M=>kf (.next (Z.set i (some x))) M) (λx M=>kf (.exc x Z) M):=by
 unfold eP;cases a Z M<;>rfl
@[simp] theorem C4 {i:Nat}:af (eK i s Z M) kf↔af (s Z M) λds M=>ds.length<=sz/\kf (.exc (.exc i none) Z) M:=by
 unfold eK;cases s Z M with
 |ok ds j=>by_cases h:ds.length<=sz<;>simp[h]
 |err=>exact Sj
 |bad=>exact Sj
def Mr (i:Nat)(kf:Fl->Mem->Prop):Fl->Mem->Prop
 |.next Z,M=>kf (.next (Z.set i none)) M
 |.ret d,M=>kf (.ret d) M
 |.exc _ _,_=>False
def CA (i:Nat)(h:GS)(kf:Fl->Mem->Prop):Fl->Mem->Prop
 |.exc x Z,M=>af (h (Z.set i (some x)) M) (Mr i kf)
 |fl,M=>kf fl M
set_option tactic.hygienic true in
@[simp] theorem mz {i:Nat}{h:GS}:af (mB sa i h Z M) kf↔af (sa Z M) (CA i h kf):=by
 simp only[mB,bz];refine iff_of_eq ?_;congr 1;funext fl M;cases fl with
 | exc x Z=>
   show af ((h (Z.set i (some x)) M).bind (JI i)) kf=af (h (Z.set i (some x)) M) (Mr i kf);simp only[bz];congr 1;funext fl M;cases fl<;>rfl
 |next Z=>rfl
 |ret d=>rfl
def gG {v:Type}{f:v->D->Mem->Res v}{w:Walk}{ds:List D}{a:v}{k:v->Mem->Prop}(I:Nat->v->Mem->Prop)(E:∀i a M,I i a M->w M=some ds)(B:I 0 a M)
 (hs:∀i d a M,ds[i]?=some d->I i a M->af (f a d M) (I (i+1))) (hk:∀a M,I ds.length a M->k a M):af (dC f w a M) k:=by
 have z:∀(m i:Nat) (a:v) (M:Mem),ds.length-i<m->i<=ds.length->I i a M->af (gx f w m i a M) k:=by
  intro m;induction m with
  |zero=>intro i a M h;exact absurd h (Nat.not_lt_zero _)
  | succ m L=>
    intro i a M h hi y;show af (match w M with|none=>Res.bad|some ds=>match ds[i]? with|none=>Res.ok a M|some d=>(f a d M).bind (gx f w m (i+1))) k
    rw[E i a M y];dsimp only;by_cases j:i<ds.length
    ·rw[RE j];simp only[bz];exact aN (hs i ds[i] a M (RE j) y) λH F J=>L (i+1) H F `a j J
    ·have e:i=ds.length:=`a
     subst e;rw[SG (Rj _)];exact hk a M y
 unfold dC;rw[E 0 a M B];exact z _ 0 a M `s (Tc _) B
def cP {t:gr}{w:Walk}{v:GS}{ds:List D}(I:Nat->Env->Mem->Prop)(z:∀i Z M,I i Z M->w M=some ds)(y:I 0 Z M)
 (hs:∀i d Z M,ds[i]?=some d->I i Z M->∃ρ1,b9 t d Z=some ρ1/\af (v ρ1 M) λfl M=>∃ρ',fl=.next ρ'/\I (i+1) ρ' M) (hk:∀Z M,I ds.length Z M->kf (.next Z) M):af (dC (iQ t v) w (.next Z) M) kf:=by
 refine gG (λi fl M=>∃Z,fl=.next Z/\I i Z M) ((by rintro i fl M ⟨Z,_,h⟩;exact z i Z M h)) ⟨Z,rfl,y⟩ ?_ ?_
 ·rintro i d fl M hd ⟨Z,rfl,j⟩;obtain⟨ρ1,e,h⟩:=hs i d Z M hd j;simp only[iQ,bz,jP,e];exact⟨ρ1,rfl,h⟩
 ·rintro fl M ⟨Z,rfl,j⟩;exact hk Z M j
@[simp] theorem dP {j:gr}{w:GW}{h:GS}:af (dQ j w h Z M) kf↔af (w Z M) λw M=>af (dC (iQ j h) w (.next Z) M) kf:=by simp[dQ]
@[simp] theorem gn {m:Bool}{n:Nat}{h:gr}{w:GW}{g:GB}:af (cf m n h w g Z M) k↔af (w Z M) λw M=>af (dC (dD h g (List.replicate n none++Z)) w [] M) λacc M=>af (bB m acc M) k:=by simp[cf]
variable{kl:List D->Mem->Prop}
@[simp] theorem Gv {ge:GE}{acc:List D}:af (b8 ge Z acc M) kl↔af (ge Z M) λx M=>acc.length<sz/\kl (acc++[x]) M:=by
 simp only[b8,bz];refine iff_of_eq ?_;congr 1;funext x M;split<;>simp[*]
def comp_map {v:gr}{w:Walk}{ge:GE}{ds:List D}{j:Env}(I:Nat->List D->Mem->Prop)(hz:ds.length<=sz)(B:∀i acc M,I i acc M->w M=some ds)(y:I 0 [] M)
 (hs:∀i d acc M,ds[i]?=some d->acc.length=i->I i acc M->∃ρ1,b9 v d j=some ρ1/\af (ge ρ1 M) λx M=>I (i+1) (acc++[x]) M) (hk:∀acc M,acc.length=ds.length->I ds.length acc M->kl acc M) :
 af (dC (dD v (b8 ge) j) w [] M) kl:=by
 refine gG (λi acc M=>acc.length=i/\I i acc M) (λi acc M h=>B i acc M h.2) ⟨rfl,y⟩ ?_ (λacc M h=>hk acc M h.1 h.2);rintro i d acc M hd ⟨hl,z⟩;obtain⟨ρ1,e,h⟩:=hs i d acc M hd hl z;have hi:i<ds.length:=(Rb.mp hd).1;simp only[dD,bz,jP,e,Gv];exact{ρ1,rfl,aN h λx M h=>{`a,by simp[hl],h}}
end
def ao {M:Mem}(j:t Z M=.ok false M)(h:af (rest Z M) k):af (aK (aF t A az) rest Z M) k:=by
 simp only[aw,f7];rw[j];exact h
def bh {k:Fl->Mem->Prop}(j:t Z M=.ok true M)(he:e Z M=.ok v M)(h:k (.ret v) M):af (aK (aF t #v[aB e] az) rest Z M) k:=by
 simp only[aw,f7,cn];rw[j];show af (e Z M) _;rw[he];exact h
def aZ {v:D}(he:e Z M=.ok v M)(h:k (.ret v) M):af (#v[aB e] Z M) k:=by
 simp only[aw,cn];rw[he];exact h
def cx (e:r=.ok (.ret v) M):af r (fY λx M'=>x=v/\M'=M):=by rw[e];exact⟨rfl,rfl⟩
structure HasB0 (P:Nat->Option Df):Prop where
 is_between:P 0=some {3,3,fD}
 is_word:P 1=some {2,2,i9}
 is_place:P 2=some {2,2,iq}
 is_cost:P 3=some {1,1,ja}
 is_tuple_of:P 4=some {2,2,fe}
 is_table:P 5=some {2,2,ip}
 is_double_table:P 6=some {2,2,dA}
 is_turn:P 7=some {3,6,fA}
 is_join:P 8=some {3,7,fC}
 is_move:P 9=some {3,6,fB}
 is_put:P 10=some {3,6,gO}
 is_deed:P 11=some {3,5,dH}
 is_machine:P 12=some {1,4,ir}
 need_machine:P 13=some {1,1,c7}
structure HasM0 (P:Nat->Option Df):Prop extends HasB0 P where
 is_deed_number:P 16=some {2,2,eZ}
 need_numbers:P 17=some {2,4,cj}
 need_row:P 18=some {2,2,dF}
structure HasM (P:Nat->Option Df):Prop extends HasM0 P where
 turned:P 20=some {2,6,l5}
 joined:P 21=some {2,7,l8}
 moved:P 22=some {2,6,n8}
 put_in:P 23=some {2,6,l6}
 done:P 24=some {2,4,qN}
 all_standing:P 25=some {3,5,iM}
structure HasP0 (P:Nat->Option Df):Prop where
 law_spread:P 28=some {2,6,md}
 law_open:P 29=some {1,4,kF}
 law_anew:P 30=some {1,1,kG}
 law_take:P 31=some {2,5,oC}
structure HasP (P:Nat->Option Df):Prop extends HasP0 P where
 law_tab:P 32=some {2,6,jB}
 law_deed:P 33=some {3,7,iY}
 law_machine:P 34=some {4,8,fP}
instance coeHasB0 {P:Nat->Option Df}:Coe (HasM0 P) (HasB0 P):=⟨HasM0.toHasB0⟩
instance coeHasBM {P:Nat->Option Df}:Coe (HasM P) (HasB0 P):={λh=>h.toHasM0.toHasB0}
structure ue (P:Nat->Option Df):Prop where
 turned:P 20=some {2,6,l5}
 joined:P 21=some {2,7,l8}
 moved:P 22=some {2,6,n8}
 put_in:P 23=some {2,6,l6}
 done:P 24=some {2,4,qN}
def HasM.r {P:Nat->Option Df}(h:HasM P):ue P:=⟨h.turned,h.joined,h.moved,h.put_in,h.done⟩
instance coeHasR0 {P:Nat->Option Df}:Coe (HasM P) (ue P):=⟨HasM.r⟩
instance coeHasM {P:Nat->Option Df}:Coe (HasM P) (HasM0 P):=⟨HasM.toHasM0⟩
instance coeHasP {P:Nat->Option Df}:Coe (HasP P) (HasP0 P):=⟨HasP.toHasP0⟩
@[simp] theorem RU {d:Option D}{r:Env}:(d::r)[0]?.getD none=d:=rfl
section
variable{M:Mem}{k:D->Mem->Prop}
def ql {j:Type}{c:Prop}[Decidable c]{r:Res j}{k:j->Mem->Prop}:af (if c then r else .bad) k↔c/\af r k:=by split<;>simp[*]
@[simp] theorem jb {m:Bool}{i j:Int}:af (gM m .add (.int i) (.int j) M) k↔k (.int (i+j)) M:=Sj
@[simp] theorem Ag {m:Bool}{i j:Int}:af (gM m .sub (.int i) (.int j) M) k↔k (.int (i-j)) M:=Sj
@[simp] theorem RG {m:Bool}{i j:Int}:af (gM m .mod (.int i) (.int j) M) k↔0<j/\k (.int (i % j)) M:=ql
@[simp] theorem qS {m:Bool}{x y:List D}:af (gM m .add (.tup x) (.tup y) M) k↔(x++y).length<=sz/\k (.tup (x++y)) M:=by
 show af (lQ _ _) k↔_;unfold lQ;exact ql
@[simp] theorem lq {m:Bool}{x y:List D}:af (gM m .add (.lst x) (.lst y) M) k↔af (bB m (x++y) M) k:=Sj
@[simp] theorem Q5 {i j:Int}:bw .lt (.int i) (.int j) M=some (decide (i<j)):=rfl
@[simp] theorem Q6 {i j:Int}:bw .le (.int i) (.int j) M=some (decide (i<=j)):=rfl
@[simp] theorem Q7 {i j:Int}:bw .gt (.int i) (.int j) M=some (decide (j<i)):=rfl
@[simp] theorem Q8 {i j:Int}:bw .ge (.int i) (.int j) M=some (decide (j<=i)):=rfl
@[simp] theorem RW {i j:Int}:bw .eq (.int i) (.int j) M=some (i==j):=rfl
@[simp] theorem OP {i j:Int}:bw .ne (.int i) (.int j) M=some (!(i==j)):=rfl
@[simp] theorem Ri {b:Bool}:kC M (.bl b)=some b:=rfl
@[simp] theorem QW {ds:List D}:kC M (.tup ds)=some (!ds.isEmpty):=rfl
@[simp] theorem QX {ds:List D}:kC M (.lst ds)=some (!ds.isEmpty):=rfl
@[simp] theorem xp {ds:List D}:af (du .len [.tup ds] M) k↔k (.int ds.length) M:=Sj
@[simp] theorem IG {ds:List D}:af (du .len [.lst ds] M) k↔k (.int ds.length) M:=Sj
@[simp] theorem Jw {ds:List D}:af (du .all [.lst ds] M) k↔∃bs,boolsOf ds=some bs/\k (.bl (bs.all id)) M:=by
 show af (match boolsOf ds with|some bs=>_|none=>_) k↔_
 cases boolsOf ds<;>simp
@[simp] theorem QY {ds:List D}:af (du .sum [.lst ds] M) k↔∃bs,intsOf ds=some bs/\k (.int bs.sum) M:=by
 show af (match intsOf ds with|some bs=>_|none=>_) k↔_
 cases intsOf ds<;>simp
@[simp] theorem O2 {ds:List D}:af (du .tuple [.lst ds] M) k↔k (.tup ds) M:=Sj
@[simp] theorem xY {j:Nat}:af (du .tuple [.cell j] M) k↔∃ds,M[j]?=some ds/\k (.tup ds) M:=by
 show af (match M[j]? with|some xs=>_|none=>_) k↔_
 cases M[j]?<;>simp
@[simp] theorem DU {m:Bool}{ds:List D}:af (du (.list m) [.lst ds] M) k↔af (bB m ds M) k:=Sj
@[simp] theorem iI {ds:List D}{i:Int}:c4 (.tup ds) (.int i) M=(bG ds.length i).bind λj=>ds[j]?:=rfl
@[simp] theorem IM {ds:List D}{i:Int}:c4 (.lst ds) (.int i) M=(bG ds.length i).bind λj=>ds[j]?:=rfl
@[simp] theorem Qx {j:Nat}{i:Int}:c4 (.cell j) (.int i) M=(M[j]?).bind λds=>(bG ds.length i).bind λj=>ds[j]?:=rfl
def fb {n i:Nat}(h:i<n):bG n (i:Int)=some i:=by
 unfold bG;rw[if_pos (Int.natCast_nonneg i),if_pos (by exact_mod_cast h)];rfl
def IK {n:Nat}(h:0<n):bG n (-1)=some (n-1):=by
 unfold bG;rw[if_neg `a,if_pos `a]
 congr 1;omega
end
def aT {j:Type}{r:Res j}{d:j}{M:Mem}(h:af r λx M'=>x=d/\M'=M):r=.ok d M:=by
 obtain⟨a,M',e,rfl,rfl⟩:=eE.mp h;exact e
def ai {r:Res D}{d:D}{M:Mem}(h:af r λx M'=>x=d/\M'=M):r=.ok d M:=by
 obtain⟨a,M',e,rfl,rfl⟩:=eE.mp h;exact e
section
variable{P:Nat->Option Df}(h:HasB0 P){M:Mem}
include h
theorem eO (n:Nat)(t lo hi:Int):ah P (n+1) 0 [.int t,.int lo,.int hi] M=.ok (.bl (decide (lo<=t)&&decide (t<=hi))) M:=by
 refine ai (aq h.is_between rfl ?_);simp[fD,b4];by_cases h1:lo<=t<;>simp[h1]<;>omega
end
def gW {z:gr}{w:Walk}{ge:GE}{ds:List D}{u:Env}{M:Mem}{y:List D->Mem->Prop}(f:D->D)(hz:ds.length<=sz)(B:w M=some ds)(hs:∀d∈ds,∃ρ1,b9 z d u=some ρ1/\ge ρ1 M=.ok (f d) M)(hk:y (ds.map f) M) :
 af (dC (dD z (b8 ge) u) w [] M) y:=by
 refine comp_map (λi j v=>v=M/\j=(ds.take i).map f) hz (λi j v h=>by rw[h.1];exact B) ⟨rfl,rfl⟩ ?_ ?_
 ·rintro i d j v hd _ ⟨rfl,rfl⟩;obtain⟨ρ1,e1,e2⟩:=hs d (RH hd);refine{ρ1,e1,?_};rw[e2];refine{rfl,?_};have E:i<ds.length:=(Rb.mp hd).1;rw[SV,hd];simp
 ·rintro j v _ ⟨rfl,rfl⟩;simpa using hk
def zm {ds:List D}(h:∀d∈ds,d=.bl true):∃bs,boolsOf ds=some bs/\bs.all id=true:=by
 induction ds with
 |nil=>exact{[],rfl,rfl}
 | cons d r j=>
   obtain⟨bs,e,q⟩:=j λd hd=>h d (Rk _ hd);obtain rfl:=h d Rw;exact{true::bs,by simp[boolsOf,e],by simpa using q}
def pK {u:gr}{ge:GE}{w:Walk}{ds:List D}{j:Env}{M:Mem}(hz:ds.length<=sz)(v:w M=some ds)(he:∀d∈ds,∃ρ1,b9 u d j=some ρ1/\ge ρ1 M=.ok (.bl true) M) :
 af (dC (dD u (b8 ge) j) w [] M) λacc M'=>acc.length<=sz/\∃bs,boolsOf acc=some bs/\¬ false∈bs/\M'=M:=by
 refine gW (λ_=>.bl true) hz v he ?_;obtain⟨bs,y,B⟩:=zm (ds:=ds.map λ_=>D.bl true) `s
 refine{by simpa using hz,bs,y,λz=>?_,rfl}
 have:=Rq.mp B false z;cases this
abbrev nD (n:Nat):D:=.int (n:Int)
def aS (l:List Nat):D:=.tup (l.map nD)
inductive bb where
 |turn (at_:Nat) (tab:List Nat) (cost:Nat)
 |join (at_ other:Nat) (tab:List (List Nat)) (cost:Nat)
 |move (at_ other cost:Nat)
 |put (at_ word cost:Nat)
def bb.d:bb->D
 |.turn a t c=>.tup [.str "turn",nD a,aS t,nD c]
 |.join a o t c=>.tup [.str "join",nD a,nD o,.tup (t.map aS),nD c]
 |.move a o c=>.tup [.str "move",nD a,nD o,nD c]
 |.put a w c=>.tup [.str "put",nD a,nD w,nD c]
noncomputable def bb.cost:bb->Nat
 |.turn _ _ c=>c
 |.join _ _ _ c=>c
 |.move _ _ c=>c
 |.put _ _ c=>c
structure a9 where
 words:Nat
 places:Nat
 deeds:List bb
noncomputable def a9.d (m:a9):D:=.tup [nD m.words,nD m.places,.tup (m.deeds.map bb.d)]
def ft (w:Nat)(t:List Nat):Prop:=t.length=w/\∀x∈t,x<w
def eh (c:Nat):Prop:=1<=c/\c<=3
def bX (w p:Nat):bb->Prop
 |.turn a t c=>a<p/\ft w t/\eh c
 |.join a o t c=>a<p/\o<p/\(t.length=w/\∀x∈t,ft w x)/\eh c
 |.move a o c=>a<p/\o<p/\eh c
 |.put a x c=>a<p/\x<w/\eh c
structure bg (m:a9):Prop where
 w2:2<=m.words
 w4:m.words<=4
 p1:1<=m.places
 p2:m.places<=2
 d1:1<=m.deeds.length
 d6:m.deeds.length<=6
 ok:∀d∈m.deeds,bX m.words m.places d
def av {n:Nat}(h:n<=100000):n<=sz:=Rp h `d
section
variable{P:Nat->Option Df}(h:HasB0 P){M:Mem}
include h
theorem wF (n:Nat){w t:Nat}(j:t<w):ah P (n+2) 1 [nD w,nD t] M=.ok (.bl true) M:=by
 refine ai (aq h.is_word rfl ?_);simp[i9,eO h];omega
theorem iB (n:Nat){w t:Nat}(j:t<w):ah P (n+2) 2 [nD w,nD t] M=.ok (.bl true) M:=by
 refine ai (aq h.is_place rfl ?_);simp[iq,eO h];omega
theorem lJ (n:Nat){c:Nat}(j:eh c):ah P (n+2) 3 [nD c] M=.ok (.bl true) M:=by
 unfold eh at j;refine ai (aq h.is_cost rfl ?_);simp[ja,eO h];omega
theorem oP (n:Nat){w:Nat}{ds:List D}(j:ds.length=w):ah P (n+1) 4 [nD w,.tup ds] M=.ok (.bl true) M:=by
 refine ai (aq h.is_tuple_of rfl ?_);simp[fe,b4,j]
theorem uA (n:Nat){w:Nat}{t:List Nat}(v:w<=4)(j:ft w t):ah P (n+3) 5 [nD w,aS t] M=.ok (.bl true) M:=by
 refine ai (aq h.is_table rfl ?_);have e:ah P (n+2) 4 [nD w,aS t] M=.ok (.bl true) M:=oP h (n+1) (by simpa using j.1)
 simp[ip,e];refine{rfl,pK (av (by simp[j.1];omega)) rfl λd hd=>?_}
 obtain⟨x,u,rfl⟩:=RI.mp hd;refine{_,rfl,ai ?_};simp[wF h n (j.2 x u)]
theorem Ax (n:Nat){w:Nat}{t:List (List Nat)}(u:w<=4)(j:t.length=w/\∀x∈t,ft w x):ah P (n+4) 6 [nD w,.tup (t.map aS)] M=.ok (.bl true) M:=by
 refine ai (aq h.is_double_table rfl ?_);have e:ah P (n+3) 4 [nD w,.tup (t.map aS)] M=.ok (.bl true) M:=oP h (n+2) (by simpa using j.1)
 simp[dA,e];refine{rfl,pK (av (by simp[j.1];omega)) rfl λd hd=>?_}
 obtain⟨x,v,rfl⟩:=RI.mp hd;refine{_,rfl,ai ?_};simp[uA h n u (j.2 x v)]
theorem Hh (n:Nat){w p a c:Nat}{t:List Nat}(j:w<=4)(hd:bX w p (.turn a t c)):ah P (n+4) 7 [nD w,nD p,.tup [nD a,aS t,nD c]] M=.ok (.bl true) M:=by
 obtain⟨h1,h2,h3⟩:=hd;refine ai (aq h.is_turn rfl ?_);simp[fA,cW,iB h (n+1) h1,uA h n j h2,lJ h (n+1) h3]
theorem Hx (n:Nat){w p a o c:Nat}{t:List (List Nat)}(j:w<=4)(hd:bX w p (.join a o t c)):ah P (n+5) 8 [nD w,nD p,.tup [nD a,nD o,.tup (t.map aS),nD c]] M=.ok (.bl true) M:=by
 obtain⟨h1,h2,h3,h4⟩:=hd;refine ai (aq h.is_join rfl ?_);simp[fC,cW,iB h (n+2) h1,iB h (n+2) h2,Ax h n j h3,lJ h (n+2) h4]
theorem Hv (n:Nat){w p a o c:Nat}(hd:bX w p (.move a o c)):ah P (n+3) 9 [nD w,nD p,.tup [nD a,nD o,nD c]] M=.ok (.bl true) M:=by
 obtain⟨h1,h2,h3⟩:=hd;refine ai (aq h.is_move rfl ?_);simp[fB,cW,iB h n h1,iB h n h2,lJ h n h3]
theorem Hs (n:Nat){w p a x c:Nat}(hd:bX w p (.put a x c)):ah P (n+3) 10 [nD w,nD p,.tup [nD a,nD x,nD c]] M=.ok (.bl true) M:=by
 obtain⟨h1,h2,h3⟩:=hd;refine ai (aq h.is_put rfl ?_);simp[gO,cW,iB h n h1,wF h n h2,lJ h n h3]
end
def LZ:cK.lookup (Str.ofString "turn")=some 7:=`k
def LY:cK.lookup (Str.ofString "join")=some 8:=`k
def LX:cK.lookup (Str.ofString "move")=some 9:=`k
def LW:cK.lookup (Str.ofString "put")=some 10:=`k
section
variable{P:Nat->Option Df}(h:HasB0 P){M:Mem}
include h
theorem t8 (n:Nat){w p f:Nat}{s:Str}{ds:List D}(lk:cK.lookup s=some f)(q:ah P (n+5) f [nD w,nD p,.tup ds] M=.ok (.bl true) M):ah P (n+6) 11 [nD w,nD p,.tup (.str s::ds)] M=.ok (.bl true) M:=by
 refine ai (aq h.is_deed rfl ?_);simp[-List.lookup_isSome_iff,dH,b4,bG,lk,ez,aL,cg,cut,q]
theorem HB (n:Nat){w p:Nat}{d:bb}(j:w<=4)(hd:bX w p d):ah P (n+6) 11 [nD w,nD p,d.d] M=.ok (.bl true) M:=by
 cases d with
 |turn a t c=>exact t8 h n LZ (Hh h (n+1) j hd)
 |join a o t c=>exact t8 h n LY (Hx h n j hd)
 |move a o c=>exact t8 h n LX (Hv h (n+2) hd)
 |put a x c=>exact t8 h n LW (Hs h (n+2) hd)
theorem Hw (n:Nat){m:a9}(hm:bg m):ah P (n+7) 12 [m.d] M=.ok (.bl true) M:=by
 refine ai (aq h.is_machine rfl ?_);have e:ah P (n+6) 4 [.int 3,.tup [nD m.words,nD m.places,.tup (m.deeds.map bb.d)]] M=.ok (.bl true) M:=oP h (n+5) rfl;have l1:=hm.d1;have u:=hm.d6;have b1:(decide ((2:Int)<=(m.words:Int))&&decide ((m.words:Int)<=4))=true:=by have:=hm.w2;have:=hm.w4;simp;omega
 have b2:(decide ((1:Int)<=(m.places:Int))&&decide ((m.places:Int)<=2))=true:=by have:=hm.p1;have:=hm.p2;simp;omega
 simp only[Ra,decide_eq_true_eq] at b1 b2;simp[ir,a9.d,e,cW,eO h,b1,b2,b4];refine{`a,`a,rfl,pK (av `o) rfl λd hd=>?_}
 obtain⟨x,j,rfl⟩:=RI.mp hd;refine{_,rfl,ai ?_};simp[HB h n hm.w4 (hm.ok x j)]
end
section
variable{Z:Env}{M:Mem}{a b:GE}{s:GA}{k:D->Mem->Prop}{kf:Fl->Mem->Prop}{t u:GT}{A rest:GS}
def a7 {t rest:GS}{ρ':Env}(e:t Z M=.ok (.next ρ') M)(h:af (rest ρ' M) kf):af (aK t rest Z M) kf:=by
 simp only[aw];rw[e];exact h
def ae {x:D}{xs:List D}(ea:a Z M=.ok x M)(es:s Z M=.ok xs M):ia a s Z M=.ok (x::xs) M:=by
 unfold ia;rw[ea];show(s Z M).bind _=_;rw[es];rfl
def da {xs:List D}(es:s Z M=.ok xs M)(hl:xs.length<=100):aG false s Z M=.ok (.lst xs) M:=by
 unfold aG;rw[es];show(if xs.length<=sz then(if false=true then _ else Res.ok (D.lst xs) M) else .bad)=_;rw[if_pos (av `a)]
 rfl
def iv {xs ys:List D}(ea:a Z M=.ok (.lst xs) M)(h:b Z M=.ok (.lst ys) M)(hl:(xs++ys).length<=100):ak false .add a b Z M=.ok (.lst (xs++ys)) M:=by
 unfold ak;rw[ea];show(b Z M).bind _=_;rw[h];show(if (xs++ys).length<=sz then(if false=true then _ else Res.ok (D.lst (xs++ys)) M) else .bad)=_;rw[if_pos (av `a)]
 rfl
def bP {i:Nat}{x:D}(e:a Z M=.ok x M):aA (.one i) a Z M=.ok (.next (Z.set i (some x))) M:=by
 unfold aA;rw[e];rfl
def ag {j:Nat}{x:D}(h:Z[j]?.getD none=some x):aa j Z M=.ok x M:=by
 unfold aa;rw[h];rfl
def aU {f:Nat}{c:Call}{xs:List D}(e:s Z M=.ok xs M):aj f c s Z M=c f xs M:=by
 unfold aj;rw[e];rfl
def ij {f i:Nat}{c:Call}{x:D}{r:Res D}(h:Z[i]?.getD none=some x)(e:c f [x] M=r):aj f c #[aa i] Z M=r:=(aU (ae (ag h) rfl)).trans e
def jA {f i j:Nat}{c:Call}{x y:D}{r:Res D}(h:Z[i]?.getD none=some x)(h2:Z[j]?.getD none=some y)(e:c f [x,y] M=r):aj f c #[aa i,aa j] Z M=r:=(aU (ae (ag h) (ae (ag h2) rfl))).trans e
def cv {i:Nat}(h:af (a Z M) k)(hk:∀x M',k x M'->af (rest (Z.set i (some x)) M') kf):af (aK (aA (.one i) a) rest Z M) kf:=by
 obtain⟨x,M',e,q⟩:=eE.mp h;simp only[aw];unfold aA;rw[e];exact hk x M' q
def gi (j:t Z M=.ok true M)(h:af (A Z M) (js rest kf)):af (aK (aF t A az) rest Z M) kf:=by
 simp only[aw,f7];rw[j];exact h
def bu {b:Bool}(h:t Z M=.ok b M)(h1:b=true->af (A Z M) (js rest kf))(h2:b=false->af (rest Z M) kf):af (aK (aF t A az) rest Z M) kf:=by
 cases b with
 |true=>exact gi h (h1 rfl)
 |false=>exact ao h (h2 rfl)
def bf {b:Bool}(h:t Z M=.ok b M):bo t Z M=.ok (!b) M:=by
 unfold bo;rw[h];rfl
def aP {b:Bool}(h:a Z M=.ok (.bl b) M):au a Z M=.ok b M:=by
 unfold au;rw[h];rfl
def yt {x y:Bool}(h1:t Z M=.ok x M)(h2:u Z M=.ok y M):cV t u Z M=.ok (x||y) M:=by
 unfold cV;rw[h1];cases x with
 |true=>rfl
 |false=>exact h2
def gY {x y:Bool}(h1:t Z M=.ok x M)(h2:u Z M=.ok y M):dX t u Z M=.ok (x&&y) M:=by
 unfold dX;rw[h1];cases x with
 |true=>exact h2
 |false=>rfl
def iu {x y:Bool}(h1:a Z M=.ok (.bl x) M)(h2:x=true->b Z M=.ok (.bl y) M):dY a b Z M=.ok (.bl (x&&y)) M:=by
 unfold dY;rw[h1];cases x with
 |true=>exact h2 rfl
 |false=>rfl
def fM {k:Bool}{x:D}(h:t Z M=.ok k M)(h1:k=true->a Z M=.ok x M)(h2:k=false->b Z M=.ok x M):fh t a b Z M=.ok x M:=by
 unfold fh;rw[h];cases k with
 |true=>exact h1 rfl
 |false=>exact h2 rfl
def eT {j:Nat}{ds:List D}(e:Z[j]?.getD none=some (.tup ds)):aI .len #[aa j] Z M=.ok (nD ds.length) M:=by
 unfold aI;rw[ae (ag e) rfl];rfl
def Fz {i j:Int}(h1:a Z M=.ok (.int i) M)(h2:b Z M=.ok (.int j) M):au (aE .ne a b) Z M=.ok (!(i==j)) M:=by
 refine aP ?_;unfold aE;rw[h1];show(b Z M).bind _=_;rw[h2];rfl
def vN {l h i:Int}{c:GE}(h1:a Z M=.ok (.int l) M)(h2:b Z M=.ok (.int i) M)(h3:c Z M=.ok (.int h) M):jU .le .le a b c Z M=.ok (.bl (decide (l<=i)&&decide (i<=h))) M:=by
 unfold jU;rw[h1];show(b Z M).bind _=_;rw[h2];show(if decide (l<=i)=true then _ else _)=_;cases decide (l<=i) with
 | true=>
   show(c Z M).bind _=_;rw[h3];rfl
 |false=>rfl
end
noncomputable def Th:Nat->Nat->D->Prop
 |_,_,.non=>True
 |_,_,.bl _=>True
 |_,_,.int _=>True
 |_,L,.str x=>x.cps.size<=L/\x.cps.all (· < 0x110000)=true
 |n+1,L,.tup j=>j.length<=L/\∀d∈j,Th n L d
 |n+1,L,.lst j=>j.length<=L/\∀d∈j,Th n L d
 |_,_,_=>False
theorem Th.mono:∀{n n' L j:Nat}{d:D},Th n L d->n<=n'->L<=j->Th n' j d
 |n,n',L,j,.non,_,_,_=>by cases n'<;>trivial
 |n,n',L,j,.bl _,_,_,_=>by cases n'<;>trivial
 |n,n',L,j,.int _,_,_,_=>by cases n'<;>trivial
 | n,n',L,j,.str x,h,_,l=>by
   have h:x.cps.size<=L/\x.cps.all (· < 0x110000)=true:=by cases n<;>exact h
   have:x.cps.size<=j/\x.cps.all (· < 0x110000)=true:={Rp h.1 l,h.2};cases n'<;>exact this
 |n+1,n'+1,L,j,.tup z,h,a,l=>{Rp h.1 l,λd hd=>Th.mono (h.2 d hd) (Nat.le_of_succ_le_succ a) l}
 |n+1,n'+1,L,j,.lst z,h,a,l=>{Rp h.1 l,λd hd=>Th.mono (h.2 d hd) (Nat.le_of_succ_le_succ a) l}
 |n+1,0,L,j,.tup z,h,a,l=>`a
 |n+1,0,L,j,.lst z,h,a,l=>`a
 |0,n',L,j,.tup z,h,a,l=>h.elim
 |0,n',L,j,.lst z,h,a,l=>h.elim
 |n,n',L,j,.frz _,h,_,_=>by cases n<;>exact h.elim
 |n,n',L,j,.cell _,h,_,_=>by cases n<;>exact h.elim
 |n,n',L,j,.fn _,h,_,_=>by cases n<;>exact h.elim
 |n,n',L,j,.exc _ _,h,_,_=>by cases n<;>exact h.elim
def Th.pure:∀{n L:Nat}{d:D},Th n L d->ax n d=true
 |n,L,.non,_=>by cases n<;>rfl
 |n,L,.bl _,_=>by cases n<;>rfl
 |n,L,.int _,_=>by cases n<;>rfl
 |n,L,.str x,h=>by cases n<;>exact h.2
 | n+1,L,.tup j,h=>by
   show j.all (ax n)=true;rw[Rq];exact λd hd=>(h.2 d hd).pure
 | n+1,L,.lst j,h=>by
   show j.all (ax n)=true;rw[Rq];exact λd hd=>(h.2 d hd).pure
 |0,L,.tup j,h=>h.elim
 |0,L,.lst j,h=>h.elim
 |n,L,.frz _,h=>by cases n<;>exact h.elim
 |n,L,.cell _,h=>by cases n<;>exact h.elim
 |n,L,.fn _,h=>by cases n<;>exact h.elim
 |n,L,.exc _ _,h=>by cases n<;>exact h.elim
def Th.view {n L:Nat}{d:D}{M:Mem}(h:Th n L d):view M d=d:=by
 cases d<;>first|rfl|(cases n<;>exact h.elim)
def Th.tup {n L:Nat}{ds:List D}(h:Th n L (.tup ds)):ds.length<=L/\∀d∈ds,Th n L d:=by
 cases n with
 |zero=>exact h.elim
 |succ n=>exact{h.1,λd hd=>(h.2 d hd).mono (SR n) (Rj L)}
noncomputable def aQ (lo hi:Int):D->Bool
 |.int i=>decide (lo<=i)&&decide (i<=hi)
 |_=>false
noncomputable def fv (w:Nat):D->Bool
 |.tup j=>j.length==w
 |_=>false
noncomputable def fV (w:Nat):D->Bool
 |.tup j=>j.length==w&&j.all (aQ 0 ((w:Int)-1))
 |_=>false
noncomputable def iW (w:Nat):D->Bool
 |.tup j=>j.length==w&&j.all (fV w)
 |_=>false
def j8 (w p:Nat):List D->Bool
 |[a,t,c]=>aQ 0 ((p:Int)-1) a&&(fV w t&&aQ 1 3 c)
 |_=>false
def iU (w p:Nat):List D->Bool
 |[a,o,t,c]=>aQ 0 ((p:Int)-1) a&&(aQ 0 ((p:Int)-1) o&&(iW w t&&aQ 1 3 c))
 |_=>false
def jv (w p:Nat):List D->Bool
 |[a,o,c]=>aQ 0 ((p:Int)-1) a&&(aQ 0 ((p:Int)-1) o&&aQ 1 3 c)
 |_=>false
def mF (w p:Nat):List D->Bool
 |[a,x,c]=>aQ 0 ((p:Int)-1) a&&(aQ 0 ((w:Int)-1) x&&aQ 1 3 c)
 |_=>false
def cp (w p:Nat)(s:Str)(ds:List D):Bool:=
 if s="turn" then j8 w p ds else if s="join" then iU w p ds else if s="move" then jv w p ds else if s="put" then mF w p ds else false
def fj (w p:Nat):D->Bool
 |.tup (.str s::ds)=>cp w p s ds
 |_=>false
noncomputable def iG:D->Bool
 |.tup j=>decide (1<=j.length)&&decide (j.length<=6)
 |_=>false
noncomputable def qx:D->List D
 |.tup j=>j
 |_=>[]
noncomputable def eU:D->Nat
 |.int i=>i.toNat
 |_=>0
def iL {lo hi:Int}{d:D}(h:aQ lo hi d=true)(j:0<=lo):d=nD (eU d)/\lo<=(eU d:Int)/\(eU d:Int)<=hi:=by
 cases d with
 | int i=>
   simp[aQ] at h;refine{?_,?_}
   ·show D.int i=D.int ((i.toNat:Nat):Int);rw[Tu `a]
   ·show lo<=((i.toNat:Nat):Int)/\((i.toNat:Nat):Int)<=hi;rw[Tu `a]
    exact h
 |_=>cases h
def hV:D->Bool
 |.tup [a,b,c]=>aQ 2 4 a&&(aQ 1 2 b&&(iG c&&(qx c).all (fj (eU a) (eU b))))
 |_=>false
def vi {d:D}(h:fv 3 d=false):hV d=false:=by
 match d,h with
 |.tup [a,b,c],h=>cases h
 |.tup [],_=>rfl
 |.tup [_],_=>rfl
 |.tup [_,_],_=>rfl
 |.tup (_::_::_::_::r),_=>rfl
 |.non,_=>rfl
 |.bl _,_=>rfl
 |.int _,_=>rfl
 |.str _,_=>rfl
 |.lst _,_=>rfl
 |.frz _,_=>rfl
 |.cell _,_=>rfl
 |.fn _,_=>rfl
 |.exc _ _,_=>rfl
def om:∀{b:Bool},(!b)=true->b=false:=`d
def oo:∀{b:Bool},(!b)=false->b=true:=`d
section
variable{Z:Env}{M:Mem}{a b:GE}{t u:GT}{x y:D}{v:Bool}
def qk (h:t Z M=.ok true M):cV t u Z M=.ok true M:=by unfold cV;rw[h];rfl
def gu (h:t Z M=.ok false M)(h2:u Z M=.ok v M):cV t u Z M=.ok v M:=by unfold cV;rw[h];exact h2
def bN {o:j7}(h1:a Z M=.ok x M)(h2:b Z M=.ok y M)(h3:bw o x y M=some v):aE o a b Z M=.ok (.bl v) M:=by
 unfold aE;rw[h1];show(b Z M).bind _=_;rw[h2];show(b7 M (bw o x y M)).bind _=_;rw[h3];rfl
def rH {t:Ty}(h1:a Z M=.ok x M)(h2:b4 t x=some v):bH t a Z M=.ok (.bl v) M:=by
 unfold bH;rw[h1];show(b7 M (b4 t x)).bind _=_;rw[h2];rfl
end
def NZ:∀{x y:Bool},(!x||!y)=true->(x&&y)=false:=`d
def Lz:∀{x y:Bool},(!x||!y)=false->x=true/\y=true:=`d
def yU {Z:Env}{M:Mem}{j:Nat}{x:D}{ds:List D}(h:Z[j]?.getD none=some (.tup (x::ds))):aD (aa j) (gI 0) Z M=.ok x M:=by
 unfold aD;rw[ag h];show b7 M ((bG (ds.length+1) 0).bind λj=>(x::ds)[j]?)=_;rw[show bG (ds.length+1) 0=some 0 by simp[bG]]
 rfl
def Nw {Z:Env}{M:Mem}{j:Nat}{x:D}{ds:List D}(h:Z[j]?.getD none=some (.tup (x::ds))):bQ false true false (aa j) (gI 1) gN Z M=.ok (.tup ds) M:=by
 refine ai (fN.mpr (a8.mpr {_,h,?_}));simp[ez,aL,cg,cut]
def xF {a:GE}{Z:Env}{M:Mem}{fs:List (Str×Nat)}{s:Str}{b:Bool}(h:a Z M=.ok (.str s) M)(e:(!(fs.lookup s).isSome)=b):h9 fs a Z M=.ok (.bl b) M:=by
 subst e;unfold h9;rw[h];rfl
structure zv (P:Nat->Option Df):Prop where
 is_between:P 0=some {3,3,fD}
 is_word:P 1=some {2,2,i9}
 is_place:P 2=some {2,2,iq}
 is_cost:P 3=some {1,1,ja}
 is_tuple_of:P 4=some {2,2,fe}
 is_table:P 5=some {2,2,ip}
 is_double_table:P 6=some {2,2,dA}
 is_turn:P 7=some {3,6,fA}
 is_join:P 8=some {3,7,fC}
 is_move:P 9=some {3,6,fB}
 is_put:P 10=some {3,6,gO}
 is_deed:P 11=some {3,5,dH}
 is_machine:P 12=some {1,4,ir}
noncomputable def oA (f:D->Bool):∀ds:List D,boolsOf (ds.map λd=>.bl (f d))=some (ds.map f)
 |[]=>rfl
 |d::r=>by simp[boolsOf,oA f r]
def all_eq {w:GW}{ge:GE}{Z:Env}{M:Mem}{ds:List D}(f:D->Bool)(j:af (w Z M) λwk M'=>M'=M/\wk M=some ds)(hz:ds.length<=sz)(he:∀d∈ds,ge (some d::Z) M=.ok (.bl (f d)) M) :
 aI .all #[cf false 1 (.one 0) w (b8 ge)] Z M=.ok (.bl (ds.all f)) M:=by
 refine ai ?_;simp only[d5,bc,gn,bF];refine aN j ?_;rintro wk M' ⟨e1,e2⟩;subst e1;refine gW (λd=>.bl (f d)) hz e2 (λd hd=>{some d::Z,rfl,he d hd}) ?_;simp only[bx,Rn,Jw];refine{hz,_,oA f ds,?_,trivial}
 congr 1
 rw[List.all_map];rfl
def pE {k L:Nat}{x:D}(j:Th k L x){t:Ty}(h:((¬ ∃s,x=.str s)/\t=.str\/(¬ ∃s,x=.tup s)/\t=.tuple)):b4 t x=some false:=by
 rcases h with⟨h,rfl⟩|⟨h,rfl⟩<;>cases x<;>first|rfl|exact absurd {_,rfl} h|(cases k<;>exact j.elim)
section
variable{P:Nat->Option Df}(h:zv P){M:Mem}{k L:Nat}{d:D}
include h
theorem gQ (n:Nat)(hd:Th k L d)(lo hi:Int):ah P (n+1) 0 [d,.int lo,.int hi] M=.ok (.bl (aQ lo hi d)) M:=by
 cases d with
 | int t=>
   refine ai (aq h.is_between rfl ?_);simp[fD,b4,aQ];by_cases h1:lo<=t<;>simp[h1]<;>omega
 |fn j=>cases k<;>exact hd.elim
 |exc y p=>cases k<;>exact hd.elim
 |_=>exact ai (aq h.is_between rfl (cx rfl))
theorem uz (n:Nat){w:Nat}(hd:Th k L d):ah P (n+2) 1 [nD w,d] M=.ok (.bl (aQ 0 ((w:Int)-1) d)) M:=by
 refine ai (aq h.is_word rfl ?_);simp[i9,gQ h _ hd]
theorem gP (n:Nat){w:Nat}(hd:Th k L d):ah P (n+2) 2 [nD w,d] M=.ok (.bl (aQ 0 ((w:Int)-1) d)) M:=by
 refine ai (aq h.is_place rfl ?_);simp[iq,gQ h _ hd]
theorem lI (n:Nat)(hd:Th k L d):ah P (n+2) 3 [d] M=.ok (.bl (aQ 1 3 d)) M:=by
 refine ai (aq h.is_cost rfl ?_);simp[ja,gQ h _ hd]
theorem nv (n:Nat){w:Nat}(hd:Th k L d):ah P (n+1) 4 [nD w,d] M=.ok (.bl (fv w d)) M:=by
 refine ai (aq h.is_tuple_of rfl ?_);cases d with
 |fn j=>cases k<;>exact hd.elim
 |exc y p=>cases k<;>exact hd.elim
 | tup z=>
   simp[fe,b4,fv];by_cases e:z.length=w
   ·simp[e]
   ·have:¬ ((z.length:Int)=(w:Int)):=`a
    simp[e,this]
 |_=>exact cx rfl
theorem wH (n:Nat){w:Nat}(hd:Th k L d)(E:L<=100):ah P (n+3) 5 [nD w,d] M=.ok (.bl (fV w d)) M:=by
 refine ai (aq h.is_table rfl ?_);have e:=nv h (n+1) (w:=w) (M:=M) hd;simp only[ip,aw,cn,Gg,gp,bc,bF,a8,Sk,List.map_nil,List.cons_append,Td,R6,R7,Sg,Sn,exists_eq_left'];rw[e];refine{_,rfl,?_};cases d with
 | tup z=>
   have B:=hd.tup;by_cases j:z.length=w
   ·have:fv w (.tup z)=true:=by simp[fv,j]
    rw[this,if_pos rfl,all_eq (aQ 0 ((w:Int)-1)) (by simp;exact⟨rfl,rfl⟩) (av `a) (λd hd=>ai (by simp[uz h n (B.2 d hd)]))]
    exact{by simp[fV,j],rfl}
   ·have:fv w (.tup z)=false:=by simp[fv,j]
    rw[this,if_neg `s]
    exact{by simp[fV,j],rfl}
 |_=>exact⟨rfl,rfl⟩
theorem CU (n:Nat){w:Nat}(hd:Th k L d)(B:L<=100):ah P (n+4) 6 [nD w,d] M=.ok (.bl (iW w d)) M:=by
 refine ai (aq h.is_double_table rfl ?_);have e:=nv h (n+2) (w:=w) (M:=M) hd;simp only[dA,aw,cn,Gg,gp,bc,bF,a8,Sk,List.map_nil,List.cons_append,Td,R6,R7,Sg,Sn,exists_eq_left'];rw[e];refine{_,rfl,?_};cases d with
 | tup z=>
   have E:=hd.tup;by_cases j:z.length=w
   ·have:fv w (.tup z)=true:=by simp[fv,j]
    rw[this,if_pos rfl,all_eq (fV w) (by simp;exact⟨rfl,rfl⟩) (av `a) (λd hd=>ai (by simp[wH h n (E.2 d hd) B]))]
    exact{by simp[iW,j],rfl}
   ·have:fv w (.tup z)=false:=by simp[fv,j]
    rw[this,if_neg `s]
    exact{by simp[iW,j],rfl}
 |_=>exact⟨rfl,rfl⟩
omit h in
theorem qF {j c:Nat}{ds:List D}{Z:Env}(e:Z[j]?.getD none=some (.tup ds))(z:ds.length≠c):(au (aE .ne (aI .len #[aa j]) (gC (.int (c:Int)))):GT) Z M=.ok true M:=by
 rw[Fz (eT e) rfl,RJ.mpr `a]
 rfl
theorem CJ (n:Nat){w p:Nat}{ds:List D}(hd:∀d∈ds,Th k L d)(j:L<=100)(hl:ds.length<=100):ah P (n+4) 7 [nD w,nD p,.tup ds] M=.ok (.bl (j8 w p ds)) M:=by
 refine ai (aq h.is_turn rfl ?_)
 match ds,hd,hl with
 | [a,t,c],hd,_=>
   show af (fA (ah P (n+3)) [some (nD w),some (nD p),some (.tup [a,t,c]),none,none,none] M) _;unfold fA;refine ao rfl (a7 rfl ?_);show af _ _;exact aZ (iu (jA rfl rfl (gP h (n+1) (hd a (.head _)))) λ_=>iu (jA rfl rfl (wH h n (hd t (.tail _ (.head _))) j)) λ_=>ij rfl (lI h (n+1) (hd c (.tail _ (.tail _ (.head _)))))) ⟨rfl,rfl⟩
 |[],_,_=>exact cx rfl
 |[_],_,_=>exact cx rfl
 |[_,_],_,_=>exact cx rfl
 | a::b::c::d::r,_,_=>
   show af (fA (ah P (n+3)) [some (nD w),some (nD p),some (.tup (a::b::c::d::r)),none,none,none] M) _;exact bh (qF rfl (λz=>by simp at z)) rfl ⟨rfl,rfl⟩
theorem CT (n:Nat){w p:Nat}{ds:List D}(hd:∀d∈ds,Th k L d)(B:L<=100)(hl:ds.length<=100):ah P (n+5) 8 [nD w,nD p,.tup ds] M=.ok (.bl (iU w p ds)) M:=by
 refine ai (aq h.is_join rfl ?_)
 match ds,hd,hl with
 | [a,o,t,c],hd,_=>
   show af (fC (ah P (n+4)) [some (nD w),some (nD p),some (.tup [a,o,t,c]),none,none,none,none] M) _;unfold fC;refine ao rfl (a7 rfl ?_);refine bu (yt (bf (aP (jA rfl rfl (gP h (n+2) (hd a (.head _)))))) (bf (aP (jA rfl rfl (gP h (n+2) (hd o (.tail _ (.head _)))))))) (λe=>?_) λe=>?_
   ·refine aZ rfl {?_,rfl};show D.bl false=.bl (_&&(_&&_));cases q:aQ 0 ((p:Int)-1) a with
    |false=>rfl
    | true=>
      rw[q] at e;cases j:aQ 0 ((p:Int)-1) o with
      |false=>rfl
      |true=>rw[j] at e;cases e
   ·refine aZ (iu (jA rfl rfl (CU h n (hd t (.tail _ (.tail _ (.head _)))) B)) λ_=>ij rfl (lI h (n+2) (hd c (.tail _ (.tail _ (.tail _ (.head _))))))) {?_,rfl};show _=D.bl (aQ 0 ((p:Int)-1) a&&(aQ 0 ((p:Int)-1) o&&_));cases q:aQ 0 ((p:Int)-1) a with
    |false=>rw[q] at e;cases e
    | true=>
      rw[q] at e;cases j:aQ 0 ((p:Int)-1) o with
      |false=>rw[j] at e;cases e
      |true=>rfl
 |[],_,_=>exact cx rfl
 |[_],_,_=>exact cx rfl
 |[_,_],_,_=>exact cx rfl
 |[_,_,_],_,_=>exact cx rfl
 | a::b::c::d::e::r,_,_=>
   show af (fC (ah P (n+4)) [some (nD w),some (nD p),some (.tup (a::b::c::d::e::r)),none,none,none,none] M) _;exact bh (qF rfl (λz=>by simp at z)) rfl ⟨rfl,rfl⟩
theorem CQ (n:Nat){w p:Nat}{ds:List D}(hd:∀d∈ds,Th k L d)(j:L<=100)(hl:ds.length<=100):ah P (n+3) 9 [nD w,nD p,.tup ds] M=.ok (.bl (jv w p ds)) M:=by
 refine ai (aq h.is_move rfl ?_)
 match ds,hd,hl with
 | [a,t,c],hd,_=>
   show af (fB (ah P (n+2)) [some (nD w),some (nD p),some (.tup [a,t,c]),none,none,none] M) _;unfold fB;refine ao rfl (a7 rfl ?_);show af _ _;exact aZ (iu (jA rfl rfl (gP h n (hd a (.head _)))) λ_=>iu (jA rfl rfl (gP h n (hd t (.tail _ (.head _))))) λ_=>ij rfl (lI h n (hd c (.tail _ (.tail _ (.head _)))))) ⟨rfl,rfl⟩
 |[],_,_=>exact cx rfl
 |[_],_,_=>exact cx rfl
 |[_,_],_,_=>exact cx rfl
 | a::b::c::d::r,_,_=>
   show af (fB (ah P (n+2)) [some (nD w),some (nD p),some (.tup (a::b::c::d::r)),none,none,none] M) _;exact bh (qF rfl (λz=>by simp at z)) rfl ⟨rfl,rfl⟩
theorem Hr (n:Nat){w p:Nat}{ds:List D}(hd:∀d∈ds,Th k L d)(j:L<=100)(hl:ds.length<=100):ah P (n+3) 10 [nD w,nD p,.tup ds] M=.ok (.bl (mF w p ds)) M:=by
 refine ai (aq h.is_put rfl ?_)
 match ds,hd,hl with
 | [a,t,c],hd,_=>
   show af (gO (ah P (n+2)) [some (nD w),some (nD p),some (.tup [a,t,c]),none,none,none] M) _;unfold gO;refine ao rfl (a7 rfl ?_);show af _ _;exact aZ (iu (jA rfl rfl (gP h n (hd a (.head _)))) λ_=>iu (jA rfl rfl (uz h n (hd t (.tail _ (.head _))))) λ_=>ij rfl (lI h n (hd c (.tail _ (.tail _ (.head _)))))) ⟨rfl,rfl⟩
 |[],_,_=>exact cx rfl
 |[_],_,_=>exact cx rfl
 |[_,_],_,_=>exact cx rfl
 | a::b::c::d::r,_,_=>
   show af (gO (ah P (n+2)) [some (nD w),some (nD p),some (.tup (a::b::c::d::r)),none,none,none] M) _;exact bh (qF rfl (λz=>by simp at z)) rfl ⟨rfl,rfl⟩
omit h in
theorem mL {w p:Nat}{ds:List D}:cp w p "turn" ds=j8 w p ds:=by unfold cp;rw[if_pos rfl]
omit h in
theorem mK {w p:Nat}{ds:List D}:cp w p "join" ds=iU w p ds:=by unfold cp;rw[if_neg `k,if_pos rfl]
omit h in
theorem mJ {w p:Nat}{ds:List D}:cp w p "move" ds=jv w p ds:=by unfold cp;rw[if_neg `k,if_neg `k,if_pos rfl]
omit h in
theorem mI {w p:Nat}{ds:List D}:cp w p "put" ds=mF w p ds:=by unfold cp;rw[if_neg `k,if_neg `k,if_neg `k,if_pos rfl]
omit h in
theorem u3 {w p:Nat}{ds:List D}{s:Str}(e1:¬ s="turn")(e2:¬ s="join")(j:¬ s="move")(z:¬ s="put"):cp w p s ds=false:=by unfold cp;rw[if_neg e1,if_neg e2,if_neg j,if_neg z]
omit h in
theorem yg {s:Str}(e1:¬ s="turn")(e2:¬ s="join")(j:¬ s="move")(z:¬ s="put"):cK.lookup s=none:=by
 unfold cK;simp only[List.lookup,RJ.mpr e1,RJ.mpr e2,RJ.mpr j,RJ.mpr z]
theorem nV (n:Nat){w p f:Nat}{s:Str}{ds:List D}{v:Bool}(lk:cK.lookup s=some f)(q:ah P (n+5) f [nD w,nD p,.tup ds] M=.ok (.bl v) M):ah P (n+6) 11 [nD w,nD p,.tup (.str s::ds)] M=.ok (.bl v) M:=by
 refine ai (aq h.is_deed rfl ?_);show af (dH (ah P (n+5)) [some (nD w),some (nD p),some (.tup (.str s::ds)),none,none] M) _;unfold dH;refine ao (gu (bf (b:=true) rfl) (bf (b:=true) rfl)) (a7 (bP (yU rfl)) ?_);refine ao (gu (bf (b:=true) rfl) (aP (xF rfl (by rw[lk];rfl)))) (aw.mpr (f9.mpr (BD.mpr (a8.mpr {_,rfl,_,_,rfl,lk,?_}))))
 refine aw.mpr (cn.mpr (xE.mpr {f,rfl,?_}));rw[ae (x:=nD w) (ag rfl) (ae (x:=nD p) (ag rfl) (ae (Nw rfl) rfl)),bY,q];exact⟨rfl,rfl⟩
theorem Eu (n:Nat){w p:Nat}{s:Str}{ds:List D}(lk:cK.lookup s=none):ah P (n+6) 11 [nD w,nD p,.tup (.str s::ds)] M=.ok (.bl false) M:=by
 refine ai (aq h.is_deed rfl ?_);show af (dH (ah P (n+5)) [some (nD w),some (nD p),some (.tup (.str s::ds)),none,none] M) _;unfold dH;exact ao (gu (bf (b:=true) rfl) (bf (b:=true) rfl)) (a7 (bP (yU rfl)) (bh (gu (bf (b:=true) rfl) (aP (xF rfl (by rw[lk];rfl)))) rfl ⟨rfl,rfl⟩))
theorem CW (n:Nat){w p:Nat}(hd:Th k L d)(E:L<=100):ah P (n+6) 11 [nD w,nD p,d] M=.ok (.bl (fj w p d)) M:=by
 cases d with
 |fn j=>cases k<;>exact hd.elim
 |exc y p=>cases k<;>exact hd.elim
 | tup xs=>
   have I:=hd.tup;cases xs with
   |nil=>exact ai (aq h.is_deed rfl (cx rfl))
   | cons x B=>
     have J:=I.2 x Rw;have z:=λd hd=>I.2 d (Rk _ hd);have hl:B.length<=100:=by have:=I.1;simp at this;omega
     by_cases hs:∃s,x=.str s
     ·obtain⟨s,rfl⟩:=hs;show _=Res.ok (D.bl (cp w p s B)) M;by_cases e1:s="turn"
      ·subst e1;rw[mL];exact nV h n LZ (CJ h (n+1) z E hl)
      by_cases e2:s="join"
      ·subst e2;rw[mK];exact nV h n LY (CT h n z E hl)
      by_cases F:s="move"
      ·subst F;rw[mJ];exact nV h n LX (CQ h (n+2) z E hl)
      by_cases H:s="put"
      ·subst H;rw[mI];exact nV h n LW (Hr h (n+2) z E hl)
      rw[u3 e1 e2 F H];exact Eu h n (yg e1 e2 F H)
     ·have e1:fj w p (.tup (x::B))=false:=by cases x<;>first|rfl|exact absurd {_,rfl} hs
      have e2:=pE J (.inl ⟨hs,rfl⟩);rw[e1];refine ai (aq h.is_deed rfl ?_);show af (dH (ah P (n+5)) [some (nD w),some (nD p),some (.tup (x::B)),none,none] M) _;unfold dH;exact ao (gu (bf (b:=true) rfl) (bf (b:=true) rfl)) (a7 (bP (yU rfl)) (bh (qk (bf (b:=false) (aP (rH (ag rfl) e2)))) rfl ⟨rfl,rfl⟩))
 |_=>exact ai (aq h.is_deed rfl (cx rfl))
theorem DP (n:Nat)(hd:Th k L d)(hn:fv 3 d=false):ah P (n+7) 12 [d] M=.ok (.bl false) M:=by
 have e:ah P (n+6) 4 [nD 3,d] M=.ok (.bl (fv 3 d)) M:=nv h (n+5) hd;rw[hn] at e;exact ai (aq h.is_machine rfl (bh (bf (b:=false) (aP ((aU (ae rfl (ae (ag rfl) rfl))).trans e))) rfl ⟨rfl,rfl⟩))
theorem N8 (n:Nat){a b c:D}(hd:Th k L (.tup [a,b,c]))(Q:L<=100):ah P (n+7) 12 [.tup [a,b,c]] M=.ok (.bl (hV (.tup [a,b,c]))) M:=by
 refine ai (aq h.is_machine rfl ?_);have E:=hd.tup.2;have B:=E c (Rk _ (Rk _ Rw));have e:ah P (n+6) 4 [nD 3,.tup [a,b,c]] M=.ok (.bl true) M:=nv h (n+5) hd;have b1:=gQ h (n+5) (M:=M) (E a Rw) 2 4;have b2:=gQ h (n+5) (M:=M) (E b (Rk _ Rw)) 1 2;show af _ (fY λx I=>x=.bl (aQ 2 4 a&&(aQ 1 2 b&&(iG c&&(qx c).all (fj (eU a) (eU b)))))/\I=M);refine ao (bf (b:=true) (aP ((aU (ae rfl (ae (ag rfl) rfl))).trans e))) (a7 rfl ?_);show af (aK _ _ [some (.tup [a,b,c]),some a,some b,some c] M) _;refine bu (yt (bf (aP ((aU (ae (ag rfl) (ae rfl (ae rfl rfl)))).trans b1))) (bf (aP ((aU (ae (ag rfl) (ae rfl (ae rfl rfl)))).trans b2)))) (λz=>?_) (λz=>?_)
 ·refine aZ rfl {?_,rfl};rw[<- Bool.and_assoc,NZ z];rfl
 obtain⟨F,H⟩:=Lz z;rw[F,H];obtain⟨ea,_,_⟩:=iL F `d
 obtain⟨J,_,_⟩:=iL H `d
 by_cases j:∃ds,c=.tup ds
 ·obtain⟨ds,rfl⟩:=j;have R:=B.tup;have O:(decide ((1:Int)<=(ds.length:Int))&&decide ((ds.length:Int)<=6))=iG (.tup ds):=by
   show _=(decide (1<=ds.length)&&decide (ds.length<=6));rw[decide_eq_decide.mpr (show(1:Int)<=(ds.length:Int)↔1<=ds.length by omega),decide_eq_decide.mpr (show(ds.length:Int)<=6↔ds.length<=6 by omega)]
  have S:bo (au (jU .le .le (gI 1) (aI .len #[aa 3]) (gI 6))) [some (.tup [a,b,.tup ds]),some a,some b,some (.tup ds)] M=.ok (!iG (.tup ds)) M:=by
   rw[<- O];exact bf (aP (vN (i:=(ds.length:Int)) rfl (eT rfl) rfl))
  refine bu (gu (bf (b:=true) rfl) S) (λz=>?_) (λz=>?_)
  ·rw[om z];exact aZ rfl ⟨rfl,rfl⟩
  ·rw[oo z];refine aZ (all_eq (fj (eU a) (eU b)) (ds:=ds) (jr.mpr (a8.mpr {_,rfl,rfl,rfl,rfl})) (av `a) (λd hd=>?_)) ⟨rfl,rfl⟩
   have q:=CW h n (w:=eU a) (p:=eU b) (M:=M) (R.2 d hd) Q;rw[<- ea,<- J] at q;exact(aU (ae (ag rfl) (ae (ag rfl) (ae (ag rfl) rfl)))).trans q
 ·rw[show iG c=false by cases c<;>first|rfl|exact absurd {_,rfl} j]
  exact bh (qk (bf (b:=false) (aP (rH (ag rfl) (pE B (.inr ⟨j,rfl⟩)))))) rfl ⟨rfl,rfl⟩
theorem uG (n:Nat)(hd:Th k L d)(j:L<=100):ah P (n+7) 12 [d] M=.ok (.bl (hV d)) M:=by
 by_cases hn:fv 3 d=false
 ·rw[DP h n hd hn,vi hn]
 ·match d,hd,hn with
  |.tup [a,b,c],hd,_=>exact N8 h n hd j
  |.tup [],_,hn=>exact absurd rfl hn
  |.tup [_],_,hn=>exact absurd rfl hn
  |.tup [_,_],_,hn=>exact absurd rfl hn
  |.tup (_::_::_::_::r),_,hn=>exact absurd (by simp[fv]) hn
  |.non,_,hn=>exact absurd rfl hn
  |.bl _,_,hn=>exact absurd rfl hn
  |.int _,_,hn=>exact absurd rfl hn
  |.str _,_,hn=>exact absurd rfl hn
  |.lst _,_,hn=>exact absurd rfl hn
  |.frz _,_,hn=>exact absurd rfl hn
  |.cell _,_,hn=>exact absurd rfl hn
  |.fn _,_,hn=>exact absurd rfl hn
  |.exc _ _,_,hn=>exact absurd rfl hn
omit h in
theorem dj {lo hi:Int}{n:Nat}(h1:lo<=(n:Int))(h2:(n:Int)<=hi):aQ lo hi (nD n)=true:=by simp[aQ];omega
omit h in
theorem uq {w:Nat}{t:List Nat}(j:ft w t):fV w (aS t)=true:=by
 have e:(t.map nD).all (aQ 0 ((w:Int)-1))=true:=by
  rw[Rq];intro x B;obtain⟨i,z,rfl⟩:=RI.mp B;have:=j.2 i z;exact dj `a `a
 show((t.map nD).length==w&&(t.map nD).all (aQ 0 ((w:Int)-1)))=true;rw[e,Rn,j.1];simp
omit h in
theorem BG {w p:Nat}{d:bb}(hd:bX w p d):fj w p d.d=true:=by
 cases d with
 | turn a t c=>
   obtain⟨h1,h2,h3⟩:=hd;unfold eh at h3;show cp w p "turn" _=true;rw[mL];simp only[j8];rw[dj `a `a,uq h2,dj `a `a];rfl
 | join a o t c=>
   obtain⟨h1,h2,h3,h4⟩:=hd;unfold eh at h4;show cp w p "join" _=true;rw[mK];simp only[iU];have e:iW w (.tup (t.map aS))=true:=by
    have e:(t.map aS).all (fV w)=true:=by
     rw[Rq];intro x z;obtain⟨i,j,rfl⟩:=RI.mp z;exact uq (h3.2 i j)
    show((t.map aS).length==w&&(t.map aS).all (fV w))=true;rw[e,Rn,h3.1];simp
   rw[dj `a `a,dj `a `a,e,dj `a `a];rfl
 | move a o c=>
   obtain⟨h1,h2,h3⟩:=hd;unfold eh at h3;show cp w p "move" _=true;rw[mJ];simp only[jv];rw[dj `a `a,dj `a `a,dj `a `a];rfl
 | put a o c=>
   obtain⟨h1,h2,h3⟩:=hd;unfold eh at h3;show cp w p "put" _=true;rw[mI];simp only[mF];rw[dj `a `a,dj `a `a,dj `a `a];rfl
omit h in
theorem mR {m:a9}(hm:bg m):hV m.d=true:=by
 have w2:=hm.w2;have w4:=hm.w4;have p1:=hm.p1;have p2:=hm.p2;have l1:=hm.d1;have B:=hm.d6;have e:(m.deeds.map bb.d).all (fj m.words m.places)=true:=by
  rw[Rq];intro x z;obtain⟨i,j,rfl⟩:=RI.mp z;exact BG (hm.ok i j)
 have e2:iG (.tup (m.deeds.map bb.d))=true:=by simp[iG];omega
 show(aQ 2 4 (nD m.words)&&(aQ 1 2 (nD m.places)&&(iG (.tup (m.deeds.map bb.d))&&(m.deeds.map bb.d).all (fj m.words m.places))))=true;rw[dj `a `a,dj `a `a,e,e2];rfl
end
noncomputable def wy:Nat->Nat->D->Bool
 |_,_,.non=>true
 |_,_,.bl _=>true
 |_,_,.int _=>true
 |_,L,.str x=>decide (x.cps.size<=L)&&x.cps.all (· < 0x110000)
 |n+1,L,.tup h=>decide (h.length<=L)&&h.all (wy n L)
 |n+1,L,.lst h=>decide (h.length<=L)&&h.all (wy n L)
 |_,_,_=>false
theorem pV:∀{n L:Nat}{d:D},wy n L d=true->Th n L d
 |n,L,.non,_=>by cases n<;>trivial
 |n,L,.bl _,_=>by cases n<;>trivial
 |n,L,.int _,_=>by cases n<;>trivial
 | n,L,.str x,h=>by
   have q:(decide (x.cps.size<=L)&&x.cps.all (· < 0x110000))=true:=by cases n<;>exact h
   simp only[Ra,decide_eq_true_eq] at q;cases n<;>exact q
 | n+1,L,.tup j,h=>by
   have h:(decide (j.length<=L)&&j.all (wy n L))=true:=h;simp only[Ra,decide_eq_true_eq] at h;exact{h.1,λd hd=>pV (Rq.mp h.2 d hd)}
 | n+1,L,.lst j,h=>by
   have h:(decide (j.length<=L)&&j.all (wy n L))=true:=h;simp only[Ra,decide_eq_true_eq] at h;exact{h.1,λd hd=>pV (Rq.mp h.2 d hd)}
 |0,L,.tup j,h=>by cases h
 |0,L,.lst j,h=>by cases h
 |n,L,.frz _,h=>by cases n<;>cases h
 |n,L,.cell _,h=>by cases n<;>cases h
 |n,L,.fn _,h=>by cases n<;>cases h
 |n,L,.exc _ _,h=>by cases n<;>cases h
def Aa (h:ft w t)(w4:w<=4):Th 2 6 (aS t):=by
 refine{by have:=h.1;simp;omega,λd hd=>?_}
 obtain⟨i,_,rfl⟩:=RI.mp hd;trivial
def tR (h:wy 0 6 (.str z)=true):Th n 6 (.str z):=(pV h).mono (Tc n) (Rj 6)
def hZ {i:Int}:Th n 6 (.int i):=by cases n<;>trivial
def Jk (h:bX w p d)(w4:w<=4):Th 4 6 d.d:=by
 cases d with
 | turn a t c=>
   refine{`s,λx j=>?_}
   simp only[Rv,RT,or_false] at j;rcases j with rfl|rfl|rfl|rfl
   ·exact tR `k
   ·exact hZ
   ·exact(Aa h.2.1 w4).mono `d `d
   ·exact hZ
 | join a o t c=>
   refine{`s,λx j=>?_}
   simp only[Rv,RT,or_false] at j;rcases j with rfl|rfl|rfl|rfl|rfl
   ·exact tR `k
   ·exact hZ
   ·exact hZ
   ·refine{by have:=h.2.2.1.1;simp;omega,λy u=>?_}
    obtain⟨z,v,rfl⟩:=RI.mp u;exact Aa (h.2.2.1.2 z v) w4
   ·exact hZ
 | move a o c=>
   refine{`s,λx j=>?_}
   simp only[Rv,RT,or_false] at j;rcases j with rfl|rfl|rfl|rfl
   ·exact tR `k
   all_goals exact hZ
 | put a o c=>
   refine{`s,λx j=>?_}
   simp only[Rv,RT,or_false] at j;rcases j with rfl|rfl|rfl|rfl
   ·exact tR `k
   all_goals exact hZ
def k9 (h:bg m):Th 6 6 m.d:=by
 refine{`s,λx j=>?_}
 simp only[Rv,RT,or_false] at j;rcases j with rfl|rfl|rfl
 ·exact hZ
 ·exact hZ
 ·refine{by have:=h.d6;simpa using this,λy u=>?_}
  obtain⟨z,v,rfl⟩:=RI.mp u;exact Jk (h.ok z v) h.w4
def HasB0.q (h:HasB0 P):zv P:=⟨h.is_between,h.is_word,h.is_place,h.is_cost,h.is_tuple_of,h.is_table,h.is_double_table,h.is_turn,h.is_join,h.is_move,h.is_put,h.is_deed,h.is_machine⟩
structure Sub (M M':Mem):Prop where
 len:M.length<=M'.length
 at':∀k,k<M.length->M'[k]?=M[k]?
def Sub.trans (a:Sub M M1)(b:Sub M1 M2):Sub M M2:={Rp a.len b.len,λk hk=>(b.at' k (RD hk a.len)).trans (a.at' k hk)}
def Sub.app:Sub M (M++X):={`s,λk hk=>RN hk}
def Sub.get {k:Nat}(h:Sub M M')(e:M[k]?=some ds):M'[k]?=some ds:=by rw[h.at' k (Rb.mp e).1];exact e
def Sub.setq (h:Sub M M')(j:M.length<=q):Sub M (M'.set q ds):={by simpa using h.len,λk hk=>by rw[Rx `a];exact h.at' k hk}
def zf (f:D->D)(hz:acc0.length+ds.length<=sz)(v:w M=some ds)(hs:∀d∈ds,∃ρ1,b9 tg d ρ0=some ρ1/\ge ρ1 M=.ok (f d) M)(hk:kl (acc0++ds.map f) M) :
 af (dC (dD tg (b8 ge) ρ0) w acc0 M) kl:=by
 refine gG (λi j u=>u=M/\j=acc0++(ds.take i).map f) (λi j u h=>by rw[h.1];exact v) {rfl,`s} ?_ ?_
 ·rintro i d j u hd ⟨rfl,rfl⟩;obtain⟨ρ1,e1,e2⟩:=hs d (RH hd);have y:i<ds.length:=(Rb.mp hd).1;simp only[dD,bz,jP,e1,Gv];refine{ρ1,rfl,?_};rw[e2];refine{by simp;omega,rfl,?_}
  rw[SV,hd];simp
 ·rintro j u ⟨rfl,rfl⟩;simpa using hk
noncomputable def rL {j u:Type}(f:j->List u)(n:Nat):∀(ds:List j),(∀d∈ds,(f d).length<=n)->(ds.flatMap f).length<=ds.length*n
 |[],_=>`s
 | d::r,h=>by
   have h1:=h d Rw;have h2:=rL f n r λd hd=>h d (Rk _ hd);simp only[List.flatMap_cons,RO,R1,Nat.succ_mul];omega
def zg (j:D->List D)(f:D->D->D)(n:Nat)(hn:∀d∈ds,(j d).length<=n)(hz:ds.length*n<=sz)(H:w M=some ds)
 (hs:∀d∈ds,∃ρ1,b9 t d ρ0=some ρ1/\∃w2,gw2 ρ1 M=.ok w2 M/\w2 M=some (j d)/\∀e∈j d,∃y,b9 u e ρ1=some y/\ge y M=.ok (f d e) M) (hk:kl (ds.flatMap λd=>(j d).map (f d)) M) :
 af (dC (dD t (vw u gw2 (b8 ge)) ρ0) w [] M) kl:=by
 refine gG (λi v z=>z=M/\v=(ds.take i).flatMap λd=>(j d).map (f d)) (λi v z h=>by rw[h.1];exact H) {rfl,`s} ?_ ?_
 ·rintro i d v z hd ⟨rfl,rfl⟩;obtain⟨ρ1,e1,w2,e2,E,F⟩:=hs d (RH hd);simp only[dD,bz,jP,e1,vw];refine{ρ1,rfl,?_};rw[e2];have B:(ds.take (i+1)).flatMap (λd=>(j d).map (f d))=(ds.take i).flatMap (λd=>(j d).map (f d))++(j d).map (f d):=by
   rw[SV,hd];simp
  have l1:=rL (λd=>(j d).map (f d)) n (ds.take (i+1)) (λd hd=>by simpa using hn d (R9 hd))
  rw[B] at l1;simp only[RO,Rn,Se] at l1;refine zf (f d) ?_ E F ⟨rfl,B.symm⟩;have:(min (i+1) ds.length)*n<=ds.length*n:=Nat.mul_le_mul_right _ (Nat.min_le_right _ _);omega
 ·rintro v z ⟨rfl,rfl⟩;simpa using hk
noncomputable def Eh (w:Nat)(l:List (List Nat)):List (List Nat):=l.flatMap λs=>(List.range w).map λx=>s++[x]
noncomputable def fk (w:Nat):Nat->List (List Nat)
 |0=>[[]]
 |p+1=>Eh w (fk w p)
def cw (m:a9):List (List Nat):=fk m.words m.places
def jn (m:a9)(s:List Nat):Prop:=s.length=m.places/\∀x∈s,x<m.words
def vZ:∀s∈fk w p,s.length=p/\∀x∈s,x<w:=by
 induction p with
 |zero=>intro s hs;simp[fk] at hs;subst hs;simp
 | succ p v=>
   intro s hs;simp only[fk,Eh,List.mem_flatMap,List.mem_map,List.mem_range] at hs;obtain⟨t,j,x,B,rfl⟩:=hs;obtain⟨h1,h2⟩:=v t j;refine{by simp[h1],λy u=>?_}
   rcases RK.mp u with z|z
   ·exact h2 y z
   ·simp at z;omega
def rR:∀s∈cw m,jn m s:=vZ
noncomputable def kv (j:w<=4):∀p≤2,(fk w p).length<=4^p
 |0,_=>by simp[fk]
 | p+1,u=>by
   have:=kv j p `a
   have l:=rL (λs:List Nat=>(List.range w).map λx=>s++[x]) 4 (fk w p) (λd hd=>by simpa using j)
   calc _<=(fk w p).length*4:=l
    _<=4^p*4:=Nat.mul_le_mul_right _ this
    _=4^(p+1):=by rw[Nat.pow_succ]
def vY (hm:bg m):(cw m).length<=16:=by
 have h:=kv hm.w4 m.places hm.p2;have h1:=hm.p1;have h2:=hm.p2;have:m.places=1\/m.places=2:=`a
 rcases this with e|e<;>rw[e] at h<;>unfold cw<;>rw[e]<;>omega
noncomputable def eL:bb->List Nat->Nat
 |.turn a t _,s=>t.getD (s.getD a 0) 0
 |.join a o t _,s=>(t.getD (s.getD a 0) []).getD (s.getD o 0) 0
 |.move _ o _,s=>s.getD o 0
 |.put _ x _,_=>x
def bb.at':bb->Nat
 |.turn a _ _=>a
 |.join a _ _ _=>a
 |.move a _ _=>a
 |.put a _ _=>a
def ie (d:bb)(s:List Nat):List Nat:=s.take d.at'++[eL d s]++s.drop (d.at'+1)
def getD_mem {j:Type}{l:List j}{d:j}(h:i<l.length):l.getD i d∈l:=by
 rw[Sq,RE h];exact Sl h
def yy {m:a9}(hd:bX m.words m.places d)(hs:jn m s):eL d s<m.words:=by
 obtain⟨hl,j⟩:=hs;cases d with
 | turn a t c=>
   obtain⟨h1,h2,h3⟩:=hd;have:=j _ (getD_mem (d:=0) (show a<s.length by omega))
   exact h2.2 _ (getD_mem (by rw[h2.1];exact this))
 | join a o t c=>
   obtain⟨h1,h2,h3,h4⟩:=hd;have a1:=j _ (getD_mem (d:=0) (show a<s.length by omega))
   have a2:=j _ (getD_mem (d:=0) (show o<s.length by omega))
   have a3:=h3.2 _ (getD_mem (d:=[]) (show s.getD a 0<t.length by rw[h3.1];exact a1))
   exact a3.2 _ (getD_mem (by rw[a3.1];exact a2))
 |move a o c=>exact j _ (getD_mem (by obtain⟨h1,h2,h3⟩:=hd;omega))
 |put a x c=>exact hd.2.1
def Gw (hd:bX w p d):d.at'<p:=by cases d<;>exact hd.1
def BF (hd:bX m.words m.places d)(hs:jn m s):jn m (ie d s):=by
 have h1:=Gw hd;have h2:=yy hd hs;obtain⟨hl,j⟩:=hs;refine{by simp[ie];omega,λx hm=>?_}
 simp only[ie,List.mem_append,List.mem_singleton] at hm;rcases hm with(z|z)|z
 ·exact j x (R9 z)
 ·omega
 ·exact j x (SK z)
def aY (m:a9)(r:List Nat):Prop:=r.length<=40/\∀i∈r,i<m.deeds.length
noncomputable def ff (m:a9)(i:Nat):bb:=m.deeds.getD i (.put 0 0 1)
noncomputable def cM (m:a9):List Nat->List Nat->List Nat
 |[],s=>s
 |i::r,s=>cM m r (ie (ff m i) s)
noncomputable def dt (m:a9):List Nat->List Nat->List (List Nat)
 |[],s=>[s]
 |i::r,s=>s::dt m r (ie (ff m i) s)
def pU {m:a9}(hm:bg m){i:Nat}(hi:i<m.deeds.length):bX m.words m.places (ff m i):=hm.ok _ (getD_mem hi)
noncomputable def rM (hm:bg m):∀{r:List Nat}{s:List Nat},(∀i∈r,i<m.deeds.length)->jn m s->jn m (cM m r s)
 |[],s,_,h=>h
 |i::r,s,hr,h=>rM (r:=r) hm (λj u=>hr j (Rk _ u)) (BF (pU hm (hr i Rw)) h)
noncomputable def su:∀(r:List Nat) (i:Nat) (s:List Nat),dt m (r++[i]) s=dt m r s++[ie (ff m i) (cM m r s)]
 |[],i,s=>rfl
 |j::r,i,s=>by simp[dt,cM,su r i]
noncomputable def oW:∀(r s:List Nat),(dt m r s).length=r.length+1
 |[],s=>rfl
 |i::r,s=>by simp[dt,oW r]
noncomputable def sx:∀(r s:List Nat),(dt m r s)[r.length]?=some (cM m r s)
 |[],s=>rfl
 |i::r,s=>by simp[dt,cM,sx r]
def oj (r s:List Nat):((bG (dt m r s).length (-1)).bind λj=>Option.map aS (dt m r s)[j]?)=some (aS (cM m r s)):=by
 rw[oW,IK `a]
 show Option.map aS (dt m r s)[r.length+1-1]?=_;rw[Nat.add_sub_cancel,sx];rfl
def CF {s:List Nat}(hi:i<s.length):(bG (s.map nD).length (i:Int)).bind (λj=>(s.map nD)[j]?)=some (nD (s.getD i 0)):=by
 rw[fb (by simpa using hi)]
 simp[Sq,hi]
def aR (r:List Nat):D:=.lst (r.map nD)
noncomputable def ku (m:a9)(r:List Nat):Nat:=(r.map λi=>(ff m i).cost).sum
def DQ {i:Nat}(hi:i<m.deeds.length):((bG (m.deeds.map bb.d).length (i:Int)).bind λj=>(m.deeds.map bb.d)[j]?)=some (ff m i).d:=by
 rw[fb (by simpa using hi)]
 simp[ff,Sq,hi]
def Bc {m:a9}:c4 m.d (.int 2) M=some (.tup (m.deeds.map bb.d)):=rfl
def vt (hi:i<m.deeds.length):c4 (.tup (m.deeds.map bb.d)) (nD i) M=some (ff m i).d:=DQ hi
def sQ {d:bb}:c4 d.d (.int (-1)) M=some (nD d.cost):=by cases d<;>rfl
def lb {s:List Nat}(hi:i<s.length):c4 (aS s) (nD i) M=some (nD (s.getD i 0)):=CF hi
def Ml {t:List (List Nat)}(hi:i<t.length):c4 (.tup (t.map aS)) (nD i) M=some (aS (t.getD i [])):=by
 show(bG (t.map aS).length (i:Int)).bind (λj=>(t.map aS)[j]?)=_;rw[fb (by simpa using hi)]
 simp[Sq,hi]
def bR (M:Mem)(x:D)(r:List Nat):Prop:=x=.lst (r.map nD)\/∃q,x=.cell q/\M[q]?=some (r.map nD)
def bR.l:bR M (.lst (r.map nD)) r:=.inl rfl
def bR.c (h:M[q]?=some (r.map nD)):bR M (.cell q) r:=.inr ⟨q,rfl,h⟩
def bR.sub {M M':Mem}(h:bR M x r)(s:Sub M M'):bR M' x r:=h.elim .inl (by rintro⟨q,e,g⟩;exact .inr {q,e,s.get g})
def bR.seq (h:bR M x r):bW M x=some (r.map nD):=by
 rcases h with rfl|⟨q,rfl,e⟩
 ·rfl
 ·exact e
def bR.is (h:bR M x r):cT x=true/\eG x=true/\b4 .list x=some true:=by
 rcases h with rfl|⟨q,rfl,e⟩<;>exact⟨rfl,rfl,rfl⟩
def bR.len (h:bR M x r):af (du .len [x] M) k↔k (.int r.length) M:=by
 rcases h with rfl|⟨q,rfl,e⟩
 ·show k (.int (r.map nD).length) M↔_;simp
 ·show af (match M[q]? with|some xs=>_|none=>_) k↔_
  rw[e];simp
def bR.list (h:bR M x r):af (du (.list m) [x] M) k↔af (bB m (r.map nD) M) k:=by
 rcases h with rfl|⟨q,rfl,e⟩
 ·exact Sj
 ·show af (match M[q]? with|some xs=>_|none=>_) k↔_
  rw[e]
noncomputable def vp (f:Nat->Nat):∀(r:List Nat),∃bs,intsOf (r.map λi=>nD (f i))=some bs/\bs.sum=(((r.map f).sum:Nat):Int)
 |[]=>{[],rfl,rfl}
 | i::r=>by
   obtain⟨bs,e1,e2⟩:=vp f r;exact{(f i:Int)::bs,by simp[intsOf,e1],by simp[e2]}
section
variable{P:Nat->Option Df}(h:HasB0 P){M:Mem}
include h
theorem uE (n:Nat)(hm:bg m):ah P (n+8) 13 [m.d] M=.ok .non M:=by
 refine ai (aq h.need_machine rfl ?_);simp[c7,Hw h n hm]
theorem wK (h15:P 15=some {1,6,dS})(n:Nat)(hm:bg m):ah P (n+9) 15 [m.d] M=.ok (.lst ((cw m).map aS)) M:=by
 refine ai (aq h15 rfl ?_);have w4:=hm.w4;have p2:=hm.p2;simp[dS,uE h n hm];simp[a9.d,cW];refine{`d,`a,?_}
 refine cP (λi u j=>j=M/\∃a,u=[some m.d,some (nD m.words),some (nD m.places),some (.tup (m.deeds.map bb.d)),some (.lst ((fk m.words i).map aS)),a]) (λ_ _ _ _=>rfl) {rfl,none,by simp[a9.d,fk,aS]} ?_ ?_
 ·rintro i d u j hd ⟨rfl,a,rfl⟩;have y:i<m.places:=by
   have:=(Rb.mp hd).1;simpa using this
  refine{_,rfl,?_};simp[cT];refine zg (λ_=>(List.range m.words).map λ(k:Nat)=>D.int (k:Int)) (λd e=>match d,e with|.tup x,e=>.tup (x++[e])|_,_=>.non) 4 (by simpa using λ_ _=>w4) ?_ rfl ?_ ?_
  ·have:=kv w4 i `a
   have:(4:Nat)^i<=4^2:=Nat.pow_le_pow_right `d `a
   simp only[Rn];exact av `a
  ·intro d hd;obtain⟨s,hs,rfl⟩:=RI.mp hd;have{l1,_}:=vZ s hs;refine{_,rfl,(λ_=>some ((List.range m.words).map λ(k:Nat)=>D.int (k:Int))),aT ?_,rfl,λe he=>{_,rfl,ai ?_}}
   ·simp;omega
   ·simp[aS,sz];omega
  ·have v:((fk m.words i).map aS).flatMap (λd=>((List.range m.words).map λ(k:Nat)=>D.int (k:Int)).map (λe=>match d,e with|.tup x,e=>D.tup (x++[e])|_,_=>.non))=(fk m.words (i+1)).map aS:=by
    simp only[fk,Eh,List.flatMap_map,List.map_flatMap,List.map_map]
    congr 1
    funext s
    simp[aS,Function.comp_def]
   rw[v];refine{?_,rfl,rfl};have:=kv w4 (i+1) `a
   have:(4:Nat)^(i+1)<=4^2:=Nat.pow_le_pow_right `d `a
   simp only[Rn];exact av `a
 ·rintro u j ⟨rfl,a,rfl⟩;simp[cw]
end
section
variable{P:Nat->Option Df}(h:HasM0 P){M:Mem}
include h
theorem wJ (n:Nat){m:a9}(hi:i<m.deeds.length):ah P (n+2) 16 [m.d,nD i] M=.ok (.bl true) M:=by
 refine ai (aq h.is_deed_number rfl ?_);simp[eZ,a9.d,bG,eO h.toHasB0];omega
theorem yd (n:Nat){m:a9}(v:bR M x r)(hr:∀i∈r,i<m.deeds.length):ah P (n+3) 17 [m.d,x] M=.ok .non M:=by
 refine ai (aq h.need_numbers rfl ?_);obtain⟨y,z,B⟩:=v.is;simp[cj,y,z,B];refine cP (λi u j=>j=M/\∃a b,u=[some m.d,some x,a,b]) (λ_ _ _ e=>by rw[e.1,v.seq];rfl) ⟨rfl,none,none,rfl⟩ ?_ ?_
 ·rintro i d u j hd ⟨rfl,a,b,rfl⟩;rw[d4] at hd;rw[R5] at hd;cases e:r[i]? with
  |none=>rw[e] at hd;cases hd
  | some x=>
    rw[e] at hd;simp at hd;subst hd;refine{_,rfl,?_};simp[wJ h n (hr x (RH e))]
 ·rintro u j ⟨rfl,a,b,rfl⟩;simp
theorem sj (n:Nat)(j:bR M x r)(hm:bg m)(hr:aY m r):ah P (n+9) 18 [m.d,x] M=.ok .non M:=by
 have e:=yd h (n+5) j hr.2;refine ai (aq h.need_row rfl ?_);simp[dF,uE h.toHasB0 n hm,e];rw[j.len];have:=hr.1;simp;omega
theorem uB (h47:P 47=some {2,2,gA})(n:Nat){m:a9}(j:bR M x r)(hl:r.length<=100000)(hr:∀i∈r,i<m.deeds.length):ah P (n+1) 47 [m.d,x] M=.ok (nD (ku m r)) M:=by
 refine ai (aq h47 rfl ?_);simp[gA,j.is];refine gW (λd=>match d with|.int i=>nD (ff m i.toNat).cost|_=>.non) (av `o) j.seq ?_ ?_
 ·intro d hd;obtain⟨x,j,rfl⟩:=RI.mp hd;refine{_,rfl,ai ?_};simp[-iI,Bc,vt (hr x j),sQ]
 ·obtain⟨bs,e1,e2⟩:=vp (λi=>(ff m i).cost) r;refine{?_,bs,?_,?_,rfl}
  ·simp;exact av `a
  ·simpa[Function.comp_def] using e1
  ·exact e2
end
section
variable{P:Nat->Option Df}(h:ue P){M:Mem}
include h
theorem Aj (n:Nat){m:a9}(hd:bX m.words m.places (.turn a t c))(hs:jn m s):ah P (n+1) 20 [(bb.turn a t c).d,aS s] M=.ok (nD (eL (.turn a t c) s)) M:=by
 obtain⟨h1,h2,h3⟩:=hd;have a1:a<s.length:=by rw[hs.1];exact h1
 have a2:s.getD a 0<t.length:=by rw[h2.1];exact hs.2 _ (getD_mem a1)
 refine ai (aq h.turned rfl ?_);simp[-iI,-List.getD_eq_getElem?_getD,l5,bb.d,cW,lb a1,lb a2,eL]
theorem Au (n:Nat){a o c:Nat}(hd:bX m.words m.places (.join a o t c))(hs:jn m s):ah P (n+1) 21 [(bb.join a o t c).d,aS s] M=.ok (nD (eL (.join a o t c) s)) M:=by
 obtain⟨h1,h2,h3,h4⟩:=hd;have a1:a<s.length:=by rw[hs.1];exact h1
 have a2:o<s.length:=by rw[hs.1];exact h2
 have a3:s.getD a 0<t.length:=by rw[h3.1];exact hs.2 _ (getD_mem a1)
 have a4:s.getD o 0<(t.getD (s.getD a 0) []).length:=by rw[(h3.2 _ (getD_mem a3)).1];exact hs.2 _ (getD_mem a2)
 refine ai (aq h.joined rfl ?_);simp[-iI,-List.getD_eq_getElem?_getD,l8,bb.d,cW,lb a1,lb a2,Ml a3,lb a4,eL]
theorem CP (n:Nat)(hd:bX m.words m.places (.move a o c))(hs:jn m s):ah P (n+1) 22 [(bb.move a o c).d,aS s] M=.ok (nD (eL (.move a o c) s)) M:=by
 obtain⟨h1,h2,h3⟩:=hd;have a2:o<s.length:=by rw[hs.1];exact h2
 refine ai (aq h.moved rfl ?_);simp[-iI,-List.getD_eq_getElem?_getD,n8,bb.d,cW,lb a2,eL]
theorem CN (n:Nat):ah P (n+1) 23 [(bb.put a x c).d,aS s] M=.ok (nD (eL (.put a x c) s)) M:=by
 refine ai (aq h.put_in rfl ?_);simp[l6,bb.d,cW,eL]
end
def Qi:cL.lookup (Str.ofString "turn")=some 20:=`k
def Qh:cL.lookup (Str.ofString "join")=some 21:=`k
def Qg:cL.lookup (Str.ofString "move")=some 22:=`k
def Qf:cL.lookup (Str.ofString "put")=some 23:=`k
def Kb {a:Nat}(j:a<=s.length):af (ez false (aS s) .non (.int a) M) k↔k (aS (s.take a)) M:=by
 simp only[ez,aS,aL,cut];rw[if_neg `a]
 simp;rw[Nat.min_eq_left (by simpa using j)]
def HE {a:Nat}(j:a<=s.length):af (ez false (aS s) (.int a) .non M) k↔k (aS (s.drop a)) M:=by
 simp only[ez,aS,aL,cut];rw[if_neg `a]
 simp;rw[Nat.min_eq_left (by simpa using j),Sz `s]
section
variable{P:Nat->Option Df}(h:ue P){M:Mem}
include h
theorem HA (n:Nat){d:bb}(hm:bg m)(hd:bX m.words m.places d)(hs:jn m s):ah P (n+2) 24 [d.d,aS s] M=.ok (aS (ie d s)) M:=by
 have a0:=Gw hd;have l0:=hs.1;have p2:=hm.p2;have j:∀f,ah P (n+1) f [d.d,aS s] M=.ok (nD (eL d s)) M->c4 d.d (.int 1) M=some (nD d.at')->(∀k:D->Mem->Prop,(∃y,c4 d.d (.int 0) M=some (.str y)/\cL.lookup y=some f))->ah P (n+2) 24 [d.d,aS s] M=.ok (aS (ie d s)) M:=λf e1 e2 u=>by
  obtain⟨y,u,v⟩:=u λ_ _=>True;refine ai (aq h.done rfl ?_);simp only[qN,aw,f9,BD,lY,a8,cX,bJ,cn,c9,fN,jz,bc,bF,xE];simp[-iI,e1,e2,u,v,cg];rw[Kb `a,e1]
  have z:(d.at':Int)+1=((d.at'+1:Nat):Int):=`a
  rw[z];simp only[bY,aS,qS];refine{`d,?_,?_}
  ·simp;exact av `a
  ·rw[show D.tup (s.map nD)=aS s from rfl,HE `a]
   simp only[aS,qS];refine{?_,?_,trivial}
   ·simp;exact av `a
   ·simp[ie]
 cases d with
 |turn a t c=>exact j 20 (Aj h n hd hs) rfl λ_=>{_,rfl,Qi}
 |join a o t c=>exact j 21 (Au h n hd hs) rfl λ_=>{_,rfl,Qh}
 |move a o c=>exact j 22 (CP h n hd hs) rfl λ_=>{_,rfl,Qg}
 |put a x c=>exact j 23 (CN h n) rfl λ_=>{_,rfl,Qf}
end
section
variable{P:Nat->Option Df}(h:HasM P){M:Mem}
include h
theorem wh (n:Nat)(u:bR M x r)(hm:bg m)(F:r.length<=100000)(hr:∀i∈r,i<m.deeds.length)(hs:jn m s):ah P (n+3) 25 [m.d,x,aS s] M=.ok (.cell M.length) (M++[(dt m r s).map aS]):=by
 refine ai (aq h.all_standing rfl ?_);simp[iM,u.is];refine{`d,?_}
 refine cP (λi B v=>v=M++[(dt m (r.take i) s).map aS]/\∃a,B=[some m.d,some x,some (aS s),some (.cell M.length),a]) (λ_ _ _ e=>by rw[e.1];exact(u.sub Sub.app).seq) {by simp[dt],none,rfl} ?_ ?_
 ·rintro i d B v hd ⟨rfl,a,rfl⟩;rw[R5] at hd;cases e:r[i]? with
  |none=>rw[e] at hd;cases hd
  | some x=>
    rw[e] at hd;simp at hd;subst hd;have u:=hr x (RH e);have H:i<r.length:=(Rb.mp e).1;refine{_,rfl,?_};have z:jn m (cM m (r.take i) s):=rM hm (λj E=>hr j (R9 E)) hs;have hl:=oW (m:=m) (r.take i) s;have y:(r.take i).length=i:=by simp;omega
    simp[-iI,Bc,vt u,oj,HA h.r n hm (pU hm u) z];refine{?_,?_}
    ·rw[hl,y];exact Nat.lt_of_le_of_lt (show i+1<=100001 by omega) `d
    ·rw[SV,e];simp[su]
 ·rintro B v ⟨rfl,a,rfl⟩;simp
def eY (m:a9)(r:List Nat):D:=.tup ((cw m).map λs=>aS (cM m r s))
theorem my (h15:P 15=some {1,6,dS})(h46:P 46=some {2,2,gX})(n:Nat)(z:bR M x r)(hm:bg m)(v:r.length<=100000)(hr:∀i∈r,i<m.deeds.length):ah P (n+10) 46 [m.d,x] M=.ok (eY m r) (M++(cw m).map λs=>(dt m r s).map aS):=by
 refine ai (aq h46 rfl ?_);simp[gX,wK h.toHasM0.toHasB0 h15 n hm];refine{rfl,?_};have bl:=vY hm;refine comp_map (λi j u=>j=((cw m).take i).map (λs=>aS (cM m r s))/\u=M++((cw m).take i).map λs=>(dt m r s).map aS) (av `o) (λ_ _ _ _=>rfl) `s ?_ ?_
 ·rintro i d j u hd _ ⟨rfl,y⟩;rw[R5] at hd;cases e:(cw m)[i]? with
  |none=>rw[e] at hd;cases hd
  | some s=>
    rw[e] at hd;have hd:=Ro hd;subst hd;have hs:=rR s (RH e);refine{_,rfl,?_};have st:=wh h (n+6) (M:=u) (by rw[y];exact z.sub Sub.app) hm v hr hs
    simp[st,oj];rw[y,SV,SV];simp[e]
 ·rintro j u _ ⟨rfl,rfl⟩;simp;exact{av `a,by simp[eY,Sz]}
theorem Av (h15:P 15=some {1,6,dS})(h46:P 46=some {2,2,gX})(n:Nat)(hm:bg m)(hr:aY m r):ah P (n+10) 46 [m.d,aR r] M=.ok (eY m r) (M++(cw m).map λs=>(dt m r s).map aS):=my h h15 h46 n .l hm (Rp hr.1 `d) hr.2
theorem so (h15:P 15=some {1,6,dS})(h27:P 27=some {2,2,iX})(h46:P 46=some {2,2,gX})(n:Nat)(j:bR M x r)(hm:bg m)(hr:aY m r):ah P (n+11) 27 [m.d,x] M=.ok (eY m r) (M++(cw m).map λs=>(dt m r s).map aS):=by
 refine ai (aq h27 rfl ?_);simp[iX,sj h.toHasM0 (n+1) j hm hr,my h h15 h46 n j hm (Rp hr.1 `d) hr.2]
end
@[simp] theorem pA:af (du .len [.cell j] M) k↔∃ds,M[j]?=some ds/\k (.int ds.length) M:=by
 show af (match M[j]? with|some xs=>_|none=>_) k↔_
 cases M[j]?<;>simp
structure aC (M:Mem) (p B:Nat):Prop where
 ex:∃(c:Nat) (cells:List Int) (at_ st:Int),M[p]?=some [.cell c,.int at_,.int st]/\M[c]?=some (cells.map D.int)/\c<p/\0<=at_/\at_<=B/\0<=st
structure br (p:Nat) (M M':Mem):Prop where
 len:M.length<=M'.length
 at':∀k,k<M.length->k≠p->M'[k]?=M[k]?
def br.refl:br p M M:={Rj _,λ_ _ _=>rfl}
def br.trans (a:br p M M1)(b:br p M1 M2):br p M M2:={Rp a.len b.len,λk hk n=>(b.at' k (RD hk a.len) n).trans (a.at' k hk n)}
def br.set:br p M (M.set p ds):={`s,λk _ n=>Rx (So n)}
def br.app:br p M (M++X):={`s,λk hk _=>RN hk}
def br.get (h:br p M M')(e:M[k]?=some ds)(n:k≠p):M'[k]?=some ds:=by rw[h.at' k (Rb.mp e).1 n];exact e
def aC.lt (h:aC M p B):p<M.length:=by obtain⟨_,_,_,_,e,_⟩:=h.ex;exact(Rb.mp e).1
def aC.app (h:aC M p B):aC (M++X) p B:=by
 obtain⟨c,j,a,st,e1,e2,r⟩:=h.ex;exact{c,j,a,st,by rw[RN (Rb.mp e1).1];exact e1,by rw[RN (Rb.mp e2).1];exact e2,r}
def aC.mono (h:aC M p B)(E:B<=B'):aC M p B':=by
 obtain⟨c,j,a,st,e1,e2,u,v,z,y⟩:=h.ex;exact{c,j,a,st,e1,e2,u,v,`a,y}
def aC.setq (h:aC M p B)(E:p<q):aC (M.set q ds) p B:=by
 obtain⟨c,j,a,st,e1,e2,u,v,y,z⟩:=h.ex;exact{c,j,a,st,by rw[Rx `a];exact e1,by rw[Rx `a];exact e2,u,v,y,z}
def br.setq (h:br p M M')(j:M.length<=q):br p M (M'.set q ds):={by simpa using h.len,λk hk n=>by rw[Rx `a];exact h.at' k hk n}
def A9 {a b A B:Int}(h1:0<=a)(h2:a<=A)(h3:0<=b)(h4:b<=B):0<=a*b/\a*b<=A*B:=
 {Int.mul_nonneg h1 h3,Int.mul_le_mul h2 h4 h3 (Int.le_trans h1 h2)}
noncomputable def nH:List Int:=[2147483629,2147483587,2147483579,2147483563,2147483549,2147483543,2147483497,2147483489,2147483477,2147483423,2147483399,2147483353,2147483323]
def jD:List D:=nH.map D.int
def AM:∀q∈nH,0<q/\q<2147483648:=`d
def pb (j:Int)(M:Mem):∃q:Int,c4 (.lst jD) (.int (j % 13)) M=some (.int q)/\0<q/\q<2147483648:=by
 have h1:0<=j % 13:=S3 _ `d
 have h2:j % 13<13:=SY _ `d
 generalize j % 13=i at h1 h2;obtain⟨k,rfl⟩:=Int.eq_ofNat_of_zero_le h1;have hk:=Int.ofNat_lt.mp h2;refine{nH[k],?_,AM _ (Sl hk)};show(bG jD.length (k:Int)).bind (λj=>jD[j]?)=_;rw[fb (n:=jD.length) hk];show(nH.map D.int)[k]?=_;rw[R5,RE hk];rfl
section
variable{P:Nat->Option Df}(h:HasP0 P){M:Mem}
include h
omit h in
theorem fE {x y:Int}(j:a Z M=.ok (.int x) M)(u:b Z M=.ok (.int y) M):ak m .add a b Z M=.ok (.int (x+y)) M:=by
 unfold ak;rw[j];show(b Z M).bind _=_;rw[u];rfl
omit h in
theorem pw {x y:Int}(j:a Z M=.ok (.int x) M)(u:b Z M=.ok (.int y) M)(c:(-(2^64)<x/\x<2^64)\/(-(2^64)<y/\y<2^64)):ak m .mul a b Z M=.ok (.int (x*y)) M:=by
 unfold ak;rw[j];show(b Z M).bind _=_;rw[u];exact if_pos c
omit h in
theorem jh {x y:Int}(j:a Z M=.ok (.int x) M)(u:b Z M=.ok (.int y) M)(c:0<y):ak m .mod a b Z M=.ok (.int (x % y)) M:=by
 unfold ak;rw[j];show(b Z M).bind _=_;rw[u];exact if_pos c
omit h in
theorem Dl {x y:Int}(j:a Z M=.ok (.int x) M)(u:b Z M=.ok (.int y) M)(c:0<=y/\y<=1000000)(d:x.natAbs<2^64):ak m .pow a b Z M=.ok (.int (x^y.toNat)) M:=by
 unfold ak;rw[j];show(b Z M).bind _=_;rw[u];exact if_pos ⟨c.1,c.2,d⟩
omit h in
theorem pd {x q:Int}(hi:Z[i]?.getD none=some (.lst jD))(j:a Z M=.ok (.int x) M)(e:c4 (.lst jD) (.int (x % 13)) M=some (.int q)):aD (aa i) (ak false .mod a (gI 13)) Z M=.ok (.int q) M:=by
 unfold aD;rw[ag hi];show(ak false .mod a _ Z M).bind _=_;rw[jh j rfl `d];show b7 M _=_;rw[e];rfl
theorem Al {x a:Int}(n:Nat)(L:0<=a)(h1:a<=1000000):af (ah P (n+1) 28 [.int x,.int a] M) λd M'=>M'=M/\∃v:Int,d=.int v/\0<=v:=by
 refine aq h.law_spread rfl ?_;refine bu rfl (λe=>?_) λe=>?_
 ·exact{rfl,x,rfl,Int.le_trans `d (of_decide_eq_true e)}
 clear e;refine a7 (bP rfl) (a7 (bP rfl) ?_);obtain⟨O,e1,p1,p2⟩:=pb a M;obtain⟨Q,e2,j,_⟩:=pb (a+5) M;obtain⟨q3,J,F,_⟩:=pb (a+7) M;have u:∀{z c:Int},0<=z->z<=c->c<2^64->z.natAbs<2^64:=λS U H=>`a
 have lt:∀{z c:Int},0<=z->z<=c->c<2^64->-(2^64)<z/\z<2^64:=λS U H=>`a
 have r1:=S3 x (show(1000000007:Int)≠0 by decide)
 have r2:=SY x (show(0:Int)<1000000007 by decide)
 obtain⟨W,X⟩:=A9 r1 (Int.le_of_lt r2) (show 0<=2*a+69069 by omega) (show 2*a+69069<=2069069 by omega)
 refine a7 (bP (jh (Dl (fE (fE (pw (jh (ag rfl) rfl `d) (fE (pw rfl (ag rfl) (.inl `d)) rfl) (.inl (lt r1 (Int.le_of_lt r2) `d))) (pw (ag rfl) rfl (.inl (lt L h1 `d)))) rfl) rfl `d (u (c:=10000000000000000000) `a `a `d)) (pd rfl (ag rfl) e1) p1)) ?_
 generalize (x % 1000000007*(2*a+69069)+a*40503+977)^(3:Int).toNat=y;have b1:=S3 y (Int.ne_of_gt p1);have b2:=SY y p1;generalize y % O=one at b1 b2;have b3:=Int.le_of_lt (Int.lt_trans b2 p2);obtain⟨Y,m4⟩:=A9 b1 b3 (show 0<=a+3 by omega) (show a+3<=1000003 by omega)
 refine a7 (bP (jh (Dl (fE (fE (pw (ag rfl) (fE (ag rfl) rfl) (.inl (lt b1 b3 `d))) (jh (ag rfl) rfl `d)) rfl) rfl `d (u (c:=10000000000000000000) `a `a `d)) (pd rfl (fE (ag rfl) rfl) e2) j)) ?_
 generalize (one*(a+3)+x % 65537+5)^(5:Int).toNat=B;have E:=S3 B (Int.ne_of_gt j);have I:=SY B j;generalize B % Q=two at E I;refine a7 (bP (jh (Dl (fE (fE (ag rfl) (jh (ag rfl) rfl `d)) (ag rfl)) rfl `d (u (c:=10000000000) `a `a `d)) (pd rfl (fE (ag rfl) rfl) J) F)) ?_
 generalize (two+one % 1009+a)^(3:Int).toNat=R;have d1:=S3 R (Int.ne_of_gt F);refine aZ (fE (pw (fE (pw (ag rfl) rfl (.inr `d)) (ag rfl)) rfl (.inr `d)) (ag rfl)) {rfl,_,rfl,?_}
 exact Int.add_nonneg (Int.mul_nonneg (Int.add_nonneg (Int.mul_nonneg b1 `d) E) `d) d1
omit h in
theorem Qw:bG 3 2=some 2:=rfl
omit h in
theorem rE {l:List Int}{i:Int}(u:0<=i)(h1:i<l.length):∃x,((bG l.length i).bind λj=>Option.map D.int l[j]?)=some (.int x):=by
 obtain⟨k,rfl⟩:=Int.eq_ofNat_of_zero_le u;have hk:k<l.length:=`a
 refine{l[k],?_};rw[fb hk];simp[hk]
def oO:GS:=#v[aA (.one 4) (ak false .mod (aD (aa 0) (gI 2)) (aa 1)),fg (aa 0) (gI 2) (ak false .fdiv (aD (aa 0) (gI 2)) (aa 1)),aB (aa 4)]
def wz (c:Call):GS:=#v[fg (aa 0) (gI 1) (ak false .add (aa 2) (gI 1)),fg (aa 0) (gI 2) (aj 28 c #[aa 3,aa 2])]
omit h in
theorem Oh {x y:Int}(j:a Z M=.ok (.int x) M)(u:b Z M=.ok (.int y) M)(c:0<y/\y<1073741824):ak m .fdiv a b Z M=.ok (.int (x / y)) M:=by
 unfold ak;rw[j];show(b Z M).bind _=_;rw[u];exact if_pos c
omit h in
theorem bO (j:a Z M=.ok x M)(u:b Z M=.ok y M)(e:c4 x y M=some d):aD a b Z M=.ok d M:=by
 unfold aD;rw[j];show(b Z M).bind _=_;rw[u];show b7 M _=_;rw[e];rfl
omit h in
theorem Md (e:M[p]?=some [c0,c1,c2]):c4 (.cell p) (.int 0) M=some c0/\c4 (.cell p) (.int 1) M=some c1/\c4 (.cell p) (.int 2) M=some c2:=by
 refine{?_,?_,?_}<;>(show(M[p]?).bind _=_;rw[e];rfl)
omit h in
theorem kQ {n:Int}(hd:d Z M=.ok z M')(u:a Z M'=.ok (.cell p) M')(v:b Z M'=.ok (.int n) M')(e:M'[p]?=some ds)(hi:bG ds.length n=some i)(h:af (rest Z (M'.set p (ds.set i z))) kf):af (aK (fg a b d) rest Z M) kf:=by
 simp only[aw];unfold fg;rw[hd];show af ((a Z M').bind _) _;rw[u];show af ((b Z M').bind _) _;rw[v];show af (match M'[p]? with|some ds=>(match bG ds.length n with|some j=>Res.ok (Fl.next Z) (M'.set p (ds.set j z))|none=>.bad)|none=>.bad) _
 rw[e];show af (match bG ds.length n with|some j=>Res.ok (Fl.next Z) (M'.set p (ds.set j z))|none=>.bad) _
 rw[hi];exact h
omit h in
theorem Me (j:t Z M=.ok b M)(h1:b=true->af (A Z M) (js rest kf))(h2:b=false->af (B Z M) (js rest kf)):af (aK (aF t A B) rest Z M) kf:=by
 simp only[aw,f7];rw[j];cases b with
 |true=>exact h1 rfl
 |false=>exact h2 rfl
omit h in
theorem sf {j:List Int}{a st:Int}(e1:M1[p]?=some [.cell c,.int a,.int st])(e2:M1[c]?=some (j.map D.int))(lt:c<p)(a0:0<=a)(u:a<=(B+1:Nat))(H:0<=st)(k:br p M M1)
 (z:0<many) (h1:many<=10000000):af (oO [some (.cell p),some (nD many),x,y,none] M1) (fY λd M'=>∃v:Nat,d=nD v/\v<many/\aC M' p (B+1)/\br p M M'):=by
 have E:p<M1.length:=(Rb.mp e1).1;have b0:=Int.ofNat_lt.mpr z;have r1:=S3 st (Int.ne_of_gt b0);have r2:=SY st b0;refine a7 (bP (jh (bO (ag rfl) rfl (Md e1).2.2) (ag rfl) b0)) (kQ (Oh (bO (ag rfl) rfl (Md e1).2.2) (ag rfl) {b0,`a}) (ag rfl) rfl e1 rfl (aZ (ag rfl) ?_))
 obtain⟨v,F⟩:=Int.eq_ofNat_of_zero_le r1;refine{v,congrArg D.int F,`a,{c,j,a,st / many,RF E,?_,lt,a0,u,Int.ediv_nonneg H (Int.le_of_lt b0)},k.trans br.set}
 rw[Rx (Sr lt)];exact e2
theorem wG (n:Nat){p B many:Nat}(R:aC M p B)(hB:B<=1000000)(I:0<many)(h1:many<=10000000):af (ah P (n+2) 31 [.cell p,nD many] M) λd M'=>∃v:Nat,d=nD v/\v<many/\aC M' p (B+1)/\br p M M':=by
 obtain⟨c,u,a,st,e1,e2,lt,a0,Y,W⟩:=R.ex;have z:p<M.length:=(Rb.mp e1).1;obtain⟨H,S,U⟩:=Md e1;refine aq h.law_take rfl ?_;show af (aK (aF _ (aK _ (aK _ (aK _ (wz (ah P (n+1)))))) _) oO [some (.cell p),some (nD many),none,none,none] M) _;have y:∀(x:Int),af (wz (ah P (n+1)) [some (.cell p),some (nD many),some (.int a),some (.int x),none] M) (js oO (fY λd M'=>∃v:Nat,d=nD v/\v<many/\aC M' p (B+1)/\br p M M')):=by
  intro x;refine kQ (fE (ag rfl) rfl) (ag rfl) rfl e1 rfl ?_;obtain⟨_,_,Q,rfl,v,rfl,X⟩:=eE.mp (Al h n a0 `a)
  refine kQ ((aU (ae (ag rfl) (ae (ag rfl) rfl))).trans Q) (ag rfl) rfl (RF z) rfl ?_;have ne:=Sr lt;exact sf (RF (by rw[List.length_set];exact z)) (by rw[Rx ne,Rx ne];exact e2) lt `a `a X (br.set.trans br.set) I h1
 have len:aI .len #[aD (aa 0) (gI 0)] [some (.cell p),some (nD many),some (.int a),some (.int 0),none] M=.ok (.int (u.length:Nat)) M:=by
  refine ai ?_;simp only[d5];rw[ae (bO (ag rfl) rfl H) rfl,bY];exact pA.mpr {_,e2,by rw[Rn],rfl}
 refine bu (b:=decide (st<(many:Int))) (aP (ai ?_)) (λJ=>?_) λJ=>?_
 ·simp only[fi];rw[bO (ag rfl) rfl U,bY,ag rfl,bY];exact{_,rfl,rfl,rfl}
 ·refine a7 (bP (bO (ag rfl) rfl S)) (a7 (bP rfl) ?_);show af (aK _ _ [some (.cell p),some (nD many),some (.int a),some (.int 0),none] M) _;have E:∀{i:Int}{x:D},((bG u.length i).bind λj=>Option.map D.int u[j]?)=some x->c4 (.cell c) (.int i) M=some x:=λ{i x} ex=>by
   show(M[c]?).bind _=_;rw[e2];show((bG (u.map D.int).length i).bind λj=>(u.map D.int)[j]?)=_;simp only[Rn,R5];exact ex
  refine Me (b:=decide (a<(u.length:Int))) (aP (ai ?_)) (λL=>?_) λ_=>?_
  ·simp only[fi];rw[ag rfl,bY,len,bY];exact{_,rfl,rfl,rfl}
  ·obtain⟨x,ex⟩:=rE a0 (of_decide_eq_true L);exact a7 (bP (bO (bO (ag rfl) rfl H) (ag rfl) (E ex))) (y x)
  ·refine bu (b:=decide ((0:Int)<(u.length:Int))) (aP (ai ?_)) (λO=>?_) λ_=>y 0
   ·simp only[fi,cX];rw[len,bY];exact{_,rfl,rfl,rfl}
   ·have F:=of_decide_eq_true O;obtain⟨x,ex⟩:=rE (S3 (a*5+3) (Int.ne_of_gt F)) (SY _ F);exact a7 (bP (jh (bO (bO (ag rfl) rfl H) (jh (fE (pw (ag rfl) rfl (.inr `d)) rfl) len F) (E ex)) (fE rfl (ag rfl)) (Int.lt_of_lt_of_le `d (Int.le_add_of_nonneg_right a0)))) (y _)
 ·exact sf e1 e2 lt a0 `a W .refl I h1
end
noncomputable def bb.withC:bb->Nat->bb
 |.turn a t _,c=>.turn a t c
 |.join a o t _,c=>.join a o t c
 |.move a o _,c=>.move a o c
 |.put a x _,c=>.put a x c
def B9 {w p c:Nat}{d:bb}(h:bX w p d)(u:eh c):bX w p (d.withC c):=by
 cases d with
 |turn=>exact⟨h.1,h.2.1,u⟩
 |join=>exact⟨h.1,h.2.1,h.2.2.1,u⟩
 |move=>exact⟨h.1,h.2.1,u⟩
 |put=>exact⟨h.1,h.2.1,u⟩
def Jq {w p:Nat}{d:bb}(h:bX w p d):eh d.cost:=by
 cases d with
 |turn=>exact h.2.2
 |join=>exact h.2.2.2
 |move=>exact h.2.2
 |put=>exact h.2.2
def Ew {d:bb}{c:Nat}{M:Mem}{k:D->Mem->Prop}(hk:k (d.withC c).d M):af (ez false d.d .non (.int (-1)) M) λx M=>af (gM false .add x (.tup [nD c]) M) k:=by
 cases d<;>(simp[bb.d,ez,aL,cut];exact{`d,hk})
def CI (n:Nat)(d:bb):ax (n+3) d.d=true:=by
 have v:∀(n:Nat) (l:List Nat),(l.map nD).all (ax n)=true:=λn l=>by
  rw[Rq];intro x u;obtain⟨i,_,rfl⟩:=RI.mp u;cases n<;>rfl
 cases d with
 |turn a t c=>simp[bb.d,ax,aS,nD];decide +kernel
 |join a o t c=>simp[bb.d,ax,nD,aS];decide +kernel
 |move a o c=>simp[bb.d,ax,nD];decide +kernel
 |put a x c=>simp[bb.d,ax,nD];decide +kernel
def ne_nil {M:Mem}{q:Nat}{ds:List bb}(e:M[q]?=some (ds.map bb.d)):bw .ne (.cell q) (.lst []) M=some (!ds.isEmpty):=by
 have hp:(ds.map bb.d).all (ax 63)=true:=by
  rw[Rq];intro x v;obtain⟨d,_,rfl⟩:=RI.mp v;exact CI 60 d
 have u:view M (.cell q)=.lst (ds.map bb.d):=by simp[view,e]
 have h1:=hp;refine lj (by rw[u];exact h1) rfl ?_
 rw[u];cases ds<;>rfl
@[simp] theorem LK {m:Bool}{x:List D}{j:Int}{M:Mem}{k:D->Mem->Prop}:af (gM m .mul (.tup x) (.int j) M) k↔(x.length*j.toNat<=sz/\-(2^63)<=j/\j<2^63)/\k (.tup (List.replicate j.toNat x).flatten) M:=ql
@[simp] theorem LL {m:Bool}{x:List D}{j:Int}{M:Mem}{k:D->Mem->Prop}:af (gM m .mul (.lst x) (.int j) M) k↔(x.length*j.toNat<=sz/\-(2^63)<=j/\j<2^63)/\af (bB m (List.replicate j.toNat x).flatten M) k:=ql
def pY {xs:List D}{a:Nat}{M:Mem}{k:D->Mem->Prop}:af (ez false (.lst xs) .non (.int a) M) k↔(xs.take a).length<=sz/\k (.lst (xs.take a)) M:=by
 have e:cut xs 0 (min a xs.length)=xs.take a:=by
  unfold cut;rcases Nat.le_total a xs.length with h|h
  ·rw[Nat.min_eq_left h];simp
  ·rw[Nat.min_eq_right h];simp[Sz h]
 show af (match aL xs.length 0 D.non,aL xs.length xs.length (.int a) with|some l,some h=>bB false (cut xs l h) M|_,_=>.bad) k↔_
 have e2:aL xs.length xs.length (.int a)=some (min a xs.length):=by
  show some _=_;rw[if_neg `a];simp
 rw[e2];show af (bB false (cut xs 0 (min a xs.length)) M) k↔_;rw[e,bx]
def uJ {xs:List D}{a:Nat}{M:Mem}{k:D->Mem->Prop}:af (ez false (.lst xs) (.int a) .non M) k↔(xs.drop a).length<=sz/\k (.lst (xs.drop a)) M:=by
 have e:cut xs (min a xs.length) xs.length=xs.drop a:=by
  unfold cut;rcases Nat.le_total a xs.length with h|h
  ·rw[Nat.min_eq_left h,Sz `s]
  ·rw[Nat.min_eq_right h];simp[List.drop_eq_nil_of_le h]
 show af (match aL xs.length 0 (.int a),aL xs.length xs.length D.non with|some l,some h=>bB false (cut xs l h) M|_,_=>.bad) k↔_
 have e2:aL xs.length 0 (.int a)=some (min a xs.length):=by
  show some _=_;rw[if_neg `a];simp
 rw[e2];show af (bB false (cut xs (min a xs.length) xs.length) M) k↔_;rw[e,bx]
def vL {w:Nat}{ge:GE}{Z:Env}{M:Mem}{u:List D->Mem->Prop}(f:Nat->Nat)(v:w<=100)(hf:∀k,k<w->ge (some (.int (k:Int))::Z) M=.ok (nD (f k)) M)(hk:u (((List.range w).map f).map nD) M) :
 af (dC (dD (.one 0) (b8 ge) (none::Z)) (λ_=>some ((List.range w).map λ(k:Nat)=>D.int (k:Int))) [] M) u:=by
 refine gW (λd=>match d with|.int i=>nD (f i.toNat)|_=>.non) (av `o) rfl (λd hd=>?_) ?_
 ·obtain⟨k,hk,rfl⟩:=RI.mp hd;exact{_,rfl,hf k (List.mem_range.mp hk)}
 ·simpa[Function.comp_def] using hk
def wC {w:Nat}{f:Nat->Nat}(hf:∀k,k<w->f k<w):ft w ((List.range w).map f):={`s,λx u=>by
 obtain⟨k,hk,rfl⟩:=RI.mp u;exact hf k (List.mem_range.mp hk)}
section
variable{P:Nat->Option Df}(h:HasP0 P){M:Mem}
include h
theorem HC (n:Nat){p B:Nat}(hp:aC M p B):af (ah P (n+1) 30 [.cell p] M) λd M'=>d=.cell p/\aC M' p B/\br p M M':=by
 obtain⟨c,u,a,st,e1,e2,lt,a0,y,z⟩:=hp.ex;have ne:=RX lt;have v:p<M.length:=(Rb.mp e1).1;refine aq h.law_anew rfl ?_;simp[kG,e1,Qw];refine{{c,u,a,0,by simp[v],?_,lt,a0,y,`a},br.set}
 rw[Rx (So ne)];exact e2
theorem tk (n:Nat){p B many:Nat}{k:D->Mem->Prop}(hp:aC M p B)(hB:B<=1000000)(h0:0<many)(h1:many<=10000000)(hk:∀(v:Nat) (M':Mem),v<many->aC M' p (B+1)->br p M M'->k (nD v) M'):af (ah P (n+2) 31 [.cell p,nD many] M) k:=
 aN (wG h n hp hB h0 h1) λd M' ⟨v,e,z,y,u⟩=>by subst e;exact hk v M' z y u
end
def bd {B c k m:Nat}(h:B<=c)(e:c+k<=m):B+k<=m:=Rp (Nat.add_le_add_right h k) e
def yK {B k m:Nat}(e:k<=m):B+k<=B+m:=Nat.add_le_add_left e B
def qB {xs:List D}{v:Nat}{M:Mem}(h:v<xs.length):c4 (.lst xs) (nD v) M=some xs[v]:=by
 show(bG xs.length (v:Int)).bind (λj=>xs[j]?)=_;rw[fb h];simp[h]
def yI {Z:Env}{M:Mem}{j v c:Nat}(h:Z[j]?.getD none=some (nD v)):(au (aE .lt (aa j) (gC (.int (c:Int)))):GT) Z M=.ok (decide (v<c)) M:=by
 refine aT ?_;simp only[iP,fi,a8,cX];refine{_,h,_,rfl,_,rfl,?_,trivial};simp
def ib {Z:Env}{M:Mem}{j v c:Nat}(h:Z[j]?.getD none=some (nD v)):(au (aE .eq (aa j) (gC (.int (c:Int)))):GT) Z M=.ok ((v:Int)==(c:Int)) M:=by
 refine aT ?_;simp only[iP,fi,a8,cX];exact{_,h,_,rfl,_,rfl,rfl,trivial}
def F9 {Z:Env}{M:Mem}{j v c:Nat}(h:Z[j]?.getD none=some (nD v)):(au (aE .gt (aa j) (gC (.int (c:Int)))):GT) Z M=.ok (decide ((c:Int)<(v:Int))) M:=by
 refine aT ?_;simp only[iP,fi,a8,cX];exact{_,h,_,rfl,_,rfl,rfl,trivial}
section
variable{Z:Env}{M:Mem}{g a:GE}{rest:GS}{kf:Fl->Mem->Prop}
section
variable{P:Nat->Option Df}(hp_:HasP0 P)(n:Nat){i j p B many:Nat}(hj:Z[j]?.getD none=some (.cell p))(hg:g Z M=.ok (nD many) M)(hp:aC M p B)(hB:B<=1000000)(h0:0<many)(h1:many<=10000000)
include hp_ hj hg hp hB h0 h1
theorem fc:af (aj 31 (ah P (n+2)) #[aa j,g] Z M) λd M'=>∃v:Nat,d=nD v/\v<many/\aC M' p (B+1)/\br p M M':=by
 rw[aU (ae (ag hj) (ae hg rfl))];exact wG hp_ n hp hB h0 h1
theorem dw (hk:∀(v:Nat) (M':Mem),v<many->aC M' p (B+1)->br p M M'->af (rest (Z.set i (some (nD v))) M') kf):af (aK (aA (.one i) (aj 31 (ah P (n+2)) #[aa j,g])) rest Z M) kf:=by
 refine cv (fc hp_ n hj hg hp hB h0 h1) ?_;rintro x M' ⟨v,rfl,a,b,c⟩;exact hk v M' a b c
end
end
section
variable{Z:Env}{M:Mem}{k:D->Mem->Prop}
def dO {e:GE}{K:Fl->Mem->Prop}(h:af (e Z M) λx M=>K (.ret x) M):af (#v[aB e] Z M) K:=by
 simp only[aw,cn];exact h
def Ba {e:GE}{j v w:Nat}(he:e Z M=.ok (nD v) M)(hj:Z[j]?.getD none=some (nD w))(u:0<w):ak false .mod e (aa j) Z M=.ok (nD (v % w)) M:=by
 unfold ak;rw[he];show(aa j Z M).bind _=_;rw[ag hj];show(if (0:Int)<(w:Int) then Res.ok (D.int ((v:Int) % (w:Int))) M else .bad)=_;rw[if_pos `a]
 rfl
def jH {e f:GE}{v w:Nat}(he:e Z M=.ok (nD v) M)(hf:f Z M=.ok (nD w) M):ak false .add e f Z M=.ok (nD (v+w)) M:=by
 unfold ak;rw[he];show(f Z M).bind _=_;rw[hf];rfl
def J8 {e:GE}{v c:Nat}(he:e Z M=.ok (nD v) M)(u:c<=v):ak false .sub e (gC (.int (c:Int))) Z M=.ok (nD (v-c)) M:=by
 unfold ak;rw[he];show Res.ok (D.int ((v:Int)-(c:Int))) M=_;rw[<- Int.ofNat_sub u]
end
section
variable{P:Nat->Option Df}(h:HasP P){M:Mem}
include h
theorem Ak (n:Nat){p B w:Nat}(hp:aC M p B)(hB:B<=900000)(w2:2<=w)(w4:w<=4):af (ah P (n+3) 32 [.cell p,nD w] M) λd M'=>∃t,d=aS t/\ft w t/\aC M' p (B+7)/\br p M M':=by
 have R:0<w:=RD `d w2
 have X:w<=10000000:=Rp w4 (Rh rfl);refine aq h.law_tab rfl ?_;show af (jB (ah P (n+2)) [some (.cell p),some (nD w),none,none,none,none] M) _;unfold jB;refine dw h n rfl rfl hp (Rp hB `d) `d `d λkind M1 hk p1 k1=>?_
 refine dw h n rfl rfl p1 (bd hB `d) R X λu M2 W p2 k2=>?_
 refine dw h n rfl rfl p2 (bd (k:=2) hB `d) R X λE O ho Y k3=>?_
 have Q:=(k1.trans k2).trans k3;have J:∀(l:List Nat) (M':Mem),ft w l->aC M' p (B+7)->br p M M'->(l.map nD).length<=sz/\∃t,D.tup (l.map nD)=aS t/\ft w t/\aC M' p (B+7)/\br p M M':=λl M' hl F H=>{av (by rw[Rn,hl.1];omega),l,rfl,hl,F,H}
 have S:aC O p (B+7):=Y.mono (yK (k:=3) `d)
 show af (aK _ _ [some (.cell p),some (nD w),some (nD kind),some (nD u),some (nD E),none] O) _;refine bu (yI rfl) (λ_=>?_) λ_=>?_
 ·simp only[aw,cn,d5,bc,bF,gn,iZ,a8];refine{_,rfl,_,rfl,{`a,`a},?_}
  refine comp_map (λi I M'=>∃t:List Nat,I=t.map nD/\(∀x∈t,x<w)/\aC M' p (B+3+i)/\br p M M') (av `o) (λ_ _ _ _=>rfl) {[],rfl,(λ_ L=>nomatch L),Y,Q} ?_ ?_
  ·rintro i d I M' hd _ ⟨t,rfl,U,F,H⟩;have hi:i<w:=by
    have:=(Rb.mp hd).1;simpa using this
   refine{_,rfl,aN (fc h n rfl rfl F `a R X) ?_}
   rintro _ M4 ⟨v,rfl,hv,p4,k4⟩;refine{t++[v],by rw[SF];rfl,λx L=>?_,p4,H.trans k4}
   rcases RK.mp L with z|z
   ·exact U x z
   ·rw[RA.mp z];exact hv
  ·rintro I M' hl ⟨t,rfl,U,F,H⟩;simp only[Rn,SN] at hl F;exact bx.mpr (J t M' ⟨hl,U⟩ (F.mono `a) H)
 refine bu (ib rfl) (λ_=>?_) λ_=>?_
 ·simp only[aw,cn,d5,bc,bF,gn,iZ,a8];refine{_,rfl,_,rfl,{`a,`a},?_}
  exact vL (λk=>(k+1+u) % w) `a (λk hk=>Ba (jH (jH (ag rfl) rfl) (ag rfl)) rfl R) (bx.mpr (J _ O (wC λk _=>Nat.mod_lt _ R) S Q))
 refine bu (ib rfl) (λ_=>?_) λ_=>?_
 ·simp only[aw,cn,d5,bc,bF,gn,iZ,a8];refine{_,rfl,_,rfl,{`a,`a},?_}
  refine vL (λk=>if k=u then E else k) `a (λk hk=>?_) (bx.mpr (J _ O (wC λk hk=>by split<;>assumption) S Q))
  have e:(au (aE .eq (aa 0) (aa 4)):GT) [some (.int (k:Int)),some (.cell p),some (nD w),some (nD kind),some (nD u),some (nD E),none] O=.ok ((k:Int)==(u:Int)) O:=rfl;by_cases ck:k=u
  ·rw[if_pos ck];exact fM (k:=true) (e.trans (by rw[ck,beq_self_eq_true])) (λ_=>rfl) (λz=>nomatch z)
  ·rw[if_neg ck];exact fM (k:=false) (e.trans (by rw[RJ.mpr `a])) (λz=>nomatch z) (λ_=>rfl)
 refine bu (ib rfl) (λ_=>dO ?_) λ_=>?_
 ·simp only[c9,jz,bc,bF,a8];refine{_,rfl,av (n:=1) `d,_,rfl,LK.mpr {{av `o,`a,`a},List.replicate w u,?_,{List.length_replicate,λx L=>by rw[List.eq_of_mem_replicate L];exact W},S,Q}}
  simp[aS,nD]
 ·simp only[aw,f9,IZ,a8,Kj,cn,d5,bc,bF,bJ];simp;refine{`a,av `a,u,fb W,E,fb ho,((List.range w).set u E).set E u,?_,{`s,λx L=>?_},S.app,Q.trans br.app}
  ·simp[aS,nD,List.map_set]
  ·rcases List.mem_or_eq_of_mem_set L with z|rfl
   ·rcases List.mem_or_eq_of_mem_set z with y|rfl
    ·exact List.mem_range.mp y
    ·exact ho
   ·exact W
theorem CV (n:Nat){p B w pl:Nat}(hp:aC M p B)(hB:B<=800000)(w2:2<=w)(w4:w<=4)(p1:1<=pl)(p2:pl<=2):af (ah P (n+4) 33 [.cell p,nD w,nD pl] M) λd M'=>∃e:bb,d=e.d/\bX w pl e/\aC M' p (B+40)/\br p M M':=by
 have X:pl<=10000000:=Rp p2 (Rh rfl);refine aq h.law_deed rfl ?_;show af (iY (ah P (n+3)) [some (.cell p),some (nD w),some (nD pl),none,none,none,none] M) _;unfold iY;refine dw h (n+1) rfl rfl hp (Rp hB `d) `d `d λkind Y hk q1 k1=>?_
 refine cv (k:=λd M'=>∃v:Nat,d=nD (1+v)/\v<3/\aC M' p (B+2)/\br p Y M') ?_ ?_
 ·rw[c9];simp only[cX];refine aN (fc h (n+1) rfl rfl q1 (bd hB `d) `d `d) ?_
  rintro _ M2 ⟨v,rfl,J,q,kk⟩;exact jb.mpr {v,by show D.int (1+(v:Int))=D.int ((1+v:Nat):Int);rw[Int.natCast_add];rfl,J,q,kk}
 rintro _ M2 ⟨price,rfl,hc,q2,k2⟩;refine dw h (n+1) rfl rfl q2 (bd hB `d) p1 X λat_ M3 O q3 k3=>?_
 refine dw h (n+1) rfl rfl q3 (bd (k:=3) hB `d) p1 X λu F ho Q U=>?_
 have L:=((k1.trans k2).trans k3).trans U;have co:eh (1+price):={`a,`a}
 have W:aC F p (B+40):=Q.mono (yK (k:=4) `d)
 show af (aK _ _ [some (.cell p),some (nD w),some (nD pl),some (nD kind),some (nD (1+price)),some (nD at_),some (nD u)] F) _;refine bu (yI rfl) (λ_=>dO ?_) λ_=>?_
 ·simp only[jz,bc,bF,cX,a8,gp];refine{_,rfl,_,rfl,_,rfl,aN (Ak h n Q (bd (k:=4) hB `d) w2 w4) λd M' ⟨t,e,I,y,E⟩=>{_,rfl,av (n:=4) `d,.turn at_ t (1+price),?_,⟨O,I,co⟩,y.mono (yK (k:=11) `d),L.trans E}}
  subst e;rfl
 refine bu (yI rfl) (λ_=>dO ?_) λ_=>?_
 ·obtain⟨o,eo,R⟩:∃o:Nat,fh (au (aE .eq (aa 3) (gI 3))) (ak false .mod (ak false .add (aa 5) (gI 1)) (aa 2)) (aa 6) [some (.cell p),some (nD w),some (nD pl),some (nD kind),some (nD (1+price)),some (nD at_),some (nD u)] F=.ok (nD o) F/\o<pl:=by
   have e:(au (aE .eq (aa 3) (gI 3)):GT) [some (.cell p),some (nD w),some (nD pl),some (nD kind),some (nD (1+price)),some (nD at_),some (nD u)] F=.ok ((kind:Int)==3) F:=ib rfl;cases q:(kind:Int)==3 with
   |true=>rw[q] at e;exact{(at_+1) % pl,fM e (λ_=>Ba (jH (ag rfl) rfl) rfl p1) (λz=>nomatch z),Nat.mod_lt _ p1}
   |false=>rw[q] at e;exact{u,fM e (λz=>nomatch z) (λ_=>ag rfl),ho}
  simp only[jz,bc,bF,cX,a8];refine{_,rfl,?_};rw[eo,bY];exact{_,rfl,av (n:=4) `d,.move at_ o (1+price),rfl,⟨O,R,co⟩,W,L}
 refine bu (ib rfl) (λ_=>dO ?_) λ_=>?_
 ·simp only[jz,bc,bF,cX];show af (ah P (n+3) 31 [.cell p,nD w] F) _;refine tk h (n+1) Q (bd (k:=4) hB `d) (RD `d w2) (Rp w4 (Rh rfl)) λv M5 J q5 k5=>?_
  exact{av (n:=4) `d,.put at_ v (1+price),rfl,⟨O,J,co⟩,q5.mono (yK (k:=5) `d),L.trans k5}
 ·simp only[aw,cn,jz,bc,bF,cX,d5,gn,iZ,a8];refine{_,rfl,_,rfl,_,rfl,_,rfl,{`a,`a},?_}
  refine comp_map (λi H M'=>∃t:List (List Nat),H=t.map aS/\(∀x∈t,ft w x)/\aC M' p (B+4+i*7)/\br p M M') (av `o) (λ_ _ _ _=>rfl) {[],rfl,(λ_ S=>nomatch S),Q,L} ?_ ?_
  ·rintro i d H M' hd _ ⟨t,rfl,I,y,E⟩;have hi:i<w:=by
    have:=(Rb.mp hd).1;simpa using this
   refine{_,rfl,?_};rw[aU (ae (ag rfl) (ae (ag rfl) rfl))];refine aN (Ak h n y `a w2 w4) ?_
   rintro _ F ⟨v,rfl,J,p4,U⟩;refine{t++[v],by rw[SF];rfl,λx S=>?_,p4.mono `a,E.trans U}
   rcases RK.mp S with z|z
   ·exact I x z
   ·rw[RA.mp z];exact J
  ·rintro H M' hl ⟨t,rfl,I,y,E⟩;simp only[Rn,SN] at hl y;exact bx.mpr {av (by rw[Rn];omega),_,rfl,av (n:=5) `d,.join at_ u t (1+price),rfl,{O,ho,⟨hl,I⟩,co},y.mono `a,E}
theorem yf (n:Nat){p B W Pl mo:Nat}(hp:aC M p B)(hB:B<=700000)(W2:2<=W)(W4:W<=4)(P1:1<=Pl)(P2:Pl<=2)(m1:1<=mo)(m6:mo<=6):af (ah P (n+5) 34 [.cell p,nD W,nD Pl,nD mo] M) λd M'=>∃m:a9,d=m.d/\bg m/\m.words<=W/\m.places<=Pl/\m.deeds.length<=mo/\aC M' p (B+300)/\br p M M':=by
 refine aq h.law_machine rfl ?_;show af (fP (ah P (n+4)) [some (.cell p),some (nD W),some (nD Pl),some (nD mo),none,none,none,none] M) _;unfold fP;have plus:∀{Z:Env}{M:Mem}{g:GE}{B c many:Nat}{rest:GS}{K:Fl->Mem->Prop}{i:Nat},Z[0]?.getD none=some (.cell p)->g Z M=.ok (nD many) M->aC M p B->B<=1000000->0<many->many<=10000000->(∀(v:Nat) (M':Mem),v<many->aC M' p (B+1)->br p M M'->af (rest (Z.set i (some (nD (c+v)))) M') K)->af (aK (aA (.one i) (ak false .add (gC (.int (c:Int))) (aj 31 (ah P (n+4)) #[aa 0,g]))) rest Z M) K:=by
  intro Z M g B c many rest K i e0 eg hp hB h0 h1 hk;refine cv (k:=λd M'=>∃v:Nat,d=nD (c+v)/\v<many/\aC M' p (B+1)/\br p M M') ?_ ?_
  ·rw[c9];simp only[cX];refine aN (fc h (n+2) e0 eg hp hB h0 h1) ?_;rintro _ M2 ⟨v,rfl,hv,q,kk⟩;exact jb.mpr {v,by show D.int ((c:Int)+(v:Int))=D.int ((c+v:Nat):Int);rw[Int.natCast_add],hv,q,kk}
  ·rintro _ M' ⟨v,rfl,a,b,c⟩;exact hk v M' a b c
 refine plus rfl (J8 (c:=1) (ag rfl) `a) hp (Rp hB `d) `a `a λw M1 hw q1 k1=>?_
 refine plus rfl (ag rfl) q1 (bd hB `d) P1 (Rp P2 (Rh rfl)) λpl M2 hpl q2 k2=>?_
 have pl2:=q2.lt;have K2:=k1.trans k2;have ML:=K2.len;have w2:2<=2+w:=SI _ _;have w4:2+w<=4:=`a
 have l1:1<=1+pl:=SI _ _;have l2:1+pl<=2:=`a
 generalize hW:2+w=w' at w2 w4;generalize hP:1+pl=p' at l1 l2;refine cv (k:=λd M'=>d=.cell M2.length/\M'=M2++[[]]) ?_ ?_
 ·simp only[iV,bF];exact nI.mpr {Tc _,rfl,rfl}
 rintro _ _ ⟨rfl,rfl⟩;show af (aK _ _ [some (.cell p),some (nD w'),some (nD p'),some (nD mo),some (.cell M2.length),none,none,none] (M2++[[]])) _;simp only[aw,dP,iZ,c9,cX];refine aN (fc h (n+2) rfl rfl q2.app (bd (k:=2) hB `d) m1 (Rp m6 (Rh rfl))) ?_
 rintro _ M3 ⟨many,rfl,hmany,q3,k3⟩;have e3:=k3.get (List.getElem?_concat_length) `a
 have K3:=K2.trans (br.app.trans k3);generalize hq:M2.length=q at *;refine jb.mpr {_,rfl,{`a,`a},?_}
 rw[show(1+(many:Int)).toNat=1+many by omega]
 refine cP (λi Z M'=>∃ds:List bb,M'[q]?=some (ds.map bb.d)/\ds.length=i/\(∀d∈ds,bX w' p' d)/\aC M' p (B+3+i*45)/\br p M M'/\∃a b c,Z=[some (.cell p),some (nD w'),some (nD p'),some (nD mo),some (.cell q),a,b,c])
  (λ_ _ _ _=>rfl) {[],e3,rfl,(λ_ hd=>nomatch hd),q3,K3,none,none,none,rfl} ?_ ?_
 ·rintro i d Z M' hd ⟨ds,e4,hl,hds,q4,K4,a,b,c,rfl⟩;have hi:i<1+many:=by
   have:=(Rb.mp hd).1;simpa using this
  have hi6:i<=5:=`a
  have hB4:B+3+i*45<=700228:=`a
  have hqM:=ML;have hpq:=pl2;refine{_,rfl,?_};refine dw h (n+2) rfl rfl q4 (Rp hB4 `d) `d `d λagain M5 ha q5 k5=>?_
  have e5:=k5.get e4 (Sr hpq);refine cv (k:=λd M'=>∃e:bb,d=e.d/\bX w' p' e/\aC M' p (B+3+i*45+41)/\br p M5 M') ?_ ?_
  ·rw[aU (ae (ag rfl) (ae (ag rfl) (ae (ag rfl) rfl)))];exact aN (CV h n q5 (bd hB4 `d) w2 w4 l1 l2) (by rintro d M' ⟨e,a,b,c,d⟩;exact⟨e,a,b,c,d⟩)
  rintro _ M6 ⟨e,rfl,he,q6,k6⟩;have e6:=k6.get e5 (Sr hpq);have K6:=(K4.trans k5).trans k6;have hsm:(ds.map bb.d).length<sz:=Nat.lt_of_le_of_lt (show(ds.map bb.d).length<=50 by rw[Rn,hl];omega) `d
  have fin:∀(e:bb) (M'':Mem) (x5 x6:Option D),bX w' p' e->M''[q]?=some (ds.map bb.d)->aC M'' p (B+3+(i+1)*45)->br p M M''->
   af (#v[kD (aa 4) (aa 7)] [some (.cell p),some (nD w'),some (nD p'),some (nD mo),some (.cell q),x5,x6,some e.d] M'') λfl M'=>∃ρ',fl=.next ρ'/\∃ds:List bb,M'[q]?=some (ds.map bb.d)/\ds.length=i+1/\(∀d∈ds,bX w' p' d)/\aC M' p (B+3+(i+1)*45)/\br p M M'/\∃a b c,ρ'=[some (.cell p),some (nD w'),some (nD p'),some (nD mo),some (.cell q),a,b,c]:=by
   intro e M'' x5 x6 he e7 q7 K7;simp only[aw,Kl,a8];refine{_,rfl,_,rfl,q,ds.map bb.d,rfl,e7,hsm,_,rfl,ds++[e],?_,by rw[RO,hl];rfl,λd hd=>?_,q7.setq hpq,K7.setq hqM,_,_,_,rfl}
   ·rw[RF (Rb.mp e7).1,SF];rfl
   ·rcases RK.mp hd with z|z
    ·exact hds d z
    ·rw[RA.mp z];exact he
  show af (aK _ _ [some (.cell p),some (nD w'),some (nD p'),some (nD mo),some (.cell q),some d,some (nD again),some e.d] M6) _;have en:(au (aE .ne (aa 4) (aG false bE)):GT) [some (.cell p),some (nD w'),some (nD p'),some (nD mo),some (.cell q),some d,some (nD again),some e.d] M6=.ok (!ds.isEmpty) M6:=by
   refine aP ?_;unfold aE;show(b7 M6 (bw .ne (.cell q) (.lst []) M6)).bind _=_;rw[ne_nil e6];rfl
  refine bu (gY (ib rfl) en) (λcc=>?_) λ_=>fin e M6 _ _ he e6 (q6.mono `a) K6
  have hpos:0<ds.length:=by
   rw[Ra] at cc;cases ds with
   |nil=>exact absurd cc.2 `d
   |cons _ _=>exact Nat.succ_pos _
  simp only[aw,f9,c9,fN,lY,jz,bc,bF,Gf,cX];have el:aI .len #[aa 4] [some (.cell p),some (nD w'),some (nD p'),some (nD mo),some (.cell q),some d,some (nD again),some e.d] M6=.ok (nD ds.length) M6:=by
   refine ai ?_;simp only[d5,bc,bF,a8];exact{_,rfl,pA.mpr {_,e6,by rw[Rn],rfl}}
  show af (aj 31 (ah P (n+4)) #[aa 0,aI .len #[aa 4]] [some (.cell p),some (nD w'),some (nD p'),some (nD mo),some (.cell q),some d,some (nD again),some e.d] M6) _;refine aN (fc h (n+2) rfl el q6 (bd hB4 `d) hpos `a) ?_
  rintro _ M7 ⟨v,rfl,hv,q7,k7⟩;have e7:=k7.get e6 (Sr hpq);refine{(ds.getD v e).d,?_,1,rfl,rfl,rfl,?_}
  ·show(M7[q]?).bind (λds=>(bG ds.length (v:Int)).bind λj=>ds[j]?)=_;rw[e7];show(bG (ds.map bb.d).length (v:Int)).bind (λj=>(ds.map bb.d)[j]?)=_;rw[fb (by rw[Rn];exact hv)]
   simp[Sq,hv]
  ·refine aN (Ew ?_) λx1 M3 hx=>{1,rfl,nD e.cost,sQ,av (n:=1) `d,hx}
   exact fin _ M7 _ _ (B9 (hds _ (getD_mem hv)) (Jq he)) e7 (q7.mono `a) (K6.trans k7)
 ·rintro Z M' ⟨ds,e4,hl,hds,q4,K4,a,b,c,rfl⟩;simp only[Rn,SN] at hl q4;refine dO ?_;simp only[jz,bc,bF,d5,a8];refine{_,rfl,_,rfl,_,rfl,xY.mpr {_,e4,av (n:=3) `d,⟨w',p',ds⟩,rfl,{w2,w4,l1,l2,?_,?_,hds},?_,?_,?_,q4.mono `a,K4}}
  ·show 1<=ds.length;omega
  ·show ds.length<=6;omega
  ·show w'<=W;omega
  ·show p'<=Pl;omega
  ·show ds.length<=mo;omega
omit h in
theorem xq {g:GE}{Z:Env}{l:List bb}(e:g Z M=.ok (.tup (l.map bb.d)) M):aI .len #[g] Z M=.ok (nD l.length) M:=by
 refine ai ?_;simp only[d5];rw[ae e rfl,bY];exact{congrArg (λ(n:Nat)=>D.int n) (Rn _),rfl}
theorem Hm (h35:P 35=some {3,6,fO})(n:Nat){p B mo:Nat}{m:a9}(hm:bg m)(hp:aC M p B)(hB:B<=700000)(O:mo<=40):af (ah P (n+3) 35 [.cell p,m.d,nD mo] M) λd M'=>∃r:List Nat,d=.lst (r.map nD)/\aY m r/\r.length<=mo/\aC M' p (B+50)/\br p M M':=by
 refine aq h35 rfl ?_;show af (fO (ah P (n+2)) [some (.cell p),some m.d,some (nD mo),none,none,none] M) _;unfold fO;refine dw h n rfl rfl hp `a `d `d λkind J _ Y k1=>?_
 refine cv (k:=λd M'=>∃v:Nat,d=nD v/\v<=mo/\aC M' p (B+2)/\br p M M') ?_ ?_
 ·show af (fh _ _ _ [some (.cell p),some m.d,some (nD mo),some (nD kind),none,none] J) _;have t0:(au (aE .eq (aa 3) (gI 0)):GT) [some (.cell p),some m.d,some (nD mo),some (nD kind),none,none] J=.ok ((kind:Int)==((0:Nat):Int)) J:=ib rfl;rw[Oo,t0,bY];split
  ·exact{mo,rfl,Rj _,Y.mono `a,k1}
  ·refine aN (fc h n (many:=mo+1) rfl rfl Y `a (Nat.succ_pos _) `a) (by rintro d M' ⟨v,e,Q,a,b⟩;exact{v,e,Nat.le_of_lt_succ Q,a,k1.trans b})
 intro x M2 R;show af (aK _ _ [some (.cell p),some m.d,some (nD mo),some (nD kind),some x,none] M2) _;obtain⟨many,ex,F,q2,k2⟩:=R;rw[ex];clear ex;simp only[aw,f9,gn,iZ,a8];have S:=Rp F O;refine{_,rfl,_,rfl,{Int.le_trans `d (Int.natCast_nonneg _),Int.lt_of_le_of_lt (Int.ofNat_le.mpr S) `d},?_}
 rw[SD];refine comp_map (λi y M'=>∃t:List Nat,y=t.map nD/\(∀x∈t,x<m.deeds.length)/\aC M' p (B+2+i)/\br p M M') (av (by rw[Rn,SN];omega)) (λ_ _ _ _=>rfl) {[],rfl,(λ_ z=>nomatch z),q2,k2} ?_ ?_
 ·rintro i d y M' hd _ ⟨t,rfl,I,u,E⟩;have W:i<many:=by
   have:=(Rb.mp hd).1
   rwa [Rn,SN] at this
  refine{_,rfl,?_};refine aN (fc h n rfl (xq (bO (ag rfl) rfl Bc)) u `a hm.d1 (by have:=hm.d6;omega)) ?_
  rintro _ U ⟨v,rfl,Q,p4,k4⟩;refine{t++[v],by rw[SF];rfl,λx R=>?_,p4,E.trans k4}
  rcases RK.mp R with z|z
  ·exact I x z
  ·rw[RA.mp z];exact Q
 ·rintro y M' hl ⟨t,rfl,I,u,E⟩;rw[Rn,Rn,SN] at hl;rw[Rn,SN] at u;have q3:=u.mono (show B+2+many<=B+50 by omega)
  have X:=E;have hl:=Nat.le_of_eq hl;refine bx.mpr {av (by rw[Rn];omega),?_}
  show af (aK _ _ [some (.cell p),some m.d,some (nD mo),some (nD kind),some (nD many),some (.lst (t.map nD))] M') _;refine bu (ib rfl) (λ_=>?_) λ_=>aZ (ag rfl) {t,rfl,{`a,I},`a,q3,X}
  refine cv (k:=λd U=>U=M'/\d=.lst ((((List.replicate many (t.take 2)).flatten).take many).map nD)) ?_ ?_
  ·have l2:((t.map nD).take 2).length<=2:=by rw[Se];exact Nat.min_le_left _ _
   simp only[fN,c9,a8,cX];refine{_,rfl,rfl,rfl,(pY (a:=2)).mpr {av `a,_,rfl,LL.mpr {{?_,`a,`a},bx.mpr {?_,?_}}}}
   ·exact Rp (Nat.mul_le_mul l2 (show many<=40 by omega)) `d
   ·rw[SD,List.length_flatten,List.map_replicate,List.sum_replicate_nat];exact Rp (Nat.mul_le_mul (show many<=40 by omega) l2) `d
   ·refine{_,rfl,rfl,rfl,pY.mpr {av (by rw[Se];exact Rp (Nat.min_le_left _ _) `a),rfl,?_}}
    rw[SD,Tg,List.map_flatten,List.map_replicate,Tg]
  rintro _ _ ⟨rfl,rfl⟩;have lm:(((List.replicate many (t.take 2)).flatten).take many).length<=many:=by rw[Se];exact Nat.min_le_left _ _
  refine kM.mpr (bJ.mpr (aZ (ag rfl) {_,rfl,{`a,λi W=>?_},`a,q3,X}))
  obtain⟨l,L,H⟩:=List.mem_flatten.mp (R9 W);rw[(List.mem_replicate.mp L).2] at H;exact I i (R9 H)
end
def HF {a b:Nat}:af (ez false (.frz xs) (.int a) (.int b) M) k↔(cut xs (min a xs.length) (min b xs.length)).length<=sz/\k (.lst (cut xs (min a xs.length) (min b xs.length))) M:=by
 show af (match aL xs.length 0 (.int a),aL xs.length xs.length (.int b) with|some l,some h=>bB false (cut xs l h) M|_,_=>.bad) k↔_
 have e1:aL xs.length 0 (.int a)=some (min a xs.length):=by
  show some _=_;rw[if_neg `a];simp
 have e2:aL xs.length xs.length (.int b)=some (min b xs.length):=by
  show some _=_;rw[if_neg `a];simp
 rw[e1,e2];exact bx
def C0 {b:Nat}:af (ez false (.frz xs) .non (.int b) M) k↔(cut xs 0 (min b xs.length)).length<=sz/\k (.lst (cut xs 0 (min b xs.length))) M:=by
 show af (match aL xs.length 0 D.non,aL xs.length xs.length (.int b) with|some l,some h=>bB false (cut xs l h) M|_,_=>.bad) k↔_
 have e2:aL xs.length xs.length (.int b)=some (min b xs.length):=by
  show some _=_;rw[if_neg `a];simp
 rw[e2];exact bx
def xI {j u:Type}(f:j->u)(l:List j)(a b:Nat):cut (l.map f) a b=(cut l a b).map f:=by simp[cut,Tg,List.map_drop]
def rN {j:Type}(l:List j)(a b:Nat):(cut l a b).length<=l.length:=by simp[cut];omega
section
variable{P:Nat->Option Df}(h:HasP0 P){M:Mem}
include h
theorem Hu (n:Nat){ns:List Int}(hn:ns.length<=63):af (ah P (n+1) 29 [.frz (ns.map D.int)] []) λd M'=>d=.cell 1/\aC M' 1 0:=by
 refine aq h.law_open rfl ?_;simp[kF,cg];refine(C0).mpr {?_,?_}
 ·exact av (Rp (rN _ _ _) `o)
 simp only[DU,nI];refine{av (Rp (rN _ _ _) `o),(HF).mpr {av (Rp (rN _ _ _) `o),rfl,?_}}
 rw[xI,xI];simp only[Rn,List.length_nil,Td];have j:min 63 ns.length=ns.length:=`a
 rw[j];refine cP (λi v M'=>∃l:List Int,M'=[l.map D.int]/\l.length=min 12 ns.length/\∃a b,v=[some (.frz (ns.map D.int)),some (.cell 0),a,b]) (λ_ _ _ _=>rfl) {cut ns 0 (min 12 ns.length),rfl,by simp[cut],none,none,rfl} ?_ ?_
 ·rintro i d v M' hd ⟨l,rfl,hl,a,b,rfl⟩;rw[d4,R5] at hd;cases e:(cut ns (min 12 ns.length) ns.length)[i]? with
  |none=>rw[e] at hd;cases hd
  | some x=>
    rw[e] at hd;have hd:=Ro hd;subst hd;have B:=(Rb.mp e).1;have E:12<ns.length:=by
     by_cases c:12<ns.length
     ·exact c
     ·have:min 12 ns.length=ns.length:=`a
      rw[this] at B;simp[cut] at B
    have u:l.length=12:=`a
    have r1:=S3 (i:Int) (show(12:Int)≠0 by decide)
    have r2:=SY (i:Int) (show(0:Int)<12 by decide)
    obtain⟨y,z⟩:=rE r1 (by rw[u];exact r2)
    obtain⟨k,ek⟩:∃k:Nat,(i:Int) % 12=(k:Int):={((i:Int) % 12).toNat,`a}
    refine{_,rfl,?_};simp;rw[ek] at z ⊢;have hk:k<l.length:=`a
    refine{_,z,?_};refine{l.map D.int,rfl,k,?_,l.set k (y+x),?_,by simp[hl]}
    ·simpa using fb hk
    ·simp[List.map_set]
 ·rintro v M' ⟨l,rfl,hl,a,b,rfl⟩;simp;exact{`d,{0,l,0,0,rfl,rfl,`d,`d,`d,`d}}
end
def Sub.pen (h:Sub M M')(u:aC M p B):aC M' p B:=by
 obtain⟨c,j,a,st,e1,e2,r⟩:=u.ex;exact{c,j,a,st,h.get e1,h.get e2,r}
def uT (n:Nat)(l:List Nat):ax (n+1) (aS l)=true:=by
 show(l.map nD).all (ax n)=true;rw[Rq];intro x j;obtain⟨i,_,rfl⟩:=RI.mp j;cases n<;>rfl
structure fS (P:Nat->Option Df):Prop where
 same:P 40=some {2,2,bV}
noncomputable def ug:∀ps:List (D×D),jI (ps.map (·.1)) (ps.map (·.2))=ps.map λp=>.tup [p.1,p.2]
 |[]=>rfl
 |d::r=>congrArg (D.tup [d.1,d.2]::·) (ug r)
def yx {u:Type}{ds:List u}:bw .notin (.bl false) (.lst (ds.map λ_=>.bl true)) M=some true:=by
 show(jq (.bl false) (ds.map λ_=>.bl true)).map (!·)=_;unfold jq;rw[if_pos]
 ·have:(ds.map λ_=>D.bl true).any (λy=>cS y (.bl false))=false:=by
   rw[List.any_eq_false];intro x j;obtain⟨_,_,rfl⟩:=RI.mp j;exact RL
  rw[this];rfl
 ·simp[ax]
def jY {f:wg}{s:GA}{Z:Env}{M:Mem}{ds:List D}(es:s Z M=.ok ds M):aI f s Z M=du f ds M:=by
 unfold aI;rw[es];rfl
@[simp] theorem DR:af (du (.list m) [.tup ds] M) k↔af (bB m ds M) k:=Sj
def nY (e:qG (.str x) (.str y)=some b)(M:Mem):bw .eq (.str x) (.str y) M=some b:=by
 show m8 M (.str x) (.str y)=some b;unfold m8;rw[show qG (view M (.str x)) (view M (.str y))=some b from e]
def uN (c:Call):GS:=#v[aF (au (aE .ne (aI .len #[aa 0]) (aI .len #[aa 1]))) rF az,aB (aE .notin vA (cf false 2 (.tup [0,1]) (nQ (aa 0) (aa 1)) (b8 (aj 40 c #[aa 0,aa 1]))))]
section
variable{P:Nat->Option Df}(h:fS P){M:Mem}
include h
theorem mw (n:Nat)(i:Nat):ah P (n+1) 40 [nD i,nD i] M=.ok (.bl true) M:=by
 refine ai (aq h.same rfl ?_);show af (bV (ah P n) [some (nD i),some (nD i)] M) _;exact ao rfl (ao rfl (bh rfl (v:=.bl ((i:Int)==(i:Int))) rfl {`s,rfl}))
theorem AF (n:Nat){ps:List (D×D)}(j:bW M x=some (ps.map (·.1)))(u:bW M y=some (ps.map (·.2)))(hz:ps.length<=sz)(hs:∀p∈ps,ah P n 40 [p.1,p.2] M=.ok (.bl true) M)(hk:kl (ps.map λ_=>.bl true) M) :
 af (dC (dD (.tup [0,1]) (b8 (aj 40 (ah P n) #[aa 0,aa 1])) (none::none::Z)) (pQ x y) [] M) kl:=by
 refine gW (ds:=ps.map λp=>.tup [p.1,p.2]) (λ_=>.bl true) (by rw[Rn];exact hz) ?_ ?_ ?_
 ·unfold pQ;rw[j,u];exact congrArg some (ug ps)
 ·intro d hd;obtain⟨e,he,rfl⟩:=RI.mp hd;exact{_,rfl,(aU (ae (ag rfl) (ae (ag rfl) rfl))).trans (hs e he)}
 ·rw[List.map_map];exact hk
theorem sq (n:Nat){ps:List (D×D)}(j:bW M x=some (ps.map (·.1)))(u:bW M y=some (ps.map (·.2)))(lx:du .len [x] M=.ok (.int ps.length) M)(v:du .len [y] M=.ok (.int ps.length) M)(z:cT x=true)(B:cT y=true)(hz:ps.length<=sz)(hs:∀p∈ps,ah P n 40 [p.1,p.2] M=.ok (.bl true) M) :
 af (uN (ah P n) [some x,some y] M) (fY λd M'=>d=.bl true/\M'=M):=by
 have t:=Fz (Z:=[some x,some y]) ((jY (s:=#[aa 0]) (ae (ag rfl) rfl)).trans lx) ((jY (s:=#[aa 1]) (ae (ag rfl) rfl)).trans v);rw[beq_self_eq_true] at t;exact ao t (dO (fi.mpr (cX.mpr (gn.mpr (JK.mpr (a8.mpr {_,rfl,a8.mpr {_,rfl,by rw[z,B];rfl,AF h n j u hz hs (bx.mpr {by rw[Rn];exact hz,true,yx,rfl,rfl})}}))))))
theorem oU (n:Nat)(u:bW M x=some ds)(v:bW M y=some ds)(lx:du .len [x] M=.ok (.int ds.length) M)(z:du .len [y] M=.ok (.int ds.length) M)(B:cT x=true)(E:cT y=true)(hz:ds.length<=sz)(hs:∀d∈ds,ah P n 40 [d,d] M=.ok (.bl true) M) :
 af (uN (ah P n) [some x,some y] M) (fY λd M'=>d=.bl true/\M'=M):=by
 have l:(ds.map λd=>(d,d)).length=ds.length:=Rn ..;refine sq h n (ps:=ds.map λd=>(d,d)) (by rw[List.map_map];exact u.trans (congrArg some (List.map_id ds).symm)) (by rw[List.map_map];exact v.trans (congrArg some (List.map_id ds).symm)) (by rw[l];exact lx) (by rw[l];exact z) B E (by rw[l];exact hz) λp j=>?_
 obtain⟨d,hd,rfl⟩:=RI.mp j;exact hs d hd
theorem si (n:Nat)(hz:ds.length<=sz)(hs:∀d∈ds,ah P n 40 [d,d] M=.ok (.bl true) M):ah P (n+1) 40 [.tup ds,.tup ds] M=.ok (.bl true) M:=by
 refine ai (aq h.same rfl ?_);show af (bV (ah P n) [some (.tup ds),some (.tup ds)] M) _;exact ao rfl (ao rfl (ao rfl (ao rfl (ao rfl (oU h n rfl rfl rfl rfl rfl rfl hz hs)))))
theorem An (n:Nat)(j:bR M x r)(u:bR M y r)(hz:r.length<=100000):ah P (n+2) 40 [x,y] M=.ok (.bl true) M:=by
 refine ai (aq h.same rfl ?_);show af (bV (ah P (n+1)) [some x,some y] M) _;have l:∀{z:D},bR M z r->du .len [z] M=.ok (.int (r.map nD).length) M:=λhz=>ai (hz.len.mpr {by rw[Rn],rfl})
 have z:=oU h (n+1) j.seq u.seq (l j) (l u) j.is.1 u.is.1 (av `o) λd hd=>by obtain⟨i,_,rfl⟩:=RI.mp hd;exact mw h n i
 rcases j with rfl|⟨q,rfl,e⟩<;>rcases u with rfl|⟨B,rfl,v⟩<;>exact ao rfl (ao rfl (ao rfl (ao rfl (ao rfl z))))
theorem oh (n:Nat)(hz:s.length<=100):ah P (n+2) 40 [aS s,aS s] M=.ok (.bl true) M:=
 si h (n+1) (av `o) λd hd=>by obtain⟨i,_,rfl⟩:=RI.mp hd;exact mw h n i
end
section
variable{Z:Env}{M:Mem}{a b d:GE}{k:D->Mem->Prop}{kw:Walk->Mem->Prop}{kf:Fl->Mem->Prop}
def Fo {t rest:GS}{Z ρ':Env}{M M1:Mem}{kf:Fl->Mem->Prop}(e:t Z M=.ok (.next ρ') M1)(h:af (rest ρ' M1) kf):af (aK t rest Z M) kf:=by
 refine aw.mpr ?_;rw[e];exact h
def v8 {i:Nat}{a:GE}{Z:Env}{M M1:Mem}{x:D}(e:a Z M=.ok x M1):eP (.one i) a Z M=.ok (.next (Z.set i (some x))) M1:=by unfold eP;rw[e];rfl
def d8 {f:Nat}{c:Call}{s:GA}{Z:Env}{M:Mem}{xs:List D}(e:s Z M=.ok xs M):cy f c s Z M=c f xs M:=by unfold cy;rw[e]
@[simp] theorem JJ:af (nP a b d Z M) kw↔af (a Z M) λx M=>af (b Z M) λy M=>af (d Z M) λz M=>(cT x&&cT y&&cT z)=true/\kw (pP x y z) M:=by
 simp only[nP,bz];refine iff_of_eq ?_;congr 1;funext x M;congr 1;funext y M;congr 1;funext z M;split<;>simp_all
@[simp] theorem Om:af (pF m a Z M) k↔af (a Z M) λx M=>af (ym m x M) k:=by simp[pF]
@[simp] theorem Q1:af (ym m (.lst xs) M) k↔af (bB m xs.reverse M) k:=Sj
@[simp] theorem HN:af (ym m (.tup xs) M) k↔k (.tup xs.reverse) M:=Sj
def xB (I:Nat->Env->Mem->Prop)(R:D->Mem->Prop)(B:∀i Z M,I i Z M->w M=some ds)(v:∀d M,R d M->w M=some ds)(z:I 0 Z M)
 (hs:∀i d Z M,ds[i]?=some d->I i Z M->∃ρ1,b9 t d Z=some ρ1/\af (gb ρ1 M) λfl M=>(∃ρ',fl=.next ρ'/\I (i+1) ρ' M)\/∃d,fl=.ret d/\R d M) (hk:∀Z M,I ds.length Z M->kf (.next Z) M) (hr:∀d M,R d M->kf (.ret d) M) :
 af (dC (iQ t gb) w (.next Z) M) kf:=by
 refine gG (λi fl M=>(∃Z,fl=.next Z/\I i Z M)\/∃d,fl=.ret d/\R d M) (λi fl M h=>h.elim ((by rintro⟨Z,_,h⟩;exact B i Z M h)) (by rintro⟨d,_,h⟩;exact v d M h)) (.inl ⟨Z,rfl,z⟩) ?_ ?_
 ·rintro i d fl M hd (⟨Z,rfl,j⟩|⟨y,rfl,u⟩)
  ·obtain⟨ρ1,e,h⟩:=hs i d Z M hd j;simp only[iQ,bz,jP,e];exact⟨ρ1,rfl,h⟩
  ·exact .inr ⟨y,rfl,u⟩
 ·rintro fl M (⟨Z,rfl,j⟩|⟨d,rfl,u⟩)
  ·exact hk Z M j
  ·exact hr d M u
end
def MX (i j:Nat):cS (nD i) (nD j)=decide (i=j):=by
 show((i:Int)==(j:Int))=_;rw[Tf];simp;omega
noncomputable def vX:∀l r:List Nat,ik (l.map nD) (r.map nD)=decide (l=r)
 |[],[]=>rfl
 |[],_::_=>rfl
 |_::_,[]=>rfl
 | i::l,j::r=>by
   show(cS (nD i) (nD j)&&ik (l.map nD) (r.map nD))=_;rw[MX,vX l r,Tf];simp
def MY (l r:List Nat):cS (aS l) (aS r)=decide (l=r):=vX l r
def uU (n:Nat)(l:List Nat):ax (n+1) (.lst (l.map nD))=true:=by
 show(l.map nD).all (ax n)=true;rw[Rq];intro x j;obtain⟨i,_,rfl⟩:=RI.mp j;cases n<;>rfl
def EF:bw .ne (aS l) (aS r) M=some (!decide (l=r)):=lj (uT 63 l) (uT 63 r) (MY l r)
def BX {l r:List Nat}:bw .ne (.lst (l.map nD)) (.lst (r.map nD)) M=some (!decide (l=r)):=lj (uU 63 l) (uU 63 r) (vX l r)
def ends (m:a9)(r:List Nat):List (List Nat):=(cw m).map (cM m r)
def B0 (m:a9)(r:List Nat):eY m r=.tup ((ends m r).map aS):=by simp[eY,ends,Function.comp_def]
def cH (m:a9)(a b:List Nat):Option (List Nat):=(cw m).find? λs=>!decide (cM m a s=cM m b s)
def hJ:Option (List Nat)->D
 |some s=>aS s
 |none=>.non
noncomputable def oK {j:Type}(f g e:j->D):∀l:List j,fH (l.map f) (l.map g) (l.map e)=l.map λs=>.tup [f s,g s,e s]
 |[]=>rfl
 |a::l=>by simp[fH,oK f g e l]
def AV (hi:(cw m)[i]?=some s)(h:∀t∈(cw m).take i,cM m a t=cM m b t)(hs:cM m a s≠cM m b s):cH m a b=some s:=by
 have e:cw m=(cw m).take i++s::(cw m).drop (i+1):=by
  obtain⟨h1,h2⟩:=Rb.mp hi;rw[<- h2,<- List.drop_eq_getElem_cons h1,List.take_append_drop]
 unfold cH;rw[e,List.find?_append];have:((cw m).take i).find? (λs=>!decide (cM m a s=cM m b s))=none:=by
  rw[List.find?_eq_none];intro t j;simp[h t j]
 rw[this];simp[List.find?_cons,hs]
def AU (h:∀t∈cw m,cM m a t=cM m b t):cH m a b=none:=by
 unfold cH;rw[List.find?_eq_none];intro t j;simp[h t j]
structure kK (P:Nat->Option Df):Prop where
 h15:P 15=some {1,6,dS}
 h27:P 27=some {2,2,iX}
 h46:P 46=some {2,2,gX}
 parted:P 48=some {3,8,l7}
section
variable{P:Nat->Option Df}{M:Mem}
def uD (h:HasM P)(j:kK P)(n:Nat)(Q:bR M x a)(R:bR M y b)(hm:bg m)(h1:aY m a)(h2:aY m b):af (ah P (n+12) 48 [m.d,x,y] M) λd M'=>d=hJ (cH m a b)/\Sub M M':=by
 have b1:=so h j.h15 j.h27 j.h46 n Q hm h1;have b2:=so h j.h15 j.h27 j.h46 n (R.sub (Sub.app (X:=(cw m).map λs=>(dt m a s).map aS))) hm h2;generalize B:(M++(cw m).map λs=>(dt m a s).map aS)++((cw m).map λs=>(dt m b s).map aS)=I at b2;have L:Sub M I:=by subst B;rw[List.append_assoc];exact Sub.app
 have O:=wK h.toHasM0.toHasB0 j.h15 (n+2) (M:=I) hm;refine aq j.parted rfl ?_;show af (l7 (ah P (n+11)) [some m.d,some x,some y,none,none,none,none,none] M) _;unfold l7;refine Fo (v8 ((d8 (ae (ag rfl) (ae (ag rfl) rfl))).trans b1)) (Fo (v8 ((d8 (ae (ag rfl) (ae (ag rfl) rfl))).trans b2)) ?_);refine aw.mpr (dP.mpr (JJ.mpr ?_));rw[ij rfl O,bY];refine a8.mpr {_,rfl,a8.mpr {_,rfl,rfl,?_}};refine xB (ds:=(cw m).map λs=>.tup [aS s,aS (cM m a s),aS (cM m b s)]) (λi Z M'=>(∀t∈(cw m).take i,cM m a t=cM m b t)/\Sub M M'/\∃E F H,Z=[some m.d,some x,some y,some (eY m a),some (eY m b),E,F,H]) (λd M'=>d=hJ (cH m a b)/\Sub M M') ?_ ?_ {(λ_ h=>nomatch h),L,none,none,none,rfl} ?_ ?_ ?_
 ·rintro i Z M' _;simp[pP,bW,eY,oK]
 ·rintro d M' _;simp[pP,bW,eY,oK]
 ·rintro i d Z M' hd ⟨v,u,E,F,H,rfl⟩;rw[R5] at hd;cases e:(cw m)[i]? with
  |none=>rw[e] at hd;cases hd
  | some s=>
    rw[e] at hd;cases Ro hd;refine{_,rfl,?_};refine bu (aP (bN (ag rfl) (ag rfl) EF)) (λz=>?_) λz=>?_
    ·have c:¬ cM m a s=cM m b s:=of_decide_eq_false (om z);refine aZ (ag (x:=aS s) rfl) ?_;exact Or.inr {_,rfl,by rw[AV e v c];rfl,u}
    ·have c:cM m a s=cM m b s:=of_decide_eq_true (oo z);refine Or.inl {_,rfl,λt J=>?_,u,_,_,_,rfl};rw[SV,e] at J;rcases RK.mp J with z|z
     ·exact v t z
     ·rw[RA.mp z];exact c
 ·rintro Z M' ⟨v,u,E,F,H,rfl⟩;rw[Rn,List.take_length] at v;exact bJ.mpr (aZ rfl {by rw[AU v];rfl,u})
 ·rintro d M' ⟨rfl,u⟩;exact⟨rfl,u⟩
def Ap (h:HasM P)(j:kK P)(n:Nat)(hm:bg m)(h1:aY m a)(h2:aY m b):af (ah P (n+12) 48 [m.d,aR a,aR b] M) λd M'=>d=hJ (cH m a b)/\Sub M M':=uD h j n .l .l hm h1 h2
end
structure HasO0 (P:Nat->Option Df):Prop where
 init:P 129=some {3,3,kA}
 beh:P 132=some {1,1,jZ}
structure HasO (P:Nat->Option Df):Prop extends HasO0 P where
 row:P 130=some {1,1,qP}
 cost:P 131=some {1,1,oG}
 put:P 133=some {3,3,qQ}
 out:P 134=some {2,2,qR}
 back:P 135=some {1,1,kI}
 change:P 136=some {2,2,mi}
 give:P 137=some {2,3,oF}
 summed:P 47=some {2,2,gA}
instance coeHasO {P:Nat->Option Df}:Coe (HasO P) (HasO0 P):=⟨HasO.toHasO0⟩
structure aW (M:Mem) (k e:Nat) (m:a9) (r:List Nat) (hs:List (List Nat)):Prop where
 ob:M[k]?=some [.int 40,m.d,aR r,.cell e]
 er:M[e]?=some (hs.map aR)
def aW.ne (h:aW M k e m r hs):e≠k:=λz=>by
 have a:=h.ob;rw[<- z,h.er] at a;cases hs with
 |nil=>cases a
 |cons x l=>cases a
structure ef (l:List Nat) (M M':Mem):Prop where
 len:M.length<=M'.length
 at':∀k,k<M.length->k∉l->M'[k]?=M[k]?
def ef.refl:ef l M M:={Rj _,λ_ _ _=>rfl}
def ef.trans (a:ef l M M1)(b:ef l M1 M2):ef l M M2:={Rp a.len b.len,λk hk n=>(b.at' k (RD hk a.len) n).trans (a.at' k hk n)}
def ef.of (a:Sub M M'):ef l M M':={a.len,λk hk _=>a.at' k hk}
def ef.set (h:k∈l):ef l M (M.set k ds):={`s,λj _ n=>Rx λe=>n (by rw[<- e];exact h)}
def ef.get (h:ef l M M')(e:M[k]?=some ds)(n:k∉l):M'[k]?=some ds:=by rw[h.at' k (Rb.mp e).1 n];exact e
def ef.push {M M':Mem}{k e:Nat}{ds:List D}(h:ef [k] (M.set e ds) M'):ef [k,e] M M':=(ef.set (.tail _ (.head _))).trans {h.len,λj u hn=>h.at' j u λz=>hn (Rv.mpr (.inl (RA.mp z)))}
def aY.del {m:a9}{r:List Nat}{a:Nat}(h:aY m r):aY m (r.take a++r.drop (a+1)):=by
 have:=h.1;exact{by simp;omega,λj u=>(RK.mp u).elim (λz=>h.2 j (R9 z)) λz=>h.2 j (SK z)}
def aY.ins {m:a9}{r:List Nat}{a i:Nat}(h:aY m r)(hl:r.length<40)(hi:i<m.deeds.length):aY m (r.take a++[i]++r.drop a):=by
 refine{by simp;omega,λj u=>?_}
 rcases RK.mp u with z|z
 ·rcases RK.mp z with z|z
  ·exact h.2 j (R9 z)
  ·rw[RA.mp z];exact hi
 ·exact h.2 j (SK z)
def qr {M:Mem}(e:M[k]?=some ds):k<M.length:=(Rb.mp e).1
section
variable{Z:Env}{M M':Mem}{a v:GE}{s:GA}{k i:Nat}{es:List D}{nm:Str}{kf:Fl->Mem->Prop}{rest:GS}
def IQ (ob:M[k]?=some (.int 40::es))(hi:(bT 40).findIdx? (·==nm)=some i)(he:es[i]?=some d):vC M (aM k) nm=some d:=by
 unfold vC aM;rw[if_pos (SI _ _),Sh,ob];show((bT 40).findIdx? (·==nm)).bind _=_;rw[hi];exact he
def vB (ha:a Z M=.ok (.fn (aM k)) M)(ob:M[k]?=some (.int 40::es))(hi:(bT 40).findIdx? (·==nm)=some i)(he:es[i]?=some d):cQ nm a Z M=.ok d M:=by
 unfold cQ;rw[ha];show b7 M (vC M (aM k) nm)=_;rw[IQ ob hi he];rfl
def HI (j:v Z M=.ok z M')(ha:a Z M'=.ok (.fn (aM k)) M')(ob:M'[k]?=some (.int 40::es))(hi:(bT 40).findIdx? (·==nm)=some i)(hl:i<es.length)(h:af (rest Z (M'.set k (.int 40::es.set i z))) kf):af (aK (iR nm a v) rest Z M) kf:=by
 have e:lX M' (aM k) nm z=some (M'.set k (.int 40::es.set i z)):=by
  unfold lX aM;rw[if_pos (SI _ _),Sh,ob];show((bT 40).findIdx? (·==nm)).bind _=_;rw[hi];exact if_pos hl
 simp only[aw];unfold iR;rw[j];show af ((a Z M').bind _) _;rw[ha];show af (match lX M' (aM k) nm z with|some M'=>Res.ok (Fl.next Z) M'|none=>.bad) _
 rw[e];exact h
def oS (j:v Z M=.ok z M')(ha:a Z M'=.ok (.fn (aM k)) M')(ob:M'[k]?=some (.int 40::es))(hi:(bT 40).findIdx? (·==nm)=some es.length)(h:af (rest Z (M'.set k (.int 40::(es++[z])))) kf):af (aK (iR nm a v) rest Z M) kf:=by
 have e:lX M' (aM k) nm z=some (M'.set k (.int 40::(es++[z]))):=by
  unfold lX aM;rw[if_pos (SI _ _),Sh,ob];show((bT 40).findIdx? (·==nm)).bind _=_;rw[hi];show(if es.length<es.length then _ else if es.length=es.length then _ else none)=_;rw[if_neg (Sv _),if_pos rfl]
 simp only[aw];unfold iR;rw[j];show af ((a Z M').bind _) _;rw[ha];show af (match lX M' (aM k) nm z with|some M'=>Res.ok (Fl.next Z) M'|none=>.bad) _
 rw[e];exact h
def nN (ha:a Z M=.ok (.fn (aM k)) M)(ob:M[k]?=some (.int 40::es))(hs:s Z M=.ok ds M'):dW 40 f c a s Z M=c f (.fn (aM k)::ds) M':=by
 have e:fy M (aM k)=some 40:=by
  unfold fy aM;rw[if_pos (SI _ _),Sh,ob];rfl
 unfold dW;rw[ha];show(if fy M (aM k)=some 40 then(s Z M).bind _ else .bad)=_;rw[if_pos e,hs];rfl
def pop_at (ha:a Z M=.ok (.cell k) M)(hk:M[k]?=some (ds++[y])):vv a Z M=.ok y (M.set k ds):=by
 unfold vv;rw[ha];show(match M[k]? with|some ds=>(match ds[ds.length-1]? with|some y=>Res.ok y (M.set k ds.dropLast)|none=>.bad)|none=>.bad)=_
 rw[hk];show(match (ds++[y])[(ds++[y]).length-1]? with|some z=>Res.ok z (M.set k (ds++[y]).dropLast)|none=>.bad)=_
 have:(ds++[y])[(ds++[y]).length-1]?=some y:=`s
 rw[this,List.dropLast_concat]
def Na (ha:a Z M=.ok (.cell k) M)(j:b Z M=.ok z M)(hk:M[k]?=some ds)(hz:ds.length<sz)(h:af (rest Z (M.set k (ds++[z]))) kf):af (aK (kD a b) rest Z M) kf:=by
 simp only[aw];unfold kD;rw[ha];show af ((b Z M).bind _) _;rw[j];show af (match M[k]? with|some ds=>(if ds.length<sz then Res.ok (Fl.next Z) (M.set k (ds++[z])) else .bad)|none=>.bad) _
 rw[hk];show af (if ds.length<sz then _ else _) _;rw[if_pos hz];exact h
def lO (ha:a Z M=.ok (.fn (aM k)) M)(ob:M[k]?=some (.int 40::es))(hs:s Z M=.ok ds M')(h:af (c f (.fn (aM k)::ds) M') λx M=>kf (.ret x) M):af (#v[aB (dW 40 f c a s)] Z M) kf:=dO (by rw[nN ha ob hs];exact h)
def rW (h:af (a Z M) kd)(hk:∀x M',kd x M'->af (rest (Z.set j (some x)) M') kf):af (aK (eP (.one j) a) rest Z M) kf:=by
 obtain⟨x,M',e,q⟩:=eE.mp h;simp only[aw];unfold eP;rw[e];exact hk x M' q
def lK (ea:a Z M=.ok (.lst xs) M)(u:hi Z M=.ok (.int (j:Int)) M)(hz:xs.length<=1000):bQ false false true a gN hi Z M=.ok (.lst (xs.take j)) M:=by
 refine ai ?_;rw[fN,ea];show af (hi Z M) _;rw[u];exact{rfl,rfl,pY.mpr {av `o,rfl,rfl}}
def nA (ea:a Z M=.ok (.lst xs) M)(u:lo Z M=.ok (.int (j:Int)) M)(hz:xs.length<=1000):bQ false true false a lo gN Z M=.ok (.lst (xs.drop j)) M:=by
 refine ai ?_;rw[fN,ea];show af (lo Z M) _;rw[u];exact{rfl,rfl,uJ.mpr {av `o,rfl,rfl}}
end
section
variable{Z:Env}{M:Mem}{k e:Nat}{m:a9}{r:List Nat}{hs:List (List Nat)}(s:aW M k e m r hs)(h:Z[0]?.getD none=some (.fn (aM k)))
include s h
theorem aW.mc:cQ "machine" (aa 0) Z M=.ok m.d M:=vB (i:=0) (ag h) s.ob `d rfl
theorem aW.st:cQ "standing" (aa 0) Z M=.ok (aR r) M:=vB (i:=1) (ag h) s.ob `d rfl
theorem aW.ea:cQ "earlier" (aa 0) Z M=.ok (.cell e) M:=vB (i:=2) (ag h) s.ob `d rfl
theorem aW.ln:aI .len #[cQ "standing" (aa 0)] Z M=.ok (.int r.length) M:=(jY (ae (s.st h) rfl)).trans (ai ((bR.l).len.mpr ⟨rfl,rfl⟩))
theorem aW.ln1:ak false .sub (aI .len #[cQ "standing" (aa 0)]) (gI 1) Z M=.ok (.int (r.length-1)) M:=by
 unfold ak;rw[s.ln h];rfl
end
section
variable{P:Nat->Option Df}(h:HasM P)(ho:HasO0 P)(ha:kK P){M:Mem}{k e:Nat}{m:a9}{r:List Nat}{hs:List (List Nat)}
include h ho
theorem q8 (n:Nat)(y:bR M x r)(hm:bg m)(hr:aY m r):ah P (n+10) 129 [.fn (aM M.length),m.d,x] (M++[[.int 40]])=.ok .non (M++[[.int 40,m.d,aR r,.cell (M.length+1)],[]]):=by
 have j:bR (M++[[.int 40]]) x r:=y.sub Sub.app;refine ai (aq ho.init rfl ?_);refine a7 (ρ':=[some (.fn (aM M.length)),some m.d,some x]) ?_ ?_
 ·show xV _ _ (ah P (n+9) 18 [m.d,x] (M++[[.int 40]]))=_;rw[sj h.toHasM0 n j hm hr];rfl
 refine oS (es:=[]) (ag rfl) (ag rfl) `s `d ?_
 have e1:(M++[[D.int 40]]).set M.length (.int 40::([]++[m.d]))=M++[[.int 40,m.d]]:=`s
 rw[e1];have u:bR (M++[[.int 40,m.d]]) x r:=y.sub Sub.app;have B:aI (.list false) #[aa 2] [some (.fn (aM M.length)),some m.d,some x] (M++[[.int 40,m.d]])=.ok (aR r) (M++[[.int 40,m.d]]):=by
  refine ai ?_;rw[d5];show af (du (.list false) [x] _) _;rw[u.list,bx];exact{av (by have:=hr.1;simp;omega),rfl,rfl}
 refine oS (es:=[m.d]) B (ag rfl) `s (show _=some 1 by decide) ?_
 have e2:(M++[[D.int 40,m.d]]).set M.length (.int 40::([m.d]++[aR r]))=M++[[.int 40,m.d,aR r]]:=`s
 rw[e2];refine oS (es:=[m.d,aR r]) (z:=.cell (M.length+1)) (M':=M++[[.int 40,m.d,aR r]]++[[]]) ?_ (ag rfl) `s (show _=some 2 by decide) ?_
 ·show(if 0<=sz then(if true=true then Res.ok (D.cell (M++[[.int 40,m.d,aR r]]).length) (M++[[.int 40,m.d,aR r]]++[[]]) else Res.ok (.lst []) (M++[[.int 40,m.d,aR r]])) else Res.bad)=_;rw[if_pos (Tc _)];simp
 ·show D.non=.non/\_=_;simp
include ha
theorem Hl (n:Nat)(hm:bg m)(hr:aY m r)(s:aW M k e m r hs):ah P (n+11) 132 [.fn (aM k)] M=.ok (eY m r) (M++(cw m).map λs=>(dt m r s).map aS):=by
 refine ai (aq ho.beh rfl ?_);refine dO ?_;rw[aU (ae (s.mc rfl) (ae (s.st rfl) rfl)),Av h ha.h15 ha.h46 n hm hr];exact⟨rfl,rfl⟩
end
section
variable{P:Nat->Option Df}(h:HasM P)(ho:HasO P)(ha:kK P){M:Mem}{k e:Nat}{m:a9}{r:List Nat}{hs:List (List Nat)}
include h ho
theorem Hi (n:Nat)(hr:r.length<=40)(s:aW M k e m r hs):ah P (n+1) 130 [.fn (aM k)] M=.ok (.cell M.length) (M++[r.map nD]):=by
 refine ai (aq ho.row rfl ?_);refine dO ?_;rw[jY (ae (s.st rfl) rfl)];exact(bR.l).list.mpr (nI.mpr {av `o,rfl,rfl})
theorem CK (n:Nat)(hr:aY m r)(s:aW M k e m r hs):ah P (n+2) 131 [.fn (aM k)] M=.ok (nD (ku m r)) M:=by
 refine ai (aq ho.cost rfl ?_);refine aZ ((aU (ae (s.mc rfl) (ae (s.st rfl) rfl))).trans (uB h.toHasM0 ho.summed n .l (Rp hr.1 `d) hr.2)) ⟨rfl,rfl⟩
include ha
theorem wI (n:Nat)(hm:bg m)(hr:aY m r)(u:aY m r')(s:aW M k e m r hs):af (ah P (n+13) 137 [.fn (aM k),aR r'] M) λd M'=>d=hJ (cH m r r')/\aW M' k e m r' hs/\ef [k] M M':=by
 refine aq ho.give rfl ?_;have q:=Ap h ha n (M:=M) hm hr u;refine rW (kd:=λd M'=>d=hJ (cH m r r')/\Sub M M') ?_ ?_
 ·rw[d8 (ae (s.mc rfl) (ae (s.st rfl) (ae (ag rfl) rfl)))];exact q
 ·rintro x y ⟨rfl,j⟩;refine HI (ag rfl) (ag rfl) (j.get s.ob) `d (show 1<3 by decide) ?_
  refine dO ?_;rw[ag rfl];refine{rfl,{?_,?_},(ef.of j).trans (ef.set `s)}
  ·rw[RF (qr (j.get s.ob))];rfl
  ·rw[Rx (So s.ne)];exact j.get s.er
theorem sm (n:Nat){r':List Nat}(hm:bg m)(hr:aY m r)(j:aY m r')(hz:hs.length<=1000)(s:aW M k e m r hs):af (ah P (n+14) 136 [.fn (aM k),aR r'] M) λd M'=>d=hJ (cH m r r')/\aW M' k e m r' (hs++[r])/\ef [k,e] M M':=by
 refine aq ho.change rfl ?_;refine Na (s.ea rfl) (s.st rfl) s.er (RD (by simp;omega:_<2000) (av `d)) ?_
 have s1:aW (M.set e (hs.map aR++[aR r])) k e m r (hs++[r]):=by
  refine{?_,?_}
  ·rw[Rx s.ne];exact s.ob
  ·rw[RF (qr s.er)];simp
 refine lO (ag rfl) s1.ob (ae (ag rfl) rfl) (aN (wI h ho ha n hm hr j s1) ?_);rintro d M' ⟨rfl,s2,k2⟩;exact⟨rfl,s2,k2.push⟩
theorem Hj (n:Nat)(hm:bg m)(hr:aY m r)(y:p<=r.length)(hl:r.length<40)(hi:i<m.deeds.length)(hz:hs.length<=1000)(s:aW M k e m r hs) :
 af (ah P (n+15) 133 [.fn (aM k),nD p,nD i] M) λd M'=>d=hJ (cH m r (r.take p++[i]++r.drop p))/\aW M' k e m (r.take p++[i]++r.drop p) (hs++[r])/\ef [k,e] M M':=by
 refine aq ho.put rfl ?_;have u:=hr.1;refine ao (bf (b:=true) (aP ?_)) (ao (bf (b:=true) (aP ?_)) (ao (aP (bN (s.ln rfl) rfl ?_)) (lO (ag rfl) s.ob (ae (iv (iv (lK (j:=p) (s.st rfl) (ag rfl) `o) (da (ae (ag rfl) rfl) (Rh rfl)) `o) (nA (j:=p) (s.st rfl) (ag rfl) `o) `o) rfl) ?_)))
 ·rw[aU (ae (ag rfl) (ae rfl (ae (s.ln rfl) rfl))),eO h.toHasM0 (n+13)];have a:decide ((0:Int)<=(p:Int))=true:=decide_eq_true `a
  have b:decide ((p:Int)<=(r.length:Int))=true:=decide_eq_true `a
  rw[a,b];rfl
 ·rw[aU (ae (s.mc rfl) (ae (ag rfl) rfl)),wJ h.toHasM0 (n+12) hi]
 ·show some (decide ((40:Int)<=(r.length:Int)))=_;rw[decide_eq_false `a]
 ·rw[show D.lst ((r.map nD).take p++[nD i]++(r.map nD).drop p)=aR (r.take p++[i]++r.drop p) by simp[aR,Tg,List.map_drop]]
  exact sm h ho ha n hm hr (hr.ins hl hi) hz s
theorem Hk (n:Nat)(hm:bg m)(hr:aY m r)(y:p<r.length)(hz:hs.length<=1000)(s:aW M k e m r hs) :
 af (ah P (n+15) 134 [.fn (aM k),nD p] M) λd M'=>d=hJ (cH m r (r.take p++r.drop (p+1)))/\aW M' k e m (r.take p++r.drop (p+1)) (hs++[r])/\ef [k,e] M M':=by
 refine aq ho.out rfl ?_;have u:=hr.1;refine ao (bf (b:=true) (aP ?_)) (lO (ag rfl) s.ob (ae (iv (lK (j:=p) (s.st rfl) (ag rfl) `o) (nA (j:=p+1) (s.st rfl) (jH (v:=p) (w:=1) (ag rfl) rfl) `o) `o) rfl) ?_)
 ·rw[aU (ae (ag rfl) (ae rfl (ae (s.ln1 rfl) rfl))),eO h.toHasM0 (n+13)];have a:decide ((0:Int)<=(p:Int))=true:=decide_eq_true `a
  have b:decide ((p:Int)<=(r.length:Int)-1)=true:=decide_eq_true `a
  rw[a,b];rfl
 ·rw[show D.lst ((r.map nD).take p++(r.map nD).drop (p+1))=aR (r.take p++r.drop (p+1)) by simp[aR,Tg,List.map_drop]]
  exact sm h ho ha n hm hr hr.del hz s
theorem CM (n:Nat)(hm:bg m)(hr:aY m r)(hr':aY m r')(s:aW M k e m r (hs++[r'])) :
 af (ah P (n+14) 135 [.fn (aM k)] M) λd M'=>d=hJ (cH m r r')/\aW M' k e m r' hs/\ef [k,e] M M':=by
 refine aq ho.back rfl ?_;have er:=s.er;rw[SF] at er;have s1:aW (M.set e (hs.map aR)) k e m r hs:=by
  refine{?_,?_}
  ·rw[Rx s.ne];exact s.ob
  ·rw[RF (qr s.er)]
 refine ao (bf (b:=true) ?_) (lO (ds:=[aR r']) (M':=M.set e (hs.map aR)) (ag rfl) s.ob ?_ (aN (wI h ho ha n hm hr hr' s1) ?_))
 ·unfold au;rw[s.ea rfl];show b7 M ((M[e]?).map λds=>!ds.isEmpty)=_;rw[er];cases hs<;>rfl
 ·unfold ia;rw[pop_at (s.ea rfl) er];rfl
 ·rintro d M' ⟨rfl,s2,k2⟩;exact⟨rfl,s2,k2.push⟩
end
structure HasC0 (P:Nat->Option Df):Prop where
 change:P 138=some {3,7,mh}
 do_:P 139=some {2,2,kz}
structure HasC (P:Nat->Option Df):Prop extends HasC0 P where
 price:P 89=some {2,2,ni}
 parted:P 140=some {3,6,mf}
structure HasE0 (P:Nat->Option Df):Prop extends HasC0 P where
 orders:P 141=some {0,0,jj}
structure QU (P:Nat->Option Df):Prop extends HasE0 P where
 price:P 89=some {2,2,ni}
 parted:P 140=some {3,6,mf}
 right:P 142=some {4,6,qO}
instance coeHasE0 {P:Nat->Option Df}:Coe (HasE0 P) (HasC0 P):=⟨HasE0.toHasC0⟩
instance coeHasE {P:Nat->Option Df}:Coe (QU P) (HasC P):={λh=>⟨h.toHasC0,h.price,h.parted⟩}
def wd (m:a9)(hs:List (List Nat))(r:List Nat)(j:List (List Nat))(told:D):Prop:=
 (∃u r0,hs=u++[r0]/\j=hs/\told=.tup [])
 \/(∃a,a<r.length/\j=hs++[r]++[r.take a++r.drop (a+1)]/\told=.tup [nD a])
 \/∃a i,a<=r.length/\r.length<40/\i<m.deeds.length/\j=hs++[r]++[r.take a++[i]++r.drop a]/\told=.tup [nD a,nD i]
def Ec:c4 (.lst (xs++[y])) (.int (-1)) M=some y:=by
 show(bG (xs++[y]).length (-1)).bind (λj=>(xs++[y])[j]?)=_;have:bG (xs++[y]).length (-1)=some xs.length:=by
  unfold bG;rw[if_neg `d,if_pos `o]
  simp;omega
 rw[this];simp
section
variable{Z:Env}{M:Mem}{a:GE}
def dR:bE Z M=.ok [] M:=rfl
def xt (e:a Z M=.ok (.lst (xs++[y])) M):aD a (dg (gI 1)) Z M=.ok y M:=bO e rfl Ec
def iF (e:a Z M=.ok (.lst xs) M):aI .len #[a] Z M=.ok (nD xs.length) M:=by
 rw[jY (ae e rfl)];rfl
def jE {r:List Nat}(e:a Z M=.ok (aR r) M):aI .len #[a] Z M=.ok (nD r.length) M:=(iF e).trans (by rw[Rn])
def IL (e:a Z M=.ok (.lst (xs++[y])) M)(hl:xs.length<=1000):bQ false false true a gN (dg (gI 1)) Z M=.ok (.lst xs) M:=by
 refine ai ?_;rw[fN,e];refine{rfl,rfl,?_};have e2:aL (xs++[y]).length (xs++[y]).length (.int (-1))=some xs.length:=by
  show some _=_;rw[if_pos `d];congr 1;simp;omega
 show af (match aL (xs++[y]).length 0 D.non,aL (xs++[y]).length (xs++[y]).length (.int (-1)) with|some l,some h=>bB false (cut (xs++[y]) l h) M|_,_=>.bad) _
 rw[e2];show af (bB false (cut (xs++[y]) 0 xs.length) M) _;rw[show cut (xs++[y]) 0 xs.length=xs by unfold cut;simp,bx]
 exact{av `a,rfl,rfl}
def dJ (es:s Z M=.ok xs M)(hl:xs.length<=100):bt s Z M=.ok (.tup xs) M:=by
 unfold bt;rw[es];show(if xs.length<=sz then Res.ok (D.tup xs) M else .bad)=_;rw[if_pos (av `a)]
end
section
variable{P:Nat->Option Df}(h:HasP0 P)(hq:HasC0 P){M:Mem}{m:a9}
include h hq
theorem pW (n:Nat)(hm:bg m)(hr:aY m r)(hl:hs.length<=50)(Q:aC M p B)(hB:B<=700000):af (ah P (n+3) 138 [.cell p,m.d,.lst ((hs++[r]).map aR)] M) λd M'=>∃u told,d=.tup [.lst (u.map aR),told]/\wd m hs r u told/\aC M' p (B+3)/\br p M M':=by
 have S:=hr.1;have d6:=hm.d6;refine aq hq.change rfl ?_;refine dw h n rfl rfl Q `a `d `d λway Y _ W k1=>?_
 rw[SF];refine a7 (bP (xt (ag rfl))) ?_;refine dw h n (many:=r.length+1) rfl (jH (jE (ag rfl)) rfl) W `a `a `a λat_ M2 L X k2=>?_
 refine dw h n rfl (xq (bO (ag rfl) rfl Bc)) X `a hm.d1 `a λi M3 O I R=>?_
 have kk:=(k1.trans k2).trans R;refine bu (gY (ib rfl) (aP (bN (iF (xs:=hs.map aR++[aR r]) (ag rfl)) rfl rfl))) (λE=>?_) λ_=>?_
 ·rw[Ra] at E;obtain⟨F,r0,J⟩:∃F r0,hs=F++[r0]:=by
   rcases List.eq_nil_or_concat hs with rfl|⟨a,b,e⟩
   ·exact absurd (of_decide_eq_true E.2) (Int.lt_irrefl 1)
   ·exact{a,b,e.trans (List.concat_eq_append ..)}
  exact aZ (dJ (ae (IL (ag rfl) `o) (ae (dJ rfl `s) rfl)) (Rh rfl)) {hs,_,rfl,.inl ⟨F,r0,J,rfl,rfl⟩,I,kk}
 refine bu (gY (yt (ib rfl) (aP (bN (v:=((r.length:Int)==40)) (jE (ag rfl)) rfl rfl))) (aP (bN (ag rfl) rfl (BX (r:=[]))))) (λE=>?_) λE=>?_
 ·rw[Ra] at E;have ne:r≠[]:=by have:=E.2;simpa using this
  have U:=List.length_pos_iff.mpr ne;have lt:=Nat.mod_lt at_ U;refine a7 (bP (x:=nD (at_ % r.length)) (jh (x:=(at_:Int)) (y:=(r.length:Int)) (ag rfl) (jE (ag rfl)) `a)) ?_
  generalize at_ % r.length=v at lt ⊢;refine aZ (dJ (ae (iv (ag rfl) (da (ae (iv (lK (j:=v) (ag rfl) (ag rfl) `o) (nA (j:=v+1) (ag rfl) (jH (v:=v) (w:=1) (ag rfl) rfl) `o) `o) dR) (Rh rfl)) `o) (ae (dJ (ae (ag (x:=nD v) rfl) rfl) (Rh rfl)) rfl)) (Rh rfl)) {hs++[r]++[r.take v++r.drop (v+1)],_,?_,.inr (.inl ⟨v,lt,rfl,rfl⟩),I,kk}
  simp[aR,Tg,List.map_drop]
 ·have H:r.length<40:=by
   rcases Nat.lt_or_ge r.length 40 with z|z
   ·exact z
   ·have e:r.length=40:=`a
    have e2:r≠[]:=λy=>by rw[y] at e;simp at e
    rw[e] at E;simp[e2] at E
  refine aZ (dJ (ae (iv (ag rfl) (da (ae (iv (iv (lK (j:=at_) (ag rfl) (ag rfl) `o) (da (ae (ag (x:=nD i) rfl) rfl) (Rh rfl)) `o) (nA (j:=at_) (ag rfl) (ag rfl) `o) `o) dR) (Rh rfl)) `o) (ae (dJ (ae (ag (x:=nD at_) rfl) (ae (ag (x:=nD i) rfl) rfl)) (Rh rfl)) rfl)) (Rh rfl)) {hs++[r]++[r.take at_++[i]++r.drop at_],_,?_,.inr (.inr {at_,i,`a,H,O,rfl,rfl}),I,kk}
  simp[aR,Tg,List.map_drop]
end
def Mf (h:t Z M=.ok true M):kr t a b Z M=a Z M:=by unfold kr;rw[h];rfl
def Mg (h:t Z M=.ok false M):kr t a b Z M=b Z M:=by unfold kr;rw[h];rfl
def lR (ha:Z[j]?.getD none=some (.fn (aM k)))(ob:M[k]?=some (.int 40::es))(hs:s Z M=.ok ds M):gj 40 f c (aa j) s Z M=c f (.fn (aM k)::ds) M:=by
 have u:fy M (aM k)=some 40:=by
  unfold fy aM;rw[if_pos (SI _ _),Sh,ob];rfl
 unfold gj;rw[ag ha];dsimp only;rw[hs];rw[if_pos u]
def xw (j:t Z M=.ok false M):aK (aF t A az) rest Z M=rest Z M:=by unfold aK aF;rw[j];rfl
def uQ:y9 (#v[jt a] Z M)=a Z M:=by unfold aK jt;cases a Z M<;>rfl
def AI (j:t Z M=.ok true M):y9 (aK (aF t #v[jt a] az) rest Z M)=a Z M:=by unfold aK aF;rw[j];unfold jt;cases e:a Z M<;>simp only[Res.bind_ok,if_true,e]<;>rfl
def vM (h:ax 63 a=true):bw .eq (.tup [a]) (.tup []) M=some false:=iK (by show([a].all (ax 63))=true;rw[RY,h];rfl) rfl rfl
def nU {P:Nat->Option Df}{ds:List D}(hq:HasC0 P)(n:Nat)(j:ds.all (ax 63)=true)(hl:ds.length<=2)(ob:M[k]?=some (.int 40::es)):ah P (n+1) 139 [.fn (aM k),.tup ds] M=ah P n (135-ds.length) (.fn (aM k)::ds) M:=by
 show(match P 139 with|none=>Res.bad|some d=>fW (ah P n) d [.fn (aM k),.tup ds] M)=_
 rw[hq.do_];show y9 (kz (ah P n) [some (.fn (aM k)),some (.tup ds)] M)=_;unfold kz
 match ds,j,hl with
 |[],_,_=>rw[xw (aP (bN (eT rfl) rfl rfl)),uQ,Mf (aP (bN (ag rfl) (dJ rfl (Rh rfl)) (iK rfl rfl rfl))),lR rfl ob dR];rfl
 |[a],j,_=>rw[xw (aP (bN (eT rfl) rfl rfl)),uQ,Mg (aP (bN (ag rfl) (dJ rfl (Rh rfl)) (vM (Rq.mp j a (.head _))))),lR rfl ob (ae (bO (ag rfl) rfl rfl) dR)];rfl
 |[a,b],_,_=>rw[AI (aP (bN (eT rfl) rfl rfl)),lR rfl ob (ae (bO (ag rfl) rfl rfl) (ae (bO (ag rfl) rfl rfl) dR))];rfl
noncomputable def ph (a b c:Int):D:=.lst [.int a,.int b,.int c]
def Lj:List D:=[ph 0 1 2,ph 0 2 1,ph 1 0 2,ph 1 2 0,ph 2 0 1,ph 2 1 0]
def Aq (hq:HasE0 P)(n:Nat):ah P (n+1) 141 [] M=.ok (.lst Lj) M:=by
 refine ai (aq hq.orders rfl ?_);show af (jj (ah P n) [] M) _;have j:∀{u:Env}{a b c:Int},aG false #[gC (.int a),gC (.int b),gC (.int c)] u M=.ok (ph a b c) M:=λ{u a b c}=>da (ae rfl (ae rfl (ae rfl dR))) `s
 exact aZ (da (ae j (ae j (ae j (ae j (ae j (ae j dR)))))) `s) ⟨rfl,rfl⟩
def uC (h:fS P)(n:Nat)(hm:bg m)(hr:∀i∈r,i<m.deeds.length):ah P (n+3) 40 [.tup ((ends m r).map aS),.tup ((ends m r).map aS)] M=.ok (.bl true) M:=by
 have bl:=vY hm;have p2:=hm.p2;refine si h (n+2) (av (by simp[LD.ends];omega)) λd hd=>?_
 obtain⟨s,hs,rfl⟩:=RI.mp hd;obtain⟨b,hb,rfl⟩:=RI.mp hs;have:=rM hm hr (rR b hb);exact oh h n (by rw[this.1];omega)
section
variable{P:Nat->Option Df}(h:HasM P)(ho:HasO P)(ha:kK P)(hq:HasC0 P){M:Mem}{k e:Nat}{m:a9}{r:List Nat}{hs:List (List Nat)}
include h ho ha hq
theorem Ar (n:Nat)(hm:bg m)(hr:aY m r)(hh:∀x∈hs,aY m x)(hz:hs.length<=1000)(c:wd m hs r later told)(s:aW M k e m r hs) :
 ∃hs' r',later=hs'++[r']/\aY m r'/\(∀x∈hs',aY m x)/\hs'.length<=hs.length+1/\af (ah P (n+16) 139 [.fn (aM k),told] M) λd M'=>d=hJ (cH m r r')/\aW M' k e m r' hs'/\ef [k,e] M M':=by
 have all:∀x∈hs++[r],aY m x:=λx B=>(RK.mp B).elim (hh x) λz=>by rw[RA.mp z];exact hr
 rcases c with⟨y,r0,rfl,rfl,rfl⟩|⟨a,j,rfl,rfl⟩|⟨a,i,j,u,E,rfl,rfl⟩
 ·have v:=hh r0 `s
  refine{y,r0,rfl,v,λx B=>hh x (Sx _ B),by simp;omega,?_}
  rw[nU hq (n+15) rfl (Tc _) s.ob];exact CM h ho ha (n+1) hm hr v s
 ·refine{hs++[r],_,rfl,hr.del,all,`s,?_}
  rw[nU hq (n+15) rfl (Rh rfl) s.ob];exact Hk h ho ha n hm hr j hz s
 ·refine{hs++[r],_,rfl,hr.ins u E,all,`s,?_}
  rw[nU hq (n+15) rfl (Rj _) s.ob];exact Hj h ho ha n hm hr j u E hz s
end
def aC.of (h:aC M p B)(e:∀j,j<=p->M'[j]?=M[j]?):aC M' p B:=by
 obtain⟨c,u,a,s,e1,e2,hc,q⟩:=h.ex;exact{c,u,a,s,(e p (Rj _)).trans e1,(e c (Nat.le_of_lt hc)).trans e2,hc,q}
def xO (h:af (a Z M) kd)(hk:∀x M',kd x M'->∃ρ1,b9 t x Z=some ρ1/\af (rest ρ1 M') kf):af (aK (aA t a) rest Z M) kf:=by
 obtain⟨x,M',e,q⟩:=eE.mp h;obtain⟨ρ1,e1,j⟩:=hk x M' q;simp only[aw];unfold aA;rw[e];show af ((b7 M' (b9 t x Z)).bind _) _;rw[e1];exact j
def pB (e:Z[j]?.getD none=some (.lst ((l++[x]).map aR))):aD (aa j) (dg (gI 1)) Z M=.ok (aR x) M:=by
 rw[SF] at e;exact xt (ag e)
section
variable{P:Nat->Option Df}(h:fS P){M:Mem}
include h
theorem yc (n:Nat){p q:Nat}{ps:List (D×D)}(u:M[p]?=some (ps.map (·.1)))(hq:M[q]?=some (ps.map (·.2)))(hz:ps.length<=1000)(hs:∀p∈ps,ah P n 40 [p.1,p.2] M=.ok (.bl true) M):ah P (n+1) 40 [.cell p,.cell q] M=.ok (.bl true) M:=by
 refine ai (aq h.same rfl ?_);show af (bV (ah P n) [some (.cell p),some (.cell q)] M) _;have l:∀{j}{f:D×D->D},M[j]?=some (ps.map f)->du .len [.cell j] M=.ok (.int ps.length) M:=λe=>ai (pA.mpr {_,e,by rw[Rn],rfl})
 exact ao rfl (ao rfl (ao rfl (ao rfl (ao rfl (sq h n u hq (l u) (l hq) rfl rfl (av `a) hs)))))
end
def Ds:∀t:Nat,t<6->∃xs:List Nat,Lj[t]?=some (.lst (xs.map nD))/\xs.length=3/\(∀x∈xs,x<3)/\0∈xs/\1∈xs/\2∈xs
 |0,_=>{[0,1,2],rfl,rfl,`d}
 |1,_=>{[0,2,1],rfl,rfl,`d}
 |2,_=>{[1,0,2],rfl,rfl,`d}
 |3,_=>{[1,2,0],rfl,rfl,`d}
 |4,_=>{[2,0,1],rfl,rfl,`d}
 |5,_=>{[2,1,0],rfl,rfl,`d}
 |n+6,h=>`a
def aW.sub (s:aW M k e m r hs)(S:Sub M M'):aW M' k e m r hs:={S.get s.ob,S.get s.er}
structure jd (M:Mem) (f:Nat) (m:a9) (r:List Nat) (p:Nat->Prop):Prop where
 ex:∃x0 x1 x2,M[f]?=some [x0,x1,x2]/\(p 0->∃q,x0=.cell q/\f<q/\M[q]?=some (r.map nD))/\(p 1->x1=nD (ku m r))/\(p 2->x2=eY m r)
structure Nm (P:Nat->Option Df):Prop where
 look:P 144=some {2,4,fQ}
 same:P 40=some {2,2,bV}
section
variable{P:Nat->Option Df}(h:HasM P)(ho:HasO P)(ha:kK P)(hq:HasE0 P)(hl:Nm P){M:Mem}{k e:Nat}{m:a9}{r:List Nat}{hs:List (List Nat)}
include h ho ha hq hl
theorem ny (n:Nat)(hm:bg m)(hr:aY m r)(s:aW M k e m r hs):af (ah P (n+13) 144 [.fn (aM k),nD t] M) λd M'=>d=.cell M.length/\jd M' M.length m r (λ_=>True)/\Sub M M':=by
 have t6:t % 6<6:=Nat.mod_lt _ `d
 obtain⟨xs,ex,lx,x3,m0,m1,m2⟩:=Ds (t % 6) t6;refine aq hl.look rfl ?_;show af (fQ (ah P (n+12)) [some (.fn (aM k)),some (nD t),none,none] M) _;unfold fQ;refine cv (k:=λd M'=>d=.cell M.length/\M'=M++[[.non,.non,.non]]) ?_ ?_
 ·rw[iV,bc,cX,bc,cX,bc,cX,bF];exact nI.mpr {av `d,rfl,rfl}
 rintro _ _ ⟨rfl,rfl⟩;have Y:aD (aj 141 (ah P (n+12)) bE) (ak false .mod (aa 1) (gI 6)) [some (.fn (aM k)),some (nD t),some (.cell M.length),none] (M++[[.non,.non,.non]])=.ok (.lst (xs.map nD)) (M++[[.non,.non,.non]]):=by
  obtain⟨R,X⟩:=Rb.mp ex;exact bO ((aU dR).trans (Aq hq (n+11))) (jh (x:=(t:Int)) (y:=6) (ag rfl) rfl `d) ((qB (v:=t % 6) R).trans (congrArg some X))
 rw[aw,dP,jr];show af (aD (aj 141 (ah P (n+12)) bE) (ak false .mod (aa 1) (gI 6)) [some (.fn (aM k)),some (nD t),some (.cell M.length),none] (M++[[.non,.non,.non]])) _;rw[Y];refine{rfl,cP (ds:=xs.map nD) (λi U M'=>Sub M M'/\(∃b,U=[some (.fn (aM k)),some (nD t),some (.cell M.length),b])/\jd M' M.length m r (λj=>j∈xs.take i)) (λ_ _ _ _=>rfl) {.app,⟨none,rfl⟩,{.non,.non,.non,`s,λz=>by simp at z,λz=>by simp at z,λz=>by simp at z}} ?_ ?_}
 ·rintro i d U M' hd ⟨S,⟨b,rfl⟩,⟨u,B,F,H,J,f1,L⟩⟩;rw[R5] at hd;obtain⟨v,W,rfl⟩:=Ry.mp hd;have v3:=x3 v (RH W);have tk:∀{j},j∈xs.take (i+1)->j=v\/j∈xs.take i:=λ{j} z=>by
   rw[SV,W] at z;rcases RK.mp z with z|z
   ·exact .inr z
   ·exact .inl (by simpa using z)
  have I:aW M' k e m r hs:=s.sub S;have lf:=qr H;refine{_,rfl,?_};rw[aw,f7]
  match v,v3 with
  | 0,_=>
    have E:((M'++[r.map nD]).set M.length ([u,B,F].set 0 (.cell M'.length)))[M.length]?=some [.cell M'.length,B,F]:=by rw[RF `o];rfl
    refine kQ (M':=M'++[r.map nD]) (z:=.cell M'.length) (p:=M.length) (i:=0) (n:=0) (ds:=[u,B,F]) ((nN (ag rfl) I.ob dR).trans (Hi h ho (n+11) hr.1 I)) (ag rfl) rfl (Sub.app.get H) rfl ?_;refine{_,rfl,(S.trans .app).setq (Rj _),{_,rfl},{_,_,_,E,λ_=>{M'.length,rfl,lf,?_},λz=>f1 ((tk z).resolve_left `d),λz=>L ((tk z).resolve_left `d)}}
    rw[Rx (RX lf)];simp
  | 1,_=>
    have E:(M'.set M.length ([u,B,F].set 1 (nD (ku m r))))[M.length]?=some [u,nD (ku m r),F]:=by rw[RF lf];rfl
    show af (#v[aF _ _ _] _ _) _;rw[aw,f7];refine kQ (M':=M') (z:=nD (ku m r)) (p:=M.length) (i:=1) (n:=1) (ds:=[u,B,F]) ((nN (ag rfl) I.ob dR).trans (CK h ho (n+10) hr I)) (ag rfl) rfl H rfl ?_;refine{_,rfl,S.setq (Rj _),{_,rfl},{_,_,_,E,λz=>?_,λ_=>rfl,λz=>L ((tk z).resolve_left `d)}}
    obtain⟨q,e1,e2,Q⟩:=J ((tk z).resolve_left `d)
    exact{q,e1,e2,by rw[Rx (RX e2)];exact Q}
  | 2,_=>
    have O:Sub M' (M'++(cw m).map λs=>(dt m r s).map aS):=.app;have E:((M'++(cw m).map λs=>(dt m r s).map aS).set M.length ([u,B,F].set 2 (eY m r)))[M.length]?=some [u,B,eY m r]:=by rw[RF `o];rfl
    show af (#v[aF _ _ _] _ _) _;rw[aw,f7];refine kQ (M':=M'++(cw m).map λs=>(dt m r s).map aS) (z:=eY m r) (p:=M.length) (i:=2) (n:=2) (ds:=[u,B,F]) ((nN (ag rfl) I.ob dR).trans (Hl h ho ha (n+1) hm hr I)) (ag rfl) rfl (O.get H) rfl ?_;refine{_,rfl,(S.trans O).setq (Rj _),{_,rfl},{_,_,_,E,λz=>?_,λz=>f1 ((tk z).resolve_left `d),λ_=>rfl}}
    obtain⟨q,e1,e2,Q⟩:=J ((tk z).resolve_left `d)
    exact{q,e1,e2,by rw[Rx (RX e2)];exact O.get Q}
 ·rintro U M' ⟨S,⟨b,rfl⟩,⟨u,B,F,H,J,f1,L⟩⟩;rw[Rn,<- lx,List.take_length] at *;rw[bJ];exact aZ (ag rfl) {rfl,{u,B,F,H,λ_=>J m0,λ_=>f1 m1,λ_=>L m2},S}
omit h ho ha hq in
theorem mx (n:Nat)(hm:bg m)(hr:aY m r)(a:jd M f m r (λ_=>True))(b:jd M g m r (λ_=>True)):ah P (n+4) 40 [.cell f,.cell g] M=.ok (.bl true) M:=by
 obtain⟨x0,x1,x2,e1,a0,a1,a2⟩:=a.ex;obtain⟨y0,y1,y2,e2,b0,b1,b2⟩:=b.ex;obtain⟨q,rfl,_,eq⟩:=a0 trivial;obtain⟨u,rfl,_,eu⟩:=b0 trivial;obtain rfl:=a1 trivial;obtain rfl:=a2 trivial;obtain rfl:=b1 trivial;obtain rfl:=b2 trivial;have l40:=hr.1;refine yc ⟨hl.same⟩ (n+3) (ps:=[(.cell q,.cell u),(nD (ku m r),nD (ku m r)),(eY m r,eY m r)]) e1 e2 `s λp hp=>?_
 simp only[Rv,RT,or_false] at hp;rcases hp with rfl|rfl|rfl
 ·exact An ⟨hl.same⟩ (n+1) (.c eq) (.c eu) `a
 ·exact mw ⟨hl.same⟩ (n+2) _
 ·show ah P (n+3) 40 [eY m r,eY m r] M=_;rw[B0];exact uC ⟨hl.same⟩ n hm hr.2
end
def wL:af (ez false (.lst xs) .non (nD a) M) k↔(xs.take a).length<=sz/\k (.lst (xs.take a)) M:=pY
abbrev EN:=List Nat×List Nat
structure Pt where
 place:Nat
 num:Nat
 back:Bool
def Pt.d (s:Pt):D:=.tup [nD s.place,nD s.num,.bl s.back]
def EN.way (r:EN)(b:Bool):EN:=if b then(r.2,r.1) else r
def sT (f:D->Bool)(g:D->D)(hz:ds.length<=sz)(y:w M=some ds)
 (hs:∀d∈ds,∃ρ1,b9 tg d ρ0=some ρ1/\gc ρ1 M=.ok (f d) M/\(f d=true->ge ρ1 M=.ok (g d) M)) (hk:kl ((ds.filter f).map g) M):af (dC (dD tg (qD gc (b8 ge)) ρ0) w [] M) kl:=by
 refine gG (λi j u=>u=M/\j=((ds.take i).filter f).map g) (λi j u h=>by rw[h.1];exact y) ⟨rfl,rfl⟩ ?_ ?_
 ·rintro i d j u hd ⟨rfl,rfl⟩;obtain⟨ρ1,e1,e2,v⟩:=hs d (RH hd);have z:i<ds.length:=(Rb.mp hd).1;simp only[dD,e1,Dw,Res.bind_ok,qD,e2];rw[SV,hd];cases q:f d with
  | false=>
    simp[q]
  | true=>
    rw[if_pos rfl];have len:(((ds.take i).filter f).map g).length<=i:=by
     rw[Rn];exact Rp (List.length_filter_le _ _) `o
    simp only[b8,v q,Res.bind_ok];rw[if_pos `a]
    simp[q]
 ·rintro j u ⟨rfl,rfl⟩;simpa using hk
structure l9 (P:Nat->Option Df):Prop where
 whole:P 67=some {1,1,ky}
 is_in:P 68=some {3,3,nj}
 numbers:P 69=some {4,4,iN}
 is_deed:P 70=some {3,3,dN}
 is_machine:P 71=some {1,1,fZ}
noncomputable def pR:D->Bool
 |.int _=>true
 |_=>false
def eq_empty (j:l.all (ax 63)=true):bw .eq (.lst l) (.lst []) M=some l.isEmpty:=by
 refine iK j rfl ?_;cases l<;>rfl
noncomputable def qE (f:D->Bool):∀ds:List D,((ds.filter λd=>!f d).map λ_=>D.int 1).isEmpty=ds.all f
 |[]=>rfl
 | d::r=>by
   have j:=qE f r;cases q:f d with
   |true=>simpa[q] using j
   |false=>simp[q]
def rj (f:D->Bool)(j:af (w Z M) λwk M'=>M'=M/\wk M=some ds)(hz:ds.length<=sz)(he:∀d∈ds,gc (some d::Z) M=.ok (!f d) M)(hk:k (.bl (ds.all f)) M) :
 af (aE .eq (cf false 1 (.one 0) w (qD gc (b8 (gI 1)))) (aG false bE) Z M) k:=by
 simp only[fi,gn,iV,bF,bx];refine aN j ?_;rintro wk M' ⟨e1,e2⟩;subst e1;refine sT (λd=>!f d) (λ_=>.int 1) hz e2 (λd hd=>{some d::Z,rfl,he d hd,λ_=>rfl}) ?_;refine{Rp (by rw[Rn];exact List.length_filter_le _ _) hz,av `d,_,eq_empty ?_,?_}
 ·rw[Rq];intro x u;obtain⟨_,_,rfl⟩:=RI.mp u;rfl
 ·rw[qE];exact hk
section
variable{P:Nat->Option Df}(h:l9 P){M:Mem}{k L:Nat}{d:D}
include h
theorem mr (n:Nat)(hd:Th k L d):ah P (n+1) 67 [d] M=.ok (.bl (pR d)) M:=by
 refine ai (aq h.whole rfl ?_);cases d with
 |fn j=>cases k<;>exact hd.elim
 |exc y p=>cases k<;>exact hd.elim
 |_=>exact cx rfl
theorem fw (n:Nat)(hd:Th k L d)(lo hi:Int):ah P (n+2) 68 [d,.int lo,.int hi] M=.ok (.bl (aQ lo hi d)) M:=by
 refine ai (aq h.is_in rfl ?_);have e:aj 67 (ah P (n+1)) #[aa 0] [some d,some (.int lo),some (.int hi)] M=.ok (.bl (pR d)) M:=ij rfl (mr h n hd);cases d with
 |fn j=>cases k<;>exact hd.elim
 |exc y p=>cases k<;>exact hd.elim
 |int i=>exact aZ (iu e λ_=>vN rfl rfl rfl) ⟨rfl,rfl⟩
 |_=>exact aZ (iu (y:=false) e λz=>by cases z) ⟨rfl,rfl⟩
noncomputable def ri (many:Nat)(lo hi:Int):D->Bool
 |.tup j=>j.length==many&&j.all (aQ lo hi)
 |_=>false
theorem q9 (n:Nat)(hd:Th k L d)(E:L<=100)(lo hi:Int):ah P (n+3) 69 [d,nD many,.int lo,.int hi] M=.ok (.bl (ri many lo hi d)) M:=by
 refine ai (aq h.numbers rfl ?_);cases d with
 |fn j=>cases k<;>exact hd.elim
 |exc y p=>cases k<;>exact hd.elim
 | tup u=>
   have B:=hd.tup;simp only[iN,aw,kM,cn,bJ,CB,f7,xZ,iP,PD,cX,a8,BC,Sk,List.map_nil,List.cons_append,Td,R6,R7,Sg,Sn,exists_eq_left'];refine{true,rfl,true,rfl,?_};rw[if_neg `d]
   refine fi.mpr (d5.mpr (bc.mpr (a8.mpr {_,rfl,bF.mpr (xp.mpr (a8.mpr {_,rfl,_,OP,_,rfl,?_}))})));by_cases z:u.length=many
   ·have v:(!((u.length:Int)==(many:Int)))=false:=by simp[z]
    rw[v,if_neg `d]
    refine rj (aQ lo hi) (by simp;exact⟨rfl,rfl⟩) (av `a) (λd hd=>aT (by simp[fw h n (B.2 d hd)])) ?_
    exact{by simp[ri,z],rfl}
   ·have v:(!((u.length:Int)==(many:Int)))=true:=by simp;omega
    rw[v,if_pos `d]
    exact{by simp[ri,z],rfl}
 |_=>exact cx rfl
end
noncomputable abbrev cU:List D:=[.str "turn",.str "join",.str "move",.str "put"]
def A6 (j:Th k L x)(hk:k<=60):bw .notin x (.tup cU) M=some (!(cU.any λy=>cS y x)):=by
 have u:ax 64 x=true:=(j.mono `a (Rj L)).pure
 have e:bw .notin x (.tup cU) M=((bW M (.tup cU)).bind (jq (view M x))).map (!·):=by cases x<;>rfl
 rw[e,j.view];show Option.map _ (jq x cU)=_;unfold jq;rw[u,show cU.all (ax 63)=true by decide +kernel]
 rfl
section
variable{P:Nat->Option Df}(h:l9 P){M:Mem}{k L:Nat}{d:D}
include h
theorem Bf (n:Nat)(hl:xs.length≠4/\xs.length≠5):ah P (n+4) 70 [.tup xs,nD w,nD p] M=.ok (.bl false) M:=by
 refine ai (aq h.is_deed rfl ?_);refine bh (aT ?_) rfl ⟨rfl,rfl⟩;have e:bw .notin (.int xs.length) (.tup [.int 4,.int 5]) M=some true:=by
  have e1:cS (.int 4) (.int xs.length)=false:=by simp[zj];omega
  have e2:cS (.int 5) (.int xs.length)=false:=by simp[zj];omega
  show(some ([D.int 4,D.int 5].any λy=>cS y (.int xs.length))).map (!·)=_;simp[e1,e2]
 simp[b4,e];exact av `d
theorem yM (n:Nat)(j:Th k L x)(hk:k<=60)(hl:xs.length=3\/xs.length=4)(hn:(cU.any λy=>cS y x)=false):ah P (n+4) 70 [.tup (x::xs),nD w,nD p] M=.ok (.bl false) M:=by
 refine ai (aq h.is_deed rfl ?_);have e:bw .notin (.int (x::xs).length) (.tup [.int 4,.int 5]) M=some false:=by
  show(some ([D.int 4,D.int 5].any λy=>cS y (.int (x::xs).length))).map (!·)=_;rcases hl with e|e<;>simp[zj,e]
 have e2:=A6 (M:=M) j hk;rw[hn] at e2;refine ao (aT ?_) (bh (aT ?_) rfl ⟨rfl,rfl⟩)
 ·simp at e;simp[b4,e];exact av `d
 ·simp[bG,e2];exact av `d
theorem Gh (n:Nat)(j:L+1<=100)(y:c4 (.tup xs) (.int 1) M=some a)(il:c4 (.tup xs) (.int (-1)) M=some c)(u:Th k L a)(v:Th k L c) :
 (cV (bo (au (aj 69 (ah P (n+3)) #[bt #[aD (aa 0) (gI 1)],gI 1,gI 0,ak false .sub (aa 2) (gI 1)]))) (bo (au (aj 68 (ah P (n+3)) #[aD (aa 0) (dg (gI 1)),gI 1,gI 3]))):GT) [some (.tup xs),some (nD w),some (nD p)] M=.ok (!(aQ 0 ((p:Int)-1) a&&aQ 1 3 c)) M:=by
 have z:ah P (n+3) 69 [.tup [a],.int 1,.int 0,.int ((p:Int)-1)] M=.ok (.bl (ri 1 0 ((p:Int)-1) (.tup [a]))) M:=q9 h n (d:=.tup [a]) (k:=k+1) ({`s,λd hd=>by rw[RA.mp hd];exact u.mono (Rj k) (SR L)}) j 0 _
 have B:=fw h (n+1) (M:=M) v 1 3;have E:1<=sz:=av `d
 refine aT ?_;simp[-iI,y,il,z,B,E,ri];cases aQ 0 ((p:Int)-1) a<;>cases aQ 1 3 c<;>simp
end
def Iu:bw .notin (.str "turn") (.tup cU) M=some false:=by
 show(jq (.str "turn") cU).map (!·)=_;decide +kernel
def Iw:bw .notin (.str "join") (.tup cU) M=some false:=by
 show(jq (.str "join") cU).map (!·)=_;decide +kernel
def Iv:bw .notin (.str "move") (.tup cU) M=some false:=by
 show(jq (.str "move") cU).map (!·)=_;decide +kernel
def LB:bw .notin (.str "put") (.tup cU) M=some false:=by
 show(jq (.str "put") cU).map (!·)=_;decide +kernel
def Fy:bw .ne (.bl x) (.bl y) M=some (x != y):=by cases x<;>cases y<;>rfl
def Mj:bw .notin (.int 4) (.tup [.int 4,.int 5]) M=some false/\bw .notin (.int 5) (.tup [.int 4,.int 5]) M=some false:=⟨rfl,rfl⟩
section
variable{P:Nat->Option Df}(h:l9 P){M:Mem}{k L:Nat}{d:D}
include h
theorem yL (n:Nat)(u:L+1<=100)(y:Th k L a)(z:Th k L b)(B:Th k L c):ah P (n+4) 70 [.tup [.str "turn",a,b,c],nD w,nD p] M=.ok (.bl (j8 w p [a,b,c])) M:=by
 refine ai (aq h.is_deed rfl ?_);show af (dN _ [some (.tup [.str "turn",a,b,c]),some (nD w),some (nD p)] M) _;refine ao (by kernel_rfl) (ao (by kernel_rfl) ?_)
 have j:=Gh h n (w:=w) (p:=p) (M:=M) (xs:=[.str "turn",a,b,c]) u rfl rfl y B;cases A:(aQ 0 ((p:Int)-1) a&&aQ 1 3 c) with
 | false=>
   rw[A] at j;refine bh j rfl {?_,rfl};simp only[j8];rcases Bool.and_eq_false_iff.mp A with q|q<;>simp[q]
 | true=>
   rw[A] at j;simp only[Ra] at A;refine ao j ?_;have q:=q9 h n (M:=M) (many:=w) z `a 0 ((w:Int)-1)
   refine bh (v:=.bl (fV w b)) (by kernel_rfl) (ai (by simp[bG,q];cases b<;>rfl)) {?_,rfl}
   simp[j8,A.1,A.2]
theorem Bd (n:Nat)(u:L+1<=100)(y:Th k L a)(z:Th k L b)(B:Th k L c):ah P (n+4) 70 [.tup [.str "put",a,b,c],nD w,nD p] M=.ok (.bl (mF w p [a,b,c])) M:=by
 refine ai (aq h.is_deed rfl ?_);show af (dN _ [some (.tup [.str "put",a,b,c]),some (nD w),some (nD p)] M) _;refine ao (by kernel_rfl) (ao (by kernel_rfl) ?_)
 have j:=Gh h n (w:=w) (p:=p) (M:=M) (xs:=[.str "put",a,b,c]) u rfl rfl y B;cases A:(aQ 0 ((p:Int)-1) a&&aQ 1 3 c) with
 | false=>
   rw[A] at j;refine bh j rfl {?_,rfl};simp only[mF];rcases Bool.and_eq_false_iff.mp A with q|q<;>simp[q]
 | true=>
   rw[A] at j;simp only[Ra] at A;refine ao j ?_;have q:=fw h (n+1) (M:=M) z 0 ((w:Int)-1);refine ao (by kernel_rfl) (bh (v:=.bl (aQ 0 ((w:Int)-1) b)) (by kernel_rfl) (ai (by simp[bG,q])) {?_,rfl})
   simp[mF,A.1,A.2]
theorem yN (n:Nat)(u:L+1<=100)(v:Th k L a)(y:Th k L b)(z:Th k L c):ah P (n+4) 70 [.tup [.str "move",a,b,c],nD w,nD p] M=.ok (.bl (jv w p [a,b,c])) M:=by
 refine ai (aq h.is_deed rfl ?_);show af (dN _ [some (.tup [.str "move",a,b,c]),some (nD w),some (nD p)] M) _;refine ao (by kernel_rfl) (ao (by kernel_rfl) ?_)
 have j:=Gh h n (w:=w) (p:=p) (M:=M) (xs:=[.str "move",a,b,c]) u rfl rfl v z;cases A:(aQ 0 ((p:Int)-1) a&&aQ 1 3 c) with
 | false=>
   rw[A] at j;refine bh j rfl {?_,rfl};simp only[jv];rcases Bool.and_eq_false_iff.mp A with q|q<;>simp[q]
 | true=>
   rw[A] at j;simp only[Ra] at A;refine ao j ?_;have q:=fw h (n+1) (M:=M) y 0 ((p:Int)-1);refine ao (by kernel_rfl) (ao (by kernel_rfl) ?_)
   cases B:aQ 0 ((p:Int)-1) b with
   | false=>
     rw[B] at q;exact bh (aT (by simp[bG,q])) rfl {by simp[jv,B],rfl}
   | true=>
     rw[B] at q;refine ao (aT (by simp[bG,q])) (bh (by kernel_rfl) rfl {?_,rfl})
     simp[jv,A.1,A.2,B]
theorem yO (n:Nat)(F:L+1<=100)(H:Th k L a)(I:Th k L b)(he:Th k L e)(J:Th k L c):ah P (n+4) 70 [.tup [.str "join",a,b,e,c],nD w,nD p] M=.ok (.bl (iU w p [a,b,e,c])) M:=by
 refine ai (aq h.is_deed rfl ?_);show af (dN _ [some (.tup [.str "join",a,b,e,c]),some (nD w),some (nD p)] M) _;refine ao (by kernel_rfl) (ao (by kernel_rfl) ?_)
 have u:=Gh h n (w:=w) (p:=p) (M:=M) (xs:=[.str "join",a,b,e,c]) F rfl rfl H J;cases A:(aQ 0 ((p:Int)-1) a&&aQ 1 3 c) with
 | false=>
   rw[A] at u;refine bh u rfl {?_,rfl};simp only[iU];rcases Bool.and_eq_false_iff.mp A with q|q<;>simp[q]
 | true=>
   rw[A] at u;simp only[Ra] at A;refine ao u ?_;have q:=fw h (n+1) (M:=M) I 0 ((p:Int)-1);refine ao (by kernel_rfl) (ao (by kernel_rfl) ?_)
   cases B:aQ 0 ((p:Int)-1) b with
   | false=>
     rw[B] at q;exact bh (aT (by simp[bG,q])) rfl {by simp[iU,B],rfl}
   | true=>
     rw[B] at q;refine ao (aT (by simp[bG,q])) (ao (by kernel_rfl) ?_)
     have E:iU w p [a,b,e,c]=iW w e:=by simp[iU,A.1,A.2,B]
     rw[E];cases e with
     |fn j=>exact absurd he (by cases k<;>exact id)
     |exc y p=>exact absurd he (by cases k<;>exact id)
     | tup z=>
       have O:=he.tup;by_cases v:z.length=w
       ·refine ao (aT (by simp[bG,b4,v])) ?_
        simp only[aw,cn];refine rj (fV w) (by simp[bG];exact⟨rfl,rfl⟩) (av `a) (λd hd=>aT (by
         have q:=q9 h n (M:=M) (many:=w) (O.2 d hd) `a 0 ((w:Int)-1)
         have:ri w 0 ((w:Int)-1) d=fV w d:=by cases d<;>rfl
         rw[this] at q;simp[q])) ?_
        exact{by simp[iW,v],rfl}
       ·have:¬ ((z.length:Int)=(w:Int)):=`a
        exact bh (aT (by simp[bG,b4,this])) rfl {by simp[iW,v],rfl}
     |_=>exact bh rfl rfl ⟨rfl,rfl⟩
omit h in
theorem AS (hl:ds.length≠3/\ds.length≠4):cp w p s ds=false:=by
 have t:j8 w p ds=false:=by
  match ds,hl with
  |[],_=>rfl
  |[_],_=>rfl
  |[_,_],_=>rfl
  |[_,_,_],hl=>simp at hl
  |_::_::_::_::_,_=>rfl
 have j:iU w p ds=false:=by
  match ds,hl with
  |[],_=>rfl
  |[_],_=>rfl
  |[_,_],_=>rfl
  |[_,_,_],_=>rfl
  |[_,_,_,_],hl=>simp at hl
  |_::_::_::_::_::_,_=>rfl
 have m:jv w p ds=false:=by
  match ds,hl with
  |[],_=>rfl
  |[_],_=>rfl
  |[_,_],_=>rfl
  |[_,_,_],hl=>simp at hl
  |_::_::_::_::_,_=>rfl
 have u:mF w p ds=false:=by
  match ds,hl with
  |[],_=>rfl
  |[_],_=>rfl
  |[_,_],_=>rfl
  |[_,_,_],hl=>simp at hl
  |_::_::_::_::_,_=>rfl
 unfold cp;rw[t,j,m,u];split<;>first|rfl|(split<;>first|rfl|(split<;>first|rfl|(split<;>rfl)))
theorem km (n:Nat)(hs:bw .notin (.str s) (.tup cU) M=some false)(j:bw .eq (.str s) (.str "join") M=some bj)(hl:xs.length=3/\bj=true\/xs.length=4/\bj=false):ah P (n+4) 70 [.tup (.str s::xs),nD w,nD p] M=.ok (.bl false) M:=by
 refine ai (aq h.is_deed rfl ?_);have u:2<=sz:=av `d
 have v:4<=sz:=av `d
 rcases hl with⟨e,rfl⟩|⟨e,rfl⟩
 ·refine ao (aT (by simp[b4,e,Mj.1,u])) (bh (aT ?_) rfl ⟨rfl,rfl⟩)
  simp[bG,hs,v,j,Fy,e]
 ·refine ao (aT (by simp[b4,e,Mj.2,u])) (bh (aT ?_) rfl ⟨rfl,rfl⟩)
  simp[bG,hs,v,j,Fy,e]
theorem Be (n:Nat)(hi:b4 .tuple d=some false):ah P (n+4) 70 [d,nD w,nD p] M=.ok (.bl false) M:=by
 refine ai (aq h.is_deed rfl ?_);exact bh (aT (by simp[hi])) rfl ⟨rfl,rfl⟩
theorem As (n:Nat)(hd:Th k L d)(hk:k<=60)(E:L+1<=100):ah P (n+4) 70 [d,nD w,nD p] M=.ok (.bl (fj w p d)) M:=by
 cases d with
 |fn j=>exact absurd hd (by cases k<;>exact id)
 |exc y p=>exact absurd hd (by cases k<;>exact id)
 | tup xs=>
   have H:=hd.tup;by_cases hl:xs.length≠4/\xs.length≠5
   ·rw[Bf h n hl];cases xs with
    |nil=>rfl
    | cons x v=>
      simp at hl;cases x with
      |str s=>show _=Res.ok (D.bl (cp w p s v)) M;rw[AS {`a,`a}]
      |_=>rfl
   ·have hl:xs.length=4\/xs.length=5:=`a
    cases xs with
    |nil=>simp at hl
    | cons x v=>
      have F:=H.2 x Rw;have u:=λd hd=>H.2 d (Rk _ hd);have hl:v.length=3\/v.length=4:=by simp at hl;omega
      by_cases hn:(cU.any λy=>cS y x)=false
      ·rw[yM h n F hk hl hn];cases x with
       | str s=>
         show _=Res.ok (D.bl (cp w p s v)) M;have q:∀z:Str,D.str z∈cU->¬ s=z:=λz B e=>by
          subst e;rw[List.any_eq_false] at hn;exact hn _ B (by simp[Gr])
         rw[u3 (q _ `s) (q _ `s) (q _ `s) (q _ `s)]
       |_=>rfl
      ·have hn:(cU.any λy=>cS y x)=true:=(Bool.not_eq_false _).mp hn;obtain⟨z,B,e⟩:=List.any_eq_true.mp hn;have F:∃s:Str,x=.str s/\D.str s∈cU:=by
        simp only[cU,Rv,RT,or_false] at B;cases x with
        |str s=>rcases B with rfl|rfl|rfl|rfl<;>(rw[Gr,beq_iff_eq] at e;subst e;exact{_,rfl,`s})
        |_=>rcases B with rfl|rfl|rfl|rfl<;>cases e
       obtain⟨s,rfl,hs⟩:=F;show _=Res.ok (D.bl (cp w p s v)) M;simp only[cU,Rv,RT,or_false,D.str.injEq] at hs
       match v,u,hl with
       | [a,b,c],u,_=>
         simp only[Rv,RT,or_false,forall_eq_or_imp,forall_eq] at u;rcases hs with rfl|rfl|rfl|rfl
         ·rw[mL];exact yL h n E u.1 u.2.1 u.2.2
         ·rw[mK];exact km h n Iw (nY `k M) (.inl ⟨rfl,rfl⟩)
         ·rw[mJ];exact yN h n E u.1 u.2.1 u.2.2
         ·rw[mI];exact Bd h n E u.1 u.2.1 u.2.2
       | [a,b,e,c],u,_=>
         simp only[Rv,RT,or_false,forall_eq_or_imp,forall_eq] at u;rcases hs with rfl|rfl|rfl|rfl
         ·rw[mL];exact km h n Iu (nY `k M) (.inr ⟨rfl,rfl⟩)
         ·rw[mK];exact yO h n E u.1 u.2.1 u.2.2.1 u.2.2.2
         ·rw[mJ];exact km h n Iv (nY `k M) (.inr ⟨rfl,rfl⟩)
         ·rw[mI];exact km h n LB (nY `k M) (.inr ⟨rfl,rfl⟩)
       |[],_,hl=>simp at hl
       |[_],_,hl=>simp at hl
       |[_,_],_,hl=>simp at hl
       |_::_::_::_::_::_,_,hl=>simp at hl
 |_=>exact Be h n rfl
theorem sk (n:Nat)(hd:Th k L d)(hk:k<=60)(Q:L+1<=100):ah P (n+5) 71 [d] M=.ok (.bl (hV d)) M:=by
 refine ai (aq h.is_machine rfl ?_);show af (fZ _ [some d] M) _;by_cases hn:fv 3 d=false
 ·rw[vi hn];cases d with
  |fn j=>exact absurd hd (by cases k<;>exact id)
  |exc y p=>exact absurd hd (by cases k<;>exact id)
  | tup xs=>
    have hn:(xs.length==3)=false:=hn;have I:((xs.length:Int)==3)=false:=RJ.mpr λz=>ne_of_beq_false hn (Int.ofNat.inj z);exact gi (gu (bf (b:=true) rfl) (qk (aP (bN (eT rfl) rfl (show some (!((xs.length:Int)==3))=some true by rw[I];rfl))))) (aZ rfl ⟨rfl,rfl⟩)
  |_=>exact bh rfl rfl ⟨rfl,rfl⟩
 ·match d,hd,hn with
  | .tup [a,b,c],hd,_=>
    have E:=hd.tup.2;have v:=E c (Rk _ (Rk _ Rw));have b1:=fw h (n+2) (M:=M) (E a Rw) 2 4;have b2:=fw h (n+2) (M:=M) (E b (Rk _ Rw)) 1 2;show af _ (fY λx H=>x=.bl (aQ 2 4 a&&(aQ 1 2 b&&(iG c&&(qx c).all (fj (eU a) (eU b)))))/\H=M);refine bu (gu (bf (b:=true) rfl) (gu (aP (b:=false) rfl) (bf (aP ((aU (ae (bO rfl rfl rfl) (ae rfl (ae rfl rfl)))).trans b1))))) (λz=>?_) (λz=>?_)
    ·rw[om z];exact aZ rfl ⟨rfl,rfl⟩
    have F:=oo z;rw[F];have t2:bo (au (aj 68 (ah P (n+4)) #[aD (aa 0) (gI 1),gI 1,gI 2])) [some (.tup [a,b,c])] M=.ok (!aQ 1 2 b) M:=bf (aP ((aU (ae (bO rfl rfl rfl) (ae rfl (ae rfl rfl)))).trans b2));cases B:aQ 1 2 b with
    | false=>
      rw[B] at t2;exact gi (qk t2) (aZ rfl ⟨rfl,rfl⟩)
    | true=>
      rw[B] at t2;obtain⟨ea,_,_⟩:=iL F `d
      obtain⟨J,_,_⟩:=iL B `d
      by_cases u:∃ds,c=.tup ds
      ·obtain⟨ds,rfl⟩:=u;have R:=v.tup;have O:(decide ((1:Int)<=(ds.length:Int))&&decide ((ds.length:Int)<=6))=iG (.tup ds):=by
        show _=(decide (1<=ds.length)&&decide (ds.length<=6));rw[decide_eq_decide.mpr (show(1:Int)<=(ds.length:Int)↔1<=ds.length by omega),decide_eq_decide.mpr (show(ds.length:Int)<=6↔ds.length<=6 by omega)]
       have S:bo (au (jU .le .le (gI 1) (aI .len #[aD (aa 0) (gI 2)]) (gI 6))) [some (.tup [a,b,.tup ds])] M=.ok (!iG (.tup ds)) M:=by
        rw[<- O];exact bf (aP (vN (i:=(ds.length:Int)) rfl rfl rfl))
       refine bu (gu t2 (gu (bf (b:=true) rfl) S)) (λz=>?_) (λz=>?_)
       ·rw[om z];exact aZ rfl ⟨rfl,rfl⟩
       ·rw[oo z,aw,cn];refine rj (fj (eU a) (eU b)) (ds:=ds) ?_ (av `a) (λd hd=>?_) ⟨rfl,rfl⟩
        ·rw[jr,bO (d:=.tup ds) rfl rfl rfl,bY];exact⟨rfl,rfl,rfl⟩
        ·have q:=As h n (w:=eU a) (p:=eU b) (M:=M) (R.2 d hd) hk Q;rw[<- ea,<- J] at q;exact bf (aP ((aU (ae rfl (ae (bO rfl rfl rfl) (ae (bO rfl rfl rfl) rfl)))).trans q))
      ·have e1:iG c=false:=by cases c<;>first|rfl|exact absurd {_,rfl} u
       have e2:=pE v (.inr ⟨u,rfl⟩);rw[e1];exact gi (gu t2 (qk (bf (b:=false) (aP (rH (bO rfl rfl rfl) e2))))) (aZ rfl ⟨rfl,rfl⟩)
  |.tup [],_,hn=>exact absurd rfl hn
  |.tup [_],_,hn=>exact absurd rfl hn
  |.tup [_,_],_,hn=>exact absurd rfl hn
  |.tup (_::_::_::_::r),_,hn=>exact absurd (by simp[fv]) hn
  |.non,_,hn=>exact absurd rfl hn
  |.bl _,_,hn=>exact absurd rfl hn
  |.int _,_,hn=>exact absurd rfl hn
  |.str _,_,hn=>exact absurd rfl hn
  |.lst _,_,hn=>exact absurd rfl hn
  |.frz _,_,hn=>exact absurd rfl hn
  |.cell _,_,hn=>exact absurd rfl hn
  |.fn _,_,hn=>exact absurd rfl hn
  |.exc _ _,_,hn=>exact absurd rfl hn
end
structure HasT0 (P:Nat->Option Df):Prop where
 but:P 64=some {2,4,fo}
 any:P 65=some {1,1,fq}
structure HasT (P:Nat->Option Df):Prop extends HasT0 P where
 signed:P 66=some {2,3,gD}
 bent:P 72=some {3,9,oE}
instance coeHasT {P:Nat->Option Df}:Coe (HasT P) (HasT0 P):=⟨HasT.toHasT0⟩
section
variable{Z:Env}{M:Mem}{a b lo hi:GE}{k:D->Mem->Prop}{kw:Walk->Mem->Prop}
@[simp] theorem JL:af (qC a Z M) kw↔af (a Z M) λx M=>∃z,x=.str z/\kw (λ_=>some (signs z)) M:=by
 simp only[qC,bz];refine iff_of_eq ?_;congr 1;funext x M;cases x<;>simp
set_option tactic.hygienic true in
def Mv {hl hh:Bool}:af (nR hl hh a lo hi Z M) k↔af (a Z M) λx M=>af (lo Z M) λl M=>af (hi Z M) λh M=>cg hl l=true/\cg hh h=true/\∃z i j,x=.str z/\z.cps.size<=sz/\aL z.cps.size 0 l=some i/\aL z.cps.size z.cps.size h=some j/\k (.str (iJ z i j)) M:=by
 simp only[nR,bz];refine iff_of_eq ?_
 congr 1;funext x M;congr 1;funext l M;congr 1;funext h M
 cases cg hl l<;>cases cg hh h<;>simp;cases x<;>simp;rename_i z;by_cases u:z.cps.size<=sz
 ·simp[u];cases aL z.cps.size 0 l<;>cases aL z.cps.size z.cps.size h<;>simp
 ·simp[u]
end
def gE (L:Nat)(z:Str):Prop:=z.cps.size<=L/\z.cps.all (· < 0x110000)=true
def gE.th {n L:Nat}{z:Str}(h:gE L z):Th n L (.str z):=by cases n<;>exact h
def BJ {L:Nat}{z:Str}{i j:Nat}(h:gE L z):gE (j-i) (iJ z i j)/\(iJ z i j).cps.size<=z.cps.size-i:=by
 refine{{?_,?_},?_}
 ·simp[iJ,cut];omega
 ·have h2:=h.2;rw[<- Array.all_toList,Rq] at h2;simp only[iJ];rw[List.all_toArray,Rq];intro x u;exact h2 x (SK (R9 u))
 ·simp[iJ,cut];omega
def add_str {m:Bool}{x y:Str}{M:Mem}{k:D->Mem->Prop}(h:x.cps.size+y.cps.size<=sz):af (gM m .add (.str x) (.str y) M) k↔k (.str {x.cps++y.cps}) M:=by
 show af (if x.cps.size+y.cps.size<=sz then Res.ok (D.str {x.cps++y.cps}) M else .bad) k↔_;rw[if_pos h];exact Sj
noncomputable abbrev O8:Str:=" !\"#$&'()*+,-./0123456789:;<=>?@ABCDEFGHIJKLMNOPQRSTUVWXYZ[\\]^_`"
noncomputable abbrev O7:Str:="abcdefghijklmnopqrstuvwxyz{|}~\t\n"
def allSigns:Str:={O8.cps++O7.cps}
def Jx {M:Mem}{k:D->Mem->Prop}:af (gM false .add (.str O8) (.str O7) M) k↔k (.str allSigns) M:=add_str (Rp `k (av (n:=200) `d))
def i0:(0<(signs allSigns).length/\(signs allSigns).length<=200)/\allSigns.cps.size<=200/\((signs allSigns).all λd=>match d with|.str z=>!mq z ""&&z.cps.size==1&&z.cps.all (· < 0x110000)|_=>false)=true:=`k
def sign_is {d:D}(h:d∈signs allSigns):∃z:Str,d=.str z/\mq z ""=false/\gE 1 z:=by
 have q:=Rq.mp i0.2.2 d h;cases d with
 | str z=>
   simp only[Ra,S5,beq_iff_eq] at q;exact{z,rfl,q.1.1,by rw[q.1.2];exact Rj 1,q.2}
 |_=>cases q
section
variable{P:Nat->Option Df}(hp_:HasP0 P)(ht_:HasT0 P){M:Mem}
include hp_ ht_
theorem J9 (n:Nat){p B:Nat}(F:aC M p B)(H:B<=900000):af (ah P (n+4) 65 [.cell p] M) λd M'=>∃z:Str,d=.str z/\gE 1 z/\aC M' p (B+1)/\br p M M':=by
 refine aq ht_.any rfl ?_;show af (fq _ [some (.cell p)] M) _;simp only[fq,aw,cn,gp,bc,bF,a8,cX,R6,Sg,Sn,exists_eq_left'];refine aq ht_.but rfl ?_;show af (fo _ [some (.cell p),some (.str ""),none,none] M) _;simp only[fo,aw,kM,f9,bJ,cn,cX,c9,a8,R6,R7,Sg,Sn,exists_eq_left',List.set_cons_zero,List.set_cons_succ];refine Jx.mpr ?_;simp only[gn,JL,a8,R6,R7,Sg,Sn,exists_eq_left',D.str.injEq];refine sT (λ_=>true) (λd=>d) (ds:=signs allSigns) (av (by have:=i0.1.2;omega)) rfl (λd hd=>?_) ?_
 ·obtain⟨z,rfl,u,_⟩:=sign_is hd;refine{_,rfl,aT ?_,λ_=>rfl};simp;show some (!mq z "")=_;rw[u];rfl
 have E:(List.filter (λ_=>true) (signs allSigns)).map (λd=>d)=signs allSigns:=`s
 rw[E];refine bx.mpr {av (by have:=i0.1.2;omega),?_}
 simp only[bJ,aw,cn,lY,gp,bc,bF,d5,a8,R6,R7,Sg,Sn,exists_eq_left',List.set_cons_zero,List.set_cons_succ,IG];refine tk hp_ n F `a i0.1.1 (by have:=i0.1.2;omega) λv M' h q kk=>?_
 obtain⟨z,e,_,u⟩:=sign_is (Sl h);refine{.str z,?_,z,rfl,u,q,kk};show(bG (signs allSigns).length (v:Int)).bind (λj=>(signs allSigns)[j]?)=_;rw[fb h];simp[h,e]
end
section
variable{P:Nat->Option Df}(hp_:HasP P)(ht_:HasT P){M:Mem}
include hp_ ht_
omit hp_ ht_ in
theorem BR {A B:Nat}{x y:Str}(h:gE A x)(j:gE B y):gE (x.cps.size+y.cps.size) {x.cps++y.cps}:=by
 refine{`s,?_}
 have h1:=h.2;have h2:=j.2;simp only[Array.all_append,h1,h2,Bool.and_self]
theorem Am (n:Nat){p B L:Nat}{z:Str}(hz:gE L z)(hL:L<=100)(U:aC M p B)(hB:B<=800000):af (ah P (n+5) 66 [.cell p,.str z] M) λd M'=>∃O:Str,d=.str O/\gE (L+1) O/\aC M' p (B+3)/\br p M M':=by
 refine aq ht_.signed rfl ?_;show af (gD _ [some (.cell p),some (.str z),none] M) _;have zl:=hz.1;have h:z.cps.size<=sz:=av `a
 simp only[gD,aw,kM,f9,bJ,cn,gp,bc,bF,cX,c9,a8,d5,Mv,R6,R7,Sg,Sn,exists_eq_left',List.set_cons_zero,List.set_cons_succ];have R:∀{k:D->Mem->Prop},k (.int z.cps.size) M->af (du .len [.str z] M) k:=λhk=>by
  show af (if z.cps.size<=sz then Res.ok (D.int z.cps.size) M else .bad) _;rw[if_pos h];exact hk
 refine R ?_;rw[jb];rw[show((z.cps.size:Int)+1)=((z.cps.size+1:Nat):Int) by omega]
 refine tk hp_ (n+2) U `a `a `a λat_ M1 S X k1=>?_
 refine{rfl,rfl,z,0,at_,rfl,h,rfl,?_,?_}
 ·show some (if (at_:Int)<0 then _ else min (at_:Int).toNat z.cps.size)=_;rw[if_neg `a]
  congr 1
  simp;omega
 refine aN (J9 hp_ ht_ (M:=M1) (B:=B+1) (p:=p) n X `a) ?_;rintro d M2 ⟨y,Q,I,Y,k2⟩
 subst Q;have F:=BJ (i:=0) (j:=at_) hz;have u:=BR F.1 I;have s1:=F.1.1;have s2:=I.1;have w1:(iJ z 0 at_).cps.size+y.cps.size<=sz:=av `a
 refine(add_str w1).mpr ?_;refine tk hp_ (n+2) (many:=2) Y `a `d `d λv M3 hv q3 W=>?_
 rw[jb];rw[show((at_:Int)+(v:Int))=((at_+v:Nat):Int) by omega]
 refine{rfl,rfl,z,min (at_+v) z.cps.size,z.cps.size,rfl,h,?_,rfl,?_}
 ·show some (if ((at_+v:Nat):Int)<0 then _ else min ((at_+v:Nat):Int).toNat z.cps.size)=_;rw[if_neg `a]
  congr 1
 have H:=BJ (i:=min (at_+v) z.cps.size) (j:=z.cps.size) hz;have E:=BR u H.1;have s3:=H.2;have J:=u.1;simp only at J;have w2:((iJ z 0 at_).cps++y.cps).size+(iJ z (min (at_+v) z.cps.size) z.cps.size).cps.size<=sz:=av (by simp only[Array.size_append] at J ⊢;omega)
 refine(add_str w2).mpr ?_;refine{_,rfl,{?_,E.2},q3,(k1.trans k2).trans W};have:=E.1;simp only[Array.size_append] at this ⊢;omega
end
noncomputable def fX:List D:=[.non,.bl true,.bl false,.str "",.str "turn",.str "join",.str "move",.str "put",.str "Turn",.tup [],.lst [],.int (10^20),.int (-1),.int 0,.int 1,.int 4,.tup [.int 0],.lst [.int 0],.str "0",.int 7]
def A1 {x:D}(h:x∈fX):Th 1 4 x:=by
 have st:∀z:Str,(z.cps.size<=4&&z.cps.all (· < 0x110000))=true->Th 1 4 (.str z):=λz j=>by
  simp only[Ra,decide_eq_true_eq] at j;exact j
 simp only[fX,Rv,RT,or_false] at h;rcases h with rfl|rfl|rfl|rfl|rfl|rfl|rfl|rfl|rfl|rfl|rfl|rfl|rfl|rfl|rfl|rfl|rfl|rfl|rfl|rfl
 all_goals first
  |trivial
  |exact st _ `k
  |exact{`d,λd hd=>absurd hd RT}
  |exact{`d,λd hd=>by rw[RA.mp hd];trivial}
def wM {lo hi:D}{hl hh:Bool}{xs:List D}{M:Mem}{k:D->Mem->Prop}(h1:cg hl lo=true)(h2:cg hh hi=true)(hk:∀i j,k (.tup (cut xs i j)) M):af (ez false (.tup xs) lo hi M) k:=by
 have q:∀{n d:Nat}{b:Bool}{x:D},cg b x=true->∃i,aL n d x=some i:=λ{n d b x} h=>by
  cases b<;>cases x<;>first|exact{_,rfl}|cases h
 obtain⟨i,e1⟩:=q (n:=xs.length) (d:=0) h1;obtain⟨j,e2⟩:=q (n:=xs.length) (d:=xs.length) h2;show af (match aL xs.length 0 lo,aL xs.length xs.length hi with|some l,some h=>Res.ok (D.tup (cut xs l h)) M|_,_=>.bad) k
 rw[e1,e2];exact hk i j
def jG {xs:List D}{i j:Nat}:(cut xs i j).length<=xs.length/\(cut xs i j).length<=j/\∀d∈cut xs i j,d∈xs:=by
 refine{?_,?_,λd hd=>SK (R9 hd)}
 ·unfold cut;rw[Se,List.length_drop];omega
 ·unfold cut;rw[Se];omega
def NG {xs:List D}{M:Mem}{k:D->Mem->Prop}(hk:∀ys:List D,ys.length<=1->(∀d∈ys,d∈xs)->k (.tup ys) M):af (ez false (.tup xs) .non (.int 1) M) k:=by
 show af (Res.ok (D.tup (cut xs 0 (min 1 xs.length))) M) k;exact hk _ (Rp jG.2.1 `a) jG.2.2
def Ka {xs:List D}{a:Nat}{M:Mem}{k:D->Mem->Prop}(h:a<xs.length)(hk:k (.tup (xs.take a)) M):af (ez false (.tup xs) .non (nD a) M) k:=by
 show af (Res.ok (D.tup (cut xs 0 (if (a:Int)<0 then _ else min (a:Int).toNat xs.length))) M) k;rw[if_neg `a]
 have:cut xs 0 (min (a:Int).toNat xs.length)=xs.take a:=by
  unfold cut;rw[show min (a:Int).toNat xs.length-0=a by simp;omega,List.drop_zero]
 rw[this];exact hk
def CZ {xs:List D}{a:Nat}{M:Mem}{k:D->Mem->Prop}(h:a<xs.length)(hk:k (.tup (xs.drop (a+1))) M):af (ez false (.tup xs) (.int ((a:Int)+1)) .non M) k:=by
 show af (Res.ok (D.tup (cut xs (if (a:Int)+1<0 then _ else min ((a:Int)+1).toNat xs.length) xs.length)) M) k;rw[if_neg `a]
 have:cut xs (min ((a:Int)+1).toNat xs.length) xs.length=xs.drop (a+1):=by
  unfold cut;rw[show min ((a:Int)+1).toNat xs.length=a+1 by omega,Sz `s]
 rw[this];exact hk
def Th.tup_of {k L:Nat}{xs:List D}(hl:xs.length<=L)(h:∀d∈xs,Th k L d):Th (k+1) L (.tup xs):=⟨hl,h⟩
def Th.lst_of {k L:Nat}{xs:List D}(hl:xs.length<=L)(h:∀d∈xs,Th k L d):Th (k+1) L (.lst xs):=⟨hl,h⟩
def pJ (c:Call):GS:=#v[aF (dX (au (bH .str (aa 1))) (au (aE .lt (aa 3) (gI 3)))) #v[aB (aj 66 c #[aa 0,aa 1])] az,aB (aD (aa 7) (aa 4))]
section
variable{Z:Env}{M M1 M2:Mem}{a b:GE}{s:GA}{xs ys:List D}{x y:D}
def Ey (ea:a Z M=.ok x M1)(es:s Z M1=.ok xs M2):ia a s Z M=.ok (x::xs) M2:=by
 unfold ia;rw[ea];show(s Z M1).bind _=_;rw[es];rfl
def Hc (e:s Z M=.ok xs M1)(hl:xs.length<=100):bt s Z M=.ok (.tup xs) M1:=by
 unfold bt;rw[e];exact if_pos (av `a)
def xP (ea:a Z M=.ok (.tup xs) M1)(h:b Z M1=.ok (.tup ys) M2)(hl:(xs++ys).length<=100):ak false .add a b Z M=.ok (.tup (xs++ys)) M2:=by
 unfold ak;rw[ea];show(b Z M1).bind _=_;rw[h];exact if_pos (av `a)
def Kf {v i j:Nat}(h1:Z[i]?.getD none=some (.tup xs))(h2:Z[j]?.getD none=some (nD v))(h:v<xs.length):bQ false false true (aa i) gN (aa j) Z M=.ok (.tup (xs.take v)) M:=by
 refine aT ?_;rw[fN,ag h1,bY,cX,ag h2,bY];exact{rfl,rfl,Ka h ⟨rfl,rfl⟩}
def C1 {v i j:Nat}(h1:Z[i]?.getD none=some (.tup xs))(h2:Z[j]?.getD none=some (nD v))(h:v<xs.length):bQ false true false (aa i) (ak false .add (aa j) (gI 1)) gN Z M=.ok (.tup (xs.drop (v+1))) M:=by
 refine aT ?_;rw[fN,ag h1,bY,c9,ag h2,bY,cX];exact jb.mpr {rfl,rfl,CZ h ⟨rfl,rfl⟩}
end
section
variable{P:Nat->Option Df}(hp_:HasP P)(ht_:HasT P)(hw_:l9 P){M:Mem}
include hp_ ht_ hw_
theorem BZ (n:Nat){k L p B kind h:Nat}{d:D}{x2 x5 x6 x8:Option D}(hd:Th k L d)(hk:k<=50)(O:6<=L)(Q:L<=50)(H:aC M p B)(I:B<=800000)(F:h<20) :
 af (pJ (ah P (n+5)) [some (.cell p),some d,x2,some (nD kind),some (nD h),x5,x6,some (.lst fX),x8] M) (fY λE M'=>Th (k+1) (L+1) E/\aC M' p (B+3)/\br p M M'):=by
 have u:af (#v[aB (aD (aa 7) (aa 4))] [some (.cell p),some d,x2,some (nD kind),some (nD h),x5,x6,some (.lst fX),x8] M) (fY λE M'=>Th (k+1) (L+1) E/\aC M' p (B+3)/\br p M M'):=by
  have hl:h<fX.length:=F;exact aZ (v:=fX[h]) (ai (by simp[-IM,qB hl])) {(A1 (Sl hl)).mono `a `a,H.mono `a,.refl}
 unfold pJ;cases d with
 |fn j=>exact absurd hd (by cases k<;>exact id)
 |exc y p=>exact absurd hd (by cases k<;>exact id)
 | str z=>
   have J:gE L z:=by cases k<;>exact hd
   by_cases c:(kind:Int)<3
   ·simp only[aw,f7,Nx,iP,BC,a8,fi,cX,R6,R7,Sg,Sn,exists_eq_left',cn,gp,bc,bF];refine{true,rfl,true,rfl,?_};rw[if_pos rfl];refine{_,rfl,_,rfl,?_};rw[decide_eq_true c,if_pos rfl];exact aN (Am hp_ ht_ n J `a H I) (by rintro E M' ⟨R,e,h1,h2,h3⟩;exact{by rw[e];exact h1.th.mono (Rj _) (Rj _),h2,h3})
   ·refine ao (aT ?_) u;simp[b4];omega
 |_=>exact ao rfl u
omit hp_ ht_ hw_ in
theorem A0 {k:Fl->Mem->Prop}{rest:GS}{M:Mem}{x0 x1 x2 x3 x4 x5 x6 x7 x8:Option D}(hk:af (rest [x0,x1,x2,x3,x4,x5,x6,some (.lst fX),x8] M) k) :
 af (aK (aA (.one 7) (aG false #[gN,oy,vA,gS "",gS "turn",gS "join",gS "move",gS "put",gS "Turn",bt bE,aG false bE,ak false .pow (gI 10) (gI 20),dg (gI 1),gI 0])) (aK (aA (.one 7) (ak false .add (aa 7) (aG false #[gI 1,gI 4,bt #[gI 0],aG false #[gI 0],gS "0",gI 7]))) rest) [x0,x1,x2,x3,x4,x5,x6,x7,x8] M) k:=by
 simp only[aw,f9];have e:((aG false #[gN,oy,vA,gS "",gS "turn",gS "join",gS "move",gS "put",gS "Turn",bt bE,aG false bE,ak false .pow (gI 10) (gI 20),dg (gI 1),gI 0]):GE) [x0,x1,x2,x3,x4,x5,x6,x7,x8] M=.ok (.lst (fX.take 14)) M:=`r
 rw[e];show af (aK _ rest [x0,x1,x2,x3,x4,x5,x6,some (.lst (fX.take 14)),x8] M) k;simp only[aw,f9];have e2:((ak false .add (aa 7) (aG false #[gI 1,gI 4,bt #[gI 0],aG false #[gI 0],gS "0",gI 7])):GE) [x0,x1,x2,x3,x4,x5,x6,some (.lst (fX.take 14)),x8] M=.ok (.lst fX) M:=`r
 rw[e2];exact hk
def n6 (c:Call):GS:=aK (aF (au (bH .tuple (aa 1))) #v[aA (.one 8) (aG false #[aI (.list false) #[aa 1],ak false .add (aa 1) (bQ false false true (aa 1) gN (gI 1)),bQ false false true (aa 1) gN (dg (gI 1)),pF false (aa 1),ak false .add (aa 1) (bt #[aa 5]),bQ false true false (aa 1) (gI 1) gN,bt #[aa 1]]),aB (aD (ak false .add (aa 8) (aG false #[aD (aa 7) (aa 4)])) (aa 3))] az) (aK (aF (au (aj 67 c #[aa 1])) #v[aB (aD (aG false #[ak false .add (aa 1) (gI 1),ak false .sub (aa 1) (gI 1),ak false .sub (gI 0) (aa 1),aa 5,aa 5,aE .eq (aa 1) (gI 1),ak false .sub (gI 3) (aa 1),aD (aa 7) (aa 4)]) (aa 3))] az) (pJ c))
theorem EJ (n:Nat){k L p B kind u:Nat}{num:Int}{d:D}{x2 x6 x8:Option D}(hd:Th k L d)(hk:k<=50)(X:6<=L)(hL:L<=50)(S:aC M p B)(Y:B<=800000)(hkd:kind<8)(F:u<20) :
 af (n6 (ah P (n+5)) [some (.cell p),some d,x2,some (nD kind),some (nD u),some (.int num),x6,some (.lst fX),x8] M) (fY λW M'=>Th (k+1) (L+1) W/\aC M' p (B+3)/\br p M M'):=by
 have hl:u<fX.length:=F;have ho:Th (k+1) (L+1) fX[u]:=(A1 (Sl hl)).mono `a `a
 have E:∀{xs:List D},xs.length=8->(∀x∈xs,Th (k+1) (L+1) x)->∃x,c4 (.lst xs) (nD kind) M=some x/\Th (k+1) (L+1) x:=λ{xs} h8 h=>{_,qB `a,h _ (Sl _)}
 unfold n6;have O:=BZ hp_ ht_ hw_ n (x2:=x2) (x5:=some (.int num)) (x6:=x6) (x8:=x8) (kind:=kind) hd hk X hL S Y F;cases d with
 |fn j=>exact absurd hd (by cases k<;>exact id)
 |exc y p=>exact absurd hd (by cases k<;>exact id)
 | tup xs=>
   refine gi (aT (by simp[b4])) ?_
   simp only[aw,f9,cn,iV,bc,bF,a8,d5,c9,fN,jz,Gf,Om,cX,lY,R6,R7,Sg,Sn,exists_eq_left',List.set_cons_zero,List.set_cons_succ];have H:=hd.tup;have hxl:=H.1;have J:∀d∈xs,Th k (L+1) d:=λd hd=>(H.2 d hd).mono (Rj _) `a
   have Q:∀{ys:List D},ys.length<=L+1->(∀d∈ys,d∈xs\/Th k (L+1) d)->Th (k+1) (L+1) (.tup ys):=λ{ys} hl h=>.tup_of hl λd hd=>by
    rcases h d hd with z|z
    ·exact J d z
    ·exact z
   refine DR.mpr (bx.mpr {av `a,rfl,rfl,NG λys y1 y2=>?_})
   refine qS.mpr {av `o,1,rfl,rfl,rfl,wM (hl:=false) (hh:=true) rfl rfl λi2 j2=>HN.mpr {av `s,qS.mpr {av `o,rfl,rfl,wM (hl:=true) (hh:=false) rfl rfl λi3 j3=>{av `s,bx.mpr {av `s,?_}}}}}
   obtain⟨x,e1,e2⟩:=E (xs:=[.lst xs,.tup (xs++ys),.tup (cut xs i2 j2),.tup xs.reverse,.tup (xs++[.int num]),.tup (cut xs i3 j3),.tup [.tup xs]]++[fX[u]]) rfl (λx I=>by
    simp only[List.cons_append,Td,Rv,RT,or_false] at I;rcases I with rfl|rfl|rfl|rfl|rfl|rfl|rfl|rfl
    ·exact .lst_of `a J
    ·exact Q `o λd hd=>(RK.mp hd).elim .inl λz=>.inl (y2 d z)
    ·exact Q (Rp jG.1 `a) λd hd=>.inl (jG.2.2 d hd)
    ·exact Q `o λd hd=>.inl (List.mem_reverse.mp hd)
    ·exact Q `o λd hd=>by
      rcases RK.mp hd with z|z
      ·exact .inl z
      ·rw[RA.mp z];exact .inr (by cases k<;>trivial)
    ·exact Q (Rp jG.1 `a) λd hd=>.inl (jG.2.2 d hd)
    ·exact .tup_of `s λd R=>by rw[RA.mp R];exact hd.mono (Rj _) `a
    ·exact ho)
   refine aZ (v:=x) (ai ?_) {e2,S.mono `a,.refl}
   simp only[lY,c9,a8,iV,bc,bF];exact{_,rfl,_,rfl,_,rfl,_,qB hl,bx.mpr {av `s,lq.mpr (bx.mpr {av `s,_,rfl,x,e1,rfl,rfl})}}
 | int i=>
   have U:=mr hw_ (n+4) (M:=M) hd;refine ao (aT (by simp[b4])) (gi (aT (by simp[U,pR])) ?_)
   simp only[aw,cn,iV,bc,bF,a8,c9,cX,lY,fi,R6,R7,Sg,Sn,exists_eq_left',jb,Ag];refine{_,rfl,_,qB hl,bx.mpr {av `s,?_}}
   obtain⟨x,e1,e2⟩:=E (xs:=[.int (i+1),.int (i-1),.int (0-i),.int num,.int num,.bl (i==1),.int (3-i),fX[u]]) rfl (λx H=>by
    simp only[Rv,RT,or_false] at H;rcases H with rfl|rfl|rfl|rfl|rfl|rfl|rfl|rfl
    all_goals first|exact ho|trivial)
   exact{x,e1,e2,S.mono `a,.refl}
 | _=>
   have U:=mr hw_ (n+4) (M:=M) hd;exact ao (aT (by simp[b4])) (ao (aT (by simp[U,pR])) O)
omit hp_ ht_ hw_ in
theorem DJ {k L:Nat}{xs:List D}(h:Th k L (.tup xs))(hk:k<=60):bw .ne (.tup xs) (.tup []) M=some (!xs.isEmpty):=by
 refine lj (h.mono (n':=64) `a (Rj L)).pure rfl ?_
 cases xs<;>rfl
set_option tactic.hygienic true in
theorem s9 (n h:Nat){k L p B:Nat}{d:D}(hd:Th k L d)(hk:k<=50)(h6:6<=L)(hL:L<=50)(hp:aC M p B)(hB:B<=700000)
 (ih:0<h->∀{k' O:Nat}{F:D}{M':Mem},Th k' L F->k'<=50->aC M' p O->O<=B+4->af (ah P (n+h+5) 72 [.cell p,F,.int ((h:Int)-1)] M') λe H=>Th (k'+1) (L+1) e/\aC H p (O+6*h)/\br p M' H) :
 af (ah P (n+h+6) 72 [.cell p,d,nD h] M) λF M'=>Th (k+1) (L+1) F/\aC M' p (B+6*(h+1))/\br p M M':=by
 refine aq ht_.bent rfl ?_;show af (aK _ (aK _ (aK _ (aK (aF _ _ az) (aK _ (aK _ (n6 (ah P (n+h+5)))))))) [some (.cell p),some d,some (nD h),none,none,none,none,none,none] M) _;refine dw hp_.toHasP0 (n+h+3) (many:=8) rfl rfl hp `a `d `d λkind M1 R q1 k1=>?_
 refine dw hp_.toHasP0 (n+h+3) (many:=20) rfl rfl q1 `a `d `d λJ M2 S q2 k2=>?_
 refine cv (k:=λx M'=>∃v:Nat,x=.int ((v:Int)-2)/\aC M' p (B+1+1+1)/\br p M2 M') ?_ ?_
 ·rw[c9];refine aN (fc hp_.toHasP0 (n+h+3) (many:=9) rfl rfl q2 `a `d `d) ?_
  rintro _ M' ⟨v,rfl,_,q,k⟩;exact⟨v,rfl,q,k⟩
 rintro _ U ⟨num,rfl,W,k3⟩;have Q:=(k1.trans k2).trans k3;have I:af (aK _ (aK _ (n6 (ah P (n+h+5)))) [some (.cell p),some d,some (nD h),some (nD kind),some (nD J),some (.int ((num:Int)-2)),none,none,none] U) (fY λF M'=>Th (k+1) (L+1) F/\aC M' p (B+6*(h+1))/\br p M M'):=
  A0 (aN (EJ hp_ ht_ hw_ (n+h) hd hk h6 hL W `a R S) λfl M' hf=>by
   cases fl with
   |next Z=>exact{hf.1,hf.2.1.mono `a,Q.trans hf.2.2}
   |ret e=>exact{hf.1,hf.2.1.mono `a,Q.trans hf.2.2}
   |exc x Z=>exact hf.elim)
 cases d with
 |fn j=>exact absurd hd (by cases k<;>exact id)
 |exc y p=>exact absurd hd (by cases k<;>exact id)
 | tup xs=>
   have ne:=DJ (M:=U) hd `a
   refine bu (gY (x:=true) (aP rfl) (gY (aP (bN rfl rfl ne)) (gY (F9 (c:=0) rfl) (F9 (c:=4) rfl)))) (λz=>?_) λ_=>I;rw[Bool.true_and,Ra,Ra] at z;have Y:xs≠[]:=by
    rintro rfl;exact nomatch z.1
   have c2:0<h:=Int.ofNat_lt.mp (of_decide_eq_true z.2.1);have lx:0<xs.length:=List.length_pos_iff.mpr Y;have hxl:=hd.tup.1;cases k with
   |zero=>exact hd.elim
   | succ k'=>
     have E:∀d∈xs,Th k' L d:=hd.2;refine dw hp_.toHasP0 (n+h+3) (many:=xs.length) rfl (eT rfl) W `a lx `a λat_ X u q4 k4=>?_
     obtain⟨e,M5,ee,he,q5,k5⟩:=eE.mp (ih c2 (E _ (Sl u)) `a q4 `a)
     refine dO ?_;have l1:(xs.take at_).length+1<=L+1:=by rw[Se];omega
     have l2:(xs.take at_++[e]).length+(xs.drop (at_+1)).length<=L+1:=by rw[RO,Se,List.length_drop,List.length_singleton];omega
     have ei:c4 (.tup xs) (nD at_) X=some xs[at_]:=by
      show(bG xs.length (at_:Int)).bind (λj=>xs[j]?)=_;rw[fb u];exact RE u
     rw[xP (xP (Kf rfl rfl u) (Hc (Ey ((aU (ae rfl (ae (bO rfl rfl ei) (ae rfl rfl)))).trans ee) rfl) (Rh rfl)) (by rw[RO];exact Rp l1 `a)) (C1 (v:=at_) rfl rfl u) (by rw[RO];exact Rp l2 `a),bY]
     show Th _ _ _/\_/\_;refine{.tup_of (by rw[RO];exact l2) λd hd=>?_,q5.mono `a,(Q.trans k4).trans k5}
     rcases RK.mp hd with z|z
     ·rcases RK.mp z with z|z
      ·exact(E d (R9 z)).mono `a `a
      ·rw[RA.mp z];exact he
     ·exact(E d (SK z)).mono `a `a
 |_=>exact ao rfl I
theorem nz:∀(h n:Nat) {k L p B:Nat}{d:D}{M:Mem},h<=9->Th k L d->k<=50->6<=L->L<=50->aC M p B->B+10*h<=700000->
 af (ah P (n+h+6) 72 [.cell p,d,nD h] M) λE M'=>Th (k+1) (L+1) E/\aC M' p (B+6*(h+1))/\br p M M'
 |0,n,k,L,p,B,d,M,F,hd,hk,j,u,v,H=>s9 hp_ ht_ hw_ n 0 hd hk j u v `a (λz=>absurd z `d)
 |h+1,n,k,L,p,B,d,M,F,hd,hk,j,u,v,H=>s9 hp_ ht_ hw_ n (h+1) hd hk j u v `a (λ_ {J I E M'} h1 h2 h3 h4=>by
  rw[show(((h+1:Nat):Int)-1)=(h:Int) by omega]
  exact nz h n `a h1 h2 j u h3 `a)
end
section
variable{P:Nat->Option Df}{M:Mem}{k L:Nat}{d:D}
def vd (h:zv P)(h13:P 13=some {1,1,c7})(n:Nat)(hd:Th k L d)(j:L<=100)(u:hV d=true):ah P (n+8) 13 [d] M=.ok .non M:=by
 refine ai (aq h13 rfl ?_);simp[c7,uG h n hd j,u]
def A5 (h:zv P)(h13:P 13=some {1,1,c7})(n:Nat)(hd:Th k L d)(j:L<=100)(u:hV d=false):ah P (n+8) 13 [d] M=.err (.exc 3 none) M:=by
 refine dG (eA h13 rfl ?_);simp[c7,uG h n hd j,u];decide
end
section
variable{P:Nat->Option Df}(h:fS P){M:Mem}
include h
theorem mv (n:Nat){z:Str}(hz:ax 64 (.str z)=true):ah P (n+1) 40 [.str z,.str z] M=.ok (.bl true) M:=by
 refine ai (aq h.same rfl ?_);have e:bw .eq (.str z) (.str z) M=some true:=iK hz hz (by show(z==z)=true;exact beq_self_eq_true z)
 show af (bV (ah P n) [some (.str z),some (.str z)] M) _;unfold bV;refine ao rfl (ao rfl (ao rfl (bh rfl ?_ ⟨rfl,rfl⟩)));show((b7 M (bw .eq (.str z) (.str z) M)).bind λb M=>Res.ok (D.bl b) M)=_;rw[e];rfl
end
noncomputable def ji (i:Int):List D:=[.exc 0 (some i),.exc 1 (some i),.exc 2 (some i),.exc 3 none,.exc 4 none,.exc 5 none,.exc 6 none,.exc 7 none,.exc 8 none,.exc 9 none,.exc 10 none,.exc 11 none,.exc 12 none,.exc 13 none]
noncomputable def jg:D->D
 |.exc 0 (some i)=>.lst [.str "row",.int i]
 |.exc 1 (some i)=>.lst [.str "rule",.int i]
 |.exc 2 (some i)=>.lst [.str "step",.int i]
 |.exc 3 _=>.lst [.str "machine"]
 |.exc 4 _=>.lst [.str "long"]
 |.exc 5 _=>.lst [.str "word"]
 |.exc 6 _=>.lst [.str "work"]
 |.exc 7 _=>.lst [.str "bound"]
 |.exc 8 _=>.lst [.str "many"]
 |.exc 9 _=>.lst [.str "place"]
 |.exc 10 _=>.lst [.str "deed"]
 |.exc 11 _=>.lst [.str "nothing"]
 |.exc 12 _=>.lst [.str "text"]
 |.exc 13 _=>.lst [.str "line"]
 |_=>.non
def rT {f:Str}{c j:Nat}{i:Int}{Z:Env}{M:Mem}(h:Z[j]?.getD none=some (.exc c (some i)))(e:fu c=f):jV f (aa j) Z M=.ok (.int i) M:=by
 unfold jV aa;rw[h];show(if fu c=f then Res.ok (D.int i) M else .bad)=_;rw[if_pos e]
def yJ {x:D}{a:GE}{Z:Env}{M:Mem}{y:D}(e:a Z M=.ok y M):aG false #[gC x,a] Z M=.ok (.lst [x,y]) M:=by
 exact da (ae rfl (ae e rfl)) (Rh rfl)
section
variable{P:Nat->Option Df}(h75:P 75=some {1,3,cm}){M:Mem}
include h75
theorem lH (n:Nat){i:Int}{d:D}(hd:d∈ji i):ah P (n+1) 75 [d] M=.ok (jg d) M:=by
 refine ai (aq h75 rfl ?_);show af (cm (ah P n) [some d,none,none] M) _;simp only[ji,Rv,RT,or_false] at hd;rcases hd with rfl|rfl|rfl|rfl|rfl|rfl|rfl|rfl|rfl|rfl|rfl|rfl|rfl|rfl
 ·exact a7 rfl (a7 rfl (a7 rfl (a7 rfl (a7 rfl (ao rfl (bh rfl (yJ (rT rfl rfl)) ⟨rfl,rfl⟩))))))
 ·exact a7 rfl (a7 rfl (a7 rfl (a7 rfl (a7 rfl (ao rfl (ao rfl (bh rfl (yJ (rT rfl rfl)) ⟨rfl,rfl⟩)))))))
 ·exact a7 rfl (a7 rfl (a7 rfl (a7 rfl (a7 rfl (ao rfl (ao rfl (ao rfl (bh rfl (yJ (rT rfl rfl)) ⟨rfl,rfl⟩))))))))
 all_goals exact cx `r
end
section
variable{P:Nat->Option Df}(h:fS P){M:Mem}
include h
theorem lG (n:Nat){ds:List D}(hz:ds.length<=sz)(hs:∀d∈ds,ah P n 40 [d,d] M=.ok (.bl true) M):ah P (n+1) 40 [.lst ds,.lst ds] M=.ok (.bl true) M:=by
 refine ai (aq h.same rfl ?_);show af (bV (ah P n) [some (.lst ds),some (.lst ds)] M) _;unfold bV;exact ao rfl (ao rfl (ao rfl (ao rfl (ao rfl (oU h n rfl rfl rfl rfl rfl rfl hz hs)))))
theorem Ao (n:Nat)(i:Int):ah P (n+1) 40 [.int i,.int i] M=.ok (.bl true) M:=by
 refine ai (aq h.same rfl ?_);show af (bV (ah P n) [some (.int i),some (.int i)] M) _;unfold bV;exact ao rfl (ao rfl (bh rfl (v:=.bl (i==i)) rfl {`s,rfl}))
end
@[simp] theorem sr {Z:Env}{M:Mem}{a:GE}{j:Fl->Mem->Prop}{c:Nat}:af (iD c a Z M) j↔af (a Z M) λx M=>∃i,x=.int i/\i.natAbs<2^64/\j (.exc (.exc c (some i)) Z) M:=by
 unfold iD;cases a Z M with
 | ok x u=>
   cases x with
   |int i=>by_cases h:i.natAbs<2^64<;>simp[h]
   |_=>simp
 |err=>exact Sj
 |bad=>exact Sj
abbrev gq (m:a9):D->Bool:=aQ 0 ((m.deeds.length:Int)-1)
section
variable{P:Nat->Option Df}(h:HasM0 P){M:Mem}{k L:Nat}{d:D}
include h
theorem oQ (n:Nat){m:a9}(hd:Th k L d):ah P (n+2) 16 [m.d,d] M=.ok (.bl (gq m d)) M:=by
 refine ai (aq h.is_deed_number rfl ?_);simp[eZ,a9.d,bG,gQ h.q _ hd]
theorem Iq (n:Nat){m:a9}{ds:List D}(hd:∀d∈ds,Th k L d)(v:∀d∈ds,gq m d=true):ah P (n+3) 17 [m.d,.lst ds] M=.ok .non M:=by
 refine ai (aq h.need_numbers rfl ?_);show af (cj (ah P (n+2)) [some m.d,some (.lst ds),none,none] M) _;unfold cj;refine ao rfl ?_;simp only[aw,dP,mn,a8];refine{_,rfl,rfl,?_};refine cP (λi u j=>j=M/\∃a b,u=[some m.d,some (.lst ds),a,b]) (λ_ _ _ e=>rfl) ⟨rfl,none,none,rfl⟩ ?_ ?_
 ·rintro i e u j he ⟨rfl,a,b,rfl⟩;rw[d4] at he;obtain⟨x,y,rfl⟩:=Ry.mp he;have hm:=RH y;refine{_,rfl,ao (aT ?_) {_,rfl,rfl,_,_,rfl}};simp[oQ h n (hd x hm),v x hm]
 ·rintro u j ⟨rfl,a,b,rfl⟩;exact⟨rfl,rfl⟩
theorem Dz (n:Nat){m:a9}{ds:List D}{i:Nat}{x:D}(hd:∀d∈ds,Th k L d)(E:ds[i]?=some x)(F:gq m x=false)(H:∀j y,j<i->ds[j]?=some y->gq m y=true)(hi:i<1000000):ah P (n+3) 17 [m.d,.lst ds] M=.err (.exc 0 (some (i:Int))) M:=by
 refine dG (eA h.need_numbers rfl ?_);show af (cj (ah P (n+2)) [some m.d,some (.lst ds),none,none] M) _;unfold cj;refine ao rfl ?_;simp only[aw,dP,mn,a8];refine{_,rfl,rfl,?_};refine gG (λj fl v=>v=M/\((j<=i/\∃a b,fl=.next [some m.d,some (.lst ds),a,b])\/(i<j/\∃B,fl=.exc (.exc 0 (some (i:Int))) B))) (λ_ _ _ e=>rfl) {rfl,.inl {Tc _,none,none,rfl}} ?_ ?_
 ·rintro j e fl v he ⟨rfl,u⟩;rw[d4] at he;obtain⟨y,z,rfl⟩:=Ry.mp he;rcases u with⟨u,a,b,rfl⟩|⟨u,B,rfl⟩
  ·show af (#v[_] [some m.d,some (.lst ds),some (.int ((0+j:Nat):Int)),some y] v) _;rw[Nat.zero_add];have e:=oQ h n (m:=m) (M:=v) (hd y (RH z));by_cases c:j=i
   ·subst c;rw[E] at z;cases z;rw[F] at e;refine gi (aT (by simp[e])) ?_
    simp only[aw,sr,a8];exact{_,rfl,_,rfl,`a,rfl,.inr {Nat.lt_succ_self _,_,rfl}}
   ·rw[H j y `a z] at e
    exact ao (aT (by simp[e])) {rfl,.inl {`a,_,_,rfl}}
  ·exact{rfl,.inr {`a,_,rfl}}
 ·rintro fl v ⟨rfl,u⟩;have I:=(Rb.mp E).1;have:(gy 0 ds).length=ds.length:=ic ds 0;rcases u with⟨u,_⟩|⟨_,B,rfl⟩
  ·omega
  ·exact⟨rfl,rfl⟩
theorem Dy (n:Nat){m:a9}(hd:b4 .list d=some false):ah P (n+3) 17 [m.d,d] M=.err (.exc 0 (some 0)) M:=by
 refine dG (eA h.need_numbers rfl ?_);show af (cj (ah P (n+2)) [some m.d,some d,none,none] M) _;unfold cj;refine gi (aT (by simp[hd])) ?_
 simp only[aw,sr,cX];exact{0,rfl,`d,rfl,rfl}
theorem C7 (n:Nat){r:D}(hd:Th k L d)(j:L<=100)(u:hV d=false):ah P (n+9) 18 [d,r] M=.err (.exc 3 none) M:=by
 refine dG (eA h.need_row rfl ?_);show af (dF (ah P (n+8)) [some d,some r] M) _;unfold dF;simp only[aw,fx,kL,bc,bF,a8];refine{_,rfl,?_};rw[A5 h.q h.need_machine n hd j u];exact⟨rfl,rfl⟩
theorem uP (n:Nat){m:a9}{r:D}{x:D}(hm:bg m)(e:ah P (n+8) 17 [m.d,r] M=.err x M):ah P (n+9) 18 [m.d,r] M=.err x M:=by
 refine dG (eA h.need_row rfl ?_);show af (dF (ah P (n+8)) [some m.d,some r] M) _;unfold dF;simp only[aw,fx,kL,bc,bF,a8];refine{_,rfl,?_};rw[vd h.q h.need_machine n (k9 hm) `d (mR hm)]
 show af (aK _ _ [some m.d,some r] M) _;simp only[aw,fx,kL,bc,bF,a8];refine{_,rfl,_,rfl,?_};rw[e];exact⟨rfl,rfl⟩
theorem C8 (n:Nat){m:a9}{ds:List D}(hm:bg m)(e:ah P (n+8) 17 [m.d,.lst ds] M=.ok .non M)(hl:40<ds.length):ah P (n+9) 18 [m.d,.lst ds] M=.err (.exc 4 none) M:=by
 refine dG (eA h.need_row rfl ?_);show af (dF (ah P (n+8)) [some m.d,some (.lst ds)] M) _;unfold dF;simp only[aw,fx,kL,bc,bF,a8];refine{_,rfl,?_};rw[vd h.q h.need_machine n (k9 hm) `d (mR hm)]
 show af (aK _ _ [some m.d,some (.lst ds)] M) _;simp only[aw,fx,kL,bc,bF,a8];refine{_,rfl,_,rfl,?_};rw[e];refine gi (aT ?_) ?_
 ·simp only[iP,fi,d5,bc,bF,a8,cX];refine{_,rfl,_,rfl,_,rfl,?_,rfl};exact decide_eq_true `a
 ·exact⟨rfl,rfl⟩
end
section
variable{Z:Env}{M:Mem}{kf:Fl->Mem->Prop}{rest gb:GS}{a:GE}{s:GA}
def Nv {j l:Nat}{xs:List D}{v:Nat}(h1:Z[j]?.getD none=some (.lst xs))(h2:Z[l]?.getD none=some (nD v))(hz:xs.length<=100):bQ false false true (aa j) gN (aa l) Z M=.ok (.lst (xs.take v)) M:=by
 refine ai ?_;simp only[fN,a8,cX];exact{_,h1,_,h2,rfl,rfl,wL.mpr {av `o,rfl,rfl}}
def IP {j l:Nat}{xs:List D}{v:Nat}(h1:Z[j]?.getD none=some (.lst xs))(h2:Z[l]?.getD none=some (nD v))(hz:xs.length<=100):bQ false true false (aa j) (aa l) gN Z M=.ok (.lst (xs.drop v)) M:=by
 refine ai ?_;simp only[fN,a8,cX];exact{_,h1,_,h2,rfl,rfl,uJ.mpr {av `o,rfl,rfl}}
end
def DC {m:a9}{i:Nat}(hi:i<m.deeds.length):gq m (nD i)=true:=by
 show(decide ((0:Int)<=(i:Int))&&decide ((i:Int)<=(m.deeds.length:Int)-1))=true;rw[decide_eq_true `a,decide_eq_true `a];rfl
noncomputable def Ku (m:a9):D->D
 | .lst j=>match j.findIdx? λd=>!gq m d with
   |some i=>.exc 0 (some (i:Int))
   |none=>if 40<j.length then .exc 4 none else .non
 |_=>.exc 0 (some 0)
theorem vb {m:a9}:∀{ds:List D},(∀d∈ds,gq m d=true)->∃r:List Nat,ds=r.map nD/\∀i∈r,i<m.deeds.length
 |[],_=>{[],rfl,λ_ h=>nomatch h}
 | d::ds,h=>by
   obtain⟨r,rfl,hr⟩:=vb λx v=>h x (Rk _ v);have hd:=h d Rw;cases d with
   | int i=>
     have hd:(decide ((0:Int)<=i)&&decide (i<=(m.deeds.length:Int)-1))=true:=hd;rw[Ra,decide_eq_true_eq,decide_eq_true_eq] at hd;refine{i.toNat::r,?_,λj u=>?_}
     ·show _=nD i.toNat::r.map nD;rw[show nD i.toNat=D.int i by show D.int (i.toNat:Int)=_;rw[Tu hd.1]]
     ·rcases Rv.mp u with rfl|u
      ·omega
      ·exact hr j u
   |_=>cases hd
inductive eM (m:a9):D->D->Prop
 |ok (r:List Nat) (h:aY m r):eM m (aR r) .non
 |long (ds:List D) (h:∀d∈ds,gq m d=true) (hl:40<ds.length):eM m (.lst ds) (.exc 4 none)
 |bad (ds:List D) (i:Nat) (x:D) (hx:ds[i]?=some x) (hb:gq m x=false) (hg:∀j y,j<i->ds[j]?=some y->gq m y=true):eM m (.lst ds) (.exc 0 (some (i:Int)))
 |not (x:D) (h:b4 .list x=some false):eM m x (.exc 0 (some 0))
def C6 {m:a9}{k L:Nat}{x:D}(v:Th k L x):eM m x (Ku m x):=by
 cases x with
 | lst u=>
   show eM m _ (match u.findIdx? λd=>!gq m d with|some i=>D.exc 0 (some (i:Int))|none=>if 40<u.length then .exc 4 none else .non)
   cases e:u.findIdx? λd=>!gq m d with
   | some i=>
     obtain⟨z,h1,h2⟩:=S0.mp e;refine .bad u i u[i] (RE z) (by simpa using h1) λj y B F=>?_
     obtain⟨E,rfl⟩:=Rb.mp F;simpa using h2 j B
   | none=>
     have h1:=List.findIdx?_eq_none_iff.mp e;have h2:=λd hd=>by simpa using h1 d hd
     show eM m _ (if 40<u.length then D.exc 4 none else .non);by_cases c:40<u.length
     ·rw[if_pos c];exact .long u h2 c
     ·rw[if_neg c];obtain⟨r,rfl,hr⟩:=vb h2;exact .ok r {by simpa using c,hr}
 |frz u=>cases k<;>exact v.elim
 |cell j=>cases k<;>exact v.elim
 |fn j=>cases k<;>exact v.elim
 |exc y p=>cases k<;>exact v.elim
 |_=>exact .not _ rfl
section
variable{P:Nat->Option Df}(h:HasM0 P){M:Mem}{m:a9}{k L:Nat}
include h
theorem DF (n:Nat){x v:D}(hm:bg m)(u:Th (k+1) L x)(I:L<=900000)(H:eM m x v)(hn:v≠.non):ah P (n+9) 18 [m.d,x] M=.err v M:=by
 cases H with
 |ok r hr=>exact absurd rfl hn
 |long B j hl=>exact C8 h n hm (Iq h (n+5) u.2 j) hl
 | bad B i y z E j=>
   have:=(Rb.mp z).1;have:=u.1;exact uP h n hm (Dz h (n+5) u.2 z E j `a)
 |not x F=>exact uP h n hm (Dy h (n+5) F)
end
def J5 {m:a9}{Z:Env}{M:Mem}{j:Nat}(e:Z[j]?.getD none=some m.d):ak false .sub (aI .len #[aD (aa j) (gI 2)]) (gI 1) Z M=.ok (.int ((m.deeds.length:Int)-1)) M:=by
 refine ai ?_;simp only[c9,d5,bc,bF,lY,a8,cX];refine{_,e,.tup (m.deeds.map bb.d),rfl,xp.mpr (Ag.mpr {?_,rfl})};rw[Rn]
def lU {ds:List D}{Z:Env}{M:Mem}{j:Nat}(e:Z[j]?.getD none=some (.lst ds)):aI .len #[aa j] Z M=.ok (nD ds.length) M:=by
 unfold aI;rw[ae (ag e) rfl];rfl
section
variable{P:Nat->Option Df}(h:l9 P){M:Mem}{m:a9}{k L:Nat}
include h
theorem Aw (h90:P 90=some {2,4,cz})(n:Nat){x v:D}(hm:bg m)(Q:Th (k+1) L x)(hL:L<=900000)(Y:eM m x v):ah P (n+6) 90 [m.d,x] M=.ok (jg v) M:=by
 refine ai (aq h90 rfl ?_);show af (cz (ah P (n+5)) [some m.d,some x,none,none] M) _;unfold cz;have O:=sk h n (M:=M) (k9 hm) `d `d
 rw[mR hm] at O;refine ao (bf (aP (ij rfl O))) ?_;have body:∀{ds:List D}{y:D}{a:D},(Th k L y)->(aj 68 (ah P (n+5)) #[aa 3,gI 0,ak false .sub (aI .len #[aD (aa 0) (gI 2)]) (gI 1)]) [some m.d,some (.lst ds),some a,some y] M=.ok (.bl (gq m y)) M:=λ{ds y a} E=>
  (aU (ae (ag rfl) (ae rfl (ae (J5 rfl) rfl)))).trans (fw h (n+3) E _ _)
 cases Y with
 | not x S=>
   refine bh (bf (b:=false) (aP ?_)) rfl ⟨rfl,rfl⟩;unfold bH;show(b7 M (b4 .list x)).bind _=_;rw[S];rfl
 | ok r hr=>
   refine ao rfl ?_;simp only[aw,dP,mn,a8];refine{_,rfl,rfl,?_};refine cP (λi B u=>u=M/\∃a b,B=[some m.d,some (aR r),a,b]) (λ_ _ _ e=>rfl) ⟨rfl,none,none,rfl⟩ ?_ ?_
   ·rintro i e B u he ⟨rfl,a,b,rfl⟩;rw[d4] at he;obtain⟨y,E,rfl⟩:=Ry.mp he;obtain⟨q,X,rfl⟩:=RI.mp (RH E);refine{_,rfl,ao (bf (b:=true) (aP ?_)) {_,rfl,rfl,_,_,rfl}};have:=body (ds:=r.map nD) (y:=nD q) (a:=.int ((0+i:Nat):Int)) (by cases k<;>trivial)
    rw[DC (hr.2 q X)] at this;exact this
   ·rintro B u ⟨rfl,a,b,rfl⟩;refine aZ ?_ ⟨rfl,rfl⟩;unfold fh;have e:(au (aE .gt (aI .len #[aa 1]) (gI 40)):GT) [some m.d,some (aR r),a,b] u=.ok false u:=by
     refine aT ?_;simp only[iP,fi,cX];rw[lU rfl,bY];refine{_,rfl,_,rfl,decide_eq_false ?_,rfl};have:=hr.1;simp;omega
    rw[e];rfl
 | long ds J hl=>
   refine ao rfl ?_;simp only[aw,dP,mn,a8];refine{_,rfl,rfl,?_};refine cP (λi B u=>u=M/\∃a b,B=[some m.d,some (.lst ds),a,b]) (λ_ _ _ e=>rfl) ⟨rfl,none,none,rfl⟩ ?_ ?_
   ·rintro i e B u he ⟨rfl,a,b,rfl⟩;rw[d4] at he;obtain⟨y,E,rfl⟩:=Ry.mp he;have F:=RH E;refine{_,rfl,ao (bf (b:=true) (aP ?_)) {_,rfl,rfl,_,_,rfl}};have:=body (ds:=ds) (a:=.int ((0+i:Nat):Int)) (Q.2 y F);rw[J y F] at this;exact this
   ·rintro B u ⟨rfl,a,b,rfl⟩;refine aZ ?_ ⟨rfl,rfl⟩;unfold fh;have e:(au (aE .gt (aI .len #[aa 1]) (gI 40)):GT) [some m.d,some (.lst ds),a,b] u=.ok true u:=by
     refine aT ?_;simp only[iP,fi,cX];rw[lU rfl,bY];exact{_,rfl,_,rfl,decide_eq_true `a,rfl}
    rw[e];rfl
 | bad ds i y E R J=>
   refine ao rfl ?_;simp only[aw,dP,mn,a8];refine{_,rfl,rfl,?_};refine xB (λj B u=>u=M/\j<=i/\∃a b,B=[some m.d,some (.lst ds),a,b]) (λd u=>d=.lst [.str "row",.int (i:Int)]/\u=M) (λ_ _ _ e=>rfl) (λ_ _ _=>rfl) {rfl,Tc _,none,none,rfl} ?_ ?_ ?_
   ·rintro j e B u he ⟨rfl,U,a,b,rfl⟩;rw[d4] at he;obtain⟨z,I,rfl⟩:=Ry.mp he;have H:=body (ds:=ds) (a:=.int ((0+j:Nat):Int)) (Q.2 z (RH I));refine{_,rfl,?_};by_cases c:j=i
    ·subst c;rw[E] at I;cases I;rw[R] at H;refine bh (bf (aP H)) (yJ (ag rfl)) (.inr {_,rfl,?_,rfl});rw[Nat.zero_add]
    ·rw[J j z `a I] at H
     exact ao (bf (aP H)) (.inl {_,rfl,rfl,`a,_,_,rfl})
   ·rintro B u ⟨rfl,U,_⟩;have W:=(Rb.mp E).1;have:(gy 0 ds).length=ds.length:=ic ds 0;omega
   ·rintro d u ⟨rfl,rfl⟩;exact⟨rfl,rfl⟩
end
def C3 {m:a9}{x v:D}(z:eM m x v)(hn:v≠.non):∃i,v∈ji i:=by
 cases z with
 |ok r hr=>exact absurd rfl hn
 |long j u hl=>exact{0,by simp[ji]}
 |bad j i y F B u=>exact{i,by simp[ji]}
 |not x E=>exact{0,by simp[ji]}
def Ei {i:Int}{x:D}(h:x∈ji i):∃c p,x=.exc c p:=by
 simp only[ji,Rv,RT,or_false] at h;rcases h with rfl|rfl|rfl|rfl|rfl|rfl|rfl|rfl|rfl|rfl|rfl|rfl|rfl|rfl<;>exact{_,_,rfl}
def items:List D:=(List.range 20).map (λ(k:Nat)=>nD k)++[.int (-1),.int (-2),.int (10^20),.bl true,.bl false,.non,.str "0",.lst [.int 0],.tup [.int 0],.lst [],.str "",.str "turn",.str "join",.str "move",.str "put",.str "Turn",.tup []]
section
variable{Z:Env}{M:Mem}{a b:GE}
def Ig {v c:Nat}(e:a Z M=.ok (nD v) M):ak false .add a (gC (.int (c:Int))) Z M=.ok (nD (v+c)) M:=by
 unfold ak;rw[e];show Res.ok (D.int ((v:Int)+(c:Int))) M=_;rw[show((v:Int)+(c:Int))=((v+c:Nat):Int) by omega]
def IH {j:Nat}{xs:List D}(h:Z[j]?.getD none=some (.lst xs)):ak false .add (aI .len #[aa j]) (gI 1) Z M=.ok (nD (xs.length+1)) M:=Ig (c:=1) (lU h)
end
def g8 (m:a9)(l:Nat)(z:Bool):List D->Option Nat
 |[]=>if z then some 11 else none
 |[a]=>if aQ 0 ((l:Int)-1) a then none else some 9
 |[a,b]=>if aQ 0 (l:Int) a then(if gq m b then(if 40<=l then some 4 else none) else some 10) else some 9
 |_=>none
def jN (es:s Z M=.ok ds M)(hl:ds.length<=100)(h:K (.exc (.exc i none) Z) M):af (#v[eK i s] Z M) K:=by
 refine aw.mpr (C4.mpr ?_);rw[es];exact{av (Rp hl `d),h}
def Th.pu {k0 L:Nat}{a:D}(h:Th k0 L a)(hk:k0<=60):ax 63 a=true:=(h.mono `a (Rj _)).pure
def EA (j:ax 63 a=true)(u:ax 63 b=true):bw .eq (.tup [a,b]) (.tup []) M=some false:=iK (by show([a,b].all (ax 63))=true;rw[RY,RY,j,u];rfl) rfl rfl
section
variable{P:Nat->Option Df}(h:HasM P)(ho:HasO P){M:Mem}{k e:Nat}{m:a9}{r:List Nat}{hs:List (List Nat)}{k0 L:Nat}{z:Bool}{c:Nat}
include h ho
theorem Hq (n:Nat)(j:Th k0 L a)(u:Th k0 L b)(er:g8 m r.length z [a,b]=some c)(s:aW M k e m r hs):ah P (n+3) 133 [.fn (aM k),a,b] M=.err (.exc c none) M:=by
 refine dG (eA ho.put rfl ?_);replace er:(if aQ 0 (r.length:Int) a then(if gq m b then(if 40<=r.length then some 4 else none) else some 10) else some 9)=some c:=er;refine bu (bf (aP ((aU (ae (ag rfl) (ae rfl (ae (s.ln rfl) rfl)))).trans (gQ h.toHasM0.q (n+1) j 0 _)))) (λz=>?_) λz=>?_
 ·rw[om z] at er;cases er;exact jN (ae rfl rfl) `d ⟨rfl,rfl⟩
 rw[oo z] at er;refine bu (bf (aP ((aU (ae (s.mc rfl) (ae (ag rfl) rfl))).trans (oQ h.toHasM0 n u)))) (λz=>?_) λz=>?_
 ·rw[om z] at er;cases er;exact jN (ae rfl rfl) `d ⟨rfl,rfl⟩
 rw[oo z,if_pos rfl,if_pos rfl] at er;refine bu (aP (bN (s.ln rfl) rfl rfl)) (λz=>?_) λz=>?_
 ·rw[if_pos (Int.ofNat_le.mp (of_decide_eq_true z))] at er;cases er;exact jN (ae rfl rfl) `d ⟨rfl,rfl⟩
 ·rw[if_neg λq=>of_decide_eq_false z (Int.ofNat_le.mpr q)] at er;cases er
theorem Ht (n:Nat)(j:Th k0 L a)(er:g8 m r.length z [a]=some c)(s:aW M k e m r hs):ah P (n+3) 134 [.fn (aM k),a] M=.err (.exc c none) M:=by
 refine dG (eA ho.out rfl ?_);replace er:(if aQ 0 ((r.length:Int)-1) a then none else some 9)=some c:=er;refine bu (bf (aP ((aU (ae (ag rfl) (ae rfl (ae (s.ln1 rfl) rfl)))).trans (gQ h.toHasM0.q (n+1) j 0 _)))) (λz=>?_) λz=>?_
 ·rw[om z] at er;cases er;exact jN (ae rfl rfl) `d ⟨rfl,rfl⟩
 ·rw[oo z] at er;cases er
omit h in
theorem CY (n:Nat)(er:g8 m r.length hs.isEmpty []=some c)(s:aW M k e m r hs):ah P (n+1) 135 [.fn (aM k)] M=.err (.exc c none) M:=by
 refine dG (eA ho.back rfl ?_);show af (kI (ah P n) [some (.fn (aM k))] M) _;cases hs with
 |cons a b=>cases er
 | nil=>
   cases er;refine gi (bf (b:=false) ?_) (jN (ae rfl rfl) `d ⟨rfl,rfl⟩)
   unfold au;rw[s.ea rfl];show b7 M ((M[e]?).map λds=>!ds.isEmpty)=_;rw[s.er];rfl
theorem Ay (j:HasC0 P)(n:Nat)(hk:k0<=60)(hd:∀d∈ds,Th k0 L d)(er:g8 m r.length hs.isEmpty ds=some c)(s:aW M k e m r hs):ah P (n+4) 139 [.fn (aM k),.tup ds] M=.err (.exc c none) M:=by
 have pu:ds.all (ax 63)=true:=List.all_eq_true.mpr λd z=>(hd d z).pu hk
 match ds,hd,pu,er with
 |[],_,pu,er=>exact(nU j (n+3) pu (Tc _) s.ob).trans (CY ho (n+2) er s)
 |[a],hd,pu,er=>exact(nU j (n+3) pu (Rh rfl) s.ob).trans (Ht h ho n (hd a (.head _)) er s)
 |[a,b],hd,pu,er=>exact(nU j (n+3) pu (Rj _) s.ob).trans (Hq h ho n (hd a (.head _)) (hd b (.tail _ (.head _))) er s)
end
def int_at (h:a Z M=.ok (.bl b) M):pG a Z M=.ok (.int (if b then 1 else 0)) M:=by unfold pG;rw[h];rfl
def w5 (h:a Z M=.ok (.bl b) M):aD (aG false #[aG false #[gC (.str x)],aG false #[gC (.str y)]]) (pG a) Z M=.ok (.lst [.str (if b then y else x)]) M:=by
 refine bO (da (ae (da (ae rfl rfl) (Rh rfl)) (ae (da (ae rfl rfl) (Rh rfl)) rfl)) (Rh rfl)) (int_at h) ?_;cases b<;>rfl
def Ep:Option Nat->D
 |none=>.lst [.str "told"]
 |some c=>jg (.exc c none)
def vF (e:g8 m l z ds=some c):c=11\/c=9\/c=10\/c=4:=by
 match ds,e with
 | [],e=>
   cases z
   ·cases e
   ·cases e;exact .inl rfl
 | [a],e=>
   replace e:(if aQ 0 ((l:Int)-1) a then none else some 9)=some c:=e;cases h:aQ 0 ((l:Int)-1) a<;>rw[h] at e
   ·cases e;exact .inr (.inl rfl)
   ·cases e
 | [a,b],e=>
   replace e:(if aQ 0 (l:Int) a then(if gq m b then(if 40<=l then some 4 else none) else some 10) else some 9)=some c:=e;cases h:aQ 0 (l:Int) a<;>rw[h] at e
   ·cases e;exact .inr (.inl rfl)
   cases u:gq m b<;>rw[u] at e
   ·cases e;exact .inr (.inr (.inl rfl))
   by_cases j:40<=l
   ·rw[if_pos rfl,if_pos rfl,if_pos j] at e;cases e;exact .inr (.inr (.inr rfl))
   ·rw[if_pos rfl,if_pos rfl,if_neg j] at e;cases e
 |_::_::_::_,e=>cases e
def wU (e:g8 m l z ds=some c):D.exc c none∈ji 0:=by
 rcases vF e with rfl|rfl|rfl|rfl<;>simp[ji]
section
variable{P:Nat->Option Df}{M:Mem}{k e:Nat}{m:a9}{r:List Nat}{hs:List (List Nat)}{k0 L:Nat}{z:Bool}{c:Nat}
def Hz (u:l9 P)(h227:P 227=some {3,4,jl})(n:Nat)(hk:k0<=60)(hd:∀d∈ds,Th k0 L d)(hl:ds.length<=2)(hr:r.length<=40)(hz:hs.length<=1000):ah P (n+3) 227 [m.d,.lst ((hs++[r]).map aR),.tup ds] M=.ok (Ep (g8 m r.length hs.isEmpty ds)) M:=by
 refine ai (aq h227 rfl ?_);refine a7 (bP (pB rfl)) ?_
 match ds,hd,hl with
 | [],_,_=>
   refine bh (aP (bN (ag rfl) (dJ rfl `d) (iK rfl rfl rfl))) (w5 (b:=((((hs++[r]).map aR).length:Nat):Int)==1) (bN (iF (ag rfl)) rfl rfl)) {?_,rfl}
   cases hs with
   |nil=>rfl
   | cons a b=>
     rw[show(((((a::b++[r]).map aR).length:Nat):Int)==1)=false from RJ.mpr `o]
     rfl
 | [a],hd,_=>
   have h:=hd a (.head _);refine ao (aP (bN (ag rfl) (dJ rfl `d) (vM (h.pu hk)))) ?_
   show af (aK _ _ [some m.d,some (.lst ((hs++[r]).map aR)),some (.tup [a]),some (aR r)] M) (fY λx j=>x=Ep (if aQ 0 ((r.length:Int)-1) a then none else some 9)/\j=M);refine bu (bf (aP ((aU (ae (bO (ag rfl) rfl rfl) (ae rfl (ae (fE (y:=1) (by unfold ak;rw[jE (r:=r) (ag rfl)];rfl) rfl) rfl)))).trans (by rw[show(r.length:Int)-2+1=(r.length:Int)-1 by omega];exact fw u n h 0 _)))) (λz=>?_) λz=>?_
   ·rw[om z];exact aZ rfl ⟨rfl,rfl⟩
   ·rw[oo z];exact bh rfl rfl ⟨rfl,rfl⟩
 | [a,b],hd,_=>
   have h:=hd a (.head _);have B:=hd b (.tail _ (.head _));refine ao (aP (bN (ag rfl) (dJ rfl `d) (EA (h.pu hk) (B.pu hk)))) ?_
   show af (aK _ _ [some m.d,some (.lst ((hs++[r]).map aR)),some (.tup [a,b]),some (aR r)] M) (fY λx j=>x=Ep (if aQ 0 (r.length:Int) a then(if gq m b then(if 40<=r.length then some 4 else none) else some 10) else some 9)/\j=M);refine bu (bf (aP ((aU (ae (bO (ag rfl) rfl rfl) (ae rfl (ae (fE (y:=2) (by unfold ak;rw[jE (r:=r) (ag rfl)];rfl) rfl) rfl)))).trans (by rw[show(r.length:Int)-2+2=(r.length:Int) by omega];exact fw u n h 0 _)))) (λz=>?_) λz=>?_
   ·rw[om z];exact aZ rfl ⟨rfl,rfl⟩
   rw[oo z];refine ao rfl (bu (b:=!gq m b) (bf (aP ((aU (ae (bO (ag rfl) rfl rfl) (ae rfl (ae ?_ rfl)))).trans (fw u n B 0 _)))) (λz=>?_) λz=>?_)
   ·unfold ak;rw[jY (ae (bO (ag rfl) rfl Bc) rfl)];show Res.ok (D.int (((m.deeds.map bb.d).length:Int)-1)) M=_;rw[Rn]
   ·rw[om z];exact aZ rfl ⟨rfl,rfl⟩
   rw[oo z];refine aZ (w5 (b:=((r.length:Nat):Int)==40) (bN (jE (r:=r) (ag rfl)) rfl rfl)) {?_,rfl};by_cases v:40<=r.length
   ·rw[if_pos v,show r.length=40 by omega];rfl
   ·rw[if_neg v,show((((r.length:Nat):Int)==40)=false) from RJ.mpr `a];rfl
def sh (h:HasM P)(ho:HasO P)(j:HasC0 P)(h75:P 75=some {1,3,cm})(h226:P 226=some {2,4,fm})(n:Nat)(hk:k0<=60)(hd:∀d∈ds,Th k0 L d)(er:g8 m r.length hs.isEmpty ds=some c)(s:aW M k e m r hs):ah P (n+5) 226 [.fn (aM k),.tup ds] M=.ok (jg (.exc c none)) M:=by
 refine ai (aq h226 rfl ?_);show af (fm (ah P (n+4)) [some (.fn (aM k)),some (.tup ds),none,none] M) _;refine a7 (bP rfl) (aw.mpr (mz.mpr (aw.mpr (fx.mpr ?_))));rw[d8 (ae (ag rfl) (ae (ag rfl) rfl)),Ay h ho j n hk hd er s];refine aZ ?_ ⟨rfl,rfl⟩;exact fM rfl (λz=>nomatch z) λ_=>ij rfl (lH h75 (n+3) (wU er))
end
def nh {lo hi:Int}{d:D}(h:aQ lo hi d=true)(j:0<=lo):∃i:Nat,d=nD i/\lo<=(i:Int)/\(i:Int)<=hi:=by
 cases d with
 | int i=>
   have h:(decide (lo<=i)&&decide (i<=hi))=true:=h;rw[Ra,decide_eq_true_eq,decide_eq_true_eq] at h;have e:=Tu (Int.le_trans j h.1);exact{i.toNat,by show D.int i=D.int _;rw[e],by rw[e];exact h.1,by rw[e];exact h.2}
 |_=>cases h
theorem xj {w:Nat}:∀{ds:List D},(∀d∈ds,aQ 0 ((w:Int)-1) d=true)->∃t:List Nat,ds=t.map nD/\∀i∈t,i<w
 |[],_=>{[],rfl,λ_ h=>nomatch h}
 | d::ds,h=>by
   obtain⟨r,rfl,hr⟩:=xj λx v=>h x (Rk _ v);obtain⟨i,rfl,_,y⟩:=nh (h d Rw) (Int.le_refl _);refine{i::r,rfl,λj u=>?_};rcases Rv.mp u with rfl|u
   ·omega
   ·exact hr j u
def tab_of {w:Nat}{d:D}(h:fV w d=true):∃t,d=aS t/\ft w t:=by
 cases d with
 | tup j=>
   have h:(j.length==w&&j.all (aQ 0 ((w:Int)-1)))=true:=h;rw[Ra,beq_iff_eq,Rq] at h;obtain⟨t,rfl,u⟩:=xj h.2;exact{t,rfl,by simpa using h.1,u}
 |_=>cases h
noncomputable def wB {w:Nat}:∀{ds:List D},(∀d∈ds,fV w d=true)->∃t:List (List Nat),ds=t.map aS/\∀x∈t,ft w x
 |[],_=>{[],rfl,λ_ h=>nomatch h}
 | d::ds,h=>by
   obtain⟨r,rfl,hr⟩:=wB λx j=>h x (Rk _ j);obtain⟨t,rfl,u⟩:=tab_of (h d Rw);refine{t::r,rfl,λx j=>?_};rcases Rv.mp j with rfl|j
   ·exact u
   ·exact hr x j
def I8 {w:Nat}{d:D}(h:iW w d=true):∃t:List (List Nat),d=.tup (t.map aS)/\t.length=w/\∀x∈t,ft w x:=by
 cases d with
 | tup j=>
   have h:(j.length==w&&j.all (fV w))=true:=h;rw[Ra,beq_iff_eq,Rq] at h;obtain⟨t,rfl,u⟩:=wB h.2;exact{t,rfl,by simpa using h.1,u}
 |_=>cases h
def nX {d:D}(h:aQ 1 3 d=true):∃c,d=nD c/\eh c:=by
 obtain⟨c,rfl,h1,h2⟩:=nh h `d
 exact{c,rfl,`a,`a}
def jS {p:Nat}{d:D}(h:aQ 0 ((p:Int)-1) d=true):∃a,d=nD a/\a<p:=by
 obtain⟨a,rfl,_,h2⟩:=nh h (Int.le_refl _);exact{a,rfl,`a}
def Jl {w p:Nat}{d:D}(h:fj w p d=true):∃e:bb,d=e.d/\bX w p e:=by
 match d,h with
 | .tup (.str s::ds),h=>
   have h:cp w p s ds=true:=h;by_cases y:s="turn"
   ·subst y;rw[mL] at h
    match ds,h with
    | [a,t,c],h=>
      have h:(aQ 0 ((p:Int)-1) a&&(fV w t&&aQ 1 3 c))=true:=h;rw[Ra,Ra] at h;obtain⟨a,rfl,j⟩:=jS h.1;obtain⟨t,rfl,v⟩:=tab_of h.2.1;obtain⟨c,rfl,u⟩:=nX h.2.2;exact{.turn a t c,rfl,j,v,u}
   ·by_cases z:s="join"
    ·subst z;rw[mK] at h
     match ds,h with
     | [a,o,t,c],h=>
       have h:(aQ 0 ((p:Int)-1) a&&(aQ 0 ((p:Int)-1) o&&(iW w t&&aQ 1 3 c)))=true:=h;rw[Ra,Ra,Ra] at h;obtain⟨a,rfl,j⟩:=jS h.1;obtain⟨o,rfl,ho⟩:=jS h.2.1;obtain⟨t,rfl,v⟩:=I8 h.2.2.1;obtain⟨c,rfl,u⟩:=nX h.2.2.2;exact{.join a o t c,rfl,j,ho,v,u}
    ·by_cases B:s="move"
     ·subst B;rw[mJ] at h
      match ds,h with
      | [a,o,c],h=>
        have h:(aQ 0 ((p:Int)-1) a&&(aQ 0 ((p:Int)-1) o&&aQ 1 3 c))=true:=h;rw[Ra,Ra] at h;obtain⟨a,rfl,j⟩:=jS h.1;obtain⟨o,rfl,ho⟩:=jS h.2.1;obtain⟨c,rfl,u⟩:=nX h.2.2;exact{.move a o c,rfl,j,ho,u}
     ·by_cases E:s="put"
      ·subst E;rw[mI] at h
       match ds,h with
       | [a,x,c],h=>
         have h:(aQ 0 ((p:Int)-1) a&&(aQ 0 ((w:Int)-1) x&&aQ 1 3 c))=true:=h;rw[Ra,Ra] at h;obtain⟨a,rfl,j⟩:=jS h.1;obtain⟨x,rfl,F⟩:=jS h.2.1;obtain⟨c,rfl,u⟩:=nX h.2.2;exact{.put a x c,rfl,j,F,u}
      ·rw[u3 y z B E] at h;cases h
noncomputable def sS {w p:Nat}:∀{ds:List D},(∀d∈ds,fj w p d=true)->∃es:List bb,ds=es.map bb.d/\∀e∈es,bX w p e
 |[],_=>{[],rfl,λ_ h=>nomatch h}
 | d::ds,h=>by
   obtain⟨r,rfl,hr⟩:=sS λx j=>h x (Rk _ j);obtain⟨e,rfl,he⟩:=Jl (h d Rw);refine{e::r,rfl,λx j=>?_};rcases Rv.mp j with rfl|j
   ·exact he
   ·exact hr x j
def IF {d:D}(h:hV d=true):∃m:a9,d=m.d/\bg m:=by
 match d,h with
 | .tup [a,b,c],h=>
   have h:(aQ 2 4 a&&(aQ 1 2 b&&(iG c&&(qx c).all (fj (eU a) (eU b)))))=true:=h;rw[Ra,Ra,Ra] at h;obtain⟨h1,h2,h3,h4⟩:=h;obtain⟨w,rfl,w2,w4⟩:=nh h1 `d
   obtain⟨p,rfl,p1,p2⟩:=nh h2 `d
   cases c with
   | tup j=>
     have h3:(decide (1<=j.length)&&decide (j.length<=6))=true:=h3;rw[Ra,decide_eq_true_eq,decide_eq_true_eq] at h3;have h4:=h4;rw[Rq] at h4;obtain⟨u,rfl,he⟩:=sS h4;rw[Rn] at h3;refine{⟨w,p,u⟩,rfl,{?_,?_,?_,?_,h3.1,h3.2,he}}
     ·show 2<=w;omega
     ·show w<=4;omega
     ·show 1<=p;omega
     ·show p<=2;omega
   |_=>cases h3
structure OX (P:Nat->Option Df):Prop where
 m:HasM P
 p:HasP P
 t:HasT P
 w:l9 P
 s:fS P
 a:kK P
 h35:P 35=some {3,6,fO}
 h75:P 75=some {1,3,cm}
 h90:P 90=some {2,4,cz}
 h94:P 94=some {3,5,rS}
 h95:P 95=some {3,4,tO}
 h96:P 96=some {3,5,tN}
 h97:P 97=some {1,12,Ju}
section
variable{P:Nat->Option Df}{M:Mem}
variable(h:OX P)
include h
omit h in
theorem uM (hs:fS P)(n:Nat){z:Str}(hz:ax 64 (.str z)=true):ah P (n+2) 40 [.lst [.str z],.lst [.str z]] M=.ok (.bl true) M:=
 lG hs (n+1) (av (n:=1) `d) λd hd=>by rw[RA.mp hd];exact mv hs n hz
omit h in
theorem AG (hs:fS P)(n:Nat){m:a9}{x v:D}(z:eM m x v)(hn:v≠.non):ah P (n+2) 40 [jg v,jg v] M=.ok (.bl true) M:=by
 have row:∀i:Int,ah P (n+2) 40 [.lst [.str "row",.int i],.lst [.str "row",.int i]] M=.ok (.bl true) M:=λi=>by
  refine lG hs (n+1) (av (n:=2) `d) λd hd=>?_
  rcases Rv.mp hd with rfl|hd
  ·exact mv hs n `k
  ·rw[RA.mp hd];exact Ao hs n i
 cases z with
 |ok r hr=>exact absurd rfl hn
 |long j u hl=>exact uM hs n `k
 |bad j i y F B u=>exact row i
 |not x E=>exact row 0
end
section
variable{P:Nat->Option Df}{M:Mem}{k e:Nat}{m:a9}{r:List Nat}{hs:List (List Nat)}{k0 L:Nat}{c:Nat}
def Ho (h:HasM P)(ho:HasO P)(j:HasC0 P)(h75:P 75=some {1,3,cm})(h229:P 229=some {2,5,dv})(n:Nat)(hk:k0<=60)(hd:∀d∈ds,Th k0 L d)(er:g8 m r.length hs.isEmpty ds=some c)(s:aW M k e m r hs):ah P (n+5) 229 [.fn (aM k),.tup ds] M=.ok (jg (.exc c none)) M:=by
 refine ai (aq h229 rfl ?_);show af (dv (ah P (n+4)) [some (.fn (aM k)),some (.tup ds),none,none,none] M) _;refine a7 (bP rfl) (a7 (bP rfl) (aw.mpr (mz.mpr (aw.mpr (wN.mpr ?_)))));rw[d8 (ae (ag rfl) (ae (ag rfl) rfl)),Ay h ho j n hk hd er s];refine aZ ?_ ⟨rfl,rfl⟩;exact fM rfl (λz=>nomatch z) λ_=>ij rfl (lH h75 (n+3) (wU er))
def Hn (h229:P 229=some {2,5,dv})(n:Nat){kd:Mem->Prop}(h:af (ah P n 139 [.fn (aM k),told] M) λd M'=>d=v/\kd M'):af (ah P (n+1) 229 [.fn (aM k),told] M) λd M'=>d=.lst [.str "told",v]/\kd M':=by
 refine aq h229 rfl ?_;show af (dv (ah P n) [some (.fn (aM k)),some told,none,none,none] M) _;obtain⟨d,M',e1,rfl,hk⟩:=eE.mp h;refine a7 (bP rfl) (a7 (bP rfl) (aw.mpr (mz.mpr (aw.mpr (wN.mpr ?_)))));rw[d8 (ae (ag rfl) (ae (ag rfl) rfl)),e1];refine u9.mpr (bJ.mpr (kM.mpr ?_));dsimp only[CA,List.set];rw[bJ];exact aZ (fM rfl (λ_=>da (ae rfl (ae (ag rfl) rfl)) (Rh rfl)) λz=>nomatch z) ⟨rfl,hk⟩
def pZ (h:fS P)(n:Nat):ah P (n+1) 40 [.non,.non] M=.ok (.bl true) M:=by
 refine ai (aq h.same rfl ?_);show af (bV (ah P n) [some .non,some .non] M) _;exact bh rfl rfl ⟨rfl,rfl⟩
def yi (h:fS P)(n:Nat)(hm:bg m):ah P (n+2) 40 [hJ (cH m a b),hJ (cH m a b)] M=.ok (.bl true) M:=by
 cases e:cH m a b with
 |none=>exact pZ h (n+1)
 | some s=>
   have:=rR s (Tr e);have p2:=hm.p2;exact oh h n (by rw[this.1];omega)
def AH (h:fS P)(n:Nat)(e1:ah P n 40 [a,a] M=.ok (.bl true) M)(e2:ah P n 40 [x,x] M=.ok (.bl true) M):ah P (n+1) 40 [.lst [a,x],.lst [a,x]] M=.ok (.bl true) M:=
 lG h n (av (n:=2) `d) λd hd=>by
  rcases Rv.mp hd with rfl|hd
  ·exact e1
  ·rw[RA.mp hd];exact e2
def MU {ns:List Nat}(hr:r.length<=40)(hl:ns.length<=2)(e:g8 m r.length hs.isEmpty (ns.map nD)=none):∃h,wd m hs r h (.tup (ns.map nD)):=by
 match ns,hl,e with
 | [],_,e=>
   have hn:hs≠[]:=λz=>by rw[z] at e;cases e
   exact{_,.inl {_,_,(List.dropLast_concat_getLast hn).symm,rfl,rfl}}
 | [a],_,e=>
   replace e:(if aQ 0 ((r.length:Int)-1) (nD a) then none else some 9)=none:=e;cases j:aQ 0 ((r.length:Int)-1) (nD a) with
   |false=>rw[j] at e;cases e
   | true=>
     have:=(iL j `d).2.2
     replace this:(a:Int)<=(r.length:Int)-1:=this;exact{_,.inr (.inl {a,`a,rfl,rfl})}
 | [a,i],_,e=>
   replace e:(if aQ 0 (r.length:Int) (nD a) then(if gq m (nD i) then(if 40<=r.length then some 4 else none) else some 10) else some 9)=none:=e;cases j:aQ 0 (r.length:Int) (nD a) with
   |false=>rw[j] at e;cases e
   | true=>
     rw[j] at e;cases u:gq m (nD i) with
     |false=>rw[u] at e;cases e
     | true=>
       rw[u,if_pos rfl,if_pos rfl] at e;have v:¬ 40<=r.length:=λz=>by rw[if_pos z] at e;cases e
       have h1:(a:Int)<=(r.length:Int):=(iL j `d).2.2
       have h2:(i:Int)<=(m.deeds.length:Int)-1:=(iL u `d).2.2
       exact{_,.inr (.inr {a,i,`a,`a,`a,rfl,rfl})}
structure Nxt (P:Nat->Option Df) (n:Nat) (m:a9) (r:List Nat) (hs:List (List Nat)) (told v:D) (r':List Nat) (hs':List (List Nat)):Prop where
 row:aY m r'
 all:∀x∈hs',aY m x
 len:hs'.length<=hs.length+1
 go:∀{M:Mem}{k e:Nat},aW M k e m r hs->af (ah P (n+17) 229 [.fn (aM k),told] M) λd M'=>d=v/\aW M' k e m r' hs'/\ef [k,e] M M'
def xr (h:HasM P)(ho:HasO P)(z:kK P)(B:HasC0 P)(n:Nat)(hm:bg m)(hr:aY m r)(hh:∀x∈hs,aY m x)(hz:hs.length<=1000)(c:wd m hs r later told) :
 ∃hs' r',later=hs'++[r']/\aY m r'/\(∀x∈hs',aY m x)/\hs'.length<=hs.length+1/\∀{M:Mem}{k e:Nat},aW M k e m r hs->af (ah P (n+16) 139 [.fn (aM k),told] M) λd M'=>d=hJ (cH m r r')/\aW M' k e m r' hs'/\ef [k,e] M M':=by
 have F:aW [[.int 40,m.d,aR r,.cell 1],hs.map aR] 0 1 m r hs:=⟨rfl,rfl⟩;obtain⟨hs',r',y,v,u,ll,_⟩:=Ar h ho z B n hm hr hh hz c F;refine{hs',r',y,v,u,ll,λ{M k e} s=>?_};obtain⟨E,r2,j,_,_,_,ok⟩:=Ar h ho z B n hm hr hh hz c s;obtain⟨e1,e2⟩:=List.append_inj' (y.symm.trans j) rfl;cases e1;cases e2;exact ok
def LC (h:HasM P)(ho:HasO P)(E:kK P)(B:HasC0 P)(j:fS P)(h75:P 75=some {1,3,cm})(h229:P 229=some {2,5,dv})(n:Nat){ns:List Nat}(hl:ns.length<=2)(hm:bg m)(hr:aY m r)(hh:∀x∈hs,aY m x)(hz:hs.length<=1000) :
 ∃v r' hs',Nxt P n m r hs (.tup (ns.map nD)) v r' hs'/\∀(n2:Nat) (M:Mem),ah P (n2+3) 40 [v,v] M=.ok (.bl true) M:=by
 cases q:g8 m r.length hs.isEmpty (ns.map nD) with
 | some c=>
   refine{jg (.exc c none),r,hs,{hr,hh,SR _,λ{M k e} s=>?_},λn2 M=>?_}
   ·rw[Ho h ho B h75 h229 (n+12) (k0:=2) (L:=2) `d (λd hd=>by obtain⟨i,_,rfl⟩:=RI.mp hd;trivial) q s]
    exact{rfl,s,.refl}
   ·rcases vF q with rfl|rfl|rfl|rfl<;>exact uM j (n2+1) `k
 | none=>
   obtain⟨z,c⟩:=MU hr.1 hl q;obtain⟨hs',r',_,y,u,ll,go⟩:=xr h ho E B n hm hr hh hz c;exact{.lst [.str "told",hJ (cH m r r')],r',hs',{y,u,ll,λ{M k e} s=>Hn h229 (n+16) (go s)},λn2 M=>AH j (n2+2) (mv j (n2+1) `k) (yi j n2 hm)}
end
section
variable{P:Nat->Option Df}{M M1 M2:Mem}{Z:Env}{x y:D}{a b:GE}{c:Call}
def ka (j:a Z M=.ok x M1)(u:b Z M1=.ok y M2)(v:c 40 [x,y] M2=.ok (.bl true) M2):(bo (au (aj 40 c #[a,b])):GT) Z M=.ok false M2:=by
 refine aT (xZ.mpr (iP.mpr (gp.mpr (bc.mpr ?_))));rw[j,bY];refine bc.mpr ?_;rw[u,bY];refine bF.mpr ?_;rw[v];exact⟨true,rfl,rfl,rfl⟩
def i4 (j:t Z M=.ok false M1)(h:af (rest Z M1) K):af (aK (aF t A az) rest Z M) K:=by
 refine aw.mpr (f7.mpr ?_);rw[j,bY,if_neg (λz=>nomatch z)];exact h
end
def aC.kps (h:aC M p B)(s:ef l M M')(hl:∀x∈l,p<x):aC M' p B:=by
 have lt:=h.lt;exact h.of λj u=>s.at' j `a λz=>by have:=hl j z;omega
def aW.kps (h:aW M k e m r hs)(s:ef l M M')(hk:k∉l)(he:e∉l):aW M' k e m r hs:={s.get h.ob hk,s.get h.er he}
def aW.keep (h:aW M k e m r hs)(s:br p M M')(hk:p<k)(he:p<e):aW M' k e m r hs:={s.get h.ob `a,s.get h.er `a}
def jd.sub51 (h:jd M f m r p)(S:Sub M M'):jd M' f m r p:=by
 obtain⟨j,u,v,e1,a0,a1,a2⟩:=h.ex;exact{j,u,v,S.get e1,λz=>let⟨q,b1,b2,b3⟩:=a0 z;{q,b1,b2,S.get b3},a1,a2}
structure xT (p k e k2 e2:Nat):Prop where
 pk:p<k
 pe:p<e
 pk2:p<k2
 pe2:p<e2
 kk:k≠k2
 ke:k≠e2
 ek:e≠k2
 ee:e≠e2
structure f5 (M:Mem) (p B k e k2 e2:Nat) (m:a9) (r:List Nat) (hs:List (List Nat)):Prop where
 pen:aC M p B
 a:aW M k e m r hs
 b:aW M k2 e2 m r hs
def f5.sub (t:f5 M p B k e k2 e2 m r hs)(S:Sub M M'):f5 M' p B k e k2 e2 m r hs:={S.pen t.pen,t.a.sub S,t.b.sub S}
def f5.keep (f:xT p k e k2 e2)(t:f5 M p B k e k2 e2 m r hs)(S:br p M M')(q:aC M' p B'):f5 M' p B' k e k2 e2 m r hs:={q,t.a.keep S f.pk f.pe,t.b.keep S f.pk2 f.pe2}
def MV (c:wd m hs r later told):∃ns:List Nat,ns.length<=2/\told=.tup (ns.map nD):=by
 rcases c with⟨_,_,_,_,e⟩|⟨a,_,_,e⟩|⟨a,i,_,_,_,_,e⟩
 ·exact{[],`d,e}
 ·exact{[a],Rh rfl,e}
 ·exact{[a,i],Rh rfl,e}
def BY (f:xT p k e k2 e2)(go:∀{M:Mem}{k e:Nat},aW M k e m r hs->af (ah P n g [.fn (aM k),told] M) λd M'=>d=v/\aW M' k e m r' hs'/\ef [k,e] M M')(t:f5 M p B k e k2 e2 m r hs) :
 ∃j u,ah P n g [.fn (aM k),told] M=.ok v j/\ah P n g [.fn (aM k2),told] j=.ok v u/\f5 u p B k e k2 e2 m r' hs':=by
 obtain⟨_,j,H,rfl,a3,z⟩:=eE.mp (go t.a);obtain⟨_,u,I,rfl,F,E⟩:=eE.mp (go (t.b.kps z (by simp[f.kk.symm,f.ek.symm]) (by simp[f.ke.symm,f.ee.symm])))
 exact{j,u,H,I,(t.pen.kps z (by simp[f.pk,f.pe])).kps E (by simp[f.pk2,f.pe2]),a3.kps E (by simp[f.kk,f.ke]) (by simp[f.ek,f.ee]),F}
noncomputable def t9 (j:List Nat)(l:Nat):List (List Nat):=[j,[],[0],[0,0],[0,0],[l,0],[l+1,0],[l+1,0],[],[0,0],[],[],[]]
structure ER (P:Nat->Option Df):Prop where
 m:HasM P
 p:HasP P
 o:HasO P
 a:kK P
 e:HasE0 P
 k:Nm P
 s:fS P
 w:l9 P
 h75:P 75=some {1,3,cm}
 h229:P 229=some {2,5,dv}
section
variable{P:Nat->Option Df}(h:ER P){M:Mem}{p B k e k2 e2:Nat}{m:a9}{r:List Nat}{hs:List (List Nat)}
include h
theorem Hy (h230:P 230=some {5,10,iO})(n:Nat)(f:xT p k e k2 e2)(hm:bg m)(hr:aY m r)(hh:∀x∈hs,aY m x)(hz:hs.length<=50)(t:f5 M p B k e k2 e2 m r hs)(hB:B<=600000) :
 af (ah P (n+18) 230 [.cell p,.fn (aM k),.fn (aM k2),m.d,.lst ((hs++[r]).map aR)] M) λd M'=>d=.bl true/\aC M' p (B+3+13):=by
 refine aq h230 rfl ?_;refine xO (kd:=λd M'=>∃u E,d=.tup [.lst (u.map aR),E]/\wd m hs r u E/\aC M' p (B+3)/\br p M M') ?_ ?_
 ·rw[aU (ae (ag rfl) (ae (ag rfl) (ae (ag rfl) rfl)))];exact pW h.p.toHasP0 h.e.toHasC0 (n+14) hm hr hz t.pen `a
 rintro _ M1 ⟨u,E,rfl,c,q1,k1⟩;obtain⟨H,l0,rfl⟩:=MV c;refine{_,rfl,?_};have t1:=t.keep f k1 q1;refine a7 (bP (iF (pB rfl))) ?_;rw[Rn];refine aw.mpr (dP.mpr (jr.mpr ?_));rw[da (xs:=(t9 H r.length).map λns:List Nat=>D.tup (ns.map nD)) (ae (ag rfl) (ae rfl (ae rfl (ae rfl (ae rfl (ae rfl (ae rfl (ae rfl (ae rfl (ae rfl (ae rfl (ae rfl (ae rfl rfl))))))))))))) (Rh rfl),bY];refine{rfl,?_};have I:∀ns∈(t9 H r.length),ns.length<=2:=by
  intro ns F;simp only[t9,Rv,RT,or_false] at F;rcases F with rfl|rfl|rfl|rfl|rfl|rfl|rfl|rfl|rfl|rfl|rfl|rfl|rfl<;>first|exact l0|exact Rh rfl
 generalize O:(t9 H r.length)=L at I;have lc:L.length=13:=by rw[<- O];rfl
 refine cP (λj Z M'=>∃J z,aY m J/\(∀x∈z,aY m x)/\z.length<=50+j/\f5 M' p (B+3+j) k e k2 e2 m J z/\∃X Y,Z=[some (.cell p),some (.fn (aM k)),some (.fn (aM k2)),some m.d,some (.lst ((hs++[r]).map aR)),some (.lst (u.map aR)),some (.tup (H.map nD)),some (nD r.length),X,Y]) (λ_ _ _ _=>rfl) ⟨r,hs,hr,hh,hz,t1,none,none,rfl⟩ ?_ ?_
 ·rintro j d Z M' hd ⟨J,z,R,Q,hz',t2,X,Y,rfl⟩;obtain⟨ns,F,rfl⟩:=RI.mp (RH hd);have hj:j<13:=by
   have:=(Rb.mp hd).1;rw[Rn,lc] at this;exact this
  refine{_,rfl,?_};obtain⟨v,r3,S,nx,sv⟩:=LC h.m h.o h.a h.e.toHasC0 h.s h.h75 h.h229 n (I ns F) hm R Q `a
  obtain⟨M3,M4,e3,e4,t4⟩:=BY f nx.go t2;refine i4 (ka ((aU (ae (ag rfl) (ae (ag rfl) rfl))).trans e3) ((aU (ae (ag rfl) (ae (ag rfl) rfl))).trans e4) (sv (n+14) M4)) ?_;refine dw h.p.toHasP0 (n+15) rfl rfl t4.pen `a `d `d λtn M5 _ q5 k5=>?_
  have t5:=t4.keep f k5 q5;obtain⟨_,M6,e6,rfl,U,s6⟩:=eE.mp (ny h.m h.o h.a h.e h.k (n+4) hm nx.row t5.a);have t6:=t5.sub s6;obtain⟨_,M7,e7,rfl,W,s7⟩:=eE.mp (ny h.m h.o h.a h.e h.k (n+4) hm nx.row t6.b);have t7:=t6.sub s7;refine i4 (ka ((aU (ae (ag rfl) (ae (ag rfl) rfl))).trans e6) ((aU (ae (ag rfl) (ae rfl rfl))).trans e7) (mx h.k (n+13) hm nx.row (U.sub51 s7) W)) ?_;exact{_,rfl,r3,S,nx.row,nx.all,Rp nx.len `a,t7,_,_,rfl}
 ·rintro Z M' ⟨J,z,_,_,_,t2,X,Y,rfl⟩;rw[Rn,lc] at t2;exact bJ.mpr (aZ rfl ⟨rfl,t2.pen⟩)
end
def pz {s:GA}{Z:Env}{M:Mem}{ds:List D}{c:Call}{f:Nat}{kd:D->Mem->Prop}(hs:s Z M=.ok ds M)(h:af (c f (.fn (aM M.length)::ds) (M++[[.int 40]])) λr M'=>r=.non/\kd (.fn (aM M.length)) M'):af (gk 40 f c s Z M) kd:=by
 obtain⟨r,M',e,rfl,q⟩:=eE.mp h;unfold gk;rw[hs];dsimp only;rw[show(M++[[D.int ((40:Nat):Int)]])=M++[[.int 40]] from rfl,e];exact q
section
variable{P:Nat->Option Df}{M:Mem}{m:a9}{d x v:D}
def BE (y:l9 P)(h90:P 90=some {2,4,cz})(n:Nat)(hd:Th k L d)(hk:k<=60)(j:L+1<=100)(u:hV d=false):ah P (n+6) 90 [d,x] M=.ok (.lst [.str "machine"]) M:=by
 refine ai (aq h90 rfl ?_);have h:=sk y n (M:=M) hd hk j;rw[u] at h;exact bh (bf (aP (ij rfl h))) rfl ⟨rfl,rfl⟩
def uF (ho:HasO0 P)(h75:P 75=some {1,3,cm})(h228:P 228=some {2,4,eB})(n:Nat)(h:v∈ji i)(e:ah P (n+1) 18 [d,x] (M++[[.int 40]])=.err v (M++[[.int 40]])):ah P (n+3) 228 [d,x] M=.ok (jg v) (M++[[.int 40]]):=by
 have j:ah P (n+2) 129 [.fn (aM M.length),d,x] (M++[[.int 40]])=.err v (M++[[.int 40]]):=by
  refine dG (eA ho.init rfl ?_);refine aw.mpr (fx.mpr ?_);rw[d8 (ae (ag rfl) (ae (ag rfl) rfl)),e];exact⟨rfl,rfl⟩
 have er:=lH h75 (n+1) (M:=M++[[.int 40]]) h;obtain⟨c,q,rfl⟩:=Ei h;refine ai (aq h228 rfl ?_);show af (eB (ah P (n+2)) [some d,some x,none,none] M) _;refine a7 (bP rfl) (aw.mpr (mz.mpr (aw.mpr (fx.mpr ?_))));have u:gk 40 129 (ah P (n+2)) #[aa 0,aa 1] ([some d,some x,none,none].set 2 (some .non)) M=.err (.exc c q) (M++[[.int 40]]):=by
  unfold gk;rw[ae (ag rfl) (ae (ag rfl) rfl)];dsimp only;rw[show(M++[[D.int ((40:Nat):Int)]])=M++[[.int 40]] from rfl,j]
 rw[u];exact aZ (fM rfl (λz=>nomatch z) λ_=>ij rfl er) ⟨rfl,rfl⟩
def CS (h:HasM P)(ho:HasO0 P)(h228:P 228=some {2,4,eB})(n:Nat)(u:bR M x r)(hm:bg m)(hr:aY m r):ah P (n+11) 228 [m.d,x] M=.ok .non (M++[[.int 40,m.d,aR r,.cell (M.length+1)],[]]):=by
 have j:=q8 h ho n u hm hr;refine ai (aq h228 rfl ?_);show af (eB (ah P (n+10)) [some m.d,some x,none,none] M) _;refine a7 (bP rfl) (aw.mpr (mz.mpr (aw.mpr (fx.mpr ?_))));refine va (pz (ae (ag rfl) (ae (ag rfl) rfl)) ?_);rw[j];refine{rfl,bJ.mpr (kM.mpr ?_)};dsimp only[CA,List.set];rw[bJ];exact aZ (fM rfl (λ_=>rfl) λz=>nomatch z) ⟨rfl,rfl⟩
def LV (h:ER P)(h90:P 90=some {2,4,cz})(h228:P 228=some {2,4,eB})(hd:Th kd Ld d)(E:kd<=60)(F:Ld<=90)(u:Th (k+1) L x)(z:L<=900000) :
 ∃v M',ah P 39 228 [d,x] M=.ok v M'/\Sub M M'/\(∀M,ah P 39 90 [d,x] M=.ok v M)/\∀M,ah P 39 40 [v,v] M=.ok (.bl true) M:=by
 cases B:hV d with
 | false=>
   exact{_,_,uF h.o.toHasO0 h.h75 h228 36 (i:=0) (by simp[ji]) (C7 h.m.toHasM0 28 hd `a B),.app,λM=>BE h.w h90 33 hd E `a B,λM=>uM h.s 37 `k}
 | true=>
   obtain⟨m,rfl,hm⟩:=IF B;have j:=C6 (m:=m) u;generalize Ku m x=v at j;by_cases hn:v=.non
   ·subst hn;have y:=λM=>Aw (M:=M) h.w h90 33 hm u z j;cases j with
    | ok r hr=>
      exact{_,_,CS h.m h.o.toHasO0 h228 28 .l hm hr,.app,y,λM=>pZ h.s 38}
   ·obtain⟨i,H⟩:=C3 j hn;exact{_,_,uF h.o.toHasO0 h.h75 h228 36 H (DF h.m.toHasM0 28 hm u z j hn),.app,λM=>Aw h.w h90 33 hm u z j,λM=>AG h.s 37 j hn}
end
def B2 (h:t Z M=.ok false M):dX t u Z M=.ok false M:=by unfold dX;rw[h];rfl
def oN:aG false #[gC (.str z)] Z M=.ok (.lst [.str z]) M:=da (ae rfl rfl) (Rh rfl)
def DG (j:ax 64 (.lst [.str a])=true)(u:ax 64 (.lst [.str b])=true)(h:cS (.lst [.str a]) (.lst [.str b])=v):bw .ne (.lst [.str a]) (.lst [.str b]) M=some (!v):=lj j u h
def rk (e:g8 m l z ds=some c):bw .ne (jg (.exc c none)) (.lst [.str "told"]) M=some true/\bw .ne (jg (.exc c none)) (jg (.exc c none)) M=some false:=by
 rcases vF e with rfl|rfl|rfl|rfl<;>exact{DG (v:=false) `k `k `k,DG (v:=true) `k `k `k}
def DH:bw .ne (.lst [.str "told"]) (.lst [.str "told"]) M=some false:=DG (v:=true) `k `k `k
structure qW (P:Nat->Option Df):Prop where
 g:ER P
 row:P 35=some {3,6,fO}
 bent:HasT P
 h90:P 90=some {2,4,cz}
 h226:P 226=some {2,4,fm}
 h227:P 227=some {3,4,jl}
 h228:P 228=some {2,4,eB}
 h230:P 230=some {5,10,iO}
 law:P 231=some {1,19,n9}
section
variable{P:Nat->Option Df}(h:qW P){M:Mem}{k e:Nat}{m:a9}{r:List Nat}{hs:List (List Nat)}{k0 L:Nat}
include h
theorem EB (hk:k0<=60)(hd:∀d∈ds,Th k0 L d)(hl:ds.length<=2)(hr:r.length<=40)(hz:hs.length<=1000)(s:aW M k e m r hs) :
 af (Gk (ah P 39) [x0,x1,x2,some m.d,x4,some (.fn (aM k)),x6,some (.lst ((hs++[r]).map aR)),x8,some (.tup ds),x10,x11,x12,x13,x14,x15,x16,x17,x18] M) λfl M'=>M'=M/\∃j,fl=.next [x0,x1,x2,some m.d,x4,some (.fn (aM k)),x6,some (.lst ((hs++[r]).map aR)),x8,some (.tup ds),x10,x11,x12,x13,j,x15,x16,x17,x18]:=by
 refine a7 (bP ((aU (ae (ag rfl) (ae (ag rfl) (ae (ag rfl) rfl)))).trans (Hz h.g.w h.h227 36 hk hd hl hr hz))) ?_;cases q:g8 m r.length hs.isEmpty ds with
 |none=>exact ao (B2 (aP (bN (ag rfl) oN DH))) {rfl,_,rfl}
 |some c=>exact ao (gY (aP (bN (ag rfl) oN (rk q).1)) (aP (bN ((aU (ae (ag rfl) (ae (ag rfl) rfl))).trans (sh h.g.m h.g.o h.g.e.toHasC0 h.g.h75 h.h226 34 hk hd q s)) (ag rfl) (rk q).2))) {rfl,_,rfl}
theorem Dx {os:List D}(hk:k0<=60)(ho:∀d∈os,Th k0 L d)(J:Th k0 L place)(lo:os.length<=20)(hr:r.length<=40)(hz:hs.length<=1000)(s:aW M k e m r hs) :
 af (Fw (ah P 39) [x0,x1,x2,some m.d,x4,some (.fn (aM k)),x6,some (.lst ((hs++[r]).map aR)),x8,x9,x10,x11,some (.lst os),some place,x14,x15,x16,x17,x18] M) λfl M'=>M'=M/\∃v u,fl=.next [x0,x1,x2,some m.d,x4,some (.fn (aM k)),x6,some (.lst ((hs++[r]).map aR)),x8,v,x10,x11,some (.lst os),some place,u,x15,x16,x17,x18]:=by
 refine aw.mpr (dP.mpr (jr.mpr (c9.mpr ?_)));rw[da (ae (dJ (ae (ag rfl) rfl) (Rh rfl)) rfl) (Rh rfl),bY];refine gn.mpr (jr.mpr (a8.mpr {_,rfl,rfl,gW (λx=>.tup [place,x]) (av `a) rfl (λx E=>{_,rfl,dJ (ae (ag rfl) (ae (ag rfl) rfl)) (Rh rfl)}) ?_}))
 refine bx.mpr {av (by rw[Rn];omega),lq.mpr (bx.mpr {av `o,rfl,?_})}
 refine cP (λj I M'=>M'=M/\∃v u,I=[x0,x1,x2,some m.d,x4,some (.fn (aM k)),x6,some (.lst ((hs++[r]).map aR)),x8,v,x10,x11,some (.lst os),some place,u,x15,x16,x17,x18]) (λ_ _ _ _=>rfl) {rfl,_,_,rfl} ?_ ?_
 ·rintro j d I M' hd ⟨rfl,v,u,rfl⟩;obtain⟨B,O,F,Q⟩:∃B,d=.tup B/\(∀x∈B,Th k0 L x)/\B.length<=2:=by
   rcases RK.mp (RH hd) with z|z
   ·exact{_,RA.mp z,λx E=>by rw[RA.mp E];exact J,Rh rfl}
   ·obtain⟨x,E,rfl⟩:=RI.mp z;refine{_,rfl,λy H=>?_,Rh rfl};rcases Rv.mp H with rfl|H
    ·exact J
    ·rw[RA.mp H];exact ho x E
  subst O;refine{_,rfl,aN (EB h hk F Q hr hz s) ?_};rintro fl S ⟨rfl,R,rfl⟩;exact{_,rfl,rfl,_,_,rfl}
 ·rintro I M' ⟨rfl,v,u,rfl⟩;exact{rfl,_,_,rfl}
end
section
variable{P:Nat->Option Df}(h:qW P){M:Mem}{p B:Nat}{m:a9}{r0:List Nat}
include h
theorem IE (hd:Th 7 7 d)(u:Th 3 200 x) :
 af (LU (ah P 39) [x0,x1,x2,x3,x4,x5,x6,x7,x8,x9,x10,x11,x12,x13,x14,some d,x16,x17,some x] M) λfl M'=>Sub M M'/\fl=.next [x0,x1,x2,x3,x4,x5,x6,x7,x8,x9,x10,x11,x12,x13,x14,some d,x16,x17,some x]:=by
 obtain⟨v,M',e1,S,e2,j⟩:=LV h.g h.h90 h.h228 hd `d `d u `d
 exact i4 (ka ((aU (ae (ag rfl) (ae (ag rfl) rfl))).trans e1) ((aU (ae (ag rfl) (ae (ag rfl) rfl))).trans (e2 M')) (j M')) ⟨S,rfl⟩
theorem EK (hd:Th 7 7 d)(hm:bg m)(hr:aY m r0)(X:aC M p B)(hB:B<=600000) :
 af (Gu (ah P 39) [x0,some (.cell p),x2,some m.d,some (aR r0),x5,x6,x7,x8,x9,x10,x11,x12,x13,x14,some d,x16,x17,x18] M) λfl M'=>aC M' p (B+20)/\∃J O v,fl=.next [x0,some (.cell p),x2,some m.d,some (aR r0),x5,x6,x7,x8,x9,x10,x11,x12,x13,x14,some d,J,O,v]:=by
 have Y:=hr.1;have lm:(r0.map nD).length=r0.length:=Rn ..;have F:∀y∈r0.map nD,Th 2 200 y:=λy u=>by obtain⟨i,_,rfl⟩:=RI.mp u;trivial
 refine dw h.g.p.toHasP0 37 rfl (IH rfl) X `a `a `a λat_ M1 W q1 k1=>?_
 refine cv (k:=λd M'=>∃os,d=.lst os/\Th 3 200 (.lst os)/\aC M' p (B+7)) ?_ ?_
 ·refine c9.mpr (c9.mpr (c9.mpr ?_));rw[Nv rfl rfl `a,bY]
  refine iV.mpr (bc.mpr ?_);rw[aU (ae (ag rfl) (ae rfl (ae rfl rfl)))];refine aN (nz h.g.p h.bent h.g.w 0 33 (k:=0) (L:=6) `d trivial `d `d `d q1 `a) ?_
  rintro x U ⟨H,I,k2⟩;refine bF.mpr (bx.mpr {av (n:=1) `d,lq.mpr (bx.mpr {av `o,?_})})
  rw[IP rfl rfl `a,bY]
  refine lq.mpr (bx.mpr {av `o,?_})
  rw[da (ae rfl rfl) (Rh rfl),bY];have R:((r0.map nD).take at_++[x]++(r0.map nD).drop at_++[D.int (-1)]).length<=200:=by simp;omega
  refine lq.mpr (bx.mpr {av (Rp R `d),_,rfl,.lst_of R λy u=>?_,I})
  rcases RK.mp u with z|z
  ·rcases RK.mp z with z|z
   ·rcases RK.mp z with z|z
    ·exact F y (R9 z)
    ·rw[RA.mp z];exact H.mono `d `d
   ·exact F y (SK z)
  ·rw[RA.mp z];trivial
 rintro _ U ⟨os,rfl,ho,I⟩;refine aw.mpr (dP.mpr (jr.mpr (iV.mpr (bc.mpr (a8.mpr {_,rfl,bc.mpr (c9.mpr (a8.mpr {_,rfl,iV.mpr (bc.mpr ?_)}))})))));rw[aU (ae (ag rfl) (ae rfl (ae rfl rfl)))];refine aN (nz h.g.p h.bent h.g.w 0 33 (k:=0) (L:=6) (d:=.int 0) `d trivial `d `d `d I `a) ?_
 rintro x M3 ⟨H,q3,k3⟩;refine bF.mpr (bx.mpr {av (n:=1) `d,lq.mpr (bx.mpr {av `o,?_})})
 rw[ae (x:=.lst os) (ag rfl) (ae (x:=.lst (List.replicate 41 (D.int 0))) rfl (ae (x:=.non) rfl (ae (x:=.tup (r0.map nD)) rfl rfl))),bY];refine bx.mpr {av (n:=6) `d,rfl,?_}
 refine cP (ds:=[aR r0,.lst (r0.map nD++[x]),.lst os,.lst (List.replicate 41 (D.int 0)),.non,.tup (r0.map nD)]) (λj Q M'=>aC M' p (B+20)/\∃v,Q=[x0,some (.cell p),x2,some m.d,some (aR r0),x5,x6,x7,x8,x9,x10,x11,x12,x13,x14,some d,some (nD at_),some (.lst os),v]) (λ_ _ _ _=>rfl) {q3.mono `a,_,rfl} ?_ ?_
 ·rintro j y Q M' u ⟨q,v,rfl⟩;have E:Th 3 200 y:=by
   replace u:=RH u;simp only[Rv,RT,or_false] at u;rcases u with rfl|rfl|rfl|rfl|rfl|rfl
   ·exact .lst_of `a F
   ·refine .lst_of `o λy u=>?_
    rcases RK.mp u with z|z
    ·exact F y z
    ·rw[RA.mp z];exact H.mono `d `d
   ·exact ho
   ·exact .lst_of (Rh rfl) λy u=>by rw[List.eq_of_mem_replicate u];trivial
   ·trivial
   ·exact .tup_of `a F
  refine{_,rfl,aN (IE h hd E) ?_};rintro fl M4 ⟨S,rfl⟩;exact{_,rfl,S.pen q,_,rfl}
 ·rintro Q M' ⟨q,v,rfl⟩;exact{q,_,_,_,rfl}
end
def mM (m:a9)(l:Nat):List D:=[.int (-1),nD l,nD (l+1),nD 0,.int (10^20),.bl true,.bl false,.non,.str "0",.lst [.int 0],.tup [.int 0],.lst [],.int ((m.deeds.map bb.d).length:Int)]
def N0 (h:t Z M=.ok false M):cV t u Z M=u Z M:=by unfold cV;rw[h];rfl
def Ir (e:a Z M=.ok (.bl true) M1):(bo (au a):GT) Z M=.ok false M1:=by
 refine aT (xZ.mpr (iP.mpr ?_));rw[e];exact⟨true,rfl,rfl,rfl⟩
section
variable{P:Nat->Option Df}(h:qW P){M:Mem}{p B k e k2 e2:Nat}{m:a9}{r r0:List Nat}{hs:List (List Nat)}
include h
theorem zY (f:xT p k e k2 e2)(hm:bg m)(W:aY m r0)(hr:aY m r)(hh:∀x∈hs,aY m x)(hz:hs.length<=50)(t:f5 M p B k e k2 e2 m r hs)(hB:B<=500000) :
 af (zZ (ah P 39) [x0,some (.cell p),x2,some m.d,some (aR r0),some (.fn (aM k)),some (.fn (aM k2)),some (.lst ((hs++[r]).map aR)),x8,x9,x10,x11,x12,x13,x14,x15,x16,x17,x18] M) λfl M'=>aC M' p (B+200)/\∃y3 y4 y5 y6 y7 y8 R y10 y11 y12 u E F H I J,fl=.next [x0,some (.cell p),x2,y3,y4,y5,y6,y7,y8,R,y10,y11,y12,u,E,F,H,I,J]:=by
 have X:=hr.1;refine cv (k:=λd M'=>∃g,d=.cell g/\jd M' g m r (λ_=>True)/\f5 M' p (B+1) k e k2 e2 m r hs) ?_ ?_
 ·refine gp.mpr (bc.mpr (a8.mpr {_,rfl,bc.mpr ?_}));refine aN (fc h.g.p.toHasP0 37 (many:=6) rfl rfl t.pen `a `d `d) ?_
  rintro _ M1 ⟨tn,rfl,_,q1,k1⟩;have t1:=t.keep f k1 q1;refine bF.mpr ?_;refine aN (ny h.g.m h.g.o h.g.a h.g.e h.g.k 26 hm hr t1.a) ?_;rintro _ M2 ⟨rfl,lk,S⟩;exact{_,rfl,lk,t1.sub S}
 rintro _ M1 ⟨g,rfl,Y,t1⟩;refine a7 (bP (iF (xs:=r.map nD) (pB rfl))) ?_;rw[Rn];refine a7 (bP (da (xs:=(mM m r.length)) (ae rfl (ae rfl (ae rfl (ae rfl (ae rfl (ae rfl (ae rfl (ae rfl (ae rfl (ae rfl (ae rfl (ae rfl (ae rfl rfl))))))))))))) (Rh rfl))) ?_;have O:∀x∈(mM m r.length),Th 3 200 x:=by
  intro x hx;simp only[mM,Rv,RT,or_false] at hx;rcases hx with rfl|rfl|rfl|rfl|rfl|rfl|rfl|rfl|rfl|rfl|rfl|rfl|rfl<;>first|trivial|exact pV `k
 have ol:(mM m r.length).length<=20:=Rh rfl;generalize (mM m r.length)=os at O ol ⊢;refine aw.mpr (dP.mpr (jr.mpr (a8.mpr {_,rfl,rfl,?_})));refine cP (ds:=os) (λj Q M'=>M'=M1/\∃R u E,Q=[x0,some (.cell p),x2,some m.d,some (aR r0),some (.fn (aM k)),some (.fn (aM k2)),some (.lst ((hs++[r]).map aR)),x8,R,some (.cell g),some (nD r.length),some (.lst os),u,E,x15,x16,x17,x18]) (λ_ _ _ _=>rfl) {rfl,_,_,_,rfl} ?_ ?_
 ·rintro j d Q M' hd ⟨rfl,R,u,E,rfl⟩;refine{_,rfl,aN (Dx h `d O (O d (RH hd)) ol X `a t1.a) ?_}
  rintro fl M2 ⟨rfl,z9,z14,rfl⟩;exact{_,rfl,rfl,_,_,_,rfl}
 rintro Q M' ⟨rfl,R,u,E,rfl⟩;refine bJ.mpr ?_;obtain⟨_,M2,U,rfl,lk2,S2⟩:=eE.mp (ny h.g.m h.g.o h.g.a h.g.e h.g.k 26 (t:=1) hm hr t1.a);have t2:=t1.sub S2;refine i4 ((N0 ?_).trans (ka ((aU (ae (ag rfl) (ae rfl rfl))).trans U) (ag (x:=.cell g) rfl) (mx h.g.k 35 hm hr lk2 (Y.sub51 S2)))) ?_
 ·cases hs with
  | cons a b=>
    refine B2 (aP (bN (iF (ag rfl)) rfl (v:=false) ?_));show some (((((a::b++[r]).map aR).length:Nat):Int)==1)=some false;rw[RJ.mpr (show ¬ ((((a::b++[r]).map aR).length:Nat):Int)=1 by simp;omega)]
  | nil=>
    have q:g8 m r.length ([]:List (List Nat)).isEmpty []=some 11:=rfl;refine gY (x:=true) (y:=false) (aP (bN (iF (ag rfl)) rfl rfl)) (aP (bN ((aU (ae (ag rfl) (ae (x:=.tup []) rfl rfl))).trans (sh h.g.m h.g.o h.g.e.toHasC0 h.g.h75 h.h226 34 (k0:=2) (L:=2) `d (λ_ z=>nomatch z) q t1.a)) oN (rk q).2))
 obtain⟨_,M3,e3,rfl,q3⟩:=eE.mp (Hy h.g h.h230 21 f hm hr hh hz t2 `a)
 refine i4 (Ir ((aU (ae (ag rfl) (ae (ag rfl) (ae (ag rfl) (ae (ag rfl) (ae (ag rfl) rfl)))))).trans e3)) ?_;refine aw.mpr (dP.mpr (jr.mpr (iV.mpr (bc.mpr (a8.mpr {_,rfl,bc.mpr ?_})))));rw[aU (ae (x:=.cell p) (ag rfl) (ae (x:=m.d) (ag rfl) (ae rfl rfl)))];refine aN (nz h.g.p h.bent h.g.w 5 28 `d (k9 hm) `d `d `d q3 `a) ?_
 rintro bad M4 ⟨tb,q4,k4⟩;refine bF.mpr (bx.mpr {av (n:=2) `d,rfl,?_})
 have tm:Th 7 7 m.d:=(k9 hm).mono `d `d
 refine cP (ds:=[m.d,bad]) (λj Q M'=>aC M' p (B+60+20*j)/\∃F H I J,Q=[x0,some (.cell p),x2,some m.d,some (aR r0),some (.fn (aM k)),some (.fn (aM k2)),some (.lst ((hs++[r]).map aR)),x8,R,some (.cell g),some (nD r.length),some (.lst os),u,E,F,H,I,J]) (λ_ _ _ _=>rfl) {q4.mono `a,_,_,_,_,rfl} ?_ ?_
 ·rintro j d Q M' hd ⟨q,F,H,I,J,rfl⟩;have hj:j<2:=(Rb.mp hd).1;have td:Th 7 7 d:=by
   rcases Rv.mp (RH hd) with rfl|z
   ·exact tm
   ·rw[RA.mp z];exact tb
  refine{_,rfl,aN (EK h td hm W q `a) ?_}
  rintro fl M6 ⟨q6,z16,z17,z18,rfl⟩;exact{_,rfl,q6.mono `a,_,_,_,_,rfl}
 ·rintro Q M' ⟨q,F,H,I,J,rfl⟩;exact{q.mono (show _<=B+200 by simp),_,_,_,_,_,_,_,_,_,_,_,_,_,_,_,_,rfl}
end
section
variable{P:Nat->Option Df}(h:qW P){M:Mem}{p B k e k2 e2:Nat}{m:a9}{r r0:List Nat}{hs:List (List Nat)}
include h
theorem EC (f:xT p k e k2 e2)(hm:bg m)(hr:aY m r)(hh:∀x∈hs,aY m x)(hz:hs.length<=40)(t:f5 M p B k e k2 e2 m r hs)(Q:B<=500000) :
 af (Gm (ah P 39) [x0,some (.cell p),x2,some m.d,x4,some (.fn (aM k)),some (.fn (aM k2)),some (.lst ((hs++[r]).map aR)),x8,x9,x10,x11,x12,x13,x14,x15,x16,x17,x18] M) λfl M'=>∃r' hs',aY m r'/\(∀x∈hs',aY m x)/\hs'.length<=hs.length+1/\f5 M' p (B+3) k e k2 e2 m r' hs'/\∃I,fl=.next [x0,some (.cell p),x2,some m.d,x4,some (.fn (aM k)),some (.fn (aM k2)),some (.lst ((hs'++[r']).map aR)),x8,I,x10,x11,x12,x13,x14,x15,x16,x17,x18]:=by
 refine xO (kd:=λd M'=>∃j u,d=.tup [.lst (j.map aR),u]/\wd m hs r j u/\aC M' p (B+3)/\br p M M') ?_ ?_
 ·rw[aU (ae (ag rfl) (ae (ag rfl) (ae (ag rfl) rfl)))];exact pW h.g.p.toHasP0 h.g.e.toHasC0 36 hm hr `a t.pen `a
 rintro _ J ⟨j,u,rfl,c,F,k1⟩;refine{_,rfl,?_};have t1:=t.keep f k1 F;obtain⟨hs',r',rfl,y,v,ll,go⟩:=xr h.g.m h.g.o h.g.a h.g.e.toHasC0 23 hm hr hh `a c
 obtain⟨L,O,z,E,H⟩:=BY f go t1;refine aw.mpr (fx.mpr ?_);rw[d8 (ae (ag rfl) (ae (ag rfl) rfl)),z];refine u9.mpr (bJ.mpr (aw.mpr (fx.mpr ?_)));rw[d8 (ae (ag rfl) (ae (ag rfl) rfl)),E];refine u9.mpr (bJ.mpr ?_);exact{r',hs',y,v,ll,H,_,rfl}
theorem zU (hp:aC M p B)(hB:B<=10000) :
 af (zX (ah P 39) [x0,some (.cell p),some (nD tn),x3,x4,x5,x6,x7,x8,x9,x10,x11,x12,x13,x14,x15,x16,x17,x18] M) λfl M'=>aC M' p (B+1000)/\∃y3 y4 y5 y6 y7 W X H I J L O Q R S U,fl=.next [x0,some (.cell p),some (nD tn),y3,y4,y5,y6,y7,W,X,H,I,J,L,O,Q,R,S,U]:=by
 refine cv (k:=λd M'=>∃m:a9,d=m.d/\bg m/\aC M' p (B+300)) ?_ ?_
 ·refine gp.mpr (bc.mpr ?_);rw[aU (ae (ag rfl) rfl)];refine aN (HC h.g.p.toHasP0 38 hp) ?_;rintro _ M1 ⟨rfl,p1,k1⟩;show af (ah P 39 34 [.cell p,nD 4,nD 2,nD 6] M1) _;refine aN (yf h.g.p 34 p1 `a `d `d `d `d `d `d) ?_
  rintro d j ⟨m,e,hm,_,_,_,p2,_⟩;exact⟨m,e,hm,p2⟩
 rintro _ M1 ⟨m,rfl,hm,p1⟩;refine cv (k:=λd M'=>∃r:List Nat,d=aR r/\aY m r/\r.length<=6/\aC M' p (B+350)) ?_ ?_
 ·rw[aU (ae (ag rfl) (ae (ag rfl) (ae rfl rfl)))];refine aN (Hm h.g.p h.row 36 hm p1 `a `d) ?_
  rintro d j ⟨r,e,hr,h8,p2,_⟩;exact⟨r,e,hr,h8,p2⟩
 rintro _ j ⟨r,rfl,hr,h8,p2⟩;have E:∀(r1:List Nat) (j:Mem),aY m r1->aC j p (B+351)->af (uL (ah P 39) [x0,some (.cell p),some (nD tn),some m.d,some (aR r1),x5,x6,x7,x8,x9,x10,x11,x12,x13,x14,x15,x16,x17,x18] j) λfl M'=>aC M' p (B+1000)/\∃y3 y4 y5 y6 y7 W X H I J L O Q R S U,fl=.next [x0,some (.cell p),some (nD tn),y3,y4,y5,y6,y7,W,X,H,I,J,L,O,Q,R,S,U]:=by
  intro r1 j u p2;unfold uL;have lp:=p2.lt;have l40:=u.1;have lst:∀{Y:Env}{M:Mem},Y[4]?.getD none=some (aR r1)->aI (.list false) #[aa 4] Y M=.ok (aR r1) M:=λ{Y M} e=>by
   rw[jY (ae (ag e) dR)];exact ai ((bR.l).list.mpr (bx.mpr {av (by rw[Rn];omega),rfl,rfl}))
  refine rW (kd:=λd M'=>d=.fn (aM j.length)/\M'=j++[[.int 40,m.d,aR r1,.cell (j.length+1)],[]]) ?_ ?_
  ·refine pz (ae (ag rfl) (ae (lst rfl) dR)) ?_;rw[q8 h.g.m h.g.o.toHasO0 29 (x:=aR r1) .l hm u];exact⟨rfl,rfl,rfl⟩
  rintro _ _ ⟨rfl,rfl⟩;refine rW (kd:=λd M'=>d=.fn (aM (j.length+2))/\M'=j++[[.int 40,m.d,aR r1,.cell (j.length+1)],[]]++[[.int 40,m.d,aR r1,.cell (j.length+3)],[]]) ?_ ?_
  ·refine pz (ae (ag rfl) (ae (lst rfl) dR)) ?_;rw[q8 h.g.m h.g.o.toHasO0 29 (x:=aR r1) .l hm u,RO];exact⟨rfl,rfl,rfl⟩
  rintro _ _ ⟨rfl,rfl⟩;have F:f5 (j++[[.int 40,m.d,aR r1,.cell (j.length+1)],[]]++[[.int 40,m.d,aR r1,.cell (j.length+3)],[]]) p (B+351) j.length (j.length+1) (j.length+2) (j.length+3) m r1 []:={p2.app.app,{`s,`s},{`s,`s}}
  have fr:xT p j.length (j.length+1) (j.length+2) (j.length+3):={lp,`a,`a,`a,`a,`a,`a,`a}
  generalize j++[[.int 40,m.d,aR r1,.cell (j.length+1)],[]]++[[.int 40,m.d,aR r1,.cell (j.length+3)],[]]=M3 at F ⊢;generalize j.length+1=e at F fr;generalize j.length+3=e2 at F fr;generalize j.length+2=k2 at F fr ⊢;generalize j.length=k at F fr ⊢;refine a7 (bP (da (xs:=[aR r1]) (ae (ag rfl) rfl) (Rh rfl))) ?_;refine aw.mpr (dP.mpr (iZ.mpr ?_));refine aN (fc h.g.p.toHasP0 37 (many:=4) rfl rfl F.pen `a `d `d) ?_
  rintro _ M4 ⟨v,rfl,hv,q4,k4⟩;have t4:=F.keep fr k4 q4;refine{_,rfl,{`a,`a},?_}
  refine cP (ds:=(List.range ((v:Nat):Int).toNat).map λ(k:Nat)=>D.int (k:Int)) (λi Y M'=>∃r hs,aY m r/\(∀x∈hs,aY m x)/\hs.length<=i/\f5 M' p (B+352+3*i) k e k2 e2 m r hs/\∃W X,Y=[x0,some (.cell p),some (nD tn),some m.d,some (aR r1),some (.fn (aM k)),some (.fn (aM k2)),some (.lst ((hs++[r]).map aR)),W,X,x10,x11,x12,x13,x14,x15,x16,x17,x18]) (λ_ _ _ _=>rfl) {r1,[],u,(λ_ z=>nomatch z),Rj _,t4,_,_,rfl} ?_ ?_
  ·rintro i d Y M' hd ⟨r,hs,hr,hh,hz,t,W,X,rfl⟩;have hi:i<4:=by
    have:=(Rb.mp hd).1;simp at this;omega
   refine{_,rfl,aN (EC h fr hm hr hh `a t `a) ?_}
   rintro fl M5 ⟨r',hs',hr',hh',ll,t',z9,rfl⟩;exact{_,rfl,r',hs',hr',hh',`a,t',_,_,rfl}
  ·rintro Y M' ⟨r,hs,hr,hh,hz,t,W,X,rfl⟩;simp only[Rn,SN] at hz t;refine bJ.mpr (aN (zY h fr hm u hr hh `a t `a) ?_)
   rintro fl M5 ⟨q,y⟩;exact{q.mono `a,y}
 refine bu (ib rfl) (λ_=>?_) (λ_=>E r j hr (p2.mono `a))
 refine cv (k:=λd M'=>∃r1:List Nat,d=aR r1/\aY m r1/\aC M' p (B+351)) ?_ ?_
 ·refine fN.mpr ?_;rw[iv (xs:=r.map nD) (ys:=List.replicate 40 (D.int 0)) (ag rfl) rfl `o,bY]
  refine cX.mpr (c9.mpr (cX.mpr ?_));refine aN (fc h.g.p.toHasP0 37 (many:=2) rfl rfl p2 `a `d `d) ?_
  rintro _ M3 ⟨v,rfl,hv,q3,k3⟩;refine jb.mpr {rfl,rfl,?_};rw[show D.int ((39:Int)+(v:Int))=nD (39+v) from congrArg D.int `a]
  refine wL.mpr {av `o,(r++List.replicate 40 0).take (39+v),?_,{by rw[Se];omega,λi hi=>?_},q3}
  ·rw[aR,Tg,SF,List.map_replicate];rfl
  ·rcases RK.mp (R9 hi) with z|z
   ·exact hr.2 i z
   ·rw[(List.mem_replicate.mp z).2];exact hm.d1
 rintro _ M3 ⟨r1,rfl,u,q3⟩;exact bJ.mpr (E r1 M3 u q3)
omit h in
theorem Oa (h:qW P)(ns:List Int)(hn:ns.length<=63):∃M,ah P 40 231 [.frz (ns.map D.int)] []=.ok (.bl true) M:=by
 have L:af (ah P 40 231 [.frz (ns.map D.int)] []) λd _=>d=.bl true:=by
  refine aq h.law rfl ?_;show af (n9 (ah P 39) [some (.frz (ns.map D.int)),none,none,none,none,none,none,none,none,none,none,none,none,none,none,none,none,none,none] []) _;unfold n9;refine cv (k:=λd J=>d=.cell 1/\aC J 1 0) ?_ ?_
  ·rw[aU (ae (ag rfl) dR)];exact Hu h.g.p.toHasP0 38 hn
  rintro _ M1 ⟨rfl,p1⟩;refine aw.mpr (dP.mpr (iZ.mpr (cX.mpr {3,rfl,{`d,`d},?_})))
  refine cP (ds:=(List.range 3).map λ(k:Nat)=>D.int (k:Int)) (λi Z J=>aC J 1 (1000*i)/\∃O Q R S U W X Y j u v y z E F H I,Z=[some (.frz (ns.map D.int)),some (.cell 1),O,Q,R,S,U,W,X,Y,j,u,v,y,z,E,F,H,I]) (λ_ _ _ _=>rfl) {p1,_,_,_,_,_,_,_,_,_,_,_,_,_,_,_,_,_,rfl} ?_ ?_
  ·rintro i d Z J hd ⟨hp,O,Q,R,S,U,W,X,Y,j,u,v,y,z,E,F,H,I,rfl⟩;have hi:i<3:=(Rb.mp hd).1;rw[R5,List.getElem?_range hi] at hd;cases hd;refine{_,rfl,aN (zU h hp `a) ?_}
   rintro fl M2 ⟨p2,z3,z4,z5,z6,z7,z8,z9,z10,z11,z12,z13,z14,z15,z16,z17,z18,rfl⟩;exact{_,rfl,p2.mono `a,_,_,_,_,_,_,_,_,_,_,_,_,_,_,_,_,_,rfl}
  ·rintro Z J ⟨hp,O,Q,R,S,U,W,X,Y,j,u,v,y,z,E,F,H,I,rfl⟩;exact bJ.mpr (aZ rfl rfl)
 obtain⟨d,M,e,rfl⟩:=eE.mp L;exact⟨M,e⟩
end
end LD
end
set_option maxHeartbeats 0
namespace K51
open PySem PySem.Spec PyProof.Rows L2 LD
noncomputable def top (i:Nat):Stmt:=PySem.Challenge.pw_leastdeeds_k51_changes_refused.main.body.getD i (.Pass {0,0,0,0})
noncomputable def q0:Str×Tok:=("__main__",164)
noncomputable def q1:Str×Tok:=("leastdeeds.wholes",465)
noncomputable def q2:Str×Tok:=("leastdeeds.machines",476)
noncomputable def q3:Str×Tok:=("leastdeeds.runs",653)
noncomputable def q4:Str×Tok:=("leastdeeds.alike",748)
noncomputable def q5:Str×Tok:=("leastdeeds.shop",764)
noncomputable def q6:Str×Tok:=("law_leastdeeds_k51_changes_refused",867)
noncomputable def tb:List Ent:=[{128,"_wall",top 0,1,["k"],21,q0,Jv,false,none,0},
 {0,"is_between",top 18,3,["thing","low","high"],230,q1,fD,false,none,0},
 {1,"is_word",top 26,2,["words","thing"],237,q2,i9,false,none,0},
 {2,"is_place",top 27,2,["places","thing"],244,q2,iq,false,none,0},
 {3,"is_cost",top 28,1,["thing"],251,q2,ja,false,none,0},
 {4,"is_tuple_of",top 29,2,["long","thing"],258,q2,fe,false,none,0},
 {5,"is_table",top 30,2,["words","thing"],263,q2,ip,false,none,0},
 {6,"is_double_table",top 31,2,["words","thing"],268,q2,dA,false,none,0},
 {7,"is_turn",top 32,3,["words","places","parts","at","table","price"],275,q2,fA,false,none,0},
 {8,"is_join",top 33,3,["words","places","parts","at","other","table","price"],282,q2,fC,false,none,0},
 {9,"is_move",top 34,3,["words","places","parts","at","other","price"],289,q2,fB,false,none,0},
 {10,"is_put",top 35,3,["words","places","parts","at","word","price"],296,q2,gO,false,none,0},
 {11,"is_deed",top 37,3,["words","places","thing","sort","is_sort"],304,q2,dH,false,none,0},
 {12,"is_machine",top 38,1,["thing","words","places","deeds"],309,q2,ir,false,none,0},
 {13,"need_machine",top 39,1,["thing"],316,q2,c7,true,none,0},
 {15,"beginnings",top 40,1,["machine","words","places","deeds","starts","place"],321,q2,dS,true,none,0},
 {16,"is_deed_number",top 41,2,["machine","thing"],328,q2,eZ,false,none,0},
 {17,"need_numbers",top 42,2,["machine","row","place","thing"],335,q2,cj,true,none,0},
 {18,"need_row",top 43,2,["machine","row"],342,q2,dF,true,none,0},
 {47,"summed_cost",top 44,2,["machine","row"],347,q2,gA,false,none,0},
 {20,"turned",top 46,2,["deed","standing","sort","at","table","price"],354,q3,l5,false,none,0},
 {21,"joined",top 47,2,["deed","standing","sort","at","other","table","price"],361,q3,l8,false,none,0},
 {22,"moved",top 48,2,["deed","standing","sort","at","other","price"],368,q3,n8,false,none,0},
 {23,"put_in",top 49,2,["deed","standing","sort","at","word","price"],375,q3,l6,false,none,0},
 {24,"done",top 51,2,["deed","standing","new_word","at"],383,q3,qN,false,none,0},
 {25,"all_standing",top 52,3,["machine","row","beginning","standings","number"],390,q3,iM,false,none,0},
 {46,"ends_of",top 53,2,["machine","row"],395,q3,gX,false,none,0},
 {27,"behaviour",top 54,2,["machine","row"],402,q3,iX,true,none,0},
 {48,"parted",top 56,3,["machine","one","other","one_ends","other_ends","start","one_end","other_end"],409,q4,l7,true,none,0},
 {129,"__init__",inClass (top 58) 0,3,["self","machine","row"],423,q5,kA,true,some "Shop.__init__",0},
 {130,"row",inClass (top 58) 1,1,["self"],430,q5,qP,false,some "Shop.row",0},
 {131,"cost",inClass (top 58) 2,1,["self"],437,q5,oG,false,some "Shop.cost",0},
 {132,"behaviour",inClass (top 58) 3,1,["self"],444,q5,jZ,false,some "Shop.behaviour",0},
 {133,"put",inClass (top 58) 5,3,["self","place","number"],458,q5,qQ,true,some "Shop.put",0},
 {134,"out",inClass (top 58) 6,2,["self","place"],465,q5,qR,true,some "Shop.out",0},
 {135,"back",inClass (top 58) 7,1,["self"],472,q5,kI,true,some "Shop.back",0},
 {136,"change",inClass (top 58) 8,2,["self","row"],479,q5,mi,false,some "Shop.change",0},
 {137,"give",inClass (top 58) 9,2,["self","row","start"],486,q5,oF,true,some "Shop.give",0},
 {28,"_law_spread",top 60,2,["cell","at","primes","one","two","three"],500,q6,md,false,none,0},
 {29,"_law_open",top 61,1,["script","cells","k","cell"],507,q6,kF,false,none,0},
 {30,"_law_anew",top 62,1,["pen"],514,q6,kG,false,none,0},
 {31,"_law_take",top 63,2,["pen","many","at","cell","found"],521,q6,oC,false,none,0},
 {64,"_law_sign_but",top 64,2,["pen","others","all_signs","some"],526,q6,fo,false,none,0},
 {65,"_law_any_sign",top 65,1,["pen"],533,q6,fq,false,none,0},
 {66,"_law_signed",top 66,2,["pen","text","at"],540,q6,gD,false,none,0},
 {67,"_law_is_whole",top 67,1,["thing"],547,q6,ky,false,none,0},
 {40,"_law_same",top 68,2,["found","due"],552,q6,bV,false,none,0},
 {32,"_law_tab",top 69,2,["pen","words","kind","word","other","found"],557,q6,jB,false,none,0},
 {33,"_law_deed",top 70,3,["pen","words","places","kind","price","at","other"],562,q6,iY,false,none,0},
 {34,"_law_machine",top 71,4,["pen","words","places","most","deeds","k","again","deed"],569,q6,fP,false,none,0},
 {35,"_law_row",top 72,3,["pen","machine","most","kind","many","found"],574,q6,fO,false,none,0},
 {68,"_law_is_in",top 73,3,["thing","low","high"],581,q6,nj,false,none,0},
 {69,"_law_numbers",top 74,4,["thing","many","low","high"],586,q6,iN,false,none,0},
 {70,"_law_is_deed",top 75,3,["thing","words","places"],591,q6,dN,false,none,0},
 {71,"_law_is_machine",top 76,1,["thing"],596,q6,fZ,false,none,0},
 {90,"_law_row_due",top 77,2,["machine","row","place","number"],603,q6,cz,false,none,0},
 {72,"_law_bent",top 78,3,["pen","thing","deep","kind","pick","number","at","odd","some"],610,q6,oE,false,none,0},
 {75,"_law_refusal",top 79,1,["caught","some","words"],617,q6,cm,false,none,0},
 {138,"_law_change",top 80,3,["pen","machine","rows","way","row","at","number"],624,q6,mh,false,none,0},
 {139,"_law_do",top 81,2,["shop","told"],631,q6,kz,true,none,0},
 {226,"_law_told",top 82,2,["shop","told","caught","e"],638,q6,fm,false,none,0},
 {227,"_law_due",top 83,3,["machine","rows","told","row"],645,q6,jl,false,none,0},
 {141,"_law_orders",top 84,0,[],652,q6,jj,false,none,0},
 {144,"_law_look_by",top 85,2,["shop","turn","found","at"],659,q6,fQ,false,none,0},
 {228,"_law_made",top 86,2,["machine","row","caught","e"],666,q6,eB,false,none,0},
 {229,"_law_result",top 87,2,["shop","told","found","caught","e"],673,q6,dv,false,none,0},
 {230,"_law_goes_on",top 88,5,["pen","shop","alone","machine","rows","later","told","many","change","turn"],680,q6,iO,false,none,0},
 {231,"law",top 89,1,["script","pen","turn","machine","first","shop","alone","rows","k","told","ahead","many","odd","place","due","thing","at","odd_row","row"],685,q6,n9,true,none,0}]
def rs:Rs:={[E9,zQ,J0,JT,JQ,JW,E8,JR,JU,J1,JP,zK,zM,Fc,JV,Fd,zO,Ff,Fe,JZ,Fg,O0,JX,Fb,JS,zS],[vT],[EW,EX,EY],[E4,E5,E2,E1,JM,E3],[zz,EV,JA,JC,JD,JB,Jz,zB,wu,Jy]}
def NL:EO rs:={⟨Cm,zP,G9,G3,G0,G6,Ck,G1,G4,Ha,GZ,zJ,zL,Co,G5,Cp,zN,Cr,Cq,G8,Cs,JY,G7,Cn,G2,zR,trivial⟩,⟨Nt,trivial⟩,⟨B6,B7,B8,trivial⟩,⟨Cg,Ci,Ce,Cd,GU,Cf,trivial⟩,⟨zy,B5,GL,GO,GP,GN,GK,zA,xU,GJ,trivial⟩}
noncomputable def te0:List (Str×En):=List.map (λx=>(x,En.bl)) ["ValueError","all","bool","enumerate","int","isinstance","len","list","range","str","sum","tuple","zip"]
def te1:List (Str×En):=[("LEAST_WORDS",.int 2),("LONGEST_ROW",.int 40),("MOST_COST",.int 3),("MOST_DEEDS",.int 6),("MOST_PLACES",.int 2),("MOST_WORDS",.int 4),("NEW_WORDS",.dct cL),("SORTS",.dct cK),("NoRow",.xi 0),("NoRule",.xk 1),("NoStep",.xk 2),("NoMachine",.xc 3)]
noncomputable def te2:List (Str×En):=[("TooLong",.xc 4),("NoWord",.xk 5),("NoWork",.xk 6),("NoBound",.xk 7),("TooMany",.xk 8),("NoPlace",.xc 9),("NoDeed",.xc 10),("Nothing",.xc 11),("NoText",.xk 12),("NoLine",.xk 13),("DeedError",.de),("Shop",.cls 40 129)]
def te:List (Str×En):=te0++te1++te2
def tbl:nr:={(tb.filter (·.q.isNone)).map (λe=>(e.x,En.fn e.i e.r))++te,[],["number","place"],[("NEW_WORDS",cL),("SORTS",cK)],[("NoRow",0)],[(152,16,27),(176,23,25),(179,15,34),(228,12,29),(231,11,24),(286,12,30),(305,12,14),(428,12,30)],[(251,29,38),(257,11,20),(257,44,73),(405,15,41),(406,11,22),(406,42,59),(440,8,26),(469,15,41),(470,16,42)],[("back",40,135),("behaviour",40,132),("change",40,136),("cost",40,131),("give",40,137),("out",40,134),("put",40,133),("row",40,130)],rs,tb}
def Pg:Nat->Option Df:=tbl.Pg
def NN:∀c,tb.map (tbl.rd c)=tb.map λe=>some (e.b c):=λc=>by kernel_rfl
def tab:zr tbl:={NL,NN,by kernel_rfl,by kernel_rfl,λ_ _ _ _ _ _=>by kernel_rfl,λ_ _ _ _ _ _ _=>by kernel_rfl,λ_ _ _ _ _ _ _ _=>by kernel_rfl,λ_ _ _ _ _ _ _ _ _=>by kernel_rfl,λ_ _ _ _ _ _ _ _ _ _=>by kernel_rfl,λ_ _ _ _ _ _ _ _ _ _ _ _=>by kernel_rfl,λ_ _ _ _ _ _ _ _ _ _ _=>by kernel_rfl,by rw[show tbl.tb.filter (λe=>!(e.df==0))=[] from by kernel_rfl];exact trivial}
def fa:Fa:=LD.vD (tb.map (λe=>(e.i,e.f))++[(940,489)]) [(0,51),(1,70),(2,89),(3,101),(4,113),(5,125),(6,137),(7,149),(8,161),(9,173),(10,185),(11,197),(12,209),(13,221)] 31
def DY:∀ns:List Int,ns.length<=63->∃M,ah Pg 40 231 [.frz (ns.map D.int)] []=.ok (.bl true) M:=Oa (by repeat' (first|rfl|constructor))
end K51
open PySem PySem.W PyProof.Rows K51
set_option maxRecDepth 100000 in
set_option maxHeartbeats 0 in
theorem PySem.Challenge.cw_leastdeeds_k51_changes_refused_holds : PySem.Challenge.rw_leastdeeds_k51_changes_refused.Holds := by
 w_on;o_law
 refine PySem.W.holds_open (r:=K51.yP) (q:=K51.kq) (loose:=K51.qs) (Xt:=fun s=>PySem.W.xlAt K51.kq [] s&&PySem.W.recOk (PySem.W.RowW.records K51.yP.toRowW) s) (XP:=PySem.W.XL K51.kq []) (Yf:=K51.kH.obs) (Ya:=K51.kH.val) (YP:=K51.kH.says) (N:=11812) K51.Ob K51.kH.of K51.kH.keeps (fun s e=>PySem.W.xl_of s (Tp.mp e).1) PySem.W.XL.keeps `r `r `r (fun s e=>PySem.W.recFacts_of (Tp.mp e).2) `r (by first|assumption|decide +kernel) `k ⟨rfl,rfl,rfl,rfl,rfl,`k⟩ ?hw ?hc
 case hw=>w_witness2
 refine L2.GR (l:=PySem.Challenge.rw_leastdeeds_k51_changes_refused) (n:=63) (k:=84) (x:="script") (CX:=fun w=>LD.fU PySem.Challenge.rw_leastdeeds_k51_changes_refused.prog w) (K:=K51.kh) (sp:=fun w=>LD.Fm (K51.kh w.params)) rfl `d rfl ⟨rfl,`d,`d,rfl⟩ (fun w h Y=>PySem.W.kIn_of Y) ?F (fun w H a ns hl hO hS=>⟨a,ns,rfl,hS,hO,hl,fun _=>rfl⟩) (fun _ _ _ _ _ z=>let⟨_,_,_,_,_,_,_,_,_,_,q⟩:=z;q)
 case F=>
  intro w mg fa h KX G hmg;have tk:LD.B3 (K51.kh w.params) K51.tb:=⟨by kernel_rfl,by kernel_rfl,by kernel_rfl,by kernel_rfl⟩
  obtain⟨m,fd,F⟩:=LD.Hf tk KX G (e:=K51.tb[67]) (Sl _) rfl rfl;have d_NEW_WORDS:=LD.xo (x:="NEW_WORDS") (P:=w.params) (fa:=K51.fa) (fs:=LD.cL) (ad:=376) (es:=#[{hash:=PySem.PyData.keyHash w.params (PySem.Str.ofString "turn"),key:=PySem.Value.str (PySem.Str.ofString "turn") 704,val:=PySem.Value.ref 354},{hash:=PySem.PyData.keyHash w.params (PySem.Str.ofString "join"),key:=PySem.Value.str (PySem.Str.ofString "join") 705,val:=PySem.Value.ref 361},{hash:=PySem.PyData.keyHash w.params (PySem.Str.ofString "move"),key:=PySem.Value.str (PySem.Str.ofString "move") 706,val:=PySem.Value.ref 368},{hash:=PySem.PyData.keyHash w.params (PySem.Str.ofString "put"),key:=PySem.Value.str (PySem.Str.ofString "put") 707,val:=PySem.Value.ref 375}]) (n:=4) KX G (by kernel_rfl) (by kernel_rfl) (by exact LD.gV (LD.gV (LD.gV (LD.gV (LD.Bk))))) `k `d (by exact .cons ⟨rfl,rfl⟩ (.cons ⟨rfl,rfl⟩ (.cons ⟨rfl,rfl⟩ (.cons ⟨rfl,rfl⟩ (.nil)))))
  have d_SORTS:=LD.xo (x:="SORTS") (P:=w.params) (fa:=K51.fa) (fs:=LD.cK) (ad:=297) (es:=#[{hash:=PySem.PyData.keyHash w.params (PySem.Str.ofString "turn"),key:=PySem.Value.str (PySem.Str.ofString "turn") 582,val:=PySem.Value.ref 275},{hash:=PySem.PyData.keyHash w.params (PySem.Str.ofString "join"),key:=PySem.Value.str (PySem.Str.ofString "join") 583,val:=PySem.Value.ref 282},{hash:=PySem.PyData.keyHash w.params (PySem.Str.ofString "move"),key:=PySem.Value.str (PySem.Str.ofString "move") 584,val:=PySem.Value.ref 289},{hash:=PySem.PyData.keyHash w.params (PySem.Str.ofString "put"),key:=PySem.Value.str (PySem.Str.ofString "put") 585,val:=PySem.Value.ref 296}]) (n:=4) KX G (by kernel_rfl) (by kernel_rfl) (by exact LD.gV (LD.gV (LD.gV (LD.gV (LD.Bk))))) `k `d (by exact .cons ⟨rfl,rfl⟩ (.cons ⟨rfl,rfl⟩ (.cons ⟨rfl,rfl⟩ (.cons ⟨rfl,rfl⟩ (.nil)))))
  have i_NoRow:=fun base=>LD.D9 (fa:=K51.fa) (w:=w) (c:=0) (x:="NoRow") (qual:="NoRow.__init__") (y:="place") (z:="no deed's number at place ") (pm:="leastdeeds.errors") (t:=194) (st:=LD.inC (K51.top 3)) (C:=51) (D:=31) (fI:=48) (cd:=47) KX G (by kernel_rfl) (by kernel_rfl) rfl (by kernel_rfl) (by kernel_rfl) (by kernel_rfl) (by kernel_rfl) ⟨rfl,rfl,rfl,`k,rfl,`k,`k⟩ rfl (fun _ _=>⟨_,rfl⟩) `k rfl rfl rfl rfl (fun _ _=>rfl) (fun _ _ _ _ _ _ _ _=>rfl) PySem.Challenge.rw_leastdeeds_k51_changes_refused.prog base
  have TO:=fun base=>LD.He (base:=base) (P:=PySem.Challenge.rw_leastdeeds_k51_changes_refused.prog) (w:=w) (t:=K51.tbl) (fa:=K51.fa) KX G (by kernel_rfl) (LD.JE (by kernel_rfl)) (LD.Lv (by kernel_rfl)) (LD.Eg (by kernel_rfl)) ⟨rfl,rfl⟩ ⟨d_NEW_WORDS,d_SORTS,trivial⟩ ⟨i_NoRow base,trivial⟩
  have tw:LD.AllP (fun q=>LD.Gy K51.fa (K51.kh w.params) mg q.1 q.2.1 q.2.2.1 q.2.2.2) K51.tbl.tw:=trivial
  have xf:LD.AllP (fun f=>LD.xQ K51.fa (K51.kh w.params) f) K51.tbl.xf:=⟨LD.zC (by kernel_rfl),LD.zC (by kernel_rfl),trivial⟩
  have ms:∀q∈K51.tbl.ms,LD.qV K51.fa (K51.kh w.params) q.1 q.2.1 q.2.2:=LD.LN (by kernel_rfl)
  have e:=hmg.symm.trans m;cases e;exact⟨fd,fun s v=>by
   obtain⟨oc,od,kV,doc,pm,an,cdv,ct,osl,rfl,lk,hcd⟩:=F.ex;exact .of_eq rfl,fun base _ _=>LD.L0 (n:=39) (f:=231) (LD.CC K51.tab tk KX G (TO base) tw.mem xf.mem ms (by kernel_rfl)) K51.DY rfl F (LD.qH (e:=K51.tb[67]) (Rq.mp K51.tab.sc K51.tb[67] (Sl _))).1 rfl fun c n a b d s H E C hr=>LD.ur (e:=K51.tb[67]) K51.tab (TO base) tw.mem xf.mem ms (Sl _) c n a b d s H E C hr⟩
