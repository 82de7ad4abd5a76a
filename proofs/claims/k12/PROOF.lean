import PyProof.Rows.All
import Wide.All
import OpenK.AllK
import Wide.FinOn
import Lean
import PyProof.TableCode
import PyProof.EqAt
import PyProof.EqKinds
import PyProof.TupleCall
import PyProof.NeKinds
import PyProof.ZipIter
import PyProof.StrLoop
import PyProof.StrWalks
import PyProof.StrCalls
import PyProof.StrCalls2
import PyProof.StrLawsIn
import PyProof.SliceStr2
import PyProof.StrBlock
import PyProof.Rows.StrFirst
import KE.KIntText
import PyProof.StrLawsChain
import PyProof.StrLawsTight
import PyProof.CallStr
import PyProof.Rows.FStr
import PySem.SetTable
import PyProof.TupleKey
import PyProof.SetKind
import PyProof.IsRules
import PyProof.Rows.SetFrom
import PyProof.WalksMore
import PyProof.TupleIter
import KE.KSortTup
import KE.KTryMore
import PySem.Challenge.RW_dipright_k12_veins_that_join
set_option Elab.async false
set_option backward.eqns.nonrecursive false
set_option genInjectivity false
set_option genSizeOf false
set_option bootstrap.genMatcherCode false
set_option linter.all false
set_option maxRecDepth 100000
set_option maxHeartbeats 4000000
open PySem renaming wpAny_bind->Qq,Shared->Qz,Expr->Qx,wpAny_pure->Qj,World->Qk,Around->Qv,eval->Qw,wpAny_mono->Qy,SetTable->Qa,bootBuiltins->Qb,wpAny_field->Qc,NameKind->Qd,wpAny_truthy_bool->Qe,compareOp->Qg,FuncData->Qh,sysModules->Qi,wpAny_seqItems->Ql,wpAny_callSpecial?_slot->Qm,wpAny_newObj_type->Qn,wpAny_holding->Qo,Params->Qp,call_meets->Qr,wpAny_call_entry->Qs,wpAny_setField_rec->Qt,holding->Qu,wpAny_passesOwn->Q0,binaryOp->Q1,assignEach->Q2,treeTable->Q3,sizeLine_eq->Q4,DictEntry->Q5,codeAny_mono->Q6,importedModules->Q7,wpAny_Call_Name_kw->Q8,tupleKind_room_in1->Q9,wpAny_setState_of->Zq,attributeBase->Zz,standAt->Zx,codeAny->Zj,getItem->Zk,sliceBounds->Zv,wpAny_loadPart'->Zw,codeAny_builtin->Zy,Operator->Za,getMethod->Zb,Builtin->Zd,wpAny_pyIter_list->Ze,ofAClassStatement->Zf,behindInMarks->Zg,ExceptHandler->Zh,wpAny_execs_nil->Zl,letOwnedTupleGo->Zm,wpAny_rule->Zn,Keyword->Zo,callerA->Zr,wpAny_setField->Zs,wpAny_onRaise->Zt,setSearchFrom->Zu
open PySem.W renaming boot_heap->Qf,behindTheImports->Zi
open PyProof.Rows renaming AllBare->Zc,IntsAre->Zp
section
universe u
theorem Z0{p:Prop}[Decidable p](h:p):decide p=true:=decide_eq_true h
theorem Z1{p:Prop}[Decidable p](h:¬p):decide p=false:=decide_eq_false h
theorem Z2{c:Prop}{h:Decidable c}(n:¬c){α:Sort u}{t e:α}:ite c t e=e:=if_neg n
theorem Z3{c:Prop}{h:Decidable c}(n:c){α:Sort u}{t e:α}:ite c t e=t:=if_pos n
end
open PySem.Challenge renaming pw_dipright_k12_veins_that_join->PZW,rw_dipright_k12_veins_that_join->RZW
open PySem.W renaming Frag->Qqq,keepIn->Qzx,methodCall_KW->Qz9,mg_of->Qxc,callWith_K->Qxe,nsIn->Qxi,plainGet_of->Qjx,cellsFrom_some->Qj1
open PySem.Heap renaming get?_push_of_some->Qqz,lt_size->Qqa,get?_push_size->Qqe,size_push->Qzp,get?_update_other->Qz1,get?_update_self->Qxz
open List renaming getElem?_eq_getElem->Qqx,length_map->Qqj,getElem?_map->Qqk,getElem?_eq_some_iff->Qqv,size_toArray->Qqy,mem_cons->Qqb,mem_of_getElem?->Qqd,mem_cons_of_mem->Qqf,length_cons->Qqh,getElem?_append_right->Qqi,mem_cons_self->Qql,length_append->Qqn,getElem?_append_left->Qqp,mem_singleton->Qqs,lookup_cons->Qqt,mem_append_right->Qqu,getElem?_eq_none->Qq0,map_cons->Qq3,append_assoc->Qq4,map_append->Qq5,all_eq_true->Qq7,mem_append->Qq8,map_map->Qzq,getElem?_set_ne->Qzz,getElem?_set_self->Qzj,take_of_length_le->Qzv,replicate_succ->Qzw,mem_range->Qza,mem_map->Qzb,find?_cons->Qzd,mem_append_left->Qzf,take_succ_eq_append_getElem->Qzg,append_nil->Qzi,getElem?_eq_none_iff->Qzl,length_take->Qzm,all_cons->Qzo,length_eq_zero_iff->Qzr,flatten_cons->Qzs,getElem?_range->Qzu,getElem_of_mem->Qz0,not_mem_nil->Qz2,pairwise_iff_getElem->Qz3,length_set->Qz5,any_cons->Qz7,pairwise_cons->Qz8,length_replicate->Qxq,length_singleton->Qxx,mem_iff_getElem->Qxk,take_left->Qxv,filterMap_cons->Qxw,mem_map_of_mem->Qxy,getElem?_replicate->Qxa,getElem?_cons_succ->Qxb,mem_filterMap->Qxd,nodup_cons->Qxf,getElem?_zipWith->Qxl,getElem_mem->Qxm,take_length->Qxn,cons_append->Qxo,mem_filter->Qxp,pairwise_singleton->Qxs,ext_getElem?->Qxu,length_range->Qx0,length_drop->Qx1,any_eq_true->Qx2,mem_reverse->Qx3,set_append_right->Qx4,foldl_cons->Qx6,getElem_toArray->Qx7,pairwise_append->Qjz,length_zipWith->Qjk,filterMap_map->Qjw,lookup_append->Qjb,find?_eq_none->Qjc,map_drop->Qje,mem_of_find?_eq_some->Qji,drop_eq_getElem_cons->Qjl,getElem?_take_of_lt->Qjm,map_nil->Qjn,length_filterMap_le->Qjt,of_mem_zip->Qju,drop_eq_nil_of_le->Qj5,drop_zero->Qj6,forIn_nil->Qj7,mapM_cons->Qj8
open Nat renaming le_refl->Qqw,lt_of_lt_of_le->Qqm,ne_of_lt->Qq1,le_trans->Qq9,lt_succ_self->Qzk,lt_irrefl->Qzy,zero_le->Qzc,lt_or_ge->Qzn,le_of_lt_succ->Qz6,le_of_succ_le->Qxg,ne_of_gt->Qxh,succ_pos->Qxr,lt_succ_of_lt->Qxt,le_of_lt->Qx5,zero_add->Qx8,mod_lt->Qx9,sub_self->Qjq,add_sub_cancel'->Qjj,le_succ->Qjv,lt_of_le_of_lt->Qjy,lt_trichotomy->Qjh,mul_comm->Qjo,le_of_not_lt->Qjp,le_add_right->Qjs
open Option renaming map_eq_some_iff->Qqc,isSome_iff_exists->Qz4,isSome_some->Qja,isSome_map->Qjf,map_eq_none_iff->Qj4
open Bool renaming false_ne_true->Qqg,and_eq_true->Qqo,false_eq_true->Qze,or_eq_true->Qxj,and_true->Qjd,eq_iff_iff->Qj0,not_true->Qj9
open Array renaming getElem?_toList->Qqr,getElem?_eq_getElem->Qq2,getElem?_eq_some_iff->Qq6,length_toList->Qzh,getD_eq_getD_getElem?->Qzt,size_append->Qjg,getElem?_replicate->Qjr,getElem?_extract->Qj2,getElem?_eq_none->Qj3
section
universe u v
theorem oBs{α:Type u}{b:Type v}(a:α)(f:α->Option b):(some a).bind f=f a:=rfl
theorem oMs{α:Type u}{b:Type v}(a:α)(f:α->b):(some a).map f=some (f a):=rfl
end
namespace L2
open PySem PySem.Spec PyProof.Rows
noncomputable def qqg(s:Stmt):Arguments:=match s with
 |.FunctionDef _ a _ _ _ _ _ _ _ _=>a
 |_=>{ posonlyargs:=[],args:=[],vararg:=none,kwonlyargs:=[],kw_defaults:=[],kwarg:=none,defaults:=[] }
end L2
namespace L2
open PySem PySem.Spec PyProof.Rows
noncomputable def qzl(s:Stmt):List Stmt:=match s with
 |.FunctionDef _ _ b _ _ _ _ _ _ _=>b
 |_=>[]
end L2
namespace L2
open PySem PySem.Spec PyProof.Rows
noncomputable def qzz(s:Stmt):Scope:=match s with
 |.FunctionDef _ _ _ _ _ _ sc _ _ _=>sc
 |_=>{ kind:=.function,names:=[],isGenerator:=false,isCoroutine:=false }
end L2
namespace K12
open PySem PySem.Spec PyProof.Rows
noncomputable def top(i:Nat):Stmt:=PZW.main.body.getD i (.Pass ⟨0,0,0,0⟩)
end K12
namespace K12
open PySem PySem.Spec PyProof.Rows
noncomputable def cb(s:Stmt)(j:Nat):Stmt:=match s with
 |.ClassDef _ _ _ b _ _ _ _ _ _ _=>b.getD j (.Pass ⟨0,0,0,0⟩)
 |_=>s
end K12
namespace HD
open PySem PySem.W PySem.Calls PyProof.Rows
noncomputable def lf:Life:=PySem.Life.mk [] [] [] 0 [] [] Bool.false #[] [] 0 Bool.false Bool.false Bool.false 0 [2000,10,10] Bool.false 0 Bool.true [] [] 0 Bool.false
noncomputable def sM:Str:=⟨#[60,109,111,100,117,108,101,62]⟩
noncomputable def sF:Str:=⟨#[47,99,108,97,105,109,47,99,117,116,46,112,121]⟩
noncomputable def sN:Str:=⟨#[95,95,109,97,105,110,95,95]⟩
noncomputable def bt(l:List Obj):BT:=(l.foldl (λ(p:BT×Nat) o=>(p.1.ins p.2 o,p.2+1)) (.nil,0)).1
noncomputable def Ta(P:Qp):BT:=bt ((Qf P).objs.toList++[Obj.mk (.type "tuple") none (.seq #[]) #[],Obj.mk .none none (.fields #[]) #[],
 Obj.mk (.type "code") none (.fields #[.str sM 182,.str sM 183,.str sF 184,.int 1 0,.int 0 0,.int 0 0,.int 0 0,.int 0 0,.ref 11,.bool false,.int 181 0,.ref 12,.none,.none,.none,.none,.int 185 0,.int 1 0,.str sF 186]) #[],
 Obj.mk (.type "frame") none .plain #[some (.ref 13),some (.ref 3),some (.ref 3),none,some (.str sN 164),none,some (.ref 0)]])
noncomputable def Sa(w:Qk)(os:OsState):SharedT:=⟨Ta w.params,15,lf,#[],⟨0,0,0,0⟩,187,os⟩
noncomputable abbrev an:Option Value:=some (.ref 6)
noncomputable abbrev p0:Pos:=⟨0,0,0,0⟩
noncomputable def ev(p:Program):Env:={ scope:=p.main.scope,locals:=mainNs,globals:=mainNs,cells:=[],code:=.ref 13,frame:=some 14 }
noncomputable def cE(p:Program):Code:=.body (Zi p) (ev p)
noncomputable def Lk(p q:Program)(loose:List Str)(Xt:Program->Qz->Bool)(ads:List Addr)(w:Qk)(s:Qz):=((staticsOk (Q7 p.main.body) (Qf w.params) s.heap&&namesBound p s.heap&&gensDone s&&laidKept (Qf w.params) s.heap),openSeen q loose (Q7 p.main.body) (Xt q) true s,ads.map s.heap.get?)
end HD
namespace HD
open PySem PySem.W PySem.Calls PyProof.Rows
theorem fin_of{p:Program}{w:Qk}{s:Qz}{env:Env}{c:Code}{q:Pos}:topRun Q3 p w 11 an 2 s (restOf [] env c q [topFrame p0])=some s:=by
 cases s
 rfl
noncomputable abbrev Fs(p:Program)(w:Qk)(s:Qz):Bool:=staticsOk (Q7 p.main.body) (Qf w.params) s.heap&&namesBound p s.heap&&gensDone s&&laidKept (Qf w.params) s.heap
theorem qmg{p:Program}{w:Qk}{N:Nat}{os:OsState}{s:Qz}(z:((Qf w.params).isNs mainGlobals&&(Array.mk []:Array GenState).size==0,(Qf w.params).objs.size,(Qf w.params).nsMap mainGlobals "__annotations__")=(true,11,an))
  (r:topRun Q3 p w 11 an N ⟨Qf w.params,#[],boot_drawn,boot_toks,os⟩ (topStub p)=some s) (l:Fs p w s=true):topFrom Q3 p w N ⟨Qf w.params,#[],boot_drawn,boot_toks,os⟩=some s:=by
 have c:=congrArg (·.1) z;have b:=congrArg (·.2.1) z;have a:=congrArg (·.2.2) z;dsimp only at c b a;simp only[topFrom,c,b,a,r,oBs];show(match Fs p w s with|true=>some s|false=>none)=_;rw[l]
end HD
namespace HD
open PySem PySem.W PySem.Calls PyProof.Rows
noncomputable def Rn(p:Program)(n:Nat)(w:Qk)(os:OsState):=segRunT Q3 p w 11 an 1 n (Sa w os) (piecesOf (Zi p) (ev p) (cE p) p0 [topFrame p0])
noncomputable def LA(p q:Program)(ads:List Addr)(w:Qk)(s:Qz):=(staticsOk (Q7 p.main.body) (Qf w.params) s.heap&&namesBound p s.heap&&gensDone s&&laidKept (Qf w.params) s.heap,seen ((recsOf q).map (·.name)) (ownsOf q) [] { s with gens:=#[] },ads.map s.heap.get?)
noncomputable def LB(p q:Program)(loose:List Str)(Xt:Program->Qz->Bool)(s:Qz):Bool:=s.heap.keysOk (looseW q loose) ((recsOf q).map (·.name)) ((litsOf q).map (·.1)) ((clssOf q (looseW q loose)).map (·.name))&&s.heap.accountedOkI (Q7 p.main.body)&&s.heap.isNs mainGlobals&&s.heap.isNs builtinsNs&&tablesOk q s.heap&&Xt q s&&s.gens.size==0
noncomputable def LD(q:Program)(loose:List Str)(s:Qz):=(s.heap.bltView,tabsOk q s,pinSeenD q (drecsOf q) s,clsSeenW q loose s)
noncomputable def LG(q:Program)(loose:List Str)(s:Qz):=(wideSeen q s,plainSeenD q loose s)
theorem lo3{p q:Program}{loose:List Str}{Xt:Program->Qz->Bool}{ads:List Addr}{K:Qp->Frag}{n N:Nat}{p1:Pos}
  (l:∀w:Qk,Option.map (λs:Qz=>(s.heap,s.gens,s.drawn,s.toks)) (fencedOpening Q3 p w N)=some (Qf w.params,#[],boot_drawn,boot_toks))
  (z:∀w:Qk,((Qf w.params).isNs mainGlobals&&(Array.mk []:Array GenState).size==0,(Qf w.params).objs.size,(Qf w.params).nsMap mainGlobals "__annotations__")=(true,11,an))
  (pre:∀w:Qk,(λos=>topGo Q3 p w 11 an 12 ⟨Qf w.params,#[],boot_drawn,boot_toks,os⟩ (topStub p))=λos=>some ((Sa w os).abs,⟨denote Q3 (cE p),cE p,p0,[topFrame p0]⟩))
  (blk:∀w:Qk,(λos=>segRun Q3 p w 11 an 1 1 (Sa w os).abs (blockOf (Zi p) (ev p) (cE p) p0 [topFrame p0]))=λos=>some (Flow.next,(Sa w os).abs,cE p,p0))
  (F:∀w:Qk,(λos=>(Rn p n w os).map λr=>(r.1,r.2.2.1,r.2.2.2,LA p q ads w r.2.1.abs))=λ_=>some (Flow.next,cE p,p1,true,expectedOf q,(K w.params).map λp=>some p.2))
  (gB:∀w:Qk,(λos=>(Rn p n w os).map λr=>LB p q loose Xt r.2.1.abs)=λ_=>some true)
  (E:∀w:Qk,(λos=>(Rn p n w os).map λr=>plainSeenE q (looseW q loose) r.2.1.abs)=λ_=>some (plainGoodE q (looseW q loose)))
  (D:∀w:Qk,(λos=>(Rn p n w os).map λr=>LD q loose r.2.1.abs)=λ_=>some (bltViewBooted,true,pinGoodD (drecsOf q),clsGoodW q loose))
  (C:∀w:Qk,(λos=>(Rn p n w os).map λr=>LG q loose r.2.1.abs)=λ_=>some (wideGood q,plainGoodD q loose))
  (le:Nat.ble (12+(1+(n+2))) N=true):LeftO p q loose (Xt q) (λs=>ads.map s.heap.get?) (λw=>(K w.params).map λp=>some p.2) N:=by
 intro w
 rcases Qqc.mp (l w) with⟨S,Q,i⟩
 rcases S with⟨H,g,d,t,os⟩
 have h1:H=Qf w.params:=congrArg (·.1) i;have h2:g=#[]:=congrArg (·.2.1) i;have A:d=boot_drawn:=congrArg (·.2.2.1) i;have y:t=boot_toks:=congrArg (·.2.2.2) i;subst h1 h2 A y
 rcases Qqc.mp (congrFun (F w) os) with⟨⟨f,j,c,k⟩,run,same⟩
 have h:∀{α:Type}{g:Flow×SharedT×Code×Pos->α}{v:α},(Rn p n w os).map g=some v->g (f,j,c,k)=v:=λe=>by rw[run]at e; exact Option.some.inj e
 have P:f=Flow.next:=congrArg (·.1) same;have I:c=cE p:=congrArg (·.2.1) same;have G:k=p1:=congrArg (·.2.2.1) same;have u:Fs p w j.abs=true:=congrArg (·.2.2.2.1) same;have x:=congrArg (·.2.2.2.2.1) same;have m:=congrArg (·.2.2.2.2.2) same;have b:=h (congrFun (gB w) os);have c0:=h (congrFun (E w) os);have d:=h (congrFun (D w) os);have e:=h (congrFun (C w) os);have o:openSeen q loose (Q7 p.main.body) (Xt q) true j.abs=openGood q loose:=Prod.ext x (Prod.ext (congrArg (·.1) d) (Prod.ext b (Prod.ext (congrArg (·.2.1) d) (Prod.ext (congrArg (·.2.2.1) d) (Prod.ext c0 (Prod.ext (congrArg (·.2) e) (Prod.ext (congrArg (·.1) e) (congrArg (·.2.2.2) d))))))));subst P I G;have a:=piece_app (rest:=[]) (segRun_of run) fin_of;rw[Qzi]at a;have all:=go_top (congrFun (pre w) os) (piece_block (congrFun (blk w) os) a);have more:=topRun_mono (N - (12+(1+(n+2)))) _ _ _ _ all;rw[Qjj (Nat.le_of_ble_eq_true le)]at more;simp only[openEnds,Q,oBs,qmg (z w) more u,oMs];exact congrArg some (Prod.ext o m)
end HD
namespace K12
open PySem L2
noncomputable def c0:List Str:=["_law_enter_join","_law_model_here","_law_fact","veins","novein","order","joins","joined","good","_law_enter","_law_day","day"]
noncomputable def c1:List Str:=["join","vein","stake","_law_enter_claim","_law_name","sorted","claims","_law_vest","term","_law_vein_here","_law_veins_plan","_law_script"]
noncomputable def c2:List Str:=["_law_size_here","_law_plan","_law_veins","_law_at_here","range","_law_draw","_law_vein","len","_law_floor","_law_pair","_law_pick","append"]
noncomputable def c3:List Str:=["_law_rows","_law_many","_law_deep","size","_law_at","_law_k",".0","fast","_law_unfound","_law_field","_law_told",""]
noncomputable def c4:List Str:=["courses","NoVein","none","law","_law_size","Field","_law_model","_law_same","enter","get","_law_term","row"]
noncomputable def c5:List Str:=["book","dug","_law_state","_law_claim","given","fallen","stands","unvested","int","_law_outs_here","any","_law_in"]
noncomputable def c6:List Str:=["_law_cell","_law_column","_law_x","_law_y","_law_step","_law_enter_part","_law_old","_law_near","list","_law_far","nocut","tuple"]
noncomputable def c7:List Str:=["insert","index","noclaim","ended","part","work","sell","give","_law_wide","_law_tall","_law_sizes","min"]
noncomputable def c8:List Str:=["_law_steps","_law_j","_law_outs","_law_count","_law_first","_law_stride","_law_found","_law_place","_law_names","_law_rect","check_district","wide"]
noncomputable def c9:List Str:=["tall","deep","fits","LENGTHS","DEPTHS","TERMS","BadNumber","not the numbers of a district","check_day","DAYS","not a day","__init__"]
noncomputable def c10:List Str:=["self","extent","year","found","joints","staked","Claims","debts","fact","sound","BadFact","not sound for this district"]
noncomputable def c11:List Str:=["Late","the field's day isn't earlier","answer","enter_vein","enter_join","enter_stake","dig","enter_dig","pay","enter_pay","change","vest_all"]
noncomputable def c12:List Str:=["other","outcrops","extend","who","spot","worth","owe","owner","COIN","gatekeeper","mouth","claim"]
noncomputable def c13:List Str:=["over","debtor","creditor","tenths","pass_to","_wall","today","names","name","no vein is known by that day","named","ground"]
noncomputable def c14:List Str:=["last","vested","state","years","standing","entries","twin","__name__","law_dipright_k12_veins_that_join","_law_turn","_law_rest","_law_one"]
noncomputable def c15:List Str:=["_law_two","_law_due","isinstance","_law_like","all","bool","str","field","cell","standing_grounds","inside","dipright.field"]
noncomputable def c16:List Str:=["ground_of","ranked","grounds","heads","first","behind","has_one","dip","covers","heirs","columns_at","first_claim"]
noncomputable def c17:List Str:=["ranks","title","dipright.reach","outcrop","pair","pairs","dipright.title","is_cell","thing","all_fit","x","y"]
noncomputable def c18:List Str:=["good_steps","steps","step","good_outcrops","MOST_COLUMNS","set","sound_vein","numbers_agree","ASKS","COINS","below","folk"]
noncomputable def c19:List Str:=["side","line","floor","coins","bounds","FOLK","SIDES","LINES","STEPS","value","bound","asked"]
noncomputable def c20:List Str:=["values","known","kind","zip","dipright.facts","dipright.years","counted","days","kept","through","dipright.claims","Claim"]
noncomputable def c21:List Str:=["piece","NoClaim","no claim is known by that day","vest","whole","pieces","parted","traced","own_courses","joint","with_join","joined_veins"]
noncomputable def c22:List Str:=["chain","climbed","reversed","MOVES","in_ground","met_columns","met","column","enumerate","OutOfGround","not a spot of the district","dipright.veins"]
noncomputable def c23:List Str:=["own_course","course","move","own","nowhere","rest","RIGHT","LOW","rect","LEFT","TOP","some"]
noncomputable def c24:List Str:=["can_part","ahead","DiprightError","dipright.ground","k","dipright.errors","ValueError","/claim/cut.py","__doc__","__package__","__loader__","__spec__"]
noncomputable def c25:List Str:=["__annotations__","__builtins__","__file__","__cached__","__main__","__module__","__firstlineno__","__static_attributes__","__weakref__","Claim.__init__","Claim.piece","Claim.twin"]
noncomputable def c26:List Str:=["Claim.state","__dict__","Claims.__init__","Claims.names","Claims.named","Claims.standing","Claims.stake","Claims.vest","Claims.vest_all","Claims.change","Claims.part","Claims.twin"]
noncomputable def c27:List Str:=["Field.__init__","Field.enter","Field.answer","Field.enter_vein","Field.enter_join","Field.enter_stake","Field.enter_dig","Field.enter_pay","Field.gatekeeper","Field.owe","Field.pass_to","Field.today"]
noncomputable def c28:List Str:=["Field.size","Field.term","Field.veins","Field.claims","Field.vein","Field.joined","Field.claim","Field.state","Field.years","Field.standing","Field.entries","Field.twin"]
noncomputable def Al:List (List Str):=[c0,c1,c2,c3,c4,c5,c6,c7,c8,c9,c10,c11,c12,c13,c14,c15,c16,c17,c18,c19,c20,c21,c22,c23,c24,c25,c26,c27,c28]
noncomputable def Af(i j:Nat):Str:=(Al.getD i []).getD j ⟨#[]⟩
noncomputable def b0:String:="dict"
noncomputable def b1:String:="__main__.__loader__#opaque"
noncomputable def b2:String:="tuple"
noncomputable def b3:String:="code"
noncomputable def b4:String:="function"
noncomputable def b5:String:="ValueError"
noncomputable def b6:String:="ValueError.__new__"
noncomputable def b7:String:="type"
noncomputable def b8:String:="Exception"
noncomputable def b9:String:="BaseException"
noncomputable def b10:String:="object"
noncomputable def b11:String:="ExceptionGroup.__weakref__"
noncomputable def b12:String:="getset_descriptor"
noncomputable def b13:String:="object.__new__"
noncomputable def b14:String:="function.__dict__"
noncomputable def b15:String:="function.__dict__#set"
lay_quick Af b0 b1 b2 b3 b4 b5 b6 b7 b8 b9 b10 b11 b12 b13 b14 b15
def Hy(a:Nat->Nat->Str)(i:Nat)(p:Prop):Nat->List Str->Prop
 |_,[]=>p
 |j,x::r=>x=a i j->Hy a i p (j+1) r
def Hz(a:Nat->Nat->Str)(p:Prop):Nat->List (List Str)->Prop
 |_,[]=>p
 |i,c::r=>Hy a i (Hz a p (i+1) r) 0 c
noncomputable def G(a:Nat->Nat->Str):Program:=by
 refine'(?f:(x:Program)->Hz a (PZW=x) 0 Al->Program) _ ?h
 (case f=>exact λx _=>x)
 (case h=>(repeat intro _); show PZW=_; delta PZW; conv=>lhs; simp only[*,Nat.reduceAdd])
noncomputable abbrev fnD(x y:Str)(s:Stmt):=FuncData.mk x y (qqg s) (.stmts (qzl s)) (qzz s)
noncomputable abbrev kh:=PyData.keyHash
noncomputable abbrev de(P:Qp)(x:Str)(k:Nat)(v:Value):=DictEntry.mk (kh P x) (.str x k) v
noncomputable abbrev oq(u:String)(x:Array Value):=Obj.mk (.type u) Option.none (.seq x) #[]
noncomputable abbrev zA(u:String)(a:Nat->Nat->Str)(i j v w k:Nat)(ln n:Int)(r p:Nat):=Obj.mk (.type u) Option.none (.fields #[.str (a i j) k,.str (a v w) (k+1),.str (a 24 7) (k+2),.int ln 0,.int n 0,.int 0 0,.int 0 0,.int 3 0,.ref r,.bool Bool.true,.int 181 0,.ref (r+1),.none,.ref (r+2),.ref (r+3),.ref (r+4),.int (.ofNat p) 0,.int ln 0,.str (a 24 7) (p+1)]) #[]
noncomputable abbrev zA2(u:String)(a:Nat->Nat->Str)(i j:Nat):=zA u a i j i j
noncomputable abbrev zB(u:String)(a:Nat->Nat->Str)(i j v w k:Nat)(ln n:Int)(r p:Nat):=Obj.mk (.type u) Option.none (.fields #[.str (a i j) k,.str (a v w) (k+1),.str (a 24 7) (k+2),.int ln 0,.int n 0,.int 0 0,.int 0 0,.int 3 0,.ref r,.bool Bool.true,.int 181 0,.ref (r+1),.none,.none,.none,.ref (r+2),.int (.ofNat p) 0,.int ln 0,.str (a 24 7) (p+1)]) #[]
noncomputable abbrev zB2(u:String)(a:Nat->Nat->Str)(i j:Nat):=zB u a i j i j
noncomputable abbrev zM(u:String)(a:Nat->Nat->Str)(i j v w:Nat)(s:Stmt)(x y k r:Nat):=Obj.mk (.type u) Option.none (.func (fnD (a i j) (a v w) s 3 [] .none .none .none (.str (a x y) k) Option.none (.ref r) .none 0)) #[]
noncomputable abbrev zF(u:String)(a:Nat->Nat->Str)(i j:Nat):=zM u a i j i j
noncomputable abbrev zR(P:Qp)(a:Nat->Nat->Str)(i j k r:Nat):=de P (a i j) k (.ref r)
noncomputable def KG(tp:Nat->Stmt)(a:Nat->Nat->Str)(u0 u1 u2 u3 u4 u5 u6 u7 u8 u9 u10 u11 u12 u13 u14 u15:String)(P:Qp):Qqq:=(nat_lit 3,Obj.mk (.type u0) Option.none (.dict #[de P (a 14 7) 165 (.str (a 14 8) 1143),de P (a 24 8) 166 .none,de P (a 24 9) 167 .none,de P (a 24 10) 168 (.builtin u1),de P (a 24 11) 169 .none,zR P a 25 0 170 6,zR P a 25 1 171 4,de P (a 25 2) 173 (.str (a 24 7) 172),de P (a 25 3) 174 .none,zR P a 13 5 193 21,zR P a 24 2 213 31,zR P a 9 6 229 44,zR P a 10 10 245 56,zR P a 11 0 261 68,zR P a 4 1 277 80,zR P a 21 1 293 92,zR P a 22 9 309 104,de P (a 23 9) 313 (.int 0 312),de P (a 23 10) 315 (.int 1 314),de P (a 23 6) 317 (.int 2 316),de P (a 23 7) 319 (.int 3 318),zR P a 15 10 327 113,zR P a 16 6 333 118,zR P a 24 0 342 125,zR P a 21 6 353 132,zR P a 22 4 361 139,zR P a 22 3 376 145,zR P a 23 0 389 152,zR P a 21 8 402 159,zR P a 21 10 408 164,zR P a 21 7 419 171,zR P a 21 11 429 178,zR P a 4 0 437 185,zR P a 22 1 449 192,zR P a 22 5 455 197,zR P a 16 10 461 202,zR P a 20 6 473 209,zR P a 20 9 481 216,zR P a 20 11 545 254,zR P a 10 6 658 336,zR P a 9 9 663 341,zR P a 19 5 666 342,zR P a 19 6 669 343,zR P a 19 7 672 344,zR P a 19 8 675 345,zR P a 18 9 678 346,de P (a 18 4) 680 (.int 16 679),zR P a 18 8 723 347,zR P a 19 4 730 362,zR P a 9 2 738 369,zR P a 17 9 744 374,zR P a 17 7 752 381,zR P a 18 0 760 388,zR P a 18 3 766 393,zR P a 18 6 774 400,zR P a 18 7 781 407,zR P a 10 9 789 414,zR P a 16 0 799 421,zR P a 17 3 807 428,zR P a 12 1 813 433,zR P a 16 8 821 440,zR P a 15 9 829 445,zR P a 16 1 842 452,zR P a 16 9 851 459,zR P a 16 11 858 466,zR P a 17 1 866 473,zR P a 12 7 875 480,zR P a 13 0 885 487,zR P a 9 3 890 488,zR P a 9 4 893 489,zR P a 9 5 896 490,de P (a 12 8) 898 (.int 10 897),zR P a 8 10 908 497,zR P a 9 8 915 504,zR P a 4 5 1142 682,zR P a 2 5 1160 693,zR P a 4 7 1166 698,zR P a 4 4 1178 705,zR P a 8 0 1184 710,zR P a 8 2 1200 717,zR P a 2 10 1210 724,zR P a 2 6 1219 731,zR P a 5 11 1227 738,zR P a 4 6 1236 745,zR P a 5 2 1245 752,zR P a 1 7 1251 757,zR P a 3 4 1264 764,zR P a 6 5 1276 771,zR P a 1 3 1285 778,zR P a 0 0 1293 785,zR P a 0 9 1304 792,zR P a 1 10 1319 799,zR P a 3 0 1325 804,zR P a 3 8 1334 811,zR P a 4 3 1348 818] 95) #[]) ::
(nat_lit 30,Obj.mk (.type u0) Option.none (.dict #[de P (a 25 5) 203 (.str (a 24 5) 194),de P (a 25 6) 207 (.int 5 206),zR P a 25 7 208 29,zR P a 25 8 210 32,de P (a 24 8) 211 .none] 3) #[]) ::
(nat_lit 31,Obj.mk (.type u7) Option.none (.cls (ClassData.mk (a 24 2) [.type u5] [.ref 31,.type u5,.type u8,.type u9,.type u10] 30 (a 24 2) Bool.true [] [.ref 44,.ref 56,.ref 68,.ref 80,.ref 92,.ref 104] Bool.false Option.none Bool.false)) #[Option.some (.ref 22),Option.none,Option.some (.str (a 24 2) 196),Option.some (.str (a 24 2) 204),Option.some (.builtin u6),Option.some (.bool Bool.true)]) ::
(nat_lit 79,Obj.mk (.type u0) Option.none (.dict #[de P (a 25 5) 269 (.str (a 24 5) 194),de P (a 25 6) 273 (.int 13 272),zR P a 25 7 274 78,de P (a 24 8) 275 .none] 2) #[]) ::
(nat_lit 80,Obj.mk (.type u7) Option.none (.cls (ClassData.mk (a 4 1) [.ref 31] [.ref 80,.ref 31,.type u5,.type u8,.type u9,.type u10] 79 (a 4 1) Bool.true [] [] Bool.false Option.none Bool.false)) #[Option.some (.ref 71),Option.none,Option.some (.str (a 4 1) 262),Option.some (.str (a 4 1) 270),Option.some (.builtin u6),Option.some (.bool Bool.true)]) ::
(nat_lit 138,zA2 u3 a 22 4 354 40 2 133 359) ::
(nat_lit 139,zF u4 a 22 4 (tp 18) 24 3 310 138) ::
(nat_lit 140,oq u2 #[.int 0 364,.int 0 365]) ::
(nat_lit 141,oq u2 #[.int 1 366,.int 0 367]) ::
(nat_lit 142,oq u2 #[.int (-1) 369,.int 0 370]) ::
(nat_lit 143,oq u2 #[.int 0 371,.int 1 372]) ::
(nat_lit 144,oq u2 #[.int 0 373,.int (-1) 375]) ::
(nat_lit 145,oq u2 #[.ref 140,.ref 141,.ref 142,.ref 143,.ref 144]) ::
(nat_lit 151,zA2 u3 a 23 0 377 44 3 146 387) ::
(nat_lit 152,zF u4 a 23 0 (tp 21) 22 11 362 151) ::
(nat_lit 158,zA2 u3 a 21 8 390 53 2 153 400) ::
(nat_lit 159,zF u4 a 21 8 (tp 22) 22 11 362 158) ::
(nat_lit 163,zB2 u3 a 21 10 403 61 3 160 406) ::
(nat_lit 164,zF u4 a 21 10 (tp 23) 22 11 362 163) ::
(nat_lit 170,zA2 u3 a 21 7 409 65 2 165 417) ::
(nat_lit 171,zF u4 a 21 7 (tp 24) 22 11 362 170) ::
(nat_lit 177,zA2 u3 a 21 11 420 73 2 172 427) ::
(nat_lit 178,zF u4 a 21 11 (tp 25) 22 11 362 177) ::
(nat_lit 184,zA2 u3 a 4 0 430 80 2 179 435) ::
(nat_lit 185,zF u4 a 4 0 (tp 26) 22 11 362 184) ::
(nat_lit 271,zA u3 a 9 11 26 2 558 145 2 266 563) ::
(nat_lit 272,zM u4 a 9 11 26 2 (cb (tp 35) 0) 20 10 482 271) ::
(nat_lit 278,zA u3 a 13 7 26 3 566 150 1 273 570) ::
(nat_lit 279,zM u4 a 13 7 26 3 (cb (tp 35) 1) 20 10 482 278) ::
(nat_lit 311,zA u3 a 11 11 26 8 609 171 3 306 616) ::
(nat_lit 312,zM u4 a 11 11 26 8 (cb (tp 35) 6) 20 10 482 311) ::
(nat_lit 335,Obj.mk (.type u0) Option.none (.dict #[de P (a 25 5) 553 (.str (a 20 10) 482),de P (a 25 6) 557 (.int 143 556),zR P a 9 11 565 272,zR P a 13 7 572 279,zR P a 13 10 580 286,zR P a 14 4 586 291,zR P a 1 2 597 298,zR P a 21 3 608 305,zR P a 11 11 618 312,zR P a 11 10 629 319,zR P a 7 4 640 326,zR P a 14 6 647 333,zR P a 25 7 651 334,zR P a 26 1 653 337,zR P a 25 8 655 338,de P (a 24 8) 656 .none] 4) #[]) ::
(nat_lit 336,Obj.mk (.type u7) Option.none (.cls (ClassData.mk (a 10 6) [.type u10] [.ref 336,.type u10] 335 (a 10 6) Bool.true [] [] Bool.false Option.none Bool.false)) #[Option.none,Option.none,Option.some (.str (a 10 6) 546),Option.some (.str (a 10 6) 554),Option.some (.builtin u13),Option.some (.bool Bool.true)]) ::
(nat_lit 341,oq u2 #[.int 1 661,.int 400 662]) ::
(nat_lit 342,oq u2 #[.int 1 664,.int 40 665]) ::
(nat_lit 343,oq u2 #[.int 0 667,.int 1 668]) ::
(nat_lit 344,oq u2 #[.int 1 670,.int 23 671]) ::
(nat_lit 345,oq u2 #[.int 0 673,.int 4 674]) ::
(nat_lit 346,oq u2 #[.int 1 676,.int 1000000 677]) ::
(nat_lit 347,Obj.mk (.type u0) Option.none (.dict #[zR P a 1 0 681 348,zR P a 1 2 685 349,zR P a 7 5 691 350,zR P a 7 6 693 351,zR P a 7 4 696 352,zR P a 7 7 701 353,zR P a 11 6 703 354,zR P a 11 8 711 355] 8) #[]) ::
(nat_lit 348,oq u2 #[.str (a 0 11) 682,.str (a 0 11) 683,.str (a 18 10) 684]) ::
(nat_lit 349,oq u2 #[.str (a 18 11) 686,.str (a 17 10) 687,.str (a 17 11) 688,.str (a 17 10) 689,.str (a 17 11) 690]) ::
(nat_lit 350,oq u2 #[.str (a 0 11) 692]) ::
(nat_lit 351,oq u2 #[.str (a 0 11) 694,.str (a 18 11) 695]) ::
(nat_lit 352,oq u2 #[.str (a 0 11) 697,.str (a 19 0) 698,.str (a 19 1) 699,.str (a 18 11) 700]) ::
(nat_lit 353,oq u2 #[.str (a 0 11) 702]) ::
(nat_lit 354,oq u2 #[.str (a 18 11) 704,.str (a 17 10) 705,.str (a 17 11) 706,.str (a 17 10) 707,.str (a 17 11) 708,.str (a 19 2) 709,.str (a 19 3) 710]) ::
(nat_lit 355,oq u2 #[.str (a 18 11) 712,.str (a 18 11) 713,.str (a 19 3) 714]) ::
(nat_lit 361,zA2 u3 a 19 4 724 215 1 356 728) ::
(nat_lit 362,zF u4 a 19 4 (tp 45) 20 4 659 361) ::
(nat_lit 368,zA2 u3 a 9 2 731 217 2 363 736) ::
(nat_lit 369,zF u4 a 9 2 (tp 46) 20 4 659 368) ::
(nat_lit 373,zB2 u3 a 17 9 739 221 3 370 742) ::
(nat_lit 374,zF u4 a 17 9 (tp 47) 20 4 659 373) ::
(nat_lit 380,zA2 u3 a 17 7 745 226 2 375 750) ::
(nat_lit 381,zF u4 a 17 7 (tp 48) 20 4 659 380) ::
(nat_lit 387,zA2 u3 a 18 0 753 228 2 382 758) ::
(nat_lit 388,zF u4 a 18 0 (tp 49) 20 4 659 387) ::
(nat_lit 392,zB2 u3 a 18 3 761 230 2 389 764) ::
(nat_lit 393,zF u4 a 18 3 (tp 50) 20 4 659 392) ::
(nat_lit 399,zA2 u3 a 18 6 767 236 2 394 772) ::
(nat_lit 400,zF u4 a 18 6 (tp 51) 20 4 659 399) ::
(nat_lit 406,zA2 u3 a 18 7 775 238 1 401 779) ::
(nat_lit 407,zF u4 a 18 7 (tp 52) 20 4 659 406) ::
(nat_lit 413,zA2 u3 a 10 9 782 244 2 408 787) ::
(nat_lit 414,zF u4 a 10 9 (tp 53) 20 4 659 413) ::
(nat_lit 488,oq u2 #[.int 1 888,.int 24 889]) ::
(nat_lit 489,oq u2 #[.int 0 891,.int 12 892]) ::
(nat_lit 490,oq u2 #[.int 1 894,.int 400 895]) ::
(nat_lit 496,zA2 u3 a 8 10 899 291 4 491 906) ::
(nat_lit 497,zF u4 a 8 10 (tp 72) 15 11 886 496) ::
(nat_lit 503,zA2 u3 a 9 8 909 294 1 498 913) ::
(nat_lit 504,zF u4 a 9 8 (tp 73) 15 11 886 503) ::
(nat_lit 517,zA u3 a 9 11 27 0 928 299 5 512 936) ::
(nat_lit 518,zM u4 a 9 11 27 0 (cb (tp 74) 0) 15 11 886 517) ::
(nat_lit 524,zA u3 a 4 8 27 1 939 310 3 519 945) ::
(nat_lit 525,zM u4 a 4 8 27 1 (cb (tp 74) 1) 15 11 886 524) ::
(nat_lit 531,zA u3 a 11 2 27 2 948 319 2 526 953) ::
(nat_lit 532,zM u4 a 11 2 27 2 (cb (tp 74) 2) 15 11 886 531) ::
(nat_lit 538,zA u3 a 11 3 27 3 956 332 2 533 961) ::
(nat_lit 539,zM u4 a 11 3 27 3 (cb (tp 74) 3) 15 11 886 538) ::
(nat_lit 545,zA u3 a 11 4 27 4 964 337 2 540 971) ::
(nat_lit 546,zM u4 a 11 4 27 4 (cb (tp 74) 4) 15 11 886 545) ::
(nat_lit 601,zA u3 a 3 3 28 0 1037 385 1 596 1041) ::
(nat_lit 602,zM u4 a 3 3 28 0 (cb (tp 74) 12) 15 11 886 601) ::
(nat_lit 629,zA u3 a 1 1 28 4 1065 397 2 624 1070) ::
(nat_lit 630,zM u4 a 1 1 28 4 (cb (tp 74) 16) 15 11 886 629) ::
(nat_lit 636,zA u3 a 0 7 28 5 1073 402 2 631 1078) ::
(nat_lit 637,zM u4 a 0 7 28 5 (cb (tp 74) 17) 15 11 886 636) ::
(nat_lit 681,Obj.mk (.type u0) Option.none (.dict #[de P (a 25 5) 923 (.str (a 15 11) 886),de P (a 25 6) 927 (.int 297 926),zR P a 9 11 938 518,zR P a 4 8 947 525,zR P a 11 2 955 532,zR P a 11 3 963 539,zR P a 11 4 973 546,zR P a 11 5 983 553,zR P a 11 7 994 560,zR P a 11 9 1002 567,zR P a 12 9 1011 574,zR P a 12 6 1021 581,zR P a 13 4 1029 588,zR P a 13 6 1036 595,zR P a 3 3 1043 602,zR P a 1 8 1050 609,zR P a 0 3 1057 616,zR P a 1 6 1064 623,zR P a 1 1 1072 630,zR P a 0 7 1080 637,zR P a 12 11 1089 644,zR P a 14 2 1097 651,zR P a 14 3 1105 658,zR P a 14 4 1112 665,zR P a 14 5 1119 672,zR P a 14 6 1126 679,zR P a 25 7 1135 680,zR P a 26 1 1137 683,zR P a 25 8 1139 684,de P (a 24 8) 1140 .none] 4) #[]) ::
(nat_lit 682,Obj.mk (.type u7) Option.none (.cls (ClassData.mk (a 4 5) [.type u10] [.ref 682,.type u10] 681 (a 4 5) Bool.true [] [] Bool.false Option.none Bool.false)) #[Option.none,Option.none,Option.some (.str (a 4 5) 916),Option.some (.str (a 4 5) 924),Option.some (.builtin u13),Option.some (.bool Bool.true)]) ::
(nat_lit 692,zA2 u3 a 2 5 1145 426 4 687 1158) ::
(nat_lit 693,zF u4 a 2 5 (tp 76) 14 8 1143 692) ::
(nat_lit 697,zB2 u3 a 4 7 1161 441 2 694 1164) ::
(nat_lit 698,zF u4 a 4 7 (tp 77) 14 8 1143 697) ::
(nat_lit 704,zA2 u3 a 4 4 1167 450 2 699 1176) ::
(nat_lit 705,zF u4 a 4 4 (tp 78) 14 8 1143 704) ::
(nat_lit 709,zB2 u3 a 8 0 1179 457 4 706 1182) ::
(nat_lit 710,zF u4 a 8 0 (tp 79) 14 8 1143 709) ::
(nat_lit 716,zA2 u3 a 8 2 1185 459 4 711 1198) ::
(nat_lit 717,zF u4 a 8 2 (tp 80) 14 8 1143 716) ::
(nat_lit 723,zA2 u3 a 2 10 1201 469 4 718 1208) ::
(nat_lit 724,zF u4 a 2 10 (tp 81) 14 8 1143 723) ::
(nat_lit 730,zA2 u3 a 2 6 1211 473 3 725 1217) ::
(nat_lit 731,zF u4 a 2 6 (tp 82) 14 8 1143 730) ::
(nat_lit 744,zA2 u3 a 4 6 1228 477 2 739 1234) ::
(nat_lit 745,zF u4 a 4 6 (tp 84) 14 8 1143 744) ::
(nat_lit 763,zA2 u3 a 3 4 1252 495 4 758 1262) ::
(nat_lit 764,zF u4 a 3 4 (tp 87) 14 8 1143 763) ::
(nat_lit 784,zA2 u3 a 0 0 1286 537 2 779 1291) ::
(nat_lit 785,zF u4 a 0 0 (tp 90) 14 8 1143 784) ::
(nat_lit 791,zA2 u3 a 0 9 1294 546 3 786 1302) ::
(nat_lit 792,zF u4 a 0 9 (tp 91) 14 8 1143 791) ::
(nat_lit 798,zA2 u3 a 1 10 1305 561 2 793 1317) ::
(nat_lit 799,zF u4 a 1 10 (tp 92) 14 8 1143 798) ::
(nat_lit 803,zB2 u3 a 3 0 1320 575 2 800 1323) ::
(nat_lit 804,zF u4 a 3 0 (tp 93) 14 8 1143 803) ::
(nat_lit 810,zA2 u3 a 3 8 1326 579 2 805 1332) ::
(nat_lit 811,zF u4 a 3 8 (tp 94) 14 8 1143 810) ::
(nat_lit 817,zA2 u3 a 4 3 1335 586 1 812 1346) ::
(nat_lit 818,zF u4 a 4 3 (tp 95) 14 8 1143 817)::[]
noncomputable def KF:Qp->Qqq:=KG top Af b0 b1 b2 b3 b4 b5 b6 b7 b8 b9 b10 b11 b12 b13 b14 b15
noncomputable def KH(P:Qp):Qqq:=by refine'(?f:(x:Qqq)->KF P=x->Qqq) _ ?h; (case f=>exact λx _=>x); (case h=>conv=>lhs; whnf)
end K12
namespace PySem.W.Fast
open PySem K12
noncomputable def tw7186950133700881198:Program:=G tw1364081699266988174
theorem te7186950133700881198:PZW=tw7186950133700881198:=Eq.trans (b:=G Af) (by kernel_rfl) (congrArg G te1364081699266988174)
noncomputable def qzu(i:Nat):Stmt:=tw7186950133700881198.main.body.getD i (.Pass ⟨0,0,0,0⟩)
theorem qqm:top=qzu:=funext λi=>congrArg (λp:Program=>p.main.body.getD i (.Pass ⟨0,0,0,0⟩)) te7186950133700881198
noncomputable def qql:Qp->Frag:=KG qzu tw1364081699266988174 tw6418906072666509362 tw11710771843173410737 tw13519915278362666778 tw14536088677973318654 tw17874080930091209216 tw6166455914998602753 tw2517465633799015676 tw2870839946855614341 tw13693171830237696593 tw1502990035613746188 tw6741341053595453220 tw5608986025399297024 tw2798464242927868633 tw9245005911729814798 tw8678989033051975332 tw17977800227057028915
theorem te8952199447332352294:KF=qql:=congr (congr (congr (congr (congr (congr (congr (congr (congr (congr (congr (congr (congr (congr (congr (congr (congr (congrArg KG qqm) te1364081699266988174) te6418906072666509362) te11710771843173410737) te13519915278362666778) te14536088677973318654) te17874080930091209216) te6166455914998602753) te2517465633799015676) te2870839946855614341) te13693171830237696593) te1502990035613746188) te6741341053595453220) te5608986025399297024) te2798464242927868633) te9245005911729814798) te8678989033051975332) te17977800227057028915
end PySem.W.Fast
namespace K12
open PySem PySem.W PySem.Calls PyProof.Rows HD
noncomputable abbrev ads:List Addr:=[3,30,31,79,80,138,139,140,141,142,143,144,145,151,152,158,159,163,164,170,171,177,178,184,185,271,272,278,279,311,312,335,336,341,342,343,344,345,346,347,348,349,350,351,352,353,354,355,361,362,368,369,373,374,380,381,387,388,392,393,399,400,406,407,413,414,488,489,490,496,497,503,504,517,518,524,525,531,532,538,539,545,546,601,602,629,630,636,637,681,682,692,693,697,698,704,705,709,710,716,717,723,724,730,731,744,745,763,764,784,785,791,792,798,799,803,804,810,811,817,818]
noncomputable abbrev loose:List Str:=["ASKS"]
noncomputable def vw(p:Program):Program:=view p [0,2,3,4,5,6,7,8,10,11,12,13,14,15,16,17,18,20,21,22,23,24,25,26,27,28,29,31,32,34,35,37,38,39,40,41,42,43,44,45,46,47,48,49,50,51,52,53,55,56,57,58,60,61,62,63,64,65,66,68,69,70,71,72,73,74,76,77,78,79,80,81,82,83,84,85,86,87,88,89,90,91,92,93,94,95]
noncomputable def Xt(q:Program)(s:Qz):Bool:=xlAt q [] s&&recOk (RowW.records (OpenRow.toRowW (OpenLaw.row RZW))) s
theorem pre:∀w:Qk,(λos=>topGo Q3 PZW w 11 an 12 ⟨Qf w.params,#[],boot_drawn,boot_toks,os⟩ (topStub PZW))=λos=>some ((Sa w os).abs,⟨denote Q3 (cE PZW),cE PZW,p0,[topFrame p0]⟩):=by
 rw[Fast.te15667345088766844465,Fast.te14364793385576792824,Fast.te11892475500146522536,Fast.te7186950133700881198];exact λw=>by kernel_rfl
theorem blk:∀w:Qk,(λos=>segRun Q3 PZW w 11 an 1 1 (Sa w os).abs (blockOf (Zi PZW) (ev PZW) (cE PZW) p0 [topFrame p0]))=λos=>some (Flow.next,(Sa w os).abs,cE PZW,p0):=by
 rw[Fast.te14374325043358763698,Fast.te14364793385576792824,Fast.te7186950133700881198];exact λw=>by kernel_rfl
noncomputable def GA(w:Qk):Prop:=(λos=>(Rn PZW 5545 w os).map λr=>(r.1,r.2.2.1,r.2.2.2,LA PZW (vw PZW) ads w r.2.1.abs))=λ_=>some (Flow.next,cE PZW,⟨586,0,607,15⟩,true,expectedOf (vw PZW),(KF w.params).map λp=>some p.2)
theorem gAf:∀w:Qk,GA (w.withFollow "special-get-raises" false):=by
 unfold GA Rn LA;rw[Fast.te10110043849684766642,Fast.te14364793385576792824,Fast.te5923862056798008813,Fast.te7186950133700881198,Fast.te8952199447332352294];exact λw=>by kernel_rfl
theorem gAt:∀w:Qk,GA (w.withFollow "special-get-raises" true):=by
 unfold GA Rn LA;rw[Fast.te10110043849684766642,Fast.te14364793385576792824,Fast.te5923862056798008813,Fast.te7186950133700881198,Fast.te8952199447332352294];exact λw=>by kernel_rfl
noncomputable def GB(w:Qk):Prop:=(λos=>(Rn PZW 5545 w os).map λr=>LB PZW (vw PZW) loose Xt r.2.1.abs)=λ_=>some true
theorem gBf:∀w:Qk,GB (w.withFollow "special-get-raises" false):=by
 unfold GB Rn LB;rw[Fast.te10110043849684766642,Fast.te14364793385576792824,Fast.te5923862056798008813,Fast.te7186950133700881198];exact λw=>by kernel_rfl
theorem gBt:∀w:Qk,GB (w.withFollow "special-get-raises" true):=by
 unfold GB Rn LB;rw[Fast.te10110043849684766642,Fast.te14364793385576792824,Fast.te5923862056798008813,Fast.te7186950133700881198];exact λw=>by kernel_rfl
noncomputable def GC(w:Qk):Prop:=(λos=>(Rn PZW 5545 w os).map λr=>plainSeenE (vw PZW) (looseW (vw PZW) loose) r.2.1.abs)=λ_=>some (plainGoodE (vw PZW) (looseW (vw PZW) loose))
theorem gCf:∀w:Qk,GC (w.withFollow "special-get-raises" false):=by
 unfold GC Rn ;rw[Fast.te10110043849684766642,Fast.te14364793385576792824,Fast.te7186950133700881198];exact λw=>by kernel_rfl
theorem gCt:∀w:Qk,GC (w.withFollow "special-get-raises" true):=by
 unfold GC Rn ;rw[Fast.te10110043849684766642,Fast.te14364793385576792824,Fast.te7186950133700881198];exact λw=>by kernel_rfl
noncomputable def GD(w:Qk):Prop:=(λos=>(Rn PZW 5545 w os).map λr=>LD (vw PZW) loose r.2.1.abs)=λ_=>some (bltViewBooted,true,pinGoodD (drecsOf (vw PZW)),clsGoodW (vw PZW) loose)
theorem gDf:∀w:Qk,GD (w.withFollow "special-get-raises" false):=by
 unfold GD Rn LD;rw[Fast.te10110043849684766642,Fast.te14364793385576792824,Fast.te7186950133700881198];exact λw=>by kernel_rfl
theorem gDt:∀w:Qk,GD (w.withFollow "special-get-raises" true):=by
 unfold GD Rn LD;rw[Fast.te10110043849684766642,Fast.te14364793385576792824,Fast.te7186950133700881198];exact λw=>by kernel_rfl
noncomputable def GE(w:Qk):Prop:=(λos=>(Rn PZW 5545 w os).map λr=>LG (vw PZW) loose r.2.1.abs)=λ_=>some (wideGood (vw PZW),plainGoodD (vw PZW) loose)
theorem gEf:∀w:Qk,GE (w.withFollow "special-get-raises" false):=by
 unfold GE Rn LG;rw[Fast.te10110043849684766642,Fast.te14364793385576792824,Fast.te7186950133700881198];exact λw=>by kernel_rfl
theorem gEt:∀w:Qk,GE (w.withFollow "special-get-raises" true):=by
 unfold GE Rn LG;rw[Fast.te10110043849684766642,Fast.te14364793385576792824,Fast.te7186950133700881198];exact λw=>by kernel_rfl
theorem left:LeftO PZW (vw PZW) loose (Xt (vw PZW)) (λs=>ads.map s.heap.get?) (λw=>(KF w.params).map λp=>some p.2) 11214:=
 lo3 (boot_open (by kernel_rfl) (by decide) (λs=>by kernel_rfl)) (λw=>by kernel_rfl) pre blk (byRow2 "special-get-raises" gAf gAt) (byRow2 "special-get-raises" gBf gBt) (byRow2 "special-get-raises" gCf gCt) (byRow2 "special-get-raises" gDf gDt) (byRow2 "special-get-raises" gEf gEt) (by decide)
end K12
section
namespace L2
open PySem PySem.Spec PyProof.Rows
abbrev Key:=Sum Int Str
noncomputable def qbe:Key->Value->Bool
 |.inl k,v=>Value.isInt k v
 |.inr x,v=>Value.isStrOf x v
noncomputable def keyH(w:Qk):Key->Int
 |.inl k=>hashInt k
 |.inr x=>hashStr w x
theorem qzd:∀{k:Key}{v:Value},qbe k v=true->(∃i t,k=Sum.inl i/\v=Value.int i t)\/(∃x t,k=Sum.inr x/\v=Value.str x t)
 |.inl i,v,h=>by
  obtain⟨t,e⟩:=Value.isInt_shape (k:=i) (v:=v) h;exact .inl ⟨i,t,rfl,e⟩
 |.inr x,v,h=>by
  obtain⟨t,e⟩:=Value.isStrOf_shape (x:=x) (v:=v) h;exact .inr ⟨x,t,rfl,e⟩
theorem qdp(i:Int)(t:Tok):qbe (.inl i) (.int i t)=true:=by simp[qbe,Value.isInt]
theorem qdo(x:Str)(t:Tok):qbe (.inr x) (.str x t)=true:=by simp[qbe,Value.isStrOf]
theorem key_ll(a b:Int):decide ((Sum.inl a:Key)=Sum.inl b)=(a==b):=by
 by_cases e:a=b
 ·subst e; simp
 ·have h:¬ (Sum.inl a:Key)=Sum.inl b:=λq=>e (Sum.inl.inj q);rw[Z1 h];exact(beq_eq_false_iff_ne.mpr e).symm
theorem key_rr(a b:Str):decide ((Sum.inr a:Key)=Sum.inr b)=decide (a=b):=by
 by_cases e:a=b
 ·subst e; simp
 ·have h:¬ (Sum.inr a:Key)=Sum.inr b:=λq=>e (Sum.inr.inj q);rw[Z1 h,Z1 e]
theorem key_lr(a:Int)(b:Str):decide ((Sum.inl a:Key)=Sum.inr b)=false:=Z1 (λq=>nomatch q)
theorem key_rl(a:Str)(b:Int):decide ((Sum.inr a:Key)=Sum.inl b)=false:=Z1 (λq=>nomatch q)
noncomputable def mixKind(prog:Program)(w:Qk):PySem.KeyKind prog w Key where
 is:=qbe
 hash:=keyH w
 inj:=λv a b ha hb=>by
  rcases qzd ha with⟨i,t,rfl,rfl⟩|⟨x,t,rfl,rfl⟩
  ·rcases qzd hb with⟨j,u,rfl,e⟩|⟨y,u,rfl,e⟩
   ·injection e with e1 _; rw[e1]
   ·exact nomatch e
  ·rcases qzd hb with⟨j,u,rfl,e⟩|⟨y,u,rfl,e⟩
   ·exact nomatch e
   ·injection e with e1 _; rw[e1]
 byValue:=λk v h=>by
  rcases qzd h with⟨i,t,rfl,rfl⟩|⟨x,t,rfl,rfl⟩<;>rfl
 pyHash:=λhv h=>by
  rcases qzd hv with⟨i,t,rfl,rfl⟩|⟨x,t,rfl,rfl⟩
  ·exact wpAny_pyHash_int h
  ·exact wpAny_pyHash_str h
 eqBool:=λhu hv h=>by
  rcases qzd hu with⟨i,t,rfl,rfl⟩|⟨x,t,rfl,rfl⟩
  ·rcases qzd hv with⟨j,u,rfl,rfl⟩|⟨y,u,rfl,rfl⟩
   ·rw[key_ll]at h; exact wpAny_eqBool_int h
   ·rw[key_lr]at h; exact SeqAt.EqAt.int_str i t y u _ _ _ _ h
  ·rcases qzd hv with⟨j,u,rfl,rfl⟩|⟨y,u,rfl,rfl⟩
   ·rw[key_rl]at h; exact SeqAt.EqAt.str_int x t j u _ _ _ _ h
   ·rw[key_rr]at h; exact wpAny_eqBool_str h
 «strs»:=λk x t v h=>by
  rcases qzd h with⟨i,u,rfl,e⟩|⟨y,u,rfl,e⟩
  ·exact nomatch e
  ·injection e with e1 _;subst e1;cases v<;>rfl
theorem qw1(prog:Program)(w:Qk)(i:Int)(t:Tok):(mixKind prog w).is (.inl i) (.int i t)=true:=qdp i t
theorem qq0(prog:Program)(w:Qk)(x:Str)(t:Tok):(mixKind prog w).is (.inr x) (.str x t)=true:=qdo x t
end L2
namespace L2
open PySem PySem.Spec PyProof.Rows
inductive V where
 |non|bl (b:Bool)|int (i:Int)|str (x:Str)|byt (b:Array UInt8)|flt (b:UInt64)|ref (a:Addr)|ty (n:String)
 deriving DecidableEq
noncomputable def RelV:V->Value->Prop
 |.non,u=>u=Value.none
 |.bl b,u=>u=Value.bool b
 |.int i,u=>∃t,u=Value.int i t
 |.str x,u=>∃t,u=Value.str x t
 |.byt b,u=>∃t,u=Value.bytes b t
 |.flt b,u=>∃t,u=Value.float b t
 |.ref a,u=>u=Value.ref a
 |.ty n,u=>u=Value.type n
abbrev Vals:List V->List Value->Prop:=Paired RelV
theorem Vals.length{a:List V}{us:List Value}(r:Vals a us):a.length=us.length:=Paired.length r
theorem Vals.get:∀{a:List V}{us:List Value}{i:Nat}{x:V},Vals a us->a[i]?=some x->∃u,us[i]?=some u/\RelV x u
 |_,_,_,_,.nil,e=>by simp at e
 |_,_,0,_,.cons r _,e=>by simp at e; subst e; exact⟨_,rfl,r⟩
 |_,_,i+1,x,.cons _ t,e=>by
  obtain⟨u,h1,h2⟩:=Vals.get (i:=i) (x:=x) t (by simpa using e);exact⟨u,by simpa using h1,h2⟩
theorem Vals.set{x:V}{u:Value}(r:RelV x u):∀{a:List V}{us:List Value}(i:Nat),Vals a us->Vals (a.set i x) (us.set i u)
 |_,_,_,.nil=>.nil
 |_,_,0,.cons _ t=>.cons r t
 |_,_,i+1,.cons q t=>.cons q (Vals.set r i t)
theorem Vals.append:∀{a ys:List V}{us ws:List Value},Vals a us->Vals ys ws->Vals (a++ys) (us++ws)
 |_,_,_,_,.nil,s=>s
 |_,_,_,_,.cons r t,s=>.cons r (Vals.append t s)
theorem Vals.take:∀{a:List V}{us:List Value}(n:Nat),Vals a us->Vals (a.take n) (us.take n)
 |_,_,0,_=>.nil
 |_,_,_+1,.nil=>.nil
 |_,_,n+1,.cons r t=>.cons r (Vals.take n t)
theorem Vals.drop:∀{a:List V}{us:List Value}(n:Nat),Vals a us->Vals (a.drop n) (us.drop n)
 |_,_,0,r=>r
 |_,_,_+1,.nil=>.nil
 |_,_,n+1,.cons _ t=>Vals.drop n t
noncomputable def RelO:Option V->Option Value->Prop
 |some v,some u=>RelV v u
 |none,none=>True
 |_,_=>False
def KV{κ:Type}:List (κ×V)->List (κ×Value)->Prop:=Paired λ(p:κ×V) (q:κ×Value)=>p.1=q.1/\RelV p.2 q.2
noncomputable def kV:Key->V
 |.inl i=>.int i
 |.inr x=>.str x
inductive HO where
 /-- a list -/
 |lst (xs:List V)
 /-- a tuple (never changes) -/
 |tup (xs:List V)
 /-- a dict whose keys are ints and texts; one whose keys are tuples of ints and texts (the empty one is both) -/
 |dK (kvs:List (Key×V))|dT (kvs:List (List Key×V))
 /-- a set of ints: its members,its size -/
 |set (S:Int->Bool) (n:Nat)
 /-- an instance of the class at C,its dict at dx,its attributes -/
 |ins (C dx:Addr) (fs:List (Str×V))
 /-- the dict of the instance at x -/
 |own (x:Addr)
 /-- the dict of an exception -/
 |xd (fs:List (Str×V))
 /-- a bound method,f of x -/
 |met (f x:Addr)
 /-- a range object lo,lo+1,.. below hi -/
 |rng (lo hi:Int)
 /-- a thing that is known to the object (the script; a dict while a loop walks it): read,never written while it is so -/
 |frz (o:Obj) (u:HO)
 /-- a code object's table -/
 |tbl (ps:Array Value)
 /-- any other thing,by what is true of its one object (a def of one's own: SetO a S n:=HO.ext λh=>..) -/
 |ext (φ:Heap->Prop)
abbrev Hp:=Addr->Option HO
noncomputable def upd(H:Hp)(a:Addr)(o:HO):Hp:=λb=>if b=a then some o else H b
theorem qzw{H:Hp}{a:Addr}{o:HO}:upd H a o a=some o:=by unfold upd; rw[Z3 rfl]
theorem qzx{H:Hp}{a b:Addr}{o:HO}(h:b≠a):upd H a o b=H b:=by unfold upd; rw[Z2 h]
theorem qzr{H:Hp}{a b:Addr}{o u:HO}(h:H a=some o)(h':H b=some u)(d:o≠u):a≠b:=by
 intro e; subst e; rw[h]at h'; exact d (Option.some.inj h')
theorem qze{H:Hp}{a b:Addr}{o:HO}(h:H a=some o)(h':H b=none):a≠b:=by
 intro e; subst e; rw[h]at h'; cases h'
section
variable (P:Program)(w:Qk)
noncomputable def ObjOk(H:Hp)(h:Heap)(a:Addr):HO->Prop
 |.lst xs=>xs.length<=sizeLine/\∃(its:List Value) (n:Nat),Vals xs its/\h.get? a=some { cls:=.type "list",data:=.seq its.toArray n }
 |.tup xs=>xs.length<=sizeLine/\∃its:List Value,Vals xs its/\IsTup h a its.toArray
 |.dK kvs=>kvs.length<=sizeLine/\(a==Qi)=false/\∃vs,KV kvs vs/\h.DictOf (mixKind P w) a vs
 |.dT kvs=>kvs.length<=sizeLine/\(a==Qi)=false/\∃xs:List (List Key×Addr×Value),
   Paired (λ(p:List Key×V) (q:List Key×Addr×Value)=>p.1=q.1/\H q.2.1=some (.tup (p.1.map kV))/\RelV p.2 q.2.2) kvs xs/\
   ∃o es ep,h.get? a=some o/\o.ExactDict/\o.data=.dict es ep/\es.toList=xs.map (entryOfKey (tupleKind (mixKind P w)))/\(xs.map (·.1)).Nodup
 |.set S n=>h.SetOf (intKind P w) a S n
 |.ins C dx fs=>H dx=some (.own a)/\fs.length<=1000/\dx≠a/\h.get? a=some (PySem.W.instObj C dx)/\
   ∃mA,h.Ns1 dx mA/\(∀f,RelO (fs.lookup f) (mA f))/\PySem.Within mA (fs.map (·.1))
 |.own _=>∃o,h.get? a=some o
 |.xd fs=>∃mA,h.Ns1 a mA/\∀f,RelO (fs.lookup f) (mA f)
 |.rng lo hi=>∃t u v,h.get? a=some { cls:=.type "range",data:=.fields #[.int lo t,.int hi u,.int 1 v] }
 |.frz o u=>h.get? a=some o/\ObjOk H h a u
 |.tbl ps=>h.get? a=some { cls:=.none,data:=.fields ps }
 |.met f x=>h.get? a=some (PySem.W.methodObj (.ref f) (.ref x))
 |.ext φ=>φ h/\(∃o,h.get? a=some o)/\∀h1 h2:Heap,φ h1->(∀o,h1.get? a=some o->h2.get? a=some o)->φ h2
def HOk(H:Hp)(h:Heap):Prop:=∀a o,H a=some o->ObjOk P w H h a o
end
section
variable {P:Program}{w:Qk}{H H':Hp}{h h':Heap}{a:Addr}{o:HO}
theorem ObjOk.lt(x:ObjOk P w H h a o):a<h.objs.size:=by
 cases o with
 |lst xs=>obtain⟨_,_,_,_,e⟩:=x; exact Qqa e
 |tup xs=>obtain⟨_,_,_,p⟩:=x; exact p.lt
 |dK kvs=>obtain⟨_,_,_,_,o,_,_,e,_⟩:=x; exact Qqa e
 |dT kvs=>obtain⟨_,_,_,_,o,_,_,e,_⟩:=x; exact Qqa e
 |set S n=>obtain⟨o,_,_,_,e,_⟩:=x; exact Qqa e
 |ins C dx fs=>obtain⟨_,_,_,e,_⟩:=x; exact Qqa e
 |own y=>obtain⟨_,e⟩:=x; exact Qqa e
 |xd fs=>obtain⟨_,⟨_,_,_,e,_⟩,_⟩:=x; exact Qqa e
 |rng lo hi=>obtain⟨_,_,_,e⟩:=x; exact Qqa e
 |frz ob u=>obtain⟨e,_⟩:=x; exact Qqa e
 |tbl ps=>exact Qqa (show h.get? a=some _ from x)
 |met f y=>exact Qqa (show h.get? a=some _ from x)
 |ext b=>obtain⟨_,⟨_,e⟩,_⟩:=x; exact Qqa e
theorem Paired.mapP{α d:Type}{F G:α->d->Prop}:∀{l₁:List α}{c:List d},Paired F l₁ c->(∀a b,F a b->G a b)->Paired G l₁ c
 |_,_,.nil,_=>.nil
 |_,_,.cons r t,f=>.cons (f _ _ r) (Paired.mapP t f)
theorem ObjOk.stay(x:ObjOk P w H h a o)(k:∀b u,(b=a\/H b=some (.own a))->h.get? b=some u->h'.get? b=some u)
  (s:∀b,H b=some (.own a)->H' b=some (.own a)) (m:∀b xs,H b=some (.tup xs)->H' b=some (.tup xs)):ObjOk P w H' h' a o:=by
 induction o with
 |lst xs=>obtain⟨z,i,n,r,e⟩:=x; exact⟨z,i,n,r,k _ _ (.inl rfl) e⟩
 |tup xs=>obtain⟨z,i,r,ob,e,c⟩:=x; exact⟨z,i,r,ob,k _ _ (.inl rfl) e,c⟩
 |dK kvs=>obtain⟨z,y,vs,r,ob,es,g,e,c⟩:=x; exact⟨z,y,vs,r,ob,es,g,k _ _ (.inl rfl) e,c⟩
 |dT kvs=>
  obtain⟨z,y,xs,r,ob,es,g,e,c⟩:=x;exact⟨z,y,xs,Paired.mapP r λp q z=>⟨z.1,m _ _ z.2.1,z.2.2⟩,ob,es,g,k _ _ (.inl rfl) e,c⟩
 |set S n=>obtain⟨ob,es,g,t,e,c⟩:=x; exact⟨ob,es,g,t,k _ _ (.inl rfl) e,c⟩
 |ins C dx fs=>
  obtain⟨d,z,ne,e,mA,⟨j,es,g,A,c⟩,r⟩:=x;exact⟨s _ d,z,ne,k _ _ (.inl rfl) e,mA,⟨j,es,g,k _ _ (.inr d) A,c⟩,r⟩
 |own y=>obtain⟨ob,e⟩:=x; exact⟨ob,k _ _ (.inl rfl) e⟩
 |xd fs=>obtain⟨mA,⟨j,es,g,e,c⟩,r⟩:=x; exact⟨mA,⟨j,es,g,k _ _ (.inl rfl) e,c⟩,r⟩
 |rng lo hi=>obtain⟨t,u,v,e⟩:=x; exact⟨t,u,v,k _ _ (.inl rfl) e⟩
 |frz ob u l=>obtain⟨e,q⟩:=x; exact⟨k _ _ (.inl rfl) e,l q⟩
 |tbl ps=>
  have e:h.get? a=some { cls:=.none,data:=.fields ps }:=x;show h'.get? a=some { cls:=.none,data:=.fields ps };exact k a _ (.inl rfl) e
 |met f y=>
  have e:h.get? a=some (PySem.W.methodObj (.ref f) (.ref y)):=x;show h'.get? a=some (PySem.W.methodObj (.ref f) (.ref y));exact k a _ (.inl rfl) e
 |ext D=>obtain⟨p,⟨o,e⟩,st⟩:=x; exact⟨st _ _ p λo q=>k _ _ (.inl rfl) q,⟨o,k _ _ (.inl rfl) e⟩,st⟩
theorem HOk.lt(x:HOk P w H h)(e:H a=some o):a<h.objs.size:=(x a o e).lt
theorem HOk.fresh(x:HOk P w H h)(e:h.objs.size<=a):H a=none:=by
 cases q:H a with
 |none=>rfl
 |some u=>exact absurd (Qqm (x.lt q) e) (Qzy _)
theorem HOk.kept(x:HOk P w H h)(k:∀b u,h.get? b=some u->h'.get? b=some u):HOk P w H h':=λa o e=>
 (x a o e).stay (λb u _ q=>k b u q) (λ_ q=>q) λ_ _ q=>q
theorem HOk.laid(x:HOk P w H h)(k:∀b u,h.get? b=some u->h'.get? b=some u)(f:h.objs.size<=a)(new:ObjOk P w (upd H a o) h' a o):HOk P w (upd H a o) h':=λb u e=>by
 have hn:=x.fresh f
 by_cases d:b=a
 ·subst d; rw[qzw]at e; cases e; exact new
 ·rw[qzx d]at e;exact(x b u e).stay (λc v _ q=>k c v q) (λc q=>by rw[qzx (qze q hn)]; exact q) λc xs q=>by rw[qzx (qze q hn)]; exact q
end
def Rd(H:Hp)(a:Addr)(u:HO):Prop:=H a=some u\/∃o,H a=some (.frz o u)
theorem Rd.ok{P:Program}{w:Qk}{H:Hp}{h:Heap}{a:Addr}{u:HO}(r:Rd H a u)(x:HOk P w H h):ObjOk P w H h a u:=by
 rcases r with r|⟨o,r⟩
 ·exact x a u r
 ·obtain⟨_,q⟩:=x a _ r;exact q
noncomputable def Mut:Option HO->Prop
 |some (.lst _)=>True
 |some (.dK _)=>True
 |some (.dT _)=>True
 |some (.set _ _)=>True
 |some (.ins _ _ _)=>True
 |some (.ext _)=>True
 |_=>False
section
variable {P:Program}{w:Qk}{H:Hp}{h h':Heap}{x e:Addr}{o':HO}
theorem HOk.write(ok:HOk P w H h)(g:Mut (H x))(n:e=x\/H e=some (.own x))(k:∀b u,b≠e->h.get? b=some u->h'.get? b=some u)(l:∃u,h'.get? e=some u)
  (new:ObjOk P w (upd H x o') h' x o'):HOk P w (upd H x o') h':=λb u q=>by
 have d:∀c y,H c=some (.own y)->c≠x:=λc y r z=>by subst z; rw[r]at g; exact g
 have f:∀c xs,H c=some (.tup xs)->c≠x:=λc xs r z=>by subst z; rw[r]at g; exact g
 by_cases j:b=x
 ·subst j; rw[qzw]at q; cases q; exact new
 ·rw[qzx j]at q
  by_cases a:b=e
  ·have m:H b=some (.own x):=by
    rcases n with z|z
    ·exact absurd (a.trans z) j
    ·rw[a]; exact z
   rw[q]at m; cases m;obtain⟨v,o⟩:=l;exact⟨v,by rw[a]; exact o⟩
  ·refine(ok b u q).stay (λc v i r=>k c v ?_ r) (λc r=>by rw[qzx (d c b r)]; exact r) λc xs r=>by rw[qzx (f c xs r)]; exact r
   rcases i with rfl|i
   ·exact a
   ·rintro rfl;rcases n with z|z
    ·exact d c b i z
    ·rw[i]at z; cases z; exact j rfl
end
structure Un (fs ex:List Addr) (H H':Hp) (h h':Heap):Prop where
 keep:∀b o,h.get? b=some o->H b=none->b ∉ fs->b ∉ ex->h'.get? b=some o
 slot:∀b o,h.get? b=some o->H b=none->b∈fs->b ∉ ex->∃sl,h'.get? b=some { o with slots:=sl }
 free:∀b o,h.get? b=some o->H b=none->b ∉ ex->H' b=none
 there:∀b o,h.get? b=some o->b ∉ ex->∃o',h'.get? b=some o'
 tups:∀b xs,H b=some (.tup xs)->H' b=some (.tup xs)
 frzs:∀b o u,H b=some (.frz o u)->H' b=some (.frz o u)
 tbls:∀b ps,H b=some (.tbl ps)->∃more,H' b=some (.tbl (ps++more))
section
variable {fs fs' ex ex':List Addr}{H H1 H2:Hp}{h h1 h2 h':Heap}{a x e:Addr}{o:HO}
theorem Un.any(u:Un fs ex H H1 h h1){b:Addr}{ob:Obj}(q:h.get? b=some ob)(n:H b=none)(c:b ∉ ex):∃sl,h1.get? b=some { ob with slots:=sl }:=by
 by_cases d:b∈fs
 ·exact u.slot b ob q n d c
 ·exact⟨ob.slots,u.keep b ob q n d c⟩
theorem Un.kept(k:∀b u,h.get? b=some u->h'.get? b=some u):Un fs ex H H h h':=
 ⟨λb ob q _ _ _=>k b ob q,λb ob q _ _ _=>⟨ob.slots,k b ob q⟩,λ_ _ _ n _=>n,λb ob q _=>⟨ob,k b ob q⟩,λ_ _ q=>q,λ_ _ _ q=>q,λ_ ps q=>⟨#[],by rw[q]; simp⟩⟩
theorem Un.refl:Un fs ex H H h h:=Un.kept λ_ _ q=>q
theorem Un.laid(k:∀b u,h.get? b=some u->h'.get? b=some u)(d:h.objs.size<=a)(c:H a=none):Un fs ex H (upd H a o) h h' where
 keep:=λb u q _ _ _=>k b u q
 slot:=λb u q _ _ _=>⟨u.slots,k b u q⟩
 free:=λb u q n _=>by rw[qzx (Qq1 (Qqm (Qqa q) d))]; exact n
 there:=λb u q _=>⟨u,k b u q⟩
 tups:=λb xs q=>by rw[qzx (qze q c)]; exact q
 frzs:=λb u xs q=>by rw[qzx (qze q c)]; exact q
 tbls:=λb ps q=>⟨#[],by rw[qzx (qze q c),q]; simp⟩
theorem Un.write(d:Mut (H x))(l:e=x\/H e=some (.own x))(k:∀b u,b≠e->h.get? b=some u->h'.get? b=some u)(g:∃u,h'.get? e=some u):Un fs ex H (upd H x o) h h':=by
 have i:∀b,H b=none->b≠x:=λb n z=>by subst z; rw[n]at d; exact d
 have j:∀b,H b=none->b≠e:=λb n z=>by
  subst z;rcases l with r|r
  ·exact i b n r
  ·rw[n]at r; cases r
 have f:∀b u,H b=some u->¬ Mut (some u)->b≠x:=λb u q nm z=>by subst z; rw[q]at d; exact nm d
 refine⟨λb u q n _ _=>k b u (j b n) q,λb u q n _ _=>⟨u.slots,k b u (j b n) q⟩,λb u q n _=>by rw[qzx (i b n)]; exact n,λb u q _=>?_,
  λb xs q=>by rw[qzx (f b _ q λz=>z)]; exact q,λb u xs q=>by rw[qzx (f b _ q λz=>z)]; exact q,λb ps q=>⟨#[],by rw[qzx (f b _ q λz=>z),q]; simp⟩⟩
 by_cases c:b=e
 ·subst c; exact g
 ·exact⟨u,k b u c q⟩
end
noncomputable def trk(h:Heap)(H:Hp):List Addr:=(List.range h.objs.size).filter λa=>(H a).isSome
noncomputable def hidT(h:Heap)(H:Hp):Heap:=PySem.W.hideAll h (trk h H)
theorem qd1(h:Heap)(H:Hp):(hidT h H).objs.size=h.objs.size:=PySem.W.hideAll_size _ _
theorem qgl{h:Heap}{H:Hp}{b:Addr}{o:Obj}(e:h.get? b=some o)(n:H b=none):(hidT h H).get? b=some o:=
 PySem.W.hideAll_get _ e λa=>by
  have q:(H b).isSome=true:=(Qxp.mp a).2;rw[n]at q; simp at q
theorem ql0{h:Heap}{H:Hp}{b:Addr}{o:Obj}(e:(hidT h H).get? b=some o):h.get? b=some o/\H b=none:=by
 have a:h.get? b=some o:=PySem.W.of_hideAll (trk h H) e;refine⟨a,?_⟩
 cases q:H b with
 |none=>rfl
 |some x=>
  have c:b∈trk h H:=Qxp.mpr ⟨Qza.mpr (Qqa a),by simp[q]⟩;have z:(hidT h H).get? b=none:=PySem.W.hideAll_none (trk h H) c;rw[z]at e; cases e
end L2
namespace L2
open PySem PySem.Spec PyProof.Rows
structure Mod (K:Qqq) (mg:Str->Option Value) (base:Heap):Prop where
 kin:K.In base
 glob:base.Ns mainGlobals mg
 blt:∃mb,base.Ns builtinsNs mb/\∀x:Str,x ≠ "__name__"->mb x=Qb x
 nolimit:base.NoLimit
structure Cx where
 prog:Program
 w:Qk
 K:Qqq
 mg:Str->Option Value
 base:Heap
 A:Qv
 N:List Str
 s₀:Qz
 H₀:Hp
 env:Env
 outer:List Env
 stack:List Env
 ex:List Addr
 fn:Str->Bool
 calm:Bool
 pn:List (Addr×Obj)
 xe:Value->Qz->Prop
noncomputable def frs(l:List Env):List Addr:=l.filterMap (·.frame)
noncomputable abbrev Cx.fs(X:Cx):List Addr:=frs X.outer
def Vis(sc:Scope)(x:Str):Prop:=sc.names.lookup x=some .local\/sc.names.lookup x=some .cell\/sc.names.lookup x=some .free
def Loc(sc:Scope)(x:Str):Prop:=sc.names.lookup x=some .local\/sc.names.lookup x=some .cell
def Look(env:Env)(h:Heap)(m:Str->Option Value)(x:Str)(u:Value):Prop:=
 (env.kindOf x=some .local/\m x=some u)\/((env.kindOf x=some .cell\/env.kindOf x=some .free)/\∃c,env.cells.lookup x=some c/\h.IsCell c (some u))
structure Cx.Ok (X:Cx):Prop where
 mod:Mod X.K X.mg X.base
 kind:X.env.scope.kind=.function
 glob:X.env.globals=mainGlobals
 blt:X.env.builtins=builtinsNs
 above:X.s₀.heap.objs.size<=X.env.locals
 inj:∀x y c,X.env.cells.lookup x=some c->X.env.cells.lookup y=some c->x=y
 has:∀x,(X.env.kindOf x=some .cell\/X.env.kindOf x=some .free)->∃c,X.env.cells.lookup x=some c
 cab:∀x c,X.fn x=true->X.env.cells.lookup x=some c->X.s₀.heap.objs.size<=c
 hd:X.calm=true->X.A.handled=none
 frames:X.A.frames=some X.stack
 stk:X.stack=X.outer\/(X.stack=X.env::X.outer/\X.env.frame=some X.env.locals)
 exf:∀b∈X.ex,b≠X.env.locals/\∀x c,X.env.cells.lookup x=some c->c≠b
 bs:∀b o,X.base.get? b=some o->X.s₀.heap.get? b=some o/\X.H₀ b=none
 bsz:X.base.objs.size<=X.s₀.heap.objs.size
 noex:∀b o,X.base.get? b=some o->b ∉ X.ex
 exfs:∀b∈X.ex,b ∉ X.fs
 funs:X.s₀.heap.FunFrames X.base X.outer
 frf:∀b∈X.fs,X.H₀ b=none
structure Inv (X:Cx) (pins:List (Addr×Obj)) (σ:List (Option V)) (H:Hp) (s:Qz):Prop where
 ok:X.Ok
 os:s.os=X.s₀.os
 bare:Zc s.gens
 base:Un X.fs X.ex X.H₀ H X.s₀.heap s.heap
 loc:∃m,s.heap.Ns X.env.locals m/\∀(i:Nat) (x:Str) (v:V),X.N[i]?=some x->σ[i]?=some (some v)->Vis X.env.scope x->∃u,RelV v u/\Look X.env s.heap m x u
 cell:∀x c,X.env.cells.lookup x=some c->∃v,s.heap.IsCell c v
 free:H X.env.locals=none
 freeC:∀x c,X.env.cells.lookup x=some c->H c=none
 pin:∀p∈X.pn++pins,s.heap.get? p.1=some p.2/\H p.1=none/\p.1≠X.env.locals/\p.1 ∉ X.fs/\∀v,p.2.data≠.cell v
 hok:HOk X.prog X.w H s.heap
 len:σ.length=X.N.length
section
variable {X:Cx}{pins:List (Addr×Obj)}{σ:List (Option V)}{H H':Hp}{s:Qz}{h':Heap}
theorem Cx.Ok.nofr(ok:X.Ok){b:Addr}{o:Obj}(e:X.base.get? b=some o):b ∉ X.fs:=λa=>by
 have:=(ok.funs.mem a).1;rw[e]at this; cases this
theorem Inv.bs(I:Inv X pins σ H s):∀b o,X.base.get? b=some o->s.heap.get? b=some o/\H b=none:=λb o e=>
 ⟨I.base.keep b o (I.ok.bs b o e).1 (I.ok.bs b o e).2 (I.ok.nofr e) (I.ok.noex b o e),I.base.free b o (I.ok.bs b o e).1 (I.ok.bs b o e).2 (I.ok.noex b o e)⟩
theorem Inv.bk(I:Inv X pins σ H s):∀b o,X.base.get? b=some o->s.heap.get? b=some o:=λb o e=>(I.bs b o e).1
theorem Inv.mod(I:Inv X pins σ H s):Mod X.K X.mg X.base:=I.ok.mod
theorem Inv.kIn(I:Inv X pins σ H s):X.K.In s.heap:=I.ok.mod.kin.keeps I.bk
theorem Inv.lt(I:Inv X pins σ H s):X.env.locals<s.heap.objs.size:=let ⟨_,hn,_⟩:=I.loc; hn.lt
theorem Inv.sz(I:Inv X pins σ H s):X.s₀.heap.objs.size<=s.heap.objs.size:=Qq9 I.ok.above (Qx5 I.lt)
theorem Inv.nofs(I:Inv X pins σ H s){a:Addr}(h:s.heap.objs.size<=a):a ∉ X.fs:=λc=>by
 obtain⟨_,o,b,_⟩:=I.ok.funs.mem c;exact absurd (Qqm (Qqa b) (Qq9 I.sz h)) (Qzy _)
theorem Inv.cne(I:Inv X pins σ H s):∀x c,X.env.cells.lookup x=some c->c≠X.env.locals:=λx c e z=>by
 obtain⟨v,o,d,hd⟩:=I.cell x c e;obtain⟨m,⟨o',es,f,a,b,_⟩,_⟩:=I.loc;rw[z,a]at d; cases d; rw[b]at hd; cases hd
theorem Inv.funs(I:Inv X pins σ H s):s.heap.FunFrames X.base X.outer:=by
 have all:∀(l:List Env),(∀b∈frs l,b∈X.fs)->X.s₀.heap.FunFrames X.base l->s.heap.FunFrames X.base l:=by
  intro l
  induction l with
  |nil=>intro _ _; trivial
  |cons env r f=>
   intro d i;obtain⟨j,⟨Lq,o,hf,hn,h,hd⟩,g⟩:=i;have c:Lq∈X.fs:=d Lq (by unfold frs; rw[Qxw,hf]; exact Qql);obtain⟨sl,e⟩:=I.base.slot Lq o h (I.ok.frf Lq c) c λz=>I.ok.exfs Lq z c;exact⟨j,⟨Lq,_,hf,hn,e,hd⟩,f (λb a=>d b (by unfold frs; rw[Qxw,hf]; exact Qqf _ a)) g⟩
 exact all X.outer (λ_ a=>a) I.ok.funs
theorem Inv.stack(I:Inv X pins σ H s):s.heap.FunFrames X.base X.stack:=by
 rcases I.ok.stk with e|⟨e,hf⟩
 ·rw[e]; exact I.funs
 ·rw[e];obtain⟨m,hn,_⟩:=I.loc;refine .cons (by rw[I.ok.kind]; decide) hf hn ?_ I.funs;exact Heap.get?_none_of_le (Qq9 I.ok.bsz I.ok.above)
theorem Inv.stkSub(I:Inv X pins σ H s):∀b∈frs X.stack,b∈X.env.locals::X.fs:=λb a=>by
 rcases I.ok.stk with e|⟨e,hf⟩
 ·rw[e]at a; exact Qqf _ a
 ·rw[e]at a;unfold frs at a;rw[Qxw,hf]at a;exact a
theorem Inv.stkFree(I:Inv X pins σ H s):∀b∈frs X.stack,H b=none:=λb a=>by
 rcases Qqb.mp (I.stkSub b a) with e|a
 ·rw[e]; exact I.free
 ·obtain⟨_,o,c,_⟩:=I.ok.funs.mem a;exact I.base.free b o c (I.ok.frf b a) λz=>I.ok.exfs b z a
theorem Inv.step{g':Array GenState}{t':Nat}{d':Drawn}{ch:List Addr}(I:Inv X pins σ H s)
  (g:∀b∈ch,(b∈X.ex\/X.s₀.heap.objs.size<=b)/\b≠X.env.locals/\(∀x c,X.env.cells.lookup x=some c->c≠b)/\∀p∈X.pn++pins,p.1≠b)
  (keep:∀b o,b≠X.env.locals->b ∉ X.fs->b ∉ ch->s.heap.get? b=some o->H b=none->h'.get? b=some o)
  (slot:∀b o,b≠X.env.locals->b∈X.fs->b ∉ ch->s.heap.get? b=some o->H b=none->∃sl,h'.get? b=some { o with slots:=sl }) (free:∀b o,b ∉ ch->s.heap.get? b=some o->H b=none->H' b=none)
  (there:∀b o,b ∉ ch->s.heap.get? b=some o->∃o',h'.get? b=some o')
  (tups:∀b xs,H b=some (.tup xs)->H' b=some (.tup xs)) (frzs:∀b o u,H b=some (.frz o u)->H' b=some (.frz o u)) (tbls:∀b ps,H b=some (.tbl ps)->∃more,H' b=some (.tbl (ps++more)))
  (ns:∀m,s.heap.Ns X.env.locals m->h'.Ns X.env.locals m) (hok:HOk X.prog X.w H' h') (N:Zc g') :
  Inv X pins σ H' { s with heap:=h',gens:=g',drawn:=d',toks:=t' }:=by
 have A:∀b o,X.s₀.heap.get? b=some o->b≠X.env.locals:=λb o e=>Qq1 (Qqm (Qqa e) I.ok.above);have j:∀b o,X.s₀.heap.get? b=some o->b ∉ X.ex->b ∉ ch:=λb o e a w=>by
  rcases (g b w).1 with z|z
  ·exact a z
  ·exact absurd (Qqm (Qqa e) z) (Qzy _)
 have h:∀x c,X.env.cells.lookup x=some c->∀v,s.heap.IsCell c v->h'.IsCell c v:=λx c e v ⟨o,y,hd⟩=>by
  have f:c ∉ ch:=λz=>(g c z).2.2.1 x c e rfl
  by_cases G:c∈X.fs
  ·obtain⟨sl,q⟩:=slot c o (I.cne x c e) G f y (I.freeC x c e);exact⟨_,q,hd⟩
  ·exact⟨o,keep c o (I.cne x c e) G f y (I.freeC x c e),hd⟩
 refine⟨I.ok,I.os,N,⟨λb o e n w a=>?_,λb o e n w a=>?_,λb o e n a=>?_,λb o e a=>?_,λb xs e=>tups b xs (I.base.tups b xs e),λb o xs e=>frzs b o xs (I.base.frzs b o xs e),λb ps e=>?_⟩,?_,λx c e=>?_,?_,λx c e=>?_,λp F=>?_,hok,I.len⟩
 ·exact keep b o (A b o e) w (j b o e a) (I.base.keep b o e n w a) (I.base.free b o e n a)
 ·obtain⟨sl,t⟩:=I.base.slot b o e n w a;obtain⟨D,C⟩:=slot b _ (A b o e) w (j b o e a) t (I.base.free b o e n a);exact⟨D,C⟩
 ·obtain⟨o',t⟩:=I.base.there b o e a;exact free b o' (j b o e a) t (I.base.free b o e n a)
 ·obtain⟨o',t⟩:=I.base.there b o e a;exact there b o' (j b o e a) t
 ·obtain⟨m1,t⟩:=I.base.tbls b ps e;obtain⟨m2,C⟩:=tbls b _ t;exact⟨m1++m2,by rw[C,Array.append_assoc]⟩
 ·obtain⟨m,hn,K⟩:=I.loc;refine⟨m,ns m hn,λi x v t C P=>?_⟩;obtain⟨u,r,l⟩:=K i x v t C P;refine⟨u,r,?_⟩;rcases l with l|⟨k,c,e,z⟩
  ·exact .inl l
  ·exact .inr ⟨k,c,e,h x c e _ z⟩
 ·obtain⟨v,z⟩:=I.cell x c e;exact⟨v,h x c e v z⟩
 ·obtain⟨m,⟨o,_,_,y,_⟩,_⟩:=I.loc;exact free _ o (λz=>(g _ z).2.1 rfl) y I.free
 ·obtain⟨v,o,y,hd⟩:=I.cell x c e;exact free c o (λz=>(g c z).2.2.1 x c e rfl) y (I.freeC x c e)
 ·obtain⟨e,n,ne,E,d⟩:=I.pin p F;have f:p.1 ∉ ch:=λz=>(g p.1 z).2.2.2 p F rfl;exact⟨keep p.1 p.2 ne E f e n,free p.1 p.2 f e n,ne,E,d⟩
theorem Inv.un{t':Nat}(I:Inv X pins σ H s)(u:Un X.fs [] H H' s.heap h')(hok:HOk X.prog X.w H' h'):Inv X pins σ H' { s with heap:=h',toks:=t' }:=by
 obtain⟨m,⟨o,es,j,g,r⟩,_⟩:=id I.loc;obtain⟨sl,i⟩:=u.any g I.free (by simp)
 exact I.step (g':=s.gens) (d':=s.drawn) (ch:=[]) (λ_ z=>nomatch z) (λb o _ c _ e n=>u.keep b o e n c (by simp)) (λb o _ c _ e n=>u.slot b o e n c (by simp)) (λb o _ e n=>u.free b o e n (by simp)) (λb o _ e=>u.there b o e (by simp)) u.tups u.frzs u.tbls (λm' h=>by
  obtain⟨o',d,f,a,r'⟩:=h;rw[g]at a; cases a
  exact⟨_,d,f,i,r'⟩) hok I.bare
theorem Inv.call{g':Array GenState}{t':Nat}{d':Drawn}{ch:List Addr}(I:Inv X pins σ H s)(u:Un (frs X.stack) ch H H' s.heap h')(hok:HOk X.prog X.w H' h')(l:Zc g')
  (f:∀b∈ch,(b∈X.ex\/X.s₀.heap.objs.size<=b)/\b≠X.env.locals/\(∀x c,X.env.cells.lookup x=some c->c≠b)/\∀p∈X.pn++pins,p.1≠b) :
  Inv X pins σ H' { s with heap:=h',gens:=g',drawn:=d',toks:=t' }:=by
 obtain⟨m,⟨o,es,t,j,r⟩,_⟩:=id I.loc;obtain⟨sl,g⟩:=u.any j I.free λz=>(f _ z).2.1 rfl
 exact I.step (ch:=ch) f (λb o g q a e n=>u.keep b o e n (λz=>(Qqb.mp (I.stkSub b z)).elim g q) a) (λb o _ _ a e n=>u.any e n a) (λb o a e n=>u.free b o e n a) (λb o a e=>u.there b o e a) u.tups u.frzs u.tbls (λm' k=>by
  obtain⟨o',h,i,d,r'⟩:=k;rw[j]at d; cases d
  exact⟨_,h,i,g,r'⟩) hok l
theorem Inv.turned{t':Nat}{it:Addr}(I:Inv X pins σ H s)(k:∀b o,b≠it->s.heap.get? b=some o->h'.get? b=some o)(h:H it=none)(f:it≠X.env.locals)
  (w:it∈X.ex\/X.s₀.heap.objs.size<=it) (t:∀x c,X.env.cells.lookup x=some c->c≠it) (l:∀p∈X.pn++pins,p.1≠it):Inv X pins σ H { s with heap:=h',toks:=t' }:=by
 have d:∀b u,H b=some u->b≠it:=λb u e z=>by rw[z,h]at e; cases e
 refine I.step (g':=s.gens) (d':=s.drawn) (ch:=[it]) (λb j=>?_) (λb o _ _ a e _=>k b o (λz=>a (by simp[z])) e) (λb o _ _ a e _=>⟨o.slots,k b o (λz=>a (by simp[z])) e⟩) (λ_ _ _ _ n=>n)
  (λb o a e=>⟨o,k b o (λz=>a (by simp[z])) e⟩) (λ_ _ e=>e) (λ_ _ _ e=>e) (λb ps e=>⟨#[],by rw[e]; simp⟩) (λm i=>?_) (λb u e=>?_) I.bare
 ·have e:b=it:=by simpa using j
  subst e;exact⟨w,f,t,l⟩
 ·obtain⟨o,es,y,g,r⟩:=i;exact⟨o,es,y,k _ o (Ne.symm f) g,r⟩
 ·refine(I.hok b u e).stay (λc v a q=>k c v ?_ q) (λ_ q=>q) λ_ _ q=>q;rcases a with z|z
  ·rw[z]; exact d b u e
  ·exact d c _ z
theorem Inv.tok(I:Inv X pins σ H s)(t:Nat):Inv X pins σ H { s with toks:=t }:=I.un (h':=s.heap) (t':=t) Un.refl I.hok
theorem Inv.kept{t':Nat}(I:Inv X pins σ H s)(k:∀b u,s.heap.get? b=some u->h'.get? b=some u):Inv X pins σ H { s with heap:=h',toks:=t' }:=I.un (Un.kept k) (I.hok.kept k)
theorem Inv.laid{a:Addr}{o:HO}{t':Nat}(I:Inv X pins σ H s)(k:∀b u,s.heap.get? b=some u->h'.get? b=some u)(c:s.heap.objs.size<=a)(new:ObjOk X.prog X.w (upd H a o) h' a o):
  Inv X pins σ (upd H a o) { s with heap:=h',toks:=t' }:=I.un (Un.laid k c (I.hok.fresh c)) (I.hok.laid k c new)
theorem Inv.write{x e:Addr}{o:HO}{t':Nat}(I:Inv X pins σ H s)(c:Mut (H x))(d:e=x\/H e=some (.own x))(k:∀b u,b≠e->s.heap.get? b=some u->h'.get? b=some u)(a:∃u,h'.get? e=some u)
  (new:ObjOk X.prog X.w (upd H x o) h' x o):Inv X pins σ (upd H x o) { s with heap:=h',toks:=t' }:=I.un (Un.write c d k a) (I.hok.write c d k a new)
theorem Inv.pins_of{a:List (Addr×Obj)}(I:Inv X pins σ H s)(h:∀p∈a,s.heap.get? p.1=some p.2/\H p.1=none/\p.1≠X.env.locals/\p.1 ∉ X.fs/\∀v,p.2.data≠.cell v):Inv X a σ H s:=
 ⟨I.ok,I.os,I.bare,I.base,I.loc,I.cell,I.free,I.freeC,λp b=>(Qq8.mp b).elim (λz=>I.pin p (Qzf _ z)) (h p),I.hok,I.len⟩
theorem qy3{N:List Str}(c:N.Nodup){i j:Nat}{x:Str}(a:N[i]?=some x)(b:N[j]?=some x):i=j:=by
 obtain⟨h1,e⟩:=Qqv.mp a;obtain⟨h2,d⟩:=Qqv.mp b;exact(List.getElem_inj c).mp (e.trans d.symm)
theorem qvq{M:Model}{A:Qv}{E:Value->Qz->Prop}{i:Nat}{x:Str}{v:V}{u:Value}{Q:Unit->Qz->Prop}(I:Inv X pins σ H s)(hN:X.N.Nodup)(S:X.N[i]?=some x)(t:Loc X.env.scope x)(r:RelV v u)
  (h:∀s',Inv X pins (σ.set i (some v)) H s'->(∃a,Heap.SameBut a s.heap s'.heap/\(a=X.env.locals\/X.env.cells.lookup x=some a))->Q () s') (hf:X.fn x=true\/X.env.scope.names.lookup x=some .local):wpAny M A (storeName X.env x u) Q E s:=by
 obtain⟨m,hn,hl⟩:=id I.loc;have T:(X.env.scope.kind==.class||(X.env.scope.kind==.module&&X.env.locals != X.env.globals))=false:=by rw[I.ok.kind]; rfl
 have F:i<σ.length:=by rw[I.len]; exact(Qqv.mp S).1
 have cne:=I.cne;have tracked:∀{a:Addr}{h':Heap},(∃o,s.heap.get? a=some o/\H a=none)->Heap.SameBut a s.heap h'->HOk X.prog X.w H h':=λ{a h'} ha f b ob e=>by
  obtain⟨_,_,w⟩:=ha;refine(I.hok b ob e).stay (λc w' l q=>(f.2 c ?_).trans q) (λ_ q=>q) λ_ _ q=>q;rintro rfl;rcases l with rfl|l
  ·rw[w]at e; cases e
  ·rw[w]at l; cases l
 rcases t with D|D
 ·refine wpAny_storeName_local D hn (λh' a1 f=>?_) T;obtain⟨oL,_,_,a0,_⟩:=id hn;refine h _ ⟨I.ok,I.os,I.bare,⟨λb o e n N t=>?_,λb o e n N t=>?_,I.base.free,λb o e t=>?_,I.base.tups,I.base.frzs,I.base.tbls⟩,⟨_,a1,λj y v' g C e3=>?_⟩,λy c e=>?_,I.free,I.freeC,λp hp=>?_,tracked ⟨oL,a0,I.free⟩ f,by simpa using I.len⟩ ⟨_,f,.inl rfl⟩
  ·exact(f.2 b (Qq1 (Qqm (Qqa e) I.ok.above))).trans (I.base.keep b o e n N t)
  ·obtain⟨sl,g⟩:=I.base.slot b o e n N t;exact⟨sl,(f.2 b (Qq1 (Qqm (Qqa e) I.ok.above))).trans g⟩
  ·obtain⟨o',g⟩:=I.base.there b o e t;exact⟨o',(f.2 b (Qq1 (Qqm (Qqa e) I.ok.above))).trans g⟩
  ·by_cases G:j=i
   ·subst G;rw[S]at g; cases g;rw[Qzj F]at C;cases C;exact⟨u,r,.inl ⟨D,by simp⟩⟩
   ·rw[Qzz (Ne.symm G)]at C;obtain⟨u',r',q⟩:=hl j y v' g C e3;refine⟨u',r',?_⟩;rcases q with⟨k,e⟩|⟨k,c,e,z⟩
    ·refine .inl ⟨k,?_⟩;have:y≠x:=λe=>G (qy3 hN g (e▸S));simp[this,e]
    ·exact .inr ⟨k,c,e,z.sameBut f (cne y c e)⟩
  ·obtain⟨w',z⟩:=I.cell y c e;exact⟨w',z.sameBut f (cne y c e)⟩
  ·obtain⟨e,n,ne,nf,d⟩:=I.pin p hp;exact⟨(f.2 p.1 ne).trans e,n,ne,nf,d⟩
 ·have K:X.fn x=true:=by
   rcases hf with z|z
   ·exact z
   ·rw[z]at D; cases D
  obtain⟨c,l⟩:=I.ok.has x (.inl D);obtain⟨w',z⟩:=I.cell x c l;refine wpAny_storeName_cell I.ok.kind D l z (λh' W f=>?_);obtain⟨oc,R,P⟩:=id z;refine h { s with heap:=h' } ⟨I.ok,I.os,I.bare,⟨λb o e n N t=>?_,λb o e n N t=>?_,I.base.free,λb o e t=>?_,I.base.tups,I.base.frzs,I.base.tbls⟩,⟨m,hn.sameBut f (Ne.symm (cne x c l)),λj y v' g C e3=>?_⟩,λy c' e=>?_,I.free,I.freeC,λp hp=>?_,tracked ⟨oc,R,I.freeC x c l⟩ f,by simpa using I.len⟩ ⟨c,f,.inr l⟩
  ·exact(f.2 b (Qq1 (Qqm (Qqa e) (I.ok.cab x c K l)))).trans (I.base.keep b o e n N t)
  ·obtain⟨sl,g⟩:=I.base.slot b o e n N t;exact⟨sl,(f.2 b (Qq1 (Qqm (Qqa e) (I.ok.cab x c K l)))).trans g⟩
  ·obtain⟨o',g⟩:=I.base.there b o e t;exact⟨o',(f.2 b (Qq1 (Qqm (Qqa e) (I.ok.cab x c K l)))).trans g⟩
  ·by_cases G:j=i
   ·subst G;rw[S]at g; cases g;rw[Qzj F]at C;cases C;exact⟨u,r,.inr ⟨.inl D,c,l,W⟩⟩
   ·rw[Qzz (Ne.symm G)]at C;obtain⟨u',r',q⟩:=hl j y v' g C e3;refine⟨u',r',?_⟩;rcases q with q|⟨k,c',e,z'⟩
    ·exact .inl q
    ·refine .inr ⟨k,c',e,z'.sameBut f ?_⟩;rintro rfl;exact G (qy3 hN g (I.ok.inj _ _ _ e l▸S))
  ·by_cases U:c'=c
   ·subst U; exact⟨_,W⟩
   ·obtain⟨w2,z2⟩:=I.cell y c' e;exact⟨w2,z2.sameBut f U⟩
  ·obtain⟨e,n,ne,nf,d⟩:=I.pin p hp;refine⟨(f.2 p.1 ?_).trans e,n,ne,nf,d⟩;intro q;rw[q,R]at e;have q':oc=p.2:=Option.some.inj e;exact d w' (by rw[<- q']; exact P)
theorem qyg{M:Model}{A:Qv}{E:Value->Qz->Prop}{i:Nat}{x:Str}{v:V}{u:Value}{Q:Unit->Qz->Prop}(I:Inv X pins σ H s)(d:X.N.Nodup)(b:X.N[i]?=some x)(a:Loc X.env.scope x)(r:RelV v u)
  (h:∀s',Inv X pins (σ.set i (some v)) H s'->Q () s') (c:X.fn x=true\/X.env.scope.names.lookup x=some .local):wpAny M A (storeName X.env x u) Q E s:=
 qvq I d b a r (λs' e _=>h s' e) c
theorem Inv.call'{s':Qz}{ch:List Addr}(I:Inv X pins σ H s)(f:s'.os=s.os)(u:Un (frs X.stack) ch H H' s.heap s'.heap)(hok:HOk X.prog X.w H' s'.heap)(g:Zc s'.gens)
  (a:∀b∈ch,(b∈X.ex\/X.s₀.heap.objs.size<=b)/\b≠X.env.locals/\(∀x c,X.env.cells.lookup x=some c->c≠b)/\∀p∈X.pn++pins,p.1≠b):Inv X pins σ H' s':=by
 obtain⟨h',h,d',d,o'⟩:=s';have e:o'=s.os:=f;subst e;exact I.call (g':=h) (t':=d) (d':=d') u hok g a
end
abbrev XK:=Value->Option Addr->Hp->Prop
abbrev St:=List (Option V)
abbrev VK:=V->Hp->Prop
abbrev TE:=St->Hp->VK->Prop
abbrev TT:=St->Hp->(Bool->Hp->Prop)->Prop
abbrev TA:=St->Hp->(List V->Hp->Prop)->Prop
structure Ends where
 nx:St->Hp->Prop
 rt:VK
 bk:St->Hp->Prop:=λ_ _=>False
 ct:St->Hp->Prop:=λ_ _=>False
abbrev TS:=Ends->St->Hp->Prop
def EP(X:Cx)(pins:List (Addr×Obj))(σ:St)(Q:VK)(u:Value)(s':Qz):Prop:=∃v H',Inv X pins σ H' s'/\RelV v u/\Q v H'
def TP(X:Cx)(pins:List (Addr×Obj))(σ:St)(Q:Bool->Hp->Prop)(b:Bool)(s':Qz):Prop:=∃H',Inv X pins σ H' s'/\Q b H'
def AP(X:Cx)(pins:List (Addr×Obj))(σ:St)(Q:List V->Hp->Prop)(us:List Value)(s':Qz):Prop:=∃vs H',Inv X pins σ H' s'/\Vals vs us/\Q vs H'
def SP(X:Cx)(pins:List (Addr×Obj))(D:Ends)(f:Flow)(s':Qz):Prop:=
 match f with
 |.next=>∃σ' H',Inv X pins σ' H' s'/\D.nx σ' H'
 |.brk=>∃σ' H',Inv X pins σ' H' s'/\D.bk σ' H'
 |.cont=>∃σ' H',Inv X pins σ' H' s'/\D.ct σ' H'
 |.ret u=>∃v σ' H',Inv X pins σ' H' s'/\RelV v u/\D.rt v H'
def PE(X:Cx)(e:Qx)(t:TE):Prop:=
 ∀(pins:List (Addr×Obj)) (s:Qz) (σ:St) (H:Hp) (Q:VK),Inv X pins σ H s->t σ H Q->wpAny (model X.prog X.w) X.A (Qw e X.env) (EP X pins σ Q) X.xe s
def PT(X:Cx)(e:Qx)(t:TT):Prop:=
 ∀(pins:List (Addr×Obj)) (s:Qz) (σ:St) (H:Hp) (Q:Bool->Hp->Prop),Inv X pins σ H s->t σ H Q->wpAny (model X.prog X.w) X.A (isTrue e X.env (Qw e X.env)) (TP X pins σ Q) X.xe s
def PW(X:Cx)(e:Qx)(t:TT):Prop:=
 ∀(whole:Sem Value) (pins:List (Addr×Obj)) (s:Qz) (σ:St) (H:Hp) (Q:Bool->Hp->Prop),Inv X pins σ H s->t σ H Q->wpAny (model X.prog X.w) X.A (isTrue e X.env whole) (TP X pins σ Q) X.xe s
theorem PW.pt{X:Cx}{e:Qx}{t:TT}(h:PW X e t):PT X e t:=h _
def PA(X:Cx)(es:List Qx)(t:TA):Prop:=
 ∀(pos:Pos) (pins:List (Addr×Obj)) (s:Qz) (σ:St) (H:Hp) (Q:List V->Hp->Prop),Inv X pins σ H s->t σ H Q->wpAny (model X.prog X.w) X.A (spliced (backTo pos (starEach es X.env))) (AP X pins σ Q) X.xe s
def PS(X:Cx)(st:Stmt)(t:TS):Prop:=
 ∀(pins:List (Addr×Obj)) (s:Qz) (σ:St) (H:Hp) (D:Ends),Inv X pins σ H s->t D σ H->wpAny (model X.prog X.w) X.A (exec st X.env) (SP X pins D) X.xe s
def PSs(X:Cx)(st:List Stmt)(t:TS):Prop:=
 ∀(pins:List (Addr×Obj)) (s:Qz) (σ:St) (H:Hp) (D:Ends),Inv X pins σ H s->t D σ H->wpAny (model X.prog X.w) X.A (execs st X.env) (SP X pins D) X.xe s
theorem thn{α:Type}{t:Sem α}{Q b:α->Qz->Prop}{M:Model}{A:Qv}{E:Value->Qz->Prop}{s:Qz}(h:wpAny M A t Q E s)(c:∀a s,Q a s->b a s):wpAny M A t b E s:=Qy h c λ_ _ x=>x
end L2
namespace L2
open PySem PySem.Spec PyProof.Rows
section
variable {X:Cx}
theorem bin{a b:Qx}{j tb:TE}(r:PE X a j)(q:PE X b tb){c:List (Addr×Obj)}{s:Qz}{d:St}{H:Hp}{R:V->V->Hp->Prop}(I:Inv X c d H s)(h:j d H λx H1=>tb d H1 λy H2=>R x y H2)
  {α:Type}{Q:α->Qz->Prop}{f:Value->Value->Sem α}
  (p:∀v u i x y H2,Inv X c d H2 i->RelV x v->RelV y u->R x y H2->wpAny (model X.prog X.w) X.A (f v u) Q X.xe i) :
  wpAny (model X.prog X.w) X.A (Qw a X.env) (λv g=>wpAny (model X.prog X.w) X.A (Qw b X.env) (λu e=>wpAny (model X.prog X.w) X.A (f v u) Q X.xe e) X.xe g) X.xe s:=by
 refine thn (r c s d H _ I h) λv k ⟨x,H1,w,m,o⟩=>?_;refine thn (q c k d H1 _ w o) λu i ⟨y,H2,t,l,n⟩=>?_;exact p v u i x y H2 t m l n
noncomputable def tVar(i:Nat):TE:=λσ H Q=>∃v,σ[i]?=some (some v)/\Q v H
noncomputable def tC(v:V):TE:=λ_ H Q=>Q v H
theorem pe_var{i:Nat}{x:Str}{pos:Pos}(o:X.N[i]?=some x)(j:Vis X.env.scope x)(hd:(x==("__debug__" : Str))=false:=by decide)(f:(x==("__classdict__" : Str))=false:=by decide):PE X (.Name x pos) (tVar i):=by
 intro pins s σ H Q I h;obtain⟨v,e,h⟩:=h;obtain⟨m,hn,n⟩:=I.loc;obtain⟨u,r,l⟩:=n i x v o e j;have d:EP X pins σ Q u s:=⟨v,H,I,r,h⟩
 rcases l with⟨b,k⟩|⟨b,c,g,a⟩
 ·exact wpAny_Name (wpAny_loadName_local I.ok.kind b hn k d) hd
 ·rcases b with b|b
  ·exact wpAny_Name (wpAny_loadName_cell I.ok.kind b g a d) hd
  ·exact wpAny_Name (wpAny_loadName_free I.ok.kind b g a d f) hd
theorem pe_int{i j pos}:PE X (.Constant (.int i) j pos) (tC (.int i)):=λ_ _ _ H _ I h=>wpAny_Constant_int ⟨.int i,H,I.tok _,⟨_,rfl⟩,h⟩
theorem pe_bl{b j pos}:PE X (.Constant (.bool b) j pos) (tC (.bl b)):=λ_ _ _ H _ I h=>Constant_bool ⟨.bl b,H,I,rfl,h⟩
theorem pe_non{j pos}:PE X (.Constant .none j pos) (tC .non):=λ_ _ _ H _ I h=>Constant_none ⟨.non,H,I,rfl,h⟩
theorem pe_str{x j pos}:PE X (.Constant (.str x) j pos) (tC (.str x)):=λ_ _ _ H _ I h=>Calls.Constant_str ⟨.str x,H,I.tok _,⟨_,rfl⟩,h⟩
def Gl(X:Cx)(x:Str):Prop:=X.env.kindOf x=some .globalImplicit
theorem qxd{E:Value->Qz->Prop}{a:List (Addr×Obj)}{s:Qz}{b:St}{H:Hp}{x:Str}{u:Value}{pos:Pos}{Q:Value->Qz->Prop}(I:Inv X a b H s)(d:Gl X x)(c:X.mg x=some u)(h:Q u s)
  (hd:(x==("__debug__" : Str))=false:=by decide):wpAny (model X.prog X.w) X.A (Qw (.Name x pos) X.env) Q E s:=
 Calls.Name_function_global I.ok.kind d (Calls.loadGlobal_global (by rw[I.ok.glob]; exact I.mod.glob.keeps I.bk) c h) hd
theorem qv0{E:Value->Qz->Prop}{a:List (Addr×Obj)}{s:Qz}{b:St}{H:Hp}{x:Str}{u:Value}{pos:Pos}{Q:Value->Qz->Prop}(I:Inv X a b H s)(f:Gl X x)(e:X.mg x=none)(c:Qb x=some u)(h:Q u s)
  (d:x ≠ "__name__":=by decide) (hd:(x==("__debug__" : Str))=false:=by decide):wpAny (model X.prog X.w) X.A (Qw (.Name x pos) X.env) Q E s:=by
 obtain⟨g,h1,h2⟩:=I.mod.blt;exact Calls.Name_function_global I.ok.kind f (Calls.loadGlobal_builtin (by rw[I.ok.glob]; exact I.mod.glob.keeps I.bk) e (by rw[I.ok.blt]; exact h1.keeps I.bk) ((h2 x d).trans c) h) hd
theorem qwu{x:Str}{v:V}{u:Value}{pos:Pos}(b:Gl X x)(a:X.mg x=some u)(r:RelV v u)(hd:(x==("__debug__" : Str))=false:=by decide):PE X (.Name x pos) (tC v):=
 λ_ _ _ H _ I h=>qxd I b a ⟨v,H,I,r,h⟩ hd
theorem qjy{x:Str}{v:V}{u:Value}{pos:Pos}(d:Gl X x)(c:X.mg x=none)(a:Qb x=some u)(r:RelV v u)(b:x ≠ "__name__":=by decide)(hd:(x==("__debug__" : Str))=false:=by decide):PE X (.Name x pos) (tC v):=
 λ_ _ _ H _ I h=>qv0 I d c a ⟨v,H,I,r,h⟩ b hd
variable {a b:Qx}{ta tb:TE}{pos:Pos}
def PC(X:Cx)(op:CmpOp)(a b:Qx)(t:TE):Prop:=
 ∀(pins:List (Addr×Obj)) (s:Qz) (σ:St) (H:Hp) (Q:VK),Inv X pins σ H s->t σ H Q->
  wpAny (model X.prog X.w) X.A (Qw a X.env) (λv s₁=>wpAny (model X.prog X.w) X.A (Qw b X.env) (λu s₂=>wpAny (model X.prog X.w) X.A (Qg op v u) (EP X pins σ Q) X.xe s₂) X.xe s₁) X.xe s
noncomputable def tB(t:TE):TT:=λσ H Q=>t σ H λx H1=>∃c,x=.bl c/\Q c H1
theorem qhe{c:CmpOp}{t:TE}(h:PC X c a b t)(e:Zg c b=false):PE X (.Compare a [c] [b] pos) t:=λpins s σ H Q I d=>wpAny_Compare1 (h pins s σ H Q I d) e
theorem qhw{e:CmpOp}{t:TE}(h:PC X e a b t)(f:Zg e b=false):PT X (.Compare a [e] [b] pos) (tB t):=by
 intro pins s σ H Q I j;refine wpAny_isTrue_Compare1 (thn (h pins s σ H _ I j) λv n f=>thn f λu m h2=>thn h2 λc l ⟨x,H1,k,g,i⟩=>?_) f;obtain⟨d,rfl,q⟩:=i;cases g;exact Qe ⟨H1,k,q⟩
variable {tA tB':TT}{rest:List Qx}
noncomputable def tAnd(t u:TT):TT:=λσ H Q=>t σ H λc H1=>if c=true then u σ H1 Q else Q false H1
noncomputable def tOr(t u:TT):TT:=λσ H Q=>t σ H λc H1=>if c=true then Q true H1 else u σ H1 Q
noncomputable def tNot(t:TT):TT:=λσ H Q=>t σ H λc H1=>Q (!c) H1
theorem qi9(d:PT X a tA):PW X (.BoolOp .And [a] pos) tA:=by
 intro f pins s σ H Q I h;refine isTrue_and (thn (d pins s σ H Q I h) λc g e=>?_)
 cases c with
 |true=>exact isTrue_and_nil e
 |false=>exact e
theorem pw_or1(d:PT X a tA):PW X (.BoolOp .Or [a] pos) tA:=by
 intro f pins s σ H Q I h;refine isTrue_or (thn (d pins s σ H Q I h) λc g e=>?_)
 cases c with
 |false=>exact isTrue_or_nil e
 |true=>exact e
theorem pw_and(j:PT X a tA)(i:PW X (.BoolOp .And (b::rest) pos) tB'):PW X (.BoolOp .And (a::b::rest) pos) (tAnd tA tB'):=by
 intro f pins s σ H Q I h;refine isTrue_and (thn (j pins s σ H _ I h) λc g ⟨H1,e,d⟩=>?_)
 cases c with
 |true=>exact i f pins g σ H1 Q e d
 |false=>exact⟨H1,e,d⟩
theorem pw_or(j:PT X a tA)(i:PW X (.BoolOp .Or (b::rest) pos) tB'):PW X (.BoolOp .Or (a::b::rest) pos) (tOr tA tB'):=by
 intro f pins s σ H Q I h;refine isTrue_or (thn (j pins s σ H _ I h) λc g ⟨H1,e,d⟩=>?_)
 cases c with
 |true=>exact⟨H1,e,d⟩
 |false=>exact i f pins g σ H1 Q e d
theorem pt_not(d:PT X a tA):PT X (.UnaryOp .Not a pos) (tNot tA):=by
 intro pins s σ H Q I h;exact isTrue_not (d pins s σ H (λc H1=>Q (!c) H1) I h)
noncomputable def tAndV(ta tb:TE):TE:=λσ H Q=>ta σ H λx H1=>∃c,x=.bl c/\if c=true then tb σ H1 Q else Q (.bl false) H1
noncomputable def tOrV(ta tb:TE):TE:=λσ H Q=>ta σ H λx H1=>∃c,x=.bl c/\if c=true then Q (.bl true) H1 else tb σ H1 Q
noncomputable def tNotV(ta:TE):TE:=λσ H Q=>ta σ H λx H1=>∃c,x=.bl c/\Q (.bl (!c)) H1
theorem qhd{op}{t:TE}(h:PE X a t):PE X (.BoolOp op [a] pos) t:=λpins s σ H Q I c=>BoolOp_one (h pins s σ H Q I c)
theorem pe_and(j:PE X a ta)(i:PE X (.BoolOp .And (b::rest) pos) tb):PE X (.BoolOp .And (a::b::rest) pos) (tAndV ta tb):=by
 intro pins s σ H Q I h;refine BoolOp_and (thn (j pins s σ H _ I h) λv f ⟨x,H1,e,g,d⟩=>?_);obtain⟨c,rfl,d⟩:=d;cases g;refine Qe ?_
 cases c with
 |true=>exact i pins f σ H1 Q e d
 |false=>exact⟨.bl false,H1,e,rfl,d⟩
theorem pe_or(j:PE X a ta)(i:PE X (.BoolOp .Or (b::rest) pos) tb):PE X (.BoolOp .Or (a::b::rest) pos) (tOrV ta tb):=by
 intro pins s σ H Q I h;refine BoolOp_or (thn (j pins s σ H _ I h) λv f ⟨x,H1,e,g,d⟩=>?_);obtain⟨c,rfl,d⟩:=d;cases g;refine Qe ?_
 cases c with
 |false=>exact i pins f σ H1 Q e d
 |true=>exact⟨.bl true,H1,e,rfl,d⟩
theorem pe_not(f:PE X a ta):PE X (.UnaryOp .Not a pos) (tNotV ta):=by
 intro pins s σ H Q I h;refine UnaryOp_ (thn (f pins s σ H _ I h) λv i ⟨x,H1,g,e,d⟩=>?_);obtain⟨c,rfl,d⟩:=d;cases e;exact not_of (Qe ⟨.bl (!c),H1,g,rfl,d⟩)
end
end L2
namespace L2
open PySem PySem.Spec PyProof.Rows
def SqL(K:Qqq)(H:Hp)(a:Addr)(xs:List V):Prop:=
 Rd H a (.lst xs)\/
  ∃(o:Obj) (its:Array Value) (n:Nat),K.lookup a=some o/\o.cls=.type "list"/\o.dict=none/\o.data=.seq its n/\its.size<=sizeLine/\Vals xs its.toList
def SqT(K:Qqq)(H:Hp)(a:Addr)(xs:List V):Prop:=
 Rd H a (.tup xs)\/
  ∃(o:Obj) (its:Array Value) (n:Nat),K.lookup a=some o/\o.cls=.type "tuple"/\o.data=.seq its n/\its.size<=sizeLine/\Vals xs its.toList
noncomputable def absV:Value->Option V
 |.none=>some .non
 |.bool b=>some (.bl b)
 |.int i _=>some (.int i)
 |.str x _=>some (.str x)
 |.bytes b _=>some (.byt b)
 |.float b _=>some (.flt b)
 |.ref a=>some (.ref a)
 |.type n=>some (.ty n)
 |_=>none
theorem RelV.abs{x:V}{u:Value}(r:RelV x u):absV u=some x:=by
 cases x with
 |non=>cases r; rfl
 |bl _=>cases r; rfl
 |int _=>obtain⟨t,rfl⟩:=r; rfl
 |str _=>obtain⟨t,rfl⟩:=r; rfl
 |byt _=>obtain⟨t,rfl⟩:=r; rfl
 |flt _=>obtain⟨t,rfl⟩:=r; rfl
 |ref _=>cases r; rfl
 |ty _=>cases r; rfl
theorem RelV.inj{x y:V}{u:Value}(r:RelV x u)(q:RelV y u):x=y:=Option.some.inj (r.abs.symm.trans q.abs)
theorem Vals.inj:∀{a ys:List V}{us:List Value},Vals a us->Vals ys us->a=ys
 |_,_,_,.nil,.nil=>rfl
 |_,_,_,.cons r t,.cons r' t'=>by rw[r.inj r',Vals.inj t t']
section
variable {X:Cx}{pins:List (Addr×Obj)}{σ:St}{H:Hp}{s:Qz}{a:Addr}{xs ys:List V}
theorem SqL.of{K:Qqq}(h:H a=some (.lst xs)):SqL K H a xs:=.inl (.inl h)
theorem SqT.of{K:Qqq}(h:H a=some (.tup xs)):SqT K H a xs:=.inl (.inl h)
theorem Inv.list(I:Inv X pins σ H s)(h:SqL X.K H a xs):∃b:List Value,Vals xs b/\PlainL s.heap a b.toArray/\xs.length<=sizeLine:=by
 rcases h with h|⟨o,b,n,d,f,hd,c,g,r⟩
 ·obtain⟨z,b,n,r,e⟩:=h.ok I.hok;exact⟨b,r,⟨_,n,e,rfl,rfl,rfl⟩,z⟩
 ·refine⟨b.toList,r,⟨o,n,I.kIn a o d,f,hd,by simpa using c⟩,?_⟩;have e:=r.length;simp only[Qzh]at e;omega
theorem Inv.tuple(I:Inv X pins σ H s)(h:SqT X.K H a xs):∃b:List Value,Vals xs b/\IsTup s.heap a b.toArray/\xs.length<=sizeLine:=by
 rcases h with h|⟨o,b,n,d,f,c,g,r⟩
 ·obtain⟨z,b,r,p⟩:=h.ok I.hok;exact⟨b,r,p,z⟩
 ·refine⟨b.toList,r,⟨o,I.kIn a o d,f,n,by simpa using c⟩,?_⟩;have e:=r.length;simp only[Qzh]at e;omega
theorem Inv.list_inj(I:Inv X pins σ H s)(h:SqL X.K H a xs)(h':SqL X.K H a ys):xs=ys:=by
 obtain⟨b,r,⟨o,n,e,_,_,d⟩,_⟩:=I.list h;obtain⟨its',r',⟨o',g,c,_,_,d'⟩,_⟩:=I.list h';rw[e]at c; cases c;rw[d]at d';injection d' with f _;have:b=its':=by simpa using congrArg Array.toList f
 subst this;exact r.inj r'
theorem Inv.tuple_inj(I:Inv X pins σ H s)(h:SqT X.K H a xs)(h':SqT X.K H a ys):xs=ys:=by
 obtain⟨b,r,⟨o,e,_,n,d⟩,_⟩:=I.tuple h;obtain⟨its',r',⟨o',c,_,g,d'⟩,_⟩:=I.tuple h';rw[e]at c; cases c;rw[d]at d';injection d' with f _;have:b=its':=by simpa using congrArg Array.toList f
 subst this;exact r.inj r'
end
noncomputable abbrev Cx.wish(X:Cx)(E:Value->Qz->Prop):Cx:={ X with xe:=E }
noncomputable abbrev Cx.nox(X:Cx):Cx:=X.wish λ_ _=>False
theorem Cx.Ok.wish{X:Cx}(ok:X.Ok)(E:Value->Qz->Prop):(X.wish E).Ok:=
 ⟨ok.mod,ok.kind,ok.glob,ok.blt,ok.above,ok.inj,ok.has,ok.cab,ok.hd,ok.frames,ok.stk,ok.exf,ok.bs,ok.bsz,ok.noex,ok.exfs,ok.funs,ok.frf⟩
theorem Cx.Ok.unwish{X:Cx}{E:Value->Qz->Prop}(ok:(X.wish E).Ok):X.Ok:=
 ⟨ok.mod,ok.kind,ok.glob,ok.blt,ok.above,ok.inj,ok.has,ok.cab,ok.hd,ok.frames,ok.stk,ok.exf,ok.bs,ok.bsz,ok.noex,ok.exfs,ok.funs,ok.frf⟩
section
variable {X:Cx}{pins:List (Addr×Obj)}{σ:St}{H:Hp}{s:Qz}{E:Value->Qz->Prop}
theorem Inv.wish(I:Inv X pins σ H s)(E:Value->Qz->Prop):Inv (X.wish E) pins σ H s:=⟨I.ok.wish E,I.os,I.bare,I.base,I.loc,I.cell,I.free,I.freeC,I.pin,I.hok,I.len⟩
theorem Inv.unwish(I:Inv (X.wish E) pins σ H s):Inv X pins σ H s:=⟨I.ok.unwish,I.os,I.bare,I.base,I.loc,I.cell,I.free,I.freeC,I.pin,I.hok,I.len⟩
theorem SP.unwish{D:Ends}{f:Flow}{s':Qz}(h:SP (X.wish E) pins D f s'):SP X pins D f s':=by
 cases f with
 |next=>obtain⟨a,H',I,q⟩:=h; exact⟨a,H',I.unwish,q⟩
 |brk=>obtain⟨a,H',I,q⟩:=h; exact⟨a,H',I.unwish,q⟩
 |cont=>obtain⟨a,H',I,q⟩:=h; exact⟨a,H',I.unwish,q⟩
 |ret u=>obtain⟨v,a,H',I,r,q⟩:=h; exact⟨v,a,H',I.unwish,r,q⟩
theorem PE.nox{e:Qx}{t:TE}(h:PE X.nox e t):PE X e t:=λpins s σ H Q I a=>
 Qy (h pins s σ H Q (I.wish _) a) (λ_ _ ⟨v,H',b,r,q⟩=>⟨v,H',b.unwish,r,q⟩) λ_ _ z=>False.elim z
theorem PT.nox{e:Qx}{t:TT}(h:PT X.nox e t):PT X e t:=λpins s σ H Q I a=>
 Qy (h pins s σ H Q (I.wish _) a) (λ_ _ ⟨H',b,q⟩=>⟨H',b.unwish,q⟩) λ_ _ z=>False.elim z
theorem PSs.nox{st:List Stmt}{t:TS}(h:PSs X.nox st t):PSs X st t:=λpins s σ H D I a=>
 Qy (h pins s σ H D (I.wish _) a) (λ_ _ q=>q.unwish) λ_ _ z=>False.elim z
end
section
variable {X:Cx}{st:Stmt}{rest:List Stmt}{t u:TS}{e:Qx}{te:TE}{pos:Pos}
noncomputable def tNext:TS:=λD σ H=>D.nx σ H
noncomputable def tSeq(t u:TS):TS:=λD σ H=>t { D with nx:=u D } σ H
theorem pss_nil:PSs X [] tNext:=λ_ _ σ H _ I h=>Zl ⟨σ,H,I,h⟩
theorem qzb(d:PS X st t)(c:PSs X rest u):PSs X (st::rest) (tSeq t u):=by
 intro pins s σ H D I h;refine wpAny_execs_cons (thn (d pins s σ H { D with nx:=u D } I h) λf b q=>?_)
 cases f with
 |next=>
  obtain⟨a,H',g,q⟩:=q;exact c pins b a H' D g q
 |ret v=>exact q
 |brk=>exact q
 |cont=>exact q
noncomputable def tBreak:TS:=λD σ H=>D.bk σ H
theorem ps_break:PS X (.Break pos) tBreak:=λ_ _ σ H _ I h=>wpAny_Break ⟨σ,H,I,h⟩
theorem Inv.quiet{a:List (Addr×Obj)}{b:St}{H:Hp}{s:Qz}(I:Inv X a b H s):interactive X.env=false:=by simp[interactive,I.ok.kind]
theorem qcu{x j pos pos'}:PS X (.Expr (.Constant (.str x) j pos) pos') tNext:=λ_ s σ H _ I h=>wpAny_Expr (Calls.Constant_str (show SP X _ _ .next { s with toks:=s.toks+1 } from⟨σ,H,I.tok _,h⟩)) I.quiet
noncomputable def tDrop(te:TE):TS:=λD σ H=>te σ H λ_ H1=>D.nx σ H1
theorem qkr(c:PE X e te)(b:swapsWith e none pos.line X.env=pure false):PS X (.Expr e pos) (tDrop te):=by
 intro pins s σ H D I h;exact wpAny_Expr_any (thn (c pins s σ H _ I h) λv f ⟨x,H1,d,g,a⟩=>⟨σ,H1,d,a⟩) I.quiet b
noncomputable def tRet(te:TE):TS:=λD σ H=>te σ H D.rt
theorem qhy(c:PE X e te):PS X (.Return (some e) pos) (tRet te):=by
 intro pins s σ H D I h;exact wpAny_Return_some (thn (c pins s σ H _ I h) λv f ⟨x,H1,d,a,b⟩=>⟨x,σ,H1,d,a,b⟩)
noncomputable def tIfS(c:TT)(t u:TS):TS:=λD σ H=>c σ H λb H1=>if b=true then t D σ H1 else u D σ H1
theorem qct{c:Qx}{a b:List Stmt}{f:TT}(k:PT X c f)(m:PSs X a t)(l:PSs X b u):PS X (.If c a b pos) (tIfS f t u):=by
 intro pins s σ H D I h;refine wpAny_If (thn (k pins s σ H _ I h) λd g ⟨H1,j,i⟩=>?_)
 cases d with
 |true=>exact m pins g σ H1 D j i
 |false=>exact l pins g σ H1 D j i
end
abbrev TG:=V->St->Hp->(St->Hp->Prop)->Prop
abbrev TGs:=List V->St->Hp->(St->Hp->Prop)->Prop
def PG(X:Cx)(target:Qx)(t:TG):Prop:=
 ∀(pins:List (Addr×Obj)) (s:Qz) (σ:St) (H:Hp) (v:V) (u:Value) (Q:St->Hp->Prop),Inv X pins σ H s->RelV v u->t v σ H Q->
  wpAny (model X.prog X.w) X.A (assign target X.env u) (λ_ s'=>∃σ' H',Inv X pins σ' H' s'/\Q σ' H') X.xe s
def PGs(X:Cx)(ts:List Qx)(t:TGs):Prop:=
 ∀(pins:List (Addr×Obj)) (s:Qz) (σ:St) (H:Hp) (vs:List V) (us:List Value) (Q:St->Hp->Prop),Inv X pins σ H s->Vals vs us->t vs σ H Q->
  wpAny (model X.prog X.w) X.A (assignInOrder ((Q2 ts X.env).map (·.2)) us) (λ_ s'=>∃σ' H',Inv X pins σ' H' s'/\Q σ' H') X.xe s
abbrev TSet:=V->V->V->Hp->(Hp->Prop)->Prop
def PSet(X:Cx)(t:TSet):Prop:=
 ∀(pins:List (Addr×Obj)) (s:Qz) (σ:St) (H:Hp) (o i v:V) (ov iv u:Value) (Q:Hp->Prop),Inv X pins σ H s->RelV o ov->RelV i iv->RelV v u->t o i v H Q->
  wpAny (model X.prog X.w) X.A (setItem ov iv u) (λ_ s'=>∃H',Inv X pins σ H' s'/\Q H') X.xe s
section
variable {X:Cx}{pos:Pos}
noncomputable def qw7(i:Nat):TG:=λv σ H Q=>Q (σ.set i (some v)) H
theorem qc3{i:Nat}{x:Str}(d:X.N.Nodup)(b:X.N[i]?=some x)(a:Loc X.env.scope x)(c:X.fn x=true\/X.env.scope.names.lookup x=some .local):PG X (.Name x pos) (qw7 i):=by
 intro pins s σ H v u Q I r h;exact wpAny_assign_Name (qyg I d b a r (λs' e=>⟨_,H,e,h⟩) c)
noncomputable def gNil:TGs:=λvs σ H Q=>vs=[]/\Q σ H
noncomputable def gCons(t:TG)(u:TGs):TGs:=λvs σ H Q=>∃v r,vs=v::r/\t v σ H λσ' H'=>u r σ' H' Q
theorem qlb:PGs X [] gNil:=by
 intro pins s σ H vs a Q I r h;obtain⟨e,h⟩:=h;subst e;cases r;exact assignInOrder_nil ⟨σ,H,I,h⟩
theorem qf7{e:Qx}{es:List Qx}{t:TG}{u:TGs}(i:PG X e t)(g:PGs X es u)
  (f:(Q2 (e::es) X.env).map (·.2)=assign e X.env::(Q2 es X.env).map (·.2):=by rfl):PGs X (e::es) (gCons t u):=by
 intro pins s σ H vs m Q I r h;obtain⟨v,l,j,h⟩:=h;subst j
 cases r with
 |cons r c=>
  rw[f];refine assignInOrder_cons (thn (i pins s σ H _ _ _ I r h) λ_ b ⟨a,H1,k,d⟩=>?_);exact g pins b a H1 _ _ Q k c d
noncomputable def gTup(K:Qqq)(n:Nat)(t:TGs):TG:=λv σ H Q=>∃a xs,v=.ref a/\SqT K H a xs/\xs.length=n/\t xs σ H Q
theorem pg_tup{es:List Qx}{k:Nat}{t:TGs}{n:Nat}(q:X.calm=true)(h:PGs X es t)
  (m:(Q2 es X.env).length=n:=by rfl) (d:(Q2 es X.env).findIdx? (·.1)=none:=by rfl):PG X (.Tuple es k pos) (gTup X.K n t):=by
 intro pins s σ H v u Q I r c;obtain⟨a,xs,w,l,p,c⟩:=c;subst w;cases r;obtain⟨g,f,j,y⟩:=I.tuple l;refine assign_Tuple_tuple (I.ok.hd q) j (by simp[m,<- p,f.length]) d λh' i=>?_;have x:Inv X pins σ H { s with heap:=h' }:=I.kept (t':=s.toks) λb o e=>i b o (Qq1 (Qqa e)) e;exact h pins _ σ H xs _ Q x (by simpa using f) c
noncomputable def gSub(to ti:TE)(t:TSet):TG:=λv σ H Q=>to σ H λo H1=>ti σ H1 λi H2=>t o i v H2 λH3=>Q σ H3
theorem pg_sub{o i:Qx}{c d:TE}{t:TSet}(p:PE X o c)(q:PE X i d)(n:PSet X t)
  (w:∀v,assign (.Subscript o i pos) X.env v=(do
   let a <- Qu [v] (Qw o X.env)
   let b <- Qu [v,a] (Qw i X.env)
   Zx pos
   Qu [v,a,b] (setItem a b v)
   release [v,a,b] []):=by intro _; rfl):PG X (.Subscript o i pos) (gSub c d t):=by
 intro pins s σ H v u Q I r h;rw[w];refine Qq (Qo (thn (p pins s σ H _ I h) λa f ⟨x,H1,C,j,m⟩=>?_));refine Qq (Qo (thn (q pins f σ H1 _ C m) λb e ⟨y,H2,A,g,l⟩=>?_));refine Qq (wpAny_standAt (Qq (Qo (thn (n pins e σ H2 x y v a b u _ A j g r l) λ_ E ⟨D,z,k⟩=>?_))));exact wpAny_release ⟨σ,D,z,k⟩
noncomputable def tAsg(te:TE)(g:TG):TS:=λD σ H=>te σ H λx H1=>g x σ H1 D.nx
theorem qhb{a e:Qx}{b:TE}{g:TG}(l:PE X e b)(k:PG X a g)(j:swapsWithSole [a] e pos.line X.env=pure false:=by rfl)(i:swappedStores [a] e X.env=pure none:=by rfl)
  (m:(Q2 [a] X.env).map (·.2)=[assign a X.env]:=by rfl):PS X (.Assign [a] e pos) (tAsg b g):=by
 intro pins s σ H D I h;refine wpAny_Assign_stores (thn (l pins s σ H _ I h) λv c ⟨x,H1,n,d,f⟩=>?_) j i;rw[m];exact thn (k pins c σ H1 x v _ n d f) λ_ o q=>q
theorem qvd{i:Nat}{x:Str}{e:Qx}{b:TE}{a:Pos}(m:X.N.Nodup)(j:X.N[i]?=some x)(f:Loc X.env.scope x)(l:PE X e b)(g:swapsWith e (some (.Name x a)) pos.line X.env=pure false:=by rfl)(k:X.fn x=true\/X.env.scope.names.lookup x=some .local):
  PS X (.Assign [.Name x a] e pos) (tAsg b (qw7 i)):=by
 intro pins s σ H D I h;refine wpAny_Assign_Name (thn (l pins s σ H _ I h) λv q ⟨y,H1,o,c,d⟩=>?_) g;exact qyg o m j f c (λp n=>⟨_,H1,n,d⟩) k
end
section
variable {X:Cx}{pos:Pos}
noncomputable def tWhile(c:TT)(tb:TS):TS:=λD σ H=>∃W:Nat->St->Hp->Prop,(∃m,W m σ H)/\∀m σ H,W m σ H->
 c σ H λb H1=>if b=true then ∃N:St->Hp->Prop,(∀σ' H',N σ' H'->∃m',m'<m/\W m' σ' H')/\tb { D with nx:=N,ct:=N,bk:=D.nx } σ H1 else D.nx σ H1
theorem qf3{c:Qx}{body:List Stmt}{p:TT}{tb:TS}(q:PassesOwn (model X.prog X.w) X.A X.env X.xe)(z:PT X c p)(A:PSs X body tb):PS X (.While c body [] pos) (tWhile p tb):=by
 intro pins s σ H D I h;obtain⟨W,⟨y,u⟩,turn⟩:=h;refine wpAny_While (codeAny_whileLoop (λn s'=>∃e H',Inv X pins e H' s'/\W n e H') ?_ y ⟨σ,H,I,u⟩);rintro n x ⟨d,H1,C,w1⟩;refine Q0 q (thn (z pins x d H1 _ C (turn n d H1 w1)) λb w ⟨H2,t,j⟩=>?_)
 cases b with
 |true=>
  obtain⟨N,r,j⟩:=j;rw[Z3 rfl];refine Q0 q (thn (A pins w d H2 _ t j) λf E i=>?_)
  cases f with
  |next=>
   obtain⟨a,g,o,l⟩:=i;obtain⟨m',m,k⟩:=r a g l;exact⟨m',m,a,g,o,k⟩
  |cont=>
   obtain⟨a,g,o,l⟩:=i;obtain⟨m',m,k⟩:=r a g l;exact⟨m',m,a,g,o,k⟩
  |brk=>exact i
  |ret v=>exact i
 |false=>
  rw[Z2 Qqg];exact Zl ⟨d,H2,t,j⟩
end
structure It where
 go:Nat->Hp->Prop
 yld:Nat->Hp->V->Hp->Prop
 stop:Nat->Hp->Prop
def FpOk(X:Cx)(pins:List (Addr×Obj))(H:Hp)(b:Addr):Prop:=
 H b=none/\b≠X.env.locals/\b ∉ X.fs/\(b∈X.ex\/X.s₀.heap.objs.size<=b)/\(∀x c,X.env.cells.lookup x=some c->c≠b)/\∀p∈X.pn++pins,p.1≠b
theorem Inv.fpOk{X:Cx}{a:List (Addr×Obj)}{f:St}{H H':Hp}{s:Qz}{b:Addr}(I:Inv X a f H s)(d:s.heap.objs.size<=b)(h:H' b=none):FpOk X a H' b:=by
 refine⟨h,Qxh (Qqm I.lt d),I.nofs d,.inr (Qq9 I.sz d),λx c e z=>?_,λp g z=>?_⟩
 ·obtain⟨v,q⟩:=I.cell x c e;exact absurd (Qqm q.lt (by rw[z]; exact d)) (Qzy _)
 ·exact absurd (Qqm (Qqa (I.pin p g).1) (by rw[z]; exact d)) (Qzy _)
structure Turn (P:Program) (w:Qk) (K:Qqq) (tg:Qx) (Jq:It) (fp:List Addr) (it:Addr) (tn:Nat->Heap->Prop):Prop where
 mem:it∈fp
 obj:∀i h,tn i h->∀b∈fp,∃o,h.get? b=some o/\∀v,o.data≠.cell v
 keep:∀i h h',tn i h->(∀b∈fp,∀o,h.get? b=some o->h'.get? b=some o)->tn i h'
 item:∀(X:Cx),X.prog=P->X.w=w->X.K=K->X.calm=true->∀(i:Nat) (pins:List (Addr×Obj)) (s:Qz) (σ:St) (H:Hp) (E:Value->Qz->Prop),Inv X pins σ H s->(∀b∈fp,FpOk X pins H b)->tn i s.heap->Jq.go i H->
  wpAny (model P w) X.A (pyNext (.ref it)) (λr s1=>∃u,r=some u/\
   wpAny (model P w) X.A (Zm tg (.ref it) u) (λ_ s2=>∃x H',Inv X pins σ H' s2/\RelV x u/\Jq.yld i H x H'/\tn (i+1) s2.heap/\∀b∈fp,H' b=none) E s1) E s
 done:∀(X:Cx),X.prog=P->X.w=w->X.K=K->X.calm=true->∀(i:Nat) (pins:List (Addr×Obj)) (s:Qz) (σ:St) (H:Hp) (E:Value->Qz->Prop),Inv X pins σ H s->(∀b∈fp,FpOk X pins H b)->tn i s.heap->Jq.stop i H->
  wpAny (model P w) X.A (pyNext (.ref it)) (λr s1=>r=none/\Inv X pins σ H s1) E s
 self:∀(A:Qv) (i:Nat) (s:Qz) (Q:Value->Qz->Prop) (E:Value->Qz->Prop),tn i s.heap->Q (.ref it) s->wpAny (model P w) A (pyIter (.ref it)) Q E s
abbrev TI:=St->Hp->(It->Hp->Prop)->Prop
def PIE(X:Cx)(pins:List (Addr×Obj))(σ:St)(tg:Qx)(R:It->Hp->Prop)(itv:Value)(s2:Qz):Prop:=
 ∃(it:Addr) (fp:List Addr) (tn:Nat->Heap->Prop) (Jq:It) (H':Hp),itv=.ref it/\Inv X pins σ H' s2/\Turn X.prog X.w X.K tg Jq fp it tn/\tn 0 s2.heap/\(∀b∈fp,FpOk X pins H' b)/\R Jq H'
def PI(X:Cx)(tg iter:Qx)(wi:TI):Prop:=
 ∀(pins:List (Addr×Obj)) (s:Qz) (σ:St) (H:Hp) (R:It->Hp->Prop),Inv X pins σ H s->wi σ H R->
  wpAny (model X.prog X.w) X.A (Qw iter X.env) (λv s1=>wpAny (model X.prog X.w) X.A (pyIter v) (PIE X pins σ tg R) X.xe s1) X.xe s
theorem qgm{M:Model}{A:Qv}{E:Value->Qz->Prop}{s:Qz}{b:Qx}{it:Addr}{u:Value}{o:Obj}{n:String}{vs:Array Value}{Q:Unit->Qz->Prop}(c:s.heap.get? it=some o)(e:o.cls=.type n)(hd:o.data=.fields vs)
  (d:["enumerate","zip","dict_itemiterator","dict_reverseitemiterator","odict_iterator","itertools.zip_longest","itertools.pairwise"].contains n=false) (a:Q () s):wpAny M A (Zm b (.ref it) u) Q E s:=by
 unfold Zm
 cases b<;>first
  |exact Qj a
  |(cases u<;>first
    |exact Qj a
    |(refine Qq (wpAny_load c ?_)
      rw[e,hd];show wpAny M A (if (["enumerate","zip","dict_itemiterator","dict_reverseitemiterator","odict_iterator","itertools.zip_longest","itertools.pairwise"].contains n&&vs[0]?==some (rawInt _))=true then _ else _) Q E s;rw[Z2 (by intro h; rw[d,Bool.false_and]at h; cases h)]
      exact Qj a))
noncomputable def Itl(K:Qqq)(a:Addr):It:=
 ⟨λi H=>∃xs x,SqL K H a xs/\xs[i]?=some x,λi H x H'=>H'=H/\∀xs,SqL K H a xs->xs[i]?=some x,λi H=>∃xs,SqL K H a xs/\xs.length<=i⟩
noncomputable def Itt(K:Qqq)(a:Addr):It:=
 ⟨λi H=>∃xs x,SqT K H a xs/\xs[i]?=some x,λi H x H'=>H'=H/\∀xs,SqT K H a xs->xs[i]?=some x,λi H=>∃xs,SqT K H a xs/\xs.length<=i⟩
noncomputable def Itr(lo:Int)(n:Nat):It:=⟨λi _=>i<n,λi H x H'=>H'=H/\x=.int (lo+i),λi _=>n<=i⟩
theorem qbt{P:Program}{w:Qk}{K:Qqq}{G:Qx}(a it:Addr):Turn P w K G (Itl K a) [it] it (λi h=>h.IsListIter it a i) where
 mem:=by simp
 obj:=λi h st b f=>by
  have e:b=it:=by simpa using f
  subst e;obtain⟨o,e,c,d⟩:=st;exact⟨o,e,λv z=>by rw[d]at z; cases z⟩
 keep:=λi h h' st k=>st.at λo e=>k it (by simp) o e
 item:=by
  intro X hP n r F i pins s σ H E I hf st q;subst hP n r;obtain⟨xs,x,g,m⟩:=q;obtain⟨l,j,p,R⟩:=I.list g;obtain⟨u,T,Q⟩:=j.get m;obtain⟨D,C,U,A,y,t⟩:=hf it (by simp);refine wpAny_pyNext_list_item st p.isList (x:=u) (by simpa using T) λh' st' N=>?_;have W:Inv X pins σ H { s with heap:=h' }:=I.turned (t':=s.toks) (λb o f e=>(N.2 b f).trans e) D C A y t;obtain⟨o,e,c,d⟩:=id st';exact⟨u,rfl,qgm (s:={ s with heap:=h' }) e c d (by decide) ⟨x,H,W,Q,⟨rfl,λys S=>by rw[I.list_inj S g]; exact m⟩,st',λb f=>(hf b f).1⟩⟩
 done:=by
  intro X hP n r F i pins s σ H E I hf st q;subst hP n r;obtain⟨xs,g,m⟩:=q;obtain⟨l,j,p,R⟩:=I.list g;obtain⟨D,C,U,A,y,t⟩:=hf it (by simp);have hl:=j.length;exact wpAny_pyNext_list_end (I.ok.hd F) st p.isList (by simp; omega) λh' V=>⟨rfl,I.turned (t':=s.toks) (λb o f e=>V b o f e) D C A y t⟩
 self:=λ_ _ _ _ _ st h=>wpAny_pyIter_listiter st h
theorem qa0{P:Program}{w:Qk}{K:Qqq}{G:Qx}(a it:Addr):Turn P w K G (Itt K a) [it] it (λi h=>h.IsTupleIter it a i) where
 mem:=by simp
 obj:=λi h st b g=>by
  have e:b=it:=by simpa using g
  subst e;obtain⟨o,e,c,d⟩:=st;exact⟨o,e,λv z=>by rw[d]at z; cases z⟩
 keep:=λi h h' st k=>st.at λo e=>k it (by simp) o e
 item:=by
  intro X hP n r F i pins s σ H E I hf st q;subst hP n r;obtain⟨xs,x,j,m⟩:=q;obtain⟨f,l,p,R⟩:=I.tuple j;obtain⟨u,T,Q⟩:=l.get m;obtain⟨D,C,U,A,y,t⟩:=hf it (by simp);refine wpAny_pyNext_tuple_item st (show s.heap.IsTuple a f.toArray from p) (x:=u) (by simpa using T) λh' st' N=>?_;have W:Inv X pins σ H { s with heap:=h' }:=I.turned (t':=s.toks) (λb o g e=>(N.2 b g).trans e) D C A y t;obtain⟨o,e,c,d⟩:=id st';exact⟨u,rfl,qgm (s:={ s with heap:=h' }) e c d (by decide) ⟨x,H,W,Q,⟨rfl,λys S=>by rw[I.tuple_inj S j]; exact m⟩,st',λb g=>(hf b g).1⟩⟩
 done:=by
  intro X hP n r F i pins s σ H E I hf st q;subst hP n r;obtain⟨xs,j,m⟩:=q;obtain⟨f,l,p,R⟩:=I.tuple j;obtain⟨D,C,U,A,y,t⟩:=hf it (by simp);have hl:=l.length;exact wpAny_pyNext_tuple_end (I.ok.hd F) st (show s.heap.IsTuple a f.toArray from p) (by simp; omega) λh' V=>⟨rfl,I.turned (t':=s.toks) (λb o g e=>V b o g e) D C A y t⟩
 self:=λ_ _ _ _ _ st h=>wpAny_pyIter_tupleiter st h
theorem qa1{P:Program}{w:Qk}{K:Qqq}{x:Qx}(it:Addr)(c:Int)(n:Nat):Turn P w K x (Itr c n) [it] it (λi h=>IsRangeIter h it (c+(i:Nat)*1) ((n:Int) - (i:Nat)) 1) where
 mem:=by simp
 obj:=λi h st b a=>by
  have e:b=it:=by simpa using a
  subst e
  exact⟨_,st,λv z=>by
   have u:Data.fields _=Data.cell v:=z
   cases u⟩
 keep:=λi h h' st k=>k it (by simp) _ st
 item:=by
  intro X hP d j g i pins s σ H E I hf st f;subst hP d j;obtain⟨r,q,C,p,m,l⟩:=hf it (by simp);have W:=Walks.range (prog:=X.prog) (w:=X.w) (I.ok.hd g) it c 1 n;refine W.item i s _ _ f st λv h' tk A st' y=>?_;obtain⟨t,rfl⟩:=A;have F:Inv X pins σ H { s with heap:=h',toks:=tk }:=I.turned (λb o a e=>y b o (by simpa using a) e) r q p m l;refine⟨_,rfl,qgm (s:={ s with heap:=h',toks:=tk }) (n:="range_iterator") st' rfl rfl (by decide) ⟨.int (c+i),H,F,⟨t,?_⟩,⟨rfl,rfl⟩,st',λb a=>(hf b a).1⟩⟩;rw[Int.mul_one]
 done:=by
  intro X hP d j g i pins s σ H E I hf st f;subst hP d j;obtain⟨r,q,C,p,m,l⟩:=hf it (by simp);exact wpAny_pyNext_range_end (I.ok.hd g) st (by have:n<=i:=f; omega) λh' D=>⟨rfl,I.turned (t':=s.toks) (λb o a e=>D b o a e) r q p m l⟩
 self:=λ_ _ _ _ _ st h=>wpAny_pyIter_rangeiter st h
end L2
namespace L2
open PySem PySem.Spec PyProof.Rows
section
variable {X:Cx}{tg:Qx}
theorem qfu{c:List (Addr×Obj)}{d:St}{H:Hp}{s:Qz}{R:It->Hp->Prop}{E:Value->Qz->Prop}{lo a:Int}{t u v:Tok}{f:Nat}(I:Inv X c d H s)(l:-(2 ^ 62)<=lo)(k:lo<2 ^ 62)(j:-(2 ^ 62)<=a)(i:a<2 ^ 62)
  (q:R (Itr lo (a - lo).toNat) H):wpAny (model X.prog X.w) X.A (pyIter (.ref s.heap.objs.size)) (PIE X c d tg R) E { s with heap:=s.heap.push { cls:=.type "range",data:=.fields #[.int lo t,.int a u,.int 1 v] },toks:=f }:=by
 refine wpAny_pyIter_range (IsRange.new ..) (small_one l k j i) ?_;have g:Inv X c d H { s with heap:=s.heap.push { cls:=.type "range",data:=.fields #[.int lo t,.int a u,.int 1 v] },toks:=f }:=I.kept λb o e=>Qqz _ e
 refine⟨(s.heap.push { cls:=.type "range",data:=.fields #[.int lo t,.int a u,.int 1 v] }).objs.size,[(s.heap.push { cls:=.type "range",data:=.fields #[.int lo t,.int a u,.int 1 v] }).objs.size],_,_,H,rfl,
  g.kept (t':=f) λb o e=>Qqz _ e,qa1 _ lo (a - lo).toNat,?_,λb h=>?_,q⟩
 ·have n:lo+((0:Nat):Int)*1=lo:=by simp
  have m:(((a - lo).toNat:Nat):Int) - ((0:Nat):Int)=Builtin.Range.rangeSize lo a 1:=by rw[rangeSize_one]; split<;>omega
  show IsRangeIter _ _ (lo+((0:Nat):Int)*1) ((((a - lo).toNat:Nat):Int) - ((0:Nat):Int)) 1;rw[n,m];exact Qqe _ rfl
 ·have e:b=(s.heap.push { cls:=.type "range",data:=.fields #[.int lo t,.int a u,.int 1 v] }).objs.size:=by simpa using h
  subst e;exact g.fpOk (Qqw _) (g.hok.fresh (Qqw _))
noncomputable def iRng1(ta:TA):TI:=λσ H R=>ta σ H λvs H1=>∃j:Int,vs=[.int j]/\-(2 ^ 62)<=j/\j<2 ^ 62/\R (Itr 0 j.toNat) H1
theorem qc2{a:Qx}{c:TA}{p pos:Pos}(l:Gl X "range")(k:X.mg "range" = none)(m:PA X [a] c)(i:starEach [a] X.env=[(false,Qw a X.env)]:=by rfl):PI X tg (.Call (.Name "range" p) [a] [] pos) (iRng1 c):=by
 intro pins s σ H R I h;refine Call_ (qv0 I l k boot_range (PyProof.Rows.callWith_type1 (thn (m pos pins s σ H _ I h) λo u ⟨vs,H1,n,f,b⟩=>?_) i rfl));obtain⟨j,e,b,g,q⟩:=b;subst e
 cases f with
 |cons r d=>
  cases d;obtain⟨t,rfl⟩:=r;exact call_range_1 (qfu n (by omega) (by omega) b g (by simpa using q))
noncomputable def tFor(wi:TI)(g:TG)(tb:TS):TS:=λD σ H=>wi σ H λJq H1=>∃W:Nat->Nat->St->Hp->Prop,(∃m,W 0 m σ H1)/\∀i m σ H,W i m σ H->
 (Jq.stop i H/\D.nx σ H)\/(Jq.go i H/\∃N:St->Hp->Prop,(∀σ' H',N σ' H'->∃m',m'<m/\W (i+1) m' σ' H')/\∀x H',Jq.yld i H x H'->g x σ H' λσ2 H2=>tb { D with nx:=N,ct:=N,bk:=D.nx } σ2 H2)
noncomputable def qvf(fp:List Addr)(h:Heap):List (Addr×Obj):=fp.filterMap λb=>(h.get? b).map λo=>(b,o)
theorem qqr{fp:List Addr}{h:Heap}{b:Addr}{o:Obj}(a:b∈fp)(e:h.get? b=some o):(b,o)∈qvf fp h:=Qxd.mpr ⟨b,a,by rw[e]; rfl⟩
theorem qdj{fp:List Addr}{h:Heap}{p:Addr×Obj}(a:p∈qvf fp h):p.1∈fp/\h.get? p.1=some p.2:=by
 obtain⟨b,c,e⟩:=Qxd.mp a
 cases q:h.get? b with
 |none=>rw[q]at e; cases e
 |some o=>
  rw[q]at e;have d:(b,o)=p:=Option.some.inj e;subst d;exact⟨c,q⟩
theorem Inv.pinned{a:List (Addr×Obj)}{c:St}{H:Hp}{s:Qz}{fp:List Addr}(I:Inv X a c H s)(j:∀b∈fp,FpOk X a H b)(i:∀b∈fp,∃o,s.heap.get? b=some o/\∀v,o.data≠.cell v):Inv X (a++qvf fp s.heap) c H s:=
 I.pins_of λp h=>(Qq8.mp h).elim (λz=>I.pin p (Qqu _ z)) λz=>by
  obtain⟨f,e⟩:=qdj z;obtain⟨m,l,k,_⟩:=j p.1 f;obtain⟨o,g,d⟩:=i p.1 f;rw[e]at g; cases g;exact⟨e,m,l,k,d⟩
theorem Inv.unpinned{a pl:List (Addr×Obj)}{b:St}{H:Hp}{s:Qz}(I:Inv X (a++pl) b H s):Inv X a b H s:=I.pins_of λp c=>I.pin p (Qqu _ (Qzf _ c))
theorem qha{l:Qx}{body:List Stmt}{V:TI}{g:TG}{tb:TS}{pos:Pos}(E:PassesOwn (model X.prog X.w) X.A X.env X.xe)(hc:X.calm=true)(hi:PI X tg l V)(hg:PG X tg g)(p:PSs X body tb)
  (hs:∀x,foldedSetIterable l X.env x=pure x):PS X (.For tg l body [] pos) (tFor V g tb):=by
 intro pins s σ H D I h;refine wpAny_For (thn (hi pins s σ H _ I h) λv s1 h1=>thn h1 λa0 s2 h2=>?_) hs;obtain⟨it,fp,tn,Jq,H2,e,I2,T,P,f2,W,⟨m0,w0⟩,turn⟩:=h2;subst e;have k:∀{H':Hp},(∀b∈fp,H' b=none)->∀b∈fp,FpOk X pins H' b:=λhn b p=>⟨hn b p,(f2 b p).2⟩
 refine codeAny_forLoop_any (λn s'=>∃i j H',Inv X pins j H' s'/\tn i s'.heap/\(∀b∈fp,H' b=none)/\W i n j H') ?_ m0 ⟨0,σ,H2,I2,P,λb p=>(f2 b p).1,w0⟩;rintro n s3 ⟨i,c,G,I3,A,F,w3⟩;rcases turn i n c G w3 with⟨stop,qn⟩|⟨go,N,hN,step⟩
 ·refine Q0 E (thn (T.done X rfl rfl rfl hc i pins s3 c G X.xe I3 (k F) A stop) λr s4 ⟨R,I4⟩=>?_);subst R;exact Zl ⟨c,G,I4,qn⟩
 ·refine Q0 E (thn (T.item X rfl rfl rfl hc i pins s3 c G X.xe I3 (k F) A go) λr s4 ⟨u,R,h4⟩=>?_);subst R;refine Q0 E (thn h4 λ_ s5 ⟨x,H5,I5,r5,y5,z,S⟩=>?_);have U:=I5.pinned (k S) (T.obj _ _ z);refine Q0 E (thn (hg _ s5 c H5 x u _ U r5 (step x H5 y5)) λ_ s6 ⟨K,H6,I6,q6⟩=>?_);refine Q0 E (thn (p _ s6 K H6 _ I6 q6) λf Q y=>?_);have q:∀{a:St}{w:Hp},Inv X (pins++qvf fp s5.heap) a w Q->N a w->∃m,m<n/\∃i j H',Inv X pins j H' Q/\tn i Q.heap/\(∀b∈fp,H' b=none)/\W i m j H':=λ{a w} t C=>by
   obtain⟨m',hm,w7⟩:=hN a w C;refine⟨m',hm,i+1,a,w,t.unpinned,T.keep _ _ _ z λb p o e=>(t.pin (b,o) (Qqu _ (Qqu _ (qqr p e)))).1,λb p=>?_,w7⟩;obtain⟨o,e,d⟩:=T.obj _ _ z b p;exact(t.pin (b,o) (Qqu _ (Qqu _ (qqr p e)))).2.1
  cases f with
  |next=>obtain⟨a,w,t,C⟩:=y; exact q t C
  |cont=>obtain⟨a,w,t,C⟩:=y; exact q t C
  |brk=>obtain⟨a,w,t,y⟩:=y; exact⟨a,w,t.unpinned,y⟩
  |ret v=>obtain⟨x7,a,w,t,r7,y⟩:=y; exact⟨x7,a,w,t.unpinned,r7,y⟩
end
end L2
namespace L2
open PySem PySem.Spec PyProof.Rows
abbrev R2:=V->V->Hp->VK->Prop
def OpR(X:Cx)(f:Value->Value->Sem Value)(r:R2):Prop:=
 ∀(pins:List (Addr×Obj)) (s:Qz) (σ:St) (H:Hp) (x y:V) (v u:Value) (Q:VK),Inv X pins σ H s->RelV x v->RelV y u->r x y H Q->
  wpAny (model X.prog X.w) X.A (f v u) (EP X pins σ Q) X.xe s
def UnR(X:Cx)(f:Value->Sem Value)(r:V->Hp->VK->Prop):Prop:=
 ∀(pins:List (Addr×Obj)) (s:Qz) (σ:St) (H:Hp) (x:V) (v:Value) (Q:VK),Inv X pins σ H s->RelV x v->r x H Q->
  wpAny (model X.prog X.w) X.A (f v) (EP X pins σ Q) X.xe s
def qqq(X:Cx)(f:Value)(r:List V->Hp->VK->Prop):Prop:=
 ∀(pins:List (Addr×Obj)) (s:Qz) (σ:St) (H:Hp) (xs:List V) (us:List Value) (Q:VK),Inv X pins σ H s->Vals xs us->r xs H Q->
  wpAny (model X.prog X.w) X.A (call f us) (EP X pins σ Q) X.xe s
def TruR(X:Cx)(r:V->Hp->(Bool->Hp->Prop)->Prop):Prop:=
 ∀(pins:List (Addr×Obj)) (s:Qz) (σ:St) (H:Hp) (x:V) (v:Value) (Q:Bool->Hp->Prop),Inv X pins σ H s->RelV x v->r x H Q->
  wpAny (model X.prog X.w) X.A (truthy v) (TP X pins σ Q) X.xe s
noncomputable def tOp(r:R2)(ta tb:TE):TE:=λσ H Q=>ta σ H λx H1=>tb σ H1 λy H2=>r x y H2 Q
noncomputable def tUn(r:V->Hp->VK->Prop)(ta:TE):TE:=λσ H Q=>ta σ H λx H1=>r x H1 Q
noncomputable def rI(C:Int->Int->Prop)(g:Int->Int->V):R2:=λx y H Q=>∃i j,x=.int i/\y=.int j/\C i j/\Q (g i j) H
noncomputable def rI0(g:Int->Int->V):R2:=λx y H Q=>∃i j,x=.int i/\y=.int j/\Q (g i j) H
def rU(g:Int->V):V->Hp->VK->Prop:=λx H Q=>∃i,x=.int i/\Q (g i) H
section
variable {X:Cx}{a b c:Qx}{ta tb tc:TE}{pos:Pos}
theorem binT(r:PE X a ta)(q:PE X b tb){d:List (Addr×Obj)}{s:Qz}{e:St}{H:Hp}{R:V->V->Hp->Prop}(I:Inv X d e H s)
  (h:ta e H λx H1=>tb e H1 λy H2=>R x y H2){Q:Value->Qz->Prop}{f:Value->Value->Sem Value}
  (p:∀v u j x y H2,Inv X d e H2 j->RelV x v->RelV y u->R x y H2->wpAny (model X.prog X.w) X.A (f v u) Q X.xe j) :
  wpAny (model X.prog X.w) X.A (Qw a X.env) (λv i=>wpAny (model X.prog X.w) X.A (Qw b X.env) (λu g=>wpAny (model X.prog X.w) X.A (f v u) Q X.xe g) X.xe i) X.xe s:=by
 refine thn (r d s e H _ I h) λv k ⟨x,H1,w,m,o⟩=>?_;refine thn (q d k e H1 _ w o) λu j ⟨y,H2,t,l,n⟩=>?_;exact p v u j x y H2 t m l n
theorem pe_op{d:Za}{r:R2}(i:OpR X (Q1 d) r)(k:PE X a ta)(j:PE X b tb):PE X (.BinOp a d b pos) (tOp r ta tb):=by
 intro pins s σ H Q I h;exact wpAny_BinOp (binT k j I h λv u e x y H2 l g f q=>i pins e σ H2 x y v u Q l g f q)
theorem pe_un{d:UnaryOp}{r:V->Hp->VK->Prop}(i:UnR X (unaryOp d) r)(j:PE X a ta):PE X (.UnaryOp d a pos) (tUn r ta):=by
 intro pins s σ H Q I h;exact UnaryOp_ (thn (j pins s σ H _ I h) λv e ⟨x,H1,k,f,g⟩=>i pins e σ H1 x v Q k f g)
theorem opI{f:Value->Value->Sem Value}{C:Int->Int->Prop}{g:Int->Int->Int}
  (d:∀(i j:Int) (t u:Tok) (s:Qz) (Q:Value->Qz->Prop) (E:Value->Qz->Prop),C i j->Q (.int (g i j) s.toks) { s with toks:=s.toks+1 }->wpAny (model X.prog X.w) X.A (f (.int i t) (.int j u)) Q E s) :
  OpR X f (rI C λi j=>.int (g i j)):=by
 intro pins s σ H x y v u Q I l k h;obtain⟨i,j,rfl,rfl,m,q⟩:=h;obtain⟨t,rfl⟩:=l;obtain⟨e,rfl⟩:=k;exact d i j t e s _ _ m ⟨.int (g i j),H,I.tok _,⟨_,rfl⟩,q⟩
theorem opI0{f:Value->Value->Sem Value}{g:Int->Int->Int}
  (d:∀(i j:Int) (t u:Tok) (s:Qz) (Q:Value->Qz->Prop) (E:Value->Qz->Prop),Q (.int (g i j) s.toks) { s with toks:=s.toks+1 }->wpAny (model X.prog X.w) X.A (f (.int i t) (.int j u)) Q E s) :
  OpR X f (rI0 λi j=>.int (g i j)):=by
 intro pins s σ H x y v u Q I l k h;obtain⟨i,j,rfl,rfl,q⟩:=h;obtain⟨t,rfl⟩:=l;obtain⟨e,rfl⟩:=k;exact d i j t e s _ _ ⟨.int (g i j),H,I.tok _,⟨_,rfl⟩,q⟩
theorem opB0{f:Value->Value->Sem Value}{g:Int->Int->Bool}
  (d:∀(i j:Int) (t u:Tok) (s:Qz) (Q:Value->Qz->Prop) (E:Value->Qz->Prop),Q (.bool (g i j)) s->wpAny (model X.prog X.w) X.A (f (.int i t) (.int j u)) Q E s) :
  OpR X f (rI0 λi j=>.bl (g i j)):=by
 intro pins s σ H x y v u Q I l k h;obtain⟨i,j,rfl,rfl,q⟩:=h;obtain⟨t,rfl⟩:=l;obtain⟨e,rfl⟩:=k;exact d i j t e s _ _ ⟨.bl (g i j),H,I,rfl,q⟩
def CPow(i j:Int):Prop:=0<=j/\j<=1000000/\i.natAbs<2 ^ 64
def CMul(i j:Int):Prop:=(-(2 ^ 64)<i/\i<2 ^ 64)\/(-(2 ^ 64)<j/\j<2 ^ 64)
theorem CMul.ok{i j:Int}(h:CMul i j):IntMulOk i j:=by
 rcases h with⟨h1,h2⟩|⟨h1,h2⟩
 ·exact .of_left (intBits_le_64 h1 h2)
 ·exact .of_right (intBits_le_64 h1 h2)
theorem op_add:OpR X (Q1 .Add) (rI0 λi j=>.int (i+j)):=opI0 λ_ _ _ _ _ _ _ q=>add_int q
theorem op_sub:OpR X (Q1 .Sub) (rI0 λi j=>.int (i - j)):=opI0 λ_ _ _ _ _ _ _ q=>sub_int q
theorem op_mul:OpR X (Q1 .Mult) (rI CMul λi j=>.int (i*j)):=opI λ_ _ _ _ _ _ _ d q=>mul_int q d.ok
theorem op_mod:OpR X (Q1 .Mod) (rI (λ_ j=>0<j) λi j=>.int (i % j)):=opI λi j _ _ _ _ _ d q=>by
 have h1:(0:Int)<j:=d;exact mod_int' (by omega) (by rw[Int.fmod_eq_emod_of_nonneg i (by omega)]; exact q)
theorem op_pow:OpR X (Q1 .Pow) (rI CPow λi j=>.int (i ^ j.toNat)):=opI λ_ _ _ _ _ _ _ d q=>pow_int_small d.1 d.2.1 d.2.2 q
theorem unI{f:Value->Sem Value}{g:Int->Int}
  (d:∀(i:Int) (t:Tok) (s:Qz) (Q:Value->Qz->Prop) (E:Value->Qz->Prop),Q (.int (g i) s.toks) { s with toks:=s.toks+1 }->wpAny (model X.prog X.w) X.A (f (.int i t)) Q E s) :
  UnR X f (rU λi=>.int (g i)):=by
 intro pins s σ H x v Q I e h;obtain⟨i,rfl,q⟩:=h;obtain⟨t,rfl⟩:=e;exact d i t s _ _ ⟨.int (g i),H,I.tok _,⟨_,rfl⟩,q⟩
theorem un_neg:UnR X (unaryOp .USub) (rU λi=>.int (-i)):=unI λ_ _ _ _ _ q=>neg_int q
end
section
variable {X:Cx}{a b c:Qx}{ta tb tc:TE}{pos:Pos}
theorem qht{d:List (Addr×Obj)}{f:St}{H:Hp}{s:Qz}{Q:VK}{k k':Bool}(I:Inv X d f H s)(q:Q (.bl k) H)(e:k=k'):EP X d f Q (.bool k') s:=by
 subst e;exact⟨.bl k,H,I,rfl,q⟩
theorem op_lt:OpR X (Qg .Lt) (rI0 λi j=>.bl (decide (i<j))):=opB0 λ_ _ _ _ _ _ _ q=>lt_int q
theorem op_le:OpR X (Qg .LtE) (rI0 λi j=>.bl (decide (i<=j))):=opB0 λ_ _ _ _ _ _ _ q=>le_int q
theorem op_gt:OpR X (Qg .Gt) (rI0 λi j=>.bl (decide (j<i))):=opB0 λ_ _ _ _ _ _ _ q=>gt_int q
theorem op_ge:OpR X (Qg .GtE) (rI0 λi j=>.bl (decide (j<=i))):=opB0 λ_ _ _ _ _ _ _ q=>ge_int q
theorem op_isN:OpR X (Qg .Is) (λx y H Q=>y=.non/\Q (.bl (decide (x=.non))) H):=by
 intro pins s σ H x y v u Q I d e h;obtain⟨rfl,q⟩:=h;cases e;refine is_none_gen (qht I q ?_)
 cases x<;>first
  |(cases d; rfl)
  |(obtain⟨t,rfl⟩:=d; rfl)
theorem qlp:OpR X (Qg .IsNot) (λx y H Q=>y=.non/\Q (.bl (!decide (x=.non))) H):=by
 intro pins s σ H x y v u Q I d e h;obtain⟨rfl,q⟩:=h;cases e;refine isnot_none_gen (qht I q ?_)
 cases x<;>first
  |(cases d; rfl)
  |(obtain⟨t,rfl⟩:=d; rfl)
theorem qli{d:CmpOp}{r:R2}(i:OpR X (Qg d) r)(l:PE X a ta)(k:PE X b tb)(j:Zg d b=false):PE X (.Compare a [d] [b] pos) (tOp r ta tb):=by
 intro pins s σ H Q I h;exact wpAny_Compare1 (binT l k I h λv u e x y H2 m g f q=>i pins e σ H2 x y v u Q m g f q) j
noncomputable def tTest(t:TE):TT:=λσ H Q=>t σ H λx H'=>∃k,x=.bl k/\Q k H'
theorem qlz{d:CmpOp}{r:R2}(p:OpR X (Qg d) r)(w:PE X a ta)(t:PE X b tb)(q:Zg d b=false):PT X (.Compare a [d] [b] pos) (tTest (tOp r ta tb)):=by
 intro pins s σ H Q I h
 refine wpAny_isTrue_Compare1 (thn (w pins s σ H _ I h) λv g ⟨x,H1,D,l,o⟩=>thn (t pins g σ H1 _ D o) λu f ⟨y,H2,C,j,n⟩=>
  thn (p pins f σ H2 x y v u _ C l j n) λc F ⟨z,E,A,i,k,e,m⟩=>?_) q
 subst e;cases i;exact Qe ⟨E,A,m⟩
noncomputable def qg9(r r':R2)(ta tb tc:TE):TE:=λσ H Q=>ta σ H λx H1=>tb σ H1 λy H2=>r x y H2 λz H3=>∃k,z=.bl k/\
 (if k=true then tc σ H3 λw' H4=>r' y w' H4 Q else Q (.bl false) H3)
theorem qgk{g f:CmpOp}{r l:R2}(P:OpR X (Qg g) r)(i:OpR X (Qg f) l)(U:PE X a ta)(T:PE X b tb)(S:PE X c tc)
  (R:lastMarks [g,f] [b,c]=false):PE X (.Compare a [g,f] [b,c] pos) (qg9 r l ta tb tc):=by
 intro pins s σ H Q I h
 refine Compare_chain (thn (U pins s σ H _ I h) λv C ⟨x,H1,I1,F,N⟩=>chain_link (thn (T pins C σ H1 _ I1 N) λu A ⟨y,H2,W,j,K⟩=>
  thn (P pins A σ H2 x y v u _ W F j K) λd w ⟨z,o,n,E,k,e,m⟩=>?_)) R
 subst e;cases E;refine Qe ?_
 cases k with
 |false=>exact ite_ff ⟨.bl false,o,n,rfl,m⟩
 |true=>exact ite_tt (chain_last (thn (S pins w σ o _ n m) λq t ⟨p,H4,V,D,G⟩=>i pins t σ H4 y p u q Q V j D G))
theorem qf2{g f:CmpOp}{r l:R2}(T:OpR X (Qg g) r)(i:OpR X (Qg f) l)(ha:PE X a ta)(W:PE X b tb)(V:PE X c tc)
  (U:lastMarks [g,f] [b,c]=false):PT X (.Compare a [g,f] [b,c] pos) (tTest (qg9 r l ta tb tc)):=by
 intro pins s σ H Q I h
 refine isTrue_chain (thn (ha pins s σ H _ I h) λv C ⟨x,H1,I1,G,R⟩=>test_link (thn (W pins C σ H1 _ I1 R) λu A ⟨y,H2,I2,j,P⟩=>
  thn (T pins A σ H2 x y v u _ I2 G j P) λd w ⟨z,o,n,F,k,e,m⟩=>?_)) U
 subst e;cases F;refine Qe ?_
 cases k with
 |false=>
  obtain⟨k',e',S⟩:=m;cases e';exact ite_ff ⟨o,n,S⟩
 |true=>
  refine ite_tt (test_last (thn (V pins w σ o _ n m) λq t ⟨p,H4,I4,E,N⟩=>thn (i pins t σ H4 y p u q _ I4 j E N) λd' s5 ⟨z2,H5,I5,D,k2,e2,K⟩=>?_));subst e2;cases D;exact Qe ⟨H5,I5,K⟩
def TruV(K:Qqq)(x:V)(H:Hp)(k:Bool):Prop:=
 match x with
 |.non=>k=false
 |.bl b=>k=b
 |.int i=>k=(i != 0)
 |.str y=>y.length<=sizeLine/\k=((y.length:Int) != 0)
 |.byt y=>y.size<=sizeLine/\k=((y.size:Int) != 0)
 |.ref p=>(∃xs,SqL K H p xs/\k = !xs.isEmpty)\/(∃xs,SqT K H p xs/\k = !xs.isEmpty)\/∃kvs,H p=some (.dK kvs)/\k = !kvs.isEmpty
 |_=>False
theorem qbf{d:Type}{kvs:List (d×V)}{vs:List (d×Value)}(r:KV kvs vs):(!vs.isEmpty) = !kvs.isEmpty:=by
 cases r<;>rfl
theorem qkw{e:List V}{d:List Value}(r:Vals e d):(!d.toArray.isEmpty) = !e.isEmpty:=by
 cases r<;>simp
theorem qvu:(sizeLine:Nat)<2 ^ 63:=by rw[Q4]; decide
theorem tru_ok:TruR X (λx H Q=>∃k,TruV X.K x H k/\Q k H):=by
 intro pins s σ H x v Q I g h;obtain⟨k,e,q⟩:=h;have A:=qvu;have z:sizeLine=16777216:=Q4
 cases x with
 |non=>
  cases g;have d:k=false:=e;subst d;exact truthy_none ⟨H,I,q⟩
 |bl b=>
  cases g;have d:k=b:=e;subst d;exact Qe ⟨H,I,q⟩
 |int i=>
  obtain⟨t,rfl⟩:=g;have d:k=(i != 0):=e;subst d;exact PySem.P.truthy_int ⟨H,I,q⟩
 |str y=>
  obtain⟨t,rfl⟩:=g;obtain⟨u,d⟩:y.length<=sizeLine/\k=((y.length:Int) != 0):=e;subst d;exact PySem.P.truthy_str (by omega) ⟨H,I.tok _,q⟩
 |byt y=>
  obtain⟨t,rfl⟩:=g;obtain⟨u,d⟩:y.size<=sizeLine/\k=((y.size:Int) != 0):=e;subst d;exact PySem.W.truthy_bytes (by omega) ⟨H,I.tok _,q⟩
 |ref p=>
  cases g;have d:(∃xs,SqL X.K H p xs/\k = !xs.isEmpty)\/(∃xs,SqT X.K H p xs/\k = !xs.isEmpty)\/∃kvs,H p=some (.dK kvs)/\k = !kvs.isEmpty:=e;rcases d with⟨xs,j,d⟩|⟨xs,j,d⟩|⟨kvs,j,d⟩
  ·subst d;obtain⟨n,r,l,o⟩:=I.list j;have f:=r.length;exact wpAny_truthy_list l.isList (by simp only[Qqy]; omega) ⟨H,I.tok _,by rw[qkw r]; exact q⟩
  ·subst d;obtain⟨n,r,l,o⟩:=I.tuple j;have f:=r.length;exact truthy_tuple l (by simp only[Qqy]; omega) ⟨H,I.tok _,by rw[qkw r]; exact q⟩
  ·subst d;obtain⟨o,w,vs,r,m⟩:kvs.length<=sizeLine/\(p==Qi)=false/\∃vs,KV kvs vs/\s.heap.DictOf (mixKind X.prog X.w) p vs:=I.hok p _ j;have f:kvs.length=vs.length:=Paired.length r;exact wpAny_truthy_dict w m (by omega) ⟨H,I.tok _,by rw[qbf r]; exact q⟩
 |_=>exact(show False from e).elim
theorem qf1(j:PE X a ta)(i:∀d,isTrue a X.env d=(do let v <- d; Zx a.pos; Qu [v] (truthy v))):
  PT X a (λσ H Q=>ta σ H λx H'=>∃k,TruV X.K x H' k/\Q k H'):=by
 intro pins s σ H Q I h;exact isTrue_plain (thn (j pins s σ H _ I h) λv e ⟨x,H1,l,f,g⟩=>tru_ok pins e σ H1 x v Q l f g) (i _)
theorem vals1{x:V}{us:List Value}(r:Vals [x] us):∃u,us=[u]/\RelV x u:=by
 cases r with
 |cons e d=>cases d; exact⟨_,rfl,e⟩
theorem vals2{x y:V}{us:List Value}(r:Vals [x,y] us):∃u w',us=[u,w']/\RelV x u/\RelV y w':=by
 cases r with
 |cons g f=>
  cases f with
  |cons e d=>cases d; exact⟨_,_,rfl,g,e⟩
theorem qem(e:X.calm=true):qqq X (.builtin "max") (λxs H Q=>∃i j,xs=[.int i,.int j]/\Q (.int (if j > i then j else i)) H):=by
 intro pins s σ H xs g Q I r h;obtain⟨i,j,rfl,q⟩:=h;obtain⟨u,f,rfl,⟨t,rfl⟩,⟨l,rfl⟩⟩:=vals2 r;refine max_two_ints (I.ok.hd e) λh' tk k=>⟨_,H,I.kept k,?_,q⟩
 by_cases d:j > i
 ·rw[Z3 d,Z3 d]; exact⟨_,rfl⟩
 ·rw[Z2 d,Z2 d]; exact⟨_,rfl⟩
theorem qei(e:X.calm=true):qqq X (.builtin "min") (λxs H Q=>∃i j,xs=[.int i,.int j]/\Q (.int (if j<i then j else i)) H):=by
 intro pins s σ H xs g Q I r h;obtain⟨i,j,rfl,q⟩:=h;obtain⟨u,f,rfl,⟨t,rfl⟩,⟨l,rfl⟩⟩:=vals2 r;refine min_two_ints (I.ok.hd e) λh' tk k=>⟨_,H,I.kept k,?_,q⟩
 by_cases d:j<i
 ·rw[Z3 d,Z3 d]; exact⟨_,rfl⟩
 ·rw[Z2 d,Z2 d]; exact⟨_,rfl⟩
theorem qwa:qqq X (.type "int") (λxs H Q=>(∃i,xs=[.int i]/\Q (.int i) H)\/∃k,xs=[.bl k]/\Q (.int (if k then 1 else 0)) H):=by
 intro pins s σ H xs e Q I r h;rcases h with⟨i,rfl,q⟩|⟨k,rfl,q⟩
 ·obtain⟨u,rfl,t,rfl⟩:=vals1 r;exact call_int_int ⟨.int i,H,I,⟨_,rfl⟩,q⟩
 ·obtain⟨u,rfl,d⟩:=vals1 r;cases d;exact call_int_bool ⟨.int (if k then 1 else 0),H,I.tok _,⟨_,rfl⟩,q⟩
end
end L2
namespace L2
open PySem PySem.Spec PyProof.Rows
structure ObjM (h:Heap) (x dx C:Addr) (mA:Str->Option Value):Prop where
 obj:h.get? x=some (PySem.W.instObj C dx)
 ns:h.Ns1 dx mA
 ne:dx≠x
theorem qdd{h:Heap}{f:Addr}{d:Str->Option Value}(n:h.Ns1 f d):∃c,h.get? f=some c/\∀name,PySem.W.lookIn name c=some (d name):=by
 obtain⟨o,es,m,i,hd,k,_,j⟩:=n;refine⟨o,i,λname=>?_⟩;have e:=j name;unfold nsFind findBy at e;rw[<- Array.find?_toList]at e;unfold PySem.W.lookIn;rw[hd];dsimp only
 split
 ·rename_i y q;rw[q]at e;exact congrArg some e
 ·rename_i q;rw[q]at e;have a:es.toList.any (·.refKey)=false:=by
   rw[List.any_eq_false];intro y g;obtain⟨z,t,b⟩:=k y (Array.mem_toList_iff.mp g);simp[DictEntry.refKey,b]
  have l:¬ es.toList.any (·.refKey)=true:=by rw[a]; exact Qqg
  rw[Z2 l];exact congrArg some e
theorem ObjM.look{h:Heap}{x c C:Addr}{b:Str->Option Value}(I:ObjM h x c C b):∃a,PySem.W.InstAt h x (PySem.W.instObj C c) C (some a)/\∀name,PySem.W.lookIn name a=some (b name):=
 let ⟨a,d,e⟩:=qdd I.ns
 ⟨a,⟨I.obj,rfl,rfl,d⟩,e⟩
section
variable {prog:Program}{w:Qk}{A:Qv}{E:Value->Qz->Prop}{s:Qz}{K:Qqq}{x dx C f:Addr}{mA:Str->Option Value}{name:Str}{v:Value}
theorem qme{expr:Bool}{Q:Value->Qz->Prop}(X:K.In s.heap)(I:ObjM s.heap x dx C mA)(e:PySem.W.plainGet K C name=true)(d:PySem.W.hasDictIn K C=true)
  (g:PySem.W.findIn K (.ref C) name=some none) (b:mA name=some v) (a:PySem.W.handedIn v=true) (h:Q v { s with toks:=s.toks+1 }) :
  wpAny (model prog w) A (getAttr (.ref x) name expr) Q E s:=by
 obtain⟨j,i,c⟩:=I.look;exact PySem.W.get_value X i (Qjx e).1 (PySem.W.findObj_own d g rfl (by rw[c,b])) a h
theorem qgn{pl:Sem Bool}{Q:Value×List Value->Qz->Prop}(X:K.In s.heap)(I:ObjM s.heap x dx C mA)(a:PySem.W.plainGet K C name=true)
  (g:PySem.W.findIn K (.ref C) name=some (some (.ref f))) (d:PySem.W.isFn K (.ref f)=true) (c:mA name=none) (h:Q (.ref f,[.ref x]) s) :
  wpAny (model prog w) A (Zb (.ref x) name pl) Q E s:=by
 obtain⟨b,i,e⟩:=I.look;exact PySem.W.method_fn X i (Qjx a).1 (Qjx a).2 g (beq_iff_eq.mp d) (by show(PySem.W.lookIn name b).map (·.isSome)=some false; rw[e,c]; rfl) h
theorem qi0{ns:List Str}{Q:Unit->Qz->Prop}(X:K.In s.heap)(I:ObjM s.heap x dx C mA)
  (o:PySem.W.findIn K (.ref C) "__setattr__" = some (some (.builtin "object.__setattr__"))) (p:PySem.W.plainOver K C=true) (n:PySem.W.takerIn K C name=some none) (q:PySem.W.hasDictIn K C=true)
  (m:PySem.Within mA ns) (hsz:ns.length<=sizeLine)
  (h:∀h',ObjM h' x dx C (λy=>if y=name then some v else mA y)->Heap.SameBut dx s.heap h'->Q () { s with heap:=h',toks:=s.toks+2 }) :
  wpAny (model prog w) A (setAttr (.ref x) name v) Q E s:=by
 obtain⟨D,k,G⟩:=I.look;refine PySem.W.set_plain X k o (PySem.W.osa_open (s:={ s with toks:=s.toks+1 }) (r:=none) X k p n λb=>?_);obtain⟨H,t,i⟩:=PySem.W.any_some q;have l:s.heap.get? x=some ⟨.ref C,some dx,.plain,#[]⟩:=I.obj;refine Qq (Qj (Qq (Qq (wpAny_loadPart l (Qq (PySem.W.Looks.here (s:={ s with toks:=s.toks+1 }) (PySem.W.looks_clsIn X t) ?_))))));rw[i];refine Qj (a:=some dx) (Qq (Qj (Qq ?_)));refine wpAny_nsSet1 (s:={ s with toks:=s.toks+1 }) I.ns λh' d c=>?_;obtain⟨F,u,z,e,g,j⟩:=d.count (PySem.Within.cons name v m);refine Qq (wpAny_lookBehind e (by rw[g]; exact pastItsLine_dict (Qq9 j (by rw[Qqh]; omega))) ?_);exact Qj (h _ ⟨(c.2 _ (Ne.symm I.ne)).trans I.obj,d,I.ne⟩ c)
theorem qgd{R:Result->Qz->Prop}{vs:List Value}{a:List (Str×Value)}(X:K.In s.heap)(b:PySem.W.makesIn K C=true)
  (c:PySem.W.findIn K (.ref C) "__init__" = some (some (.ref f))) (e:PySem.W.typeIn K (.ref f)=some (.type "function"))
  (h:Zj (model prog w) (A.under (.builtin "type.__call__" ⟨.ref C::vs,a⟩)) (.call (.ref f) ⟨.ref (s.heap.objs.size+1)::vs,a⟩) (PySem.W.InitBack (s.heap.objs.size+1) R)
   { s with heap:=(s.heap.push PySem.W.emptyDict).push (PySem.W.instObj C s.heap.objs.size) }) :
  Zj (model prog w) A (.call (.ref C) ⟨vs,a⟩) R s:=by
 obtain⟨i,g,d,t,os⟩:=s;exact PySem.W.make_core (PySem.W.makes_of X b) (PySem.W.looks_findIn X c) (λself=>PySem.W.bind_fn X self e) (.inl rfl) h
end
noncomputable def putF(f:Str)(v:V):List (Str×V)->List (Str×V)
 |[]=>[(f,v)]
 |(g,x)::r=>if g=f then(g,v)::r else(g,x)::putF f v r
theorem qjb(f g:Str)(v:V):∀fs:List (Str×V),(putF f v fs).lookup g=if g=f then some v else fs.lookup g
 |[]=>by
  show List.lookup g [(f,v)]=_
  by_cases h:g=f
  ·have a:(g==f)=true:=beq_iff_eq.mpr h;simp only[List.lookup,a,Z3 h]
  ·have a:(g==f)=false:=beq_eq_false_iff_ne.mpr h;simp only[List.lookup,a,Z2 h]
 |(k,x)::r=>by
  have c:=qjb f g v r;rw[show putF f v ((k,x)::r)=(if k=f then(k,v)::r else(k,x)::putF f v r) from rfl]
  by_cases b:k=f
  ·rw[Z3 b]
   by_cases h:g=k
   ·have a:(g==k)=true:=beq_iff_eq.mpr h;simp only[List.lookup,a,Z3 (h.trans b)]
   ·have a:(g==k)=false:=beq_eq_false_iff_ne.mpr h;simp only[List.lookup,a,Z2 (λe:g=f=>h (e.trans b.symm))]
  ·rw[Z2 b]
   by_cases h:g=k
   ·have a:(g==k)=true:=beq_iff_eq.mpr h;simp only[List.lookup,a,Z2 (λe:g=f=>b (h.symm.trans e))]
   ·have a:(g==k)=false:=beq_eq_false_iff_ne.mpr h;simp only[List.lookup,a];exact c
theorem qjf(f:Str)(v:V):∀fs:List (Str×V),f∈(putF f v fs).map (·.1)/\∀g,g∈fs.map (·.1)->g∈(putF f v fs).map (·.1)
 |[]=>⟨by simp[putF],λg h=>by simp at h⟩
 |(k,x)::r=>by
  obtain⟨c,b⟩:=qjf f v r;rw[show putF f v ((k,x)::r)=(if k=f then(k,v)::r else(k,x)::putF f v r) from rfl]
  by_cases a:k=f
  ·rw[Z3 a];subst a;exact⟨by simp,λg h=>by simpa using h⟩
  ·rw[Z2 a];refine⟨?_,λg h=>?_⟩
   ·rw[Qq3];exact Qqf _ c
   ·rw[Qq3]at h ⊢;rcases Qqb.mp h with e|e
    ·exact Qqb.mpr (.inl e)
    ·exact Qqf _ (b g e)
theorem qjd(f:Str)(v:V):∀fs:List (Str×V),(putF f v fs).length<=fs.length+1
 |[]=>by simp[putF]
 |(k,x)::r=>by
  have b:=qjd f v r;rw[show putF f v ((k,x)::r)=(if k=f then(k,v)::r else(k,x)::putF f v r) from rfl]
  by_cases a:k=f
  ·rw[Z3 a,Qqh,Qqh]; omega
  ·rw[Z2 a,Qqh,Qqh]; omega
theorem RelO.some_of{v:V}{o:Option Value}(r:RelO (some v) o):∃u,o=some u/\RelV v u:=by
 cases o with
 |none=>exact(show False from r).elim
 |some u=>exact⟨u,rfl,r⟩
theorem RelO.none_of{o:Option Value}(r:RelO none o):o=none:=by
 cases o with
 |none=>rfl
 |some u=>exact(show False from r).elim
theorem qd2{v:V}{u:Value}(r:RelV v u):PySem.W.handedIn u=true:=by
 cases v with
 |non=>cases (show u=Value.none from r); rfl
 |bl b=>cases (show u=Value.bool b from r); rfl
 |int i=>obtain⟨t,e⟩:=(show ∃t,u=Value.int i t from r); cases e; rfl
 |str x=>obtain⟨t,e⟩:=(show ∃t,u=Value.str x t from r); cases e; rfl
 |byt b=>obtain⟨t,e⟩:=(show ∃t,u=Value.bytes b t from r); cases e; rfl
 |flt b=>obtain⟨t,e⟩:=(show ∃t,u=Value.float b t from r); cases e; rfl
 |ref a=>cases (show u=Value.ref a from r); rfl
 |ty n=>cases (show u=Value.type n from r); rfl
section
variable {P:Program}{w:Qk}{H H':Hp}{h h':Heap}{a C dx:Addr}{fs fs':List (Str×V)}
theorem qqv(hok:HOk P w H h)(e:H a=some (.ins C dx fs)):∃mA,ObjM h a dx C mA/\(∀f,RelO (fs.lookup f) (mA f))/\PySem.Within mA (fs.map (·.1))/\fs.length<=1000/\H dx=some (.own a):=by
 obtain⟨d,z,ne,ob,mA,n,r,q⟩:=(show ObjOk P w H h a (.ins C dx fs) from hok a _ e)
 exact⟨mA,⟨ob,n,ne⟩,r,q,z,d⟩
end
structure Cls (K:Qqq) (C:Addr):Prop where
 pg:PySem.W.plainGet K C Str.empty=true
 hd:PySem.W.hasDictIn K C=true
 po:PySem.W.plainOver K C=true
 sa:PySem.W.findIn K (.ref C) "__setattr__" = some (some (.builtin "object.__setattr__"))
theorem Cls.get{K:Qqq}{C:Addr}(c:Cls K C)(f:Str):PySem.W.plainGet K C f=true:=c.pg
def NoAttr(K:Qqq)(C:Addr)(f:Str):Prop:=PySem.W.findIn K (.ref C) f=some none
theorem NoAttr.taker{K:Qqq}{C:Addr}{f:Str}(n:NoAttr K C f):PySem.W.takerIn K C f=some none:=by
 unfold PySem.W.takerIn;rw[show PySem.W.findIn K (.ref C) f=some none from n]
 rfl
structure Meth (K:Qqq) (C:Addr) (m:Str) (f:Addr):Prop where
 at_:PySem.W.findIn K (.ref C) m=some (some (.ref f))
 fn:PySem.W.isFn K (.ref f)=true
 kp:Qzx K (.ref f)=true
section
variable {X:Cx}{pins:List (Addr×Obj)}{σ:St}{H:Hp}{s:Qz}{a C dx:Addr}{fs:List (Str×V)}{f:Str}{v:V}{A:Qv}{E:Value->Qz->Prop}
theorem qbg{b:Bool}{Q:Value->Qz->Prop}(I:Inv X pins σ H s)(e:H a=some (.ins C dx fs))(c:Cls X.K C)(n:NoAttr X.K C f)(l:fs.lookup f=some v)
  (h:∀u s',Inv X pins σ H s'->RelV v u->Q u s'):wpAny (model X.prog X.w) A (getAttr (.ref a) f b) Q E s:=by
 obtain⟨mA,i,r,_,_,_⟩:=qqv I.hok e;obtain⟨u,g,d⟩:=RelO.some_of (v:=v) (o:=mA f) (by rw[<- l]; exact r f);exact qme I.kIn i (c.get f) c.hd n g (qd2 d) (h u _ (I.tok _) d)
theorem qqc{m:Str}{g:Addr}{pl:Sem Bool}{Q:Value×List Value->Qz->Prop}(I:Inv X pins σ H s)(e:H a=some (.ins C dx fs))(c:Cls X.K C)(k:Meth X.K C m g)(l:fs.lookup m=none)
  (h:Q (.ref g,[.ref a]) s):wpAny (model X.prog X.w) A (Zb (.ref a) m pl) Q E s:=by
 obtain⟨mA,b,r,_,_,_⟩:=qqv I.hok e;have hn:mA m=none:=RelO.none_of (by rw[<- l]; exact r m);exact qgn I.kIn b (c.get m) k.at_ k.fn hn h
theorem qa8{y:V}{u:Value}{Q:Unit->Qz->Prop}(I:Inv X pins σ H s)(e:H a=some (.ins C dx fs))(c:Cls X.K C)(n:NoAttr X.K C f)(F:fs.length<1000)(m:RelV y u)
  (h:∀s',Inv X pins σ (upd H a (.ins C dx (putF f y fs))) s'->Q () s'):wpAny (model X.prog X.w) A (setAttr (.ref a) f u) Q E s:=by
 obtain⟨mA,d,r,j,_,k⟩:=qqv I.hok e;have p:(fs.map (·.1)).length<=sizeLine:=by rw[Qqj,Q4]; omega
 refine qi0 I.kIn d c.sa c.po n.taker c.hd j p λh' i l=>h _ ?_;have hd:∃o,h'.get? dx=some o:=let ⟨o,_,_,D,_⟩:=i.ns; ⟨o,D⟩;refine I.write (x:=a) (e:=dx) (by rw[e]; exact True.intro) (.inr k) (λb q w z=>(l.2 b w).trans z) hd ?_;refine⟨by rw[qzx d.ne]; exact k,?_,d.ne,i.obj,_,i.ns,λg=>?_,λg t=>?_⟩
 ·have:=qjd f y fs; omega
 ·show RelO ((putF f y fs).lookup g) (if g=f then some u else mA g);rw[qjb]
  by_cases q:g=f
  ·rw[Z3 q,Z3 q]; exact m
  ·rw[Z2 q,Z2 q]; exact r g
 ·by_cases q:g=f
  ·rw[q]; exact(qjf f y fs).1
  ·refine(qjf f y fs).2 g (j g λz=>t ?_);show(if g=f then some u else mA g)=none;rw[Z2 q]; exact z
theorem Inv.made(I:Inv X pins σ H s):Inv X pins σ (upd (upd H s.heap.objs.size (.own (s.heap.objs.size+1))) (s.heap.objs.size+1) (.ins C s.heap.objs.size []))
  { s with heap:=(s.heap.push PySem.W.emptyDict).push (PySem.W.instObj C s.heap.objs.size) }:=by
 have c:(s.heap.push PySem.W.emptyDict).get? s.heap.objs.size=some PySem.W.emptyDict:=Qqe s.heap rfl;have i:((s.heap.push PySem.W.emptyDict).push (PySem.W.instObj C s.heap.objs.size)).get? (s.heap.objs.size+1)=some (PySem.W.instObj C s.heap.objs.size):=by
  have:=Qqe (s.heap.push PySem.W.emptyDict) (o:=PySem.W.instObj C s.heap.objs.size) rfl;rwa [Qzp]at this
 have h:(s.heap.push PySem.W.emptyDict).Ns s.heap.objs.size (λ_=>none):=⟨PySem.W.emptyDict,#[],_,c,rfl,(λe g=>absurd g (by simp)),λ_=>rfl⟩
 have j:=I.laid (a:=s.heap.objs.size) (o:=.own (s.heap.objs.size+1)) (h':=s.heap.push PySem.W.emptyDict) (t':=s.toks) (λb u q=>Qqz _ q) (Qqw _) ⟨_,c⟩;refine j.laid (a:=s.heap.objs.size+1) (o:=.ins C s.heap.objs.size []) (t':=s.toks) (λb u q=>Qqz _ q) (Nat.le_of_eq (Qzp _ _)) ?_;have ne:s.heap.objs.size≠s.heap.objs.size+1:=Qq1 (Qzk _);refine⟨by rw[qzx ne,qzw],Qzc _,ne,i,λ_=>none,(Heap.Ns1.of_empty h).at λo q=>Qqz _ q,λ_=>True.intro,λy d=>absurd rfl d⟩
theorem qmt{prog:Program}{w:Qk}{env:Env}{e:Qx}{f:Str}{pos:Pos}{s:Qz}{Q:Value->Qz->Prop}(c:Zz e f env (Qw e env)=Qw e env)
  (h:wpAny (model prog w) A (Qw e env) (λo b=>wpAny (model prog w) A (getAttr o f true) Q E b) E s):wpAny (model prog w) A (Qw (.Attribute e f pos) env) Q E s:=
 Attribute_any_ h (by rw[arm_eval_Attribute,c])
end
noncomputable def tFld(K:Qqq)(ta:TE)(f:Str):TE:=λσ H Q=>ta σ H λx H1=>∃a C dx fs v,x=.ref a/\H1 a=some (.ins C dx fs)/\Cls K C/\NoAttr K C f/\fs.lookup f=some v/\Q v H1
noncomputable def sFld(K:Qqq)(ta tv:TE)(f:Str):TS:=λD σ H=>tv σ H λy H1=>ta σ H1 λx H2=>∃a C dx fs,x=.ref a/\H2 a=some (.ins C dx fs)/\Cls K C/\NoAttr K C f/\fs.length<1000/\
 D.nx σ (upd H2 a (.ins C dx (putF f y fs)))
section
variable {X:Cx}{o e value:Qx}{f:Str}{pos pos' tpos:Pos}{ta tv:TE}
theorem pe_fld(g:PE X e ta)(i:Zz e f X.env (Qw e X.env)=Qw e X.env):PE X (.Attribute e f pos) (tFld X.K ta f):=by
 intro pins s σ H Q I h;refine qmt i (thn (g pins s σ H _ I h) λu r ⟨x,H1,k,b,a,C,dx,fs,v,ex,ea,c,n,l,q⟩=>?_);subst ex;obtain rfl:u=Value.ref a:=b;exact qbg k ea c n l λm p j d=>⟨v,H1,j,d,q⟩
theorem ps_fld(p:PE X o ta)(k:PE X value tv)(m:swapsWith value (some (.Attribute o f pos')) pos.line X.env=pure false):PS X (.Assign [.Attribute o f pos'] value pos) (sFld X.K ta tv f):=by
 intro pins s σ H D I h;refine plainObj_wpAny_Assign_Attribute (thn (k pins s σ H _ I h) λu b ⟨y,H1,v,d,q⟩=>thn (p pins b σ H1 _ v q) λj z ⟨x,H2,t,g,a,C,dx,fs,ex,ea,c,n,l,i⟩=>?_) m;subst ex;obtain rfl:j=Value.ref a:=g;exact qa8 t ea c n l d λw r=>⟨σ,_,r,i⟩
theorem ql2{pl:Sem Bool}{m:Str}{i:Pos}{b:List Qx}{d:List (Addr×Obj)}{s:Qz}{j:St}{H:Hp}{Q:Value->Qz->Prop}{p:TE}(y:PE X e p)(I:Inv X d j H s)
  (h:p j H λx H1=>∃a C dx fs g,x=.ref a/\H1 a=some (.ins C dx fs)/\Cls X.K C/\Meth X.K C m g/\fs.lookup m=none/\
   ∀n,Inv X d j H1 n->wpAny (model X.prog X.w) X.A (callWith pos (.ref g) [.ref a] (backTo pos (starEach b X.env)) (backToKw pos (keywordEach [] X.env))) Q X.xe n)
  (w:Qw (.Call (.Attribute e m i) b [] pos) X.env=(do
   let r <- Qw e X.env
   Zx i.atName
   let (f,first) <- Qu [r] (Zb r m pl)
   callWith pos f first (backTo pos (starEach b X.env)) (backToKw pos (keywordEach [] X.env)))) :
  wpAny (model X.prog X.w) X.A (Qw (.Call (.Attribute e m i) b [] pos) X.env) Q X.xe s:=by
 refine Qz9 (pl:=pl) (thn (y d s j H _ I h) λu n ⟨x,H1,t,v,a,C,dx,fs,g,ex,ea,c,k,l,q⟩=>?_) w;subst ex;obtain rfl:u=Value.ref a:=v;exact qqc t ea c k l (q n t)
end
section
variable {X:Cx}{pins:List (Addr×Obj)}{σ:St}{H:Hp}{s:Qz}{A:Qv}{E:Value->Qz->Prop}{Q:Value->Qz->Prop}{c:Value}{b:Bool}
end
end L2
namespace L2
open PySem PySem.Spec PyProof.Rows
structure Room (k:Nat) (A:Qv):Prop where
 hd:A.handled=none
 dp:A.depth+3*k+5<recursionLimit
 un:A.units+16*k+200<cLine
theorem Room.mono{j k:Nat}{A:Qv}(r:Room k A)(h:j<=k):Room j A:=⟨r.hd,by have:=r.dp; omega,by have:=r.un; omega⟩
theorem Room.deeper{k:Nat}{A:Qv}(r:Room (k+1) A)(env:Env):Room k (A.deeper env):=
 ⟨r.hd,by have:=r.dp; show A.depth+1+3*k+5<_; omega,by have:=r.un; show A.units+3+16*k+200<_; omega⟩
theorem qbd{A:Qv}{C:Addr}{us:List Value}{a:List (Str×Value)}:(A.under (.builtin "type.__call__" ⟨.ref C::us,a⟩)).depth=A.depth+1:=by
 first|rfl|simp[Around.under,Code.weight,Code.isCreation,Code.isGuard,Code.isCaller,Code.frames,Code.isFrame,guardIds]
theorem qbc{A:Qv}{C:Addr}{us:List Value}{a:List (Str×Value)}:(A.under (.builtin "type.__call__" ⟨.ref C::us,a⟩)).units=A.units+1:=by
 first|rfl|simp[Around.under,Code.cUnits,Code.frames,Code.isFrame]
theorem Room.make{k:Nat}{A:Qv}(r:Room (k+1) A)(C:Addr)(us:List Value)(a:List (Str×Value)):Room k (A.under (.builtin "type.__call__" ⟨.ref C::us,a⟩)):=
 ⟨r.hd,by have:=r.dp; rw[qbd]; omega,by have:=r.un; rw[qbc]; omega⟩
theorem Room.depth{k:Nat}{A:Qv}(r:Room k A):A.depth<recursionLimit:=by have:=r.dp; omega
theorem Room.units{k:Nat}{A:Qv}(r:Room k A):A.units+64<cLine:=by have:=r.un; omega
noncomputable def tNil:TA:=λ_ H Q=>Q [] H
noncomputable def qih(ta:TE)(tr:TA):TA:=λσ H Q=>ta σ H λx H1=>tr σ H1 λxs H2=>Q (x::xs) H2
section
variable {X:Cx}{e:Qx}{es:List Qx}{te:TE}{t:TA}{pos:Pos}
theorem pa_nil:PA X [] tNil:=λ_ _ _ _ H Q I h=>Calls.spliced_nil ⟨[],H,I,.nil,h⟩
theorem qz6(j:PE X e te)(i:PA X es t)(g:starEach (e::es) X.env=(false,Qw e X.env)::starEach es X.env:=by rfl):PA X (e::es) (qih te t):=by
 intro pos pins s σ H Q I h;rw[g];show wpAny _ _ (spliced ((false,Qw e X.env)::backTo pos (starEach es X.env))) _ _ s;refine Calls.spliced_cons (thn (j pins s σ H _ I h) λu a ⟨x,H1,l,c,f⟩=>?_);exact thn (i pos pins a σ H1 _ l f) λm n ⟨xs,H2,k,b,d⟩=>⟨x::xs,H2,k,.cons c b,d⟩
noncomputable def tTup(t:TA):TE:=λσ H Q=>t σ H λxs H1=>xs.length<=sizeLine/\∀p,H1 p=none->Q (.ref p) (upd H1 p (.tup xs))
noncomputable def tLst(t:TA):TE:=λσ H Q=>t σ H λxs H1=>xs.length<=sizeLine/\∀p,H1 p=none->Q (.ref p) (upd H1 p (.lst xs))
theorem qhc{d}(h:PA X es t):PE X (.Tuple es d pos) (tTup t):=by
 intro pins s σ H Q I g;refine wpAny_Tuple_spliced (thn (h pos pins s σ H _ I g) λf a ⟨xs,H1,c,r,z,q⟩=>⟨by rw[<- r.length]; exact z,?_⟩);have hf:H1 a.heap.objs.size=none:=c.hok.fresh (Qqw _);refine⟨.ref a.heap.objs.size,upd H1 a.heap.objs.size (.tup xs),c.laid (t':=a.toks) (λb u e=>Qqz _ e) (Qqw _) ?_,rfl,q _ hf⟩;exact⟨z,f,r,⟨_,Qqe _ rfl,rfl,_,rfl⟩⟩
theorem pe_lst(h:PA X es t):PE X (.List es pos) (tLst t):=by
 intro pins s σ H Q I f;refine wpAny_List_spliced (thn (h pos pins s σ H _ I f) λd a ⟨xs,H1,c,r,z,q⟩=>⟨by rw[<- r.length]; exact z,?_⟩);have hf:H1 a.heap.objs.size=none:=c.hok.fresh (Qqw _);refine⟨.ref a.heap.objs.size,upd H1 a.heap.objs.size (.lst xs),c.laid (t':=a.toks) (λb u e=>Qqz _ e) (Qqw _) ?_,rfl,q _ hf⟩;exact⟨z,d,0,r,Qqe _ rfl⟩
end
abbrev Sp:=List V->Hp->VK->XK->Prop
abbrev CXT:=List Env->Hp->Qz->XK->Value->Qz->Prop
structure Env0 (P:Program) (w:Qk) (K:Qqq) (mg:Str->Option Value) (base:Heap) (A:Qv) (outer:List Env) (s:Qz) (H:Hp):Prop where
 frames:A.frames=some outer
 mod:Mod K mg base
 bs:∀b o,base.get? b=some o->s.heap.get? b=some o/\H b=none
 bsz:base.objs.size<=s.heap.objs.size
 funs:s.heap.FunFrames base outer
 frf:∀b∈frs outer,H b=none
 hok:HOk P w H s.heap
 bare:Zc s.gens
def CE(outer:List Env)(P:Program)(w:Qk)(H:Hp)(s:Qz)(Q:VK)(u:Value)(s':Qz):Prop:=
 ∃v H',s'.os=s.os/\Zc s'.gens/\Un (frs outer) [] H H' s.heap s'.heap/\HOk P w H' s'.heap/\RelV v u/\Q v H'
def CR(CX:CXT)(outer:List Env)(P:Program)(w:Qk)(H:Hp)(s:Qz)(Q:VK)(E:XK)(r:Result)(s':Qz):Prop:=
 match r with
 |.ok (.ret u)=>CE outer P w H s Q u s'
 |.ok _=>False
 |.error e=>CX outer H s E e s'
structure FnOk (P:Program) (w:Qk) (K:Qqq) (mg:Str->Option Value) (base:Heap) (CX:CXT) (k:Nat) (f:Addr) (fd:Qh) (ps:List Str) (sp:Sp):Prop where
 len:∀vs H Q E,sp vs H Q E->vs.length=ps.length
 run:∀(A:Qv) (outer:List Env) (s:Qz) (H:Hp) (args:Args) (us:List Value) (vs:List V) (Q:VK) (E:XK),Room k A->Env0 P w K mg base A outer s H->BindsTo s fd args (ps.zip us)->Vals vs us->sp vs H Q E->
  Zj (model P w) A (.call (.ref f) args) (CR CX outer P w H s Q E) s
theorem FnOk.imp{P:Program}{w:Qk}{K:Qqq}{mg:Str->Option Value}{base:Heap}{d:CXT}{k:Nat}{f:Addr}{c:Qh}{ps:List Str}{b sp':Sp}(F:FnOk P w K mg base d k f c ps b)
  (h:∀vs H Q E,sp' vs H Q E->b vs H Q E):FnOk P w K mg base d k f c ps sp':=
 ⟨λvs H Q E q=>F.len vs H Q E (h _ _ _ _ q),λA outer s H a e vs Q E j l m g i=>F.run A outer s H a e vs Q E j l m g (h _ _ _ _ i)⟩
theorem Env0.make{P:Program}{w:Qk}{K:Qqq}{mg:Str->Option Value}{base:Heap}{A:Qv}{outer:List Env}{s:Qz}{H:Hp}(e:Env0 P w K mg base A outer s H)(C:Addr)(us:List Value)(a:List (Str×Value)):
  Env0 P w K mg base (A.under (.builtin "type.__call__" ⟨.ref C::us,a⟩)) outer s H:=⟨by first|exact e.frames|(simpa[Around.under,Code.envs,Code.isFrame,pushEnvs] using e.frames),e.mod,e.bs,e.bsz,e.funs,e.frf,e.hok,e.bare⟩
section
variable {X:Cx}{pins:List (Addr×Obj)}{σ:St}{H:Hp}{s s':Qz}
theorem Inv.env0(I:Inv X pins σ H s):Env0 X.prog X.w X.K X.mg X.base X.A X.stack s H:=
 ⟨I.ok.frames,I.ok.mod,I.bs,Qq9 I.ok.bsz I.sz,I.stack,I.stkFree,I.hok,I.bare⟩
theorem Inv.after{Q:VK}{u:Value}(I:Inv X pins σ H s)(h:CE X.stack X.prog X.w H s Q u s'):EP X pins σ Q u s':=by
 obtain⟨v,H',os,bare,un,hok,r,q⟩:=h;obtain⟨c,g,d,t,a⟩:=s';obtain rfl:a=s.os:=os;exact⟨v,H',I.call (h':=c) (g':=g) (d':=d) (t':=t) (ch:=[]) un hok bare (λb z=>absurd z (by simp)),r,q⟩
end
noncomputable def tCall(sp:Sp)(dvs:List V)(E:XK)(t:TA):TE:=λσ H Q=>t σ H λvs H1=>sp (vs++dvs) H1 Q E
noncomputable def qcx(C:Addr)(m:Str)(sp:Sp)(dvs:List V)(E:XK)(ta:TE)(t:TA):TE:=λσ H Q=>ta σ H λx H1=>∃a dx fs,x=.ref a/\H1 a=some (.ins C dx fs)/\fs.lookup m=none/\
 t σ H1 λvs H2=>sp (x::(vs++dvs)) H2 Q E
noncomputable def tMake(C:Addr)(sp:Sp)(dvs:List V)(E:XK)(t:TA):TE:=λσ H Q=>t σ H λvs H1=>∀x dx,H1 x=none->H1 dx=none->dx≠x->
 sp (.ref x::(vs++dvs)) (upd (upd H1 dx (.own x)) x (.ins C dx [])) (λv H2=>v=.non/\Q (.ref x) H2) E
def Binds(K:Qqq)(fd:Qh)(ps:List Str)(ds:List Value):Prop:=
 ∀(s:Qz) (us:List Value),K.In s.heap->(us++ds).length=ps.length->BindsTo s fd ⟨us,[]⟩ (ps.zip (us++ds))
theorem Binds.all{K:Qqq}{c:Qh}{ps:List Str}(h:∀a:List Value,a.length=ps.length->bindArgs c ⟨a,[]⟩=pure (ps.zip a)):Binds K c ps []:=λs a _ b=>by
 rw[Qzi]at b ⊢;exact .of_eq (h a b)
def qjt(CX:CXT)(X:Cx)(E:XK):Prop:=∀(pins:List (Addr×Obj)) (σ:St) (H:Hp) (s:Qz) (e:Value) (s':Qz),Inv X pins σ H s->CX X.stack H s E e s'->X.xe e s'
section
variable {X:Cx}{CX:CXT}{k:Nat}{f C:Addr}{fd:Qh}{ps:List Str}{sp:Sp}{dvs:List V}{ds:List Value}{E:XK}{x m:Str}{p pos apos:Pos}{e o:Qx}{es:List Qx}{ta:TE}{t:TA}
theorem qco{a:List (Addr×Obj)}{c:St}{H:Hp}{s:Qz}{Q:VK}{us:List Value}{vs:List V}(F:FnOk X.prog X.w X.K X.mg X.base CX k f fd ps sp)(i:Room k X.A)(l:Binds X.K fd ps ds)(hd:Vals dvs ds)(g:qjt CX X E)
  (I:Inv X a c H s) (r:Vals vs us) (h:sp (vs++dvs) H Q E):wpAny (model X.prog X.w) X.A (call (.ref f) us) (EP X a c Q) X.xe s:=by
 have d:Vals (vs++dvs) (us++ds):=r.append hd;have j:(us++ds).length=ps.length:=by rw[<- d.length]; exact F.len _ _ _ _ h
 refine wpAny_call (Q6 (F.run X.A X.stack s H ⟨us,[]⟩ (us++ds) (vs++dvs) Q E i I.env0 (l s us I.kIn j) d h) λr s' b=>?_)
 cases r with
 |error e=>exact g a c H s e s' I b
 |ok n=>
  cases n with
  |ret u=>exact I.after b
  |next=>exact False.elim b
  |brk=>exact False.elim b
  |cont=>exact False.elim b
theorem qc6(F:FnOk X.prog X.w X.K X.mg X.base CX k f fd ps sp)(g:Room k X.A)(l:Gl X x)(i:X.mg x=some (.ref f))(j:Qzx X.K (.ref f)=true)(u:Binds X.K fd ps ds)(hd:Vals dvs ds)(d:qjt CX X E)
  (v:PA X (e::es) t) (b:(x==("__debug__" : Str))=false:=by decide) (n:starEach (e::es) X.env=(false,Qw e X.env)::starEach es X.env:=by rfl) (a:(backTo pos (starEach es X.env)).any (·.1)=false:=by rfl) :
  PE X (.Call (.Name x p) (e::es) [] pos) (tCall sp dvs E t):=by
 intro pins s σ H Q I h;refine Q8 (qxd I l i ?_ b);refine Qxe (h₀:=X.base) I.ok.mod.kin j (thn (v pos pins s σ H _ I h) λw y ⟨vs,H1,c,r,q⟩=>⟨c.kIn,?_⟩) n a;exact qco F g u hd d c r q
theorem qlc{pl:Sem Bool}(K:PE X o ta)(c:Cls X.K C)(i:Meth X.K C m f)(F:FnOk X.prog X.w X.K X.mg X.base CX k f fd ps sp)(G:Room k X.A)(N:Binds X.K fd ps ds)(hd:Vals dvs ds)(A:qjt CX X E)(P:PA X (e::es) t)
  (b:starEach (e::es) X.env=(false,Qw e X.env)::starEach es X.env:=by rfl) (d:(backTo pos (starEach es X.env)).any (·.1)=false:=by rfl)
  (D:Qw (.Call (.Attribute o m apos) (e::es) [] pos) X.env=(do
   let g <- Qw o X.env
   Zx apos.atName
   let (f,first) <- Qu [g] (Zb g m pl)
   callWith pos f first (backTo pos (starEach (e::es) X.env)) (backToKw pos (keywordEach [] X.env))):=by rfl) :
  PE X (.Call (.Attribute o m apos) (e::es) [] pos) (qcx C m sp dvs E ta t):=by
 intro pins s σ H Q I h;refine Qz9 (pl:=pl) (thn (K pins s σ H _ I h) λu w ⟨x,H1,n,y,a,dx,fs,ex,ea,l,q⟩=>?_) D;subst ex;obtain rfl:u=Value.ref a:=y;refine qqc n ea c i l ?_;refine Qxe (first:=[.ref a]) (h₀:=X.base) I.ok.mod.kin i.kp (thn (P pos pins w σ H1 _ n q) λv R ⟨vs,H2,j,r,z⟩=>⟨j.kIn,?_⟩) b d;exact qco (us:=.ref a::v) (vs:=.ref a::vs) F G N hd A j (.cons rfl r) z
theorem qgz{pl:Sem Bool}(v:PE X o ta)(c:Cls X.K C)(g:Meth X.K C m f)(F:FnOk X.prog X.w X.K X.mg X.base CX k f fd ps sp)(r:Room k X.A)(w:Binds X.K fd ps ds)(hd:Vals dvs ds)(j:qjt CX X E)
  (n:Qw (.Call (.Attribute o m apos) [] [] pos) X.env=(do
   let d <- Qw o X.env
   Zx apos.atName
   let (f,first) <- Qu [d] (Zb d m pl)
   callWith pos f first (backTo pos (starEach [] X.env)) (backToKw pos (keywordEach [] X.env))):=by rfl) :
  PE X (.Call (.Attribute o m apos) [] [] pos) (qcx C m sp dvs E ta tNil):=by
 intro pins s σ H Q I h;refine Qz9 (pl:=pl) (thn (v pins s σ H _ I h) λu y ⟨x,H1,b,i,a,dx,fs,ex,ea,l,q⟩=>?_) n;subst ex;obtain rfl:u=Value.ref a:=i;refine qqc b ea c g l ?_;exact PySem.W.callWith_K0 (first:=[.ref a]) b.kIn g.kp (qco (us:=[.ref a]) (vs:=[.ref a]) F r w hd j b (.cons rfl .nil) q)
structure Mk (K:Qqq) (C f:Addr):Prop where
 makes:PySem.W.makesIn K C=true
 init:PySem.W.findIn K (.ref C) "__init__" = some (some (.ref f))
 fn:PySem.W.isFn K (.ref f)=true
 kp:Qzx K (.ref C)=true
theorem qfr{a:List (Addr×Obj)}{d:St}{H:Hp}{s:Qz}{Q:VK}{us:List Value}{vs:List V}(M:Mk X.K C f)(F:FnOk X.prog X.w X.K X.mg X.base CX k f fd ps sp)(q:Room (k+1) X.A)(y:Binds X.K fd ps ds)(hd:Vals dvs ds)
  (n:qjt CX X E) (I:Inv X a d H s) (r:Vals vs us)
  (h:∀x dx,H x=none->H dx=none->dx≠x->sp (.ref x::(vs++dvs)) (upd (upd H dx (.own x)) x (.ins C dx [])) (λv H2=>v=.non/\Q (.ref x) H2) E) :
  wpAny (model X.prog X.w) X.A (call (.ref C) us) (EP X a d Q) X.xe s:=by
 have i:=h (s.heap.objs.size+1) s.heap.objs.size (I.hok.fresh (Qjv _)) (I.hok.fresh (Qqw _)) (Qq1 (Qzk _));have c:=Inv.made (C:=C) I;have g:Vals (V.ref (s.heap.objs.size+1)::(vs++dvs)) (Value.ref (s.heap.objs.size+1)::(us++ds)):=.cons rfl (r.append hd);have w:(Value.ref (s.heap.objs.size+1)::us++ds).length=ps.length:=by
  have e:=g.length;rw[F.len _ _ _ _ i]at e;exact e.symm
 refine wpAny_call (qgd (f:=f) I.kIn M.makes M.init (beq_iff_eq.mp M.fn) (Q6 (F.run _ X.stack _ _ ⟨Value.ref (s.heap.objs.size+1)::us,[]⟩ (Value.ref (s.heap.objs.size+1)::(us++ds)) _ _ E (q.make C us [])
  (c.env0.make C us []) (y _ (Value.ref (s.heap.objs.size+1)::us) c.kIn w) g i) λr s' b=>?_))
 cases r with
 |error e=>exact n a d _ _ e s' c b
 |ok z=>
  cases z with
  |ret u=>
   obtain⟨v,H',A,j,ev,l⟩:=c.after b;subst ev;exact⟨j,⟨V.ref (s.heap.objs.size+1),H',A,rfl,l⟩⟩
  |next=>exact False.elim b
  |brk=>exact False.elim b
  |cont=>exact False.elim b
theorem qld(M:Mk X.K C f)(F:FnOk X.prog X.w X.K X.mg X.base CX k f fd ps sp)(g:Room (k+1) X.A)(j:Gl X x)(i:X.mg x=some (.ref C))(n:Binds X.K fd ps ds)(hd:Vals dvs ds)(d:qjt CX X E)
  (u:PA X (e::es) t) (b:(x==("__debug__" : Str))=false:=by decide) (l:starEach (e::es) X.env=(false,Qw e X.env)::starEach es X.env:=by rfl) (a:(backTo pos (starEach es X.env)).any (·.1)=false:=by rfl) :
  PE X (.Call (.Name x p) (e::es) [] pos) (tMake C sp dvs E t):=by
 intro pins s σ H Q I h;refine Q8 (qxd I j i ?_ b);refine Qxe (h₀:=X.base) I.ok.mod.kin M.kp (thn (u pos pins s σ H _ I h) λv w ⟨vs,H1,c,r,q⟩=>⟨c.kIn,?_⟩) l a;exact qfr M F g n hd d c r q
end
section
variable {X:Cx}{CX:CXT}{k:Nat}{f C:Addr}{fd:Qh}{ps ks:List Str}{sp:Sp}{E:XK}{x m:Str}{p pos apos kpos:Pos}{e o:Qx}{es:List Qx}{kws:List Zo}{te ta:TE}{t tk:TA}{nm:Option Str}
variable {g:List Value->List Value->List Value}{gV:List V->List V->List V}
end
structure FnScope (N P:List Str) (sc:Scope):Prop where
 kind:sc.kind=.function
 co:sc.isCoroutine=false
 gen:sc.isGenerator=false
 nd:N.Nodup
 pre:N.take P.length=P
 par:∀x∈P,sc.names.lookup x=some .local\/sc.names.lookup x=some .cell
 nofree:∀y∈sc.names,y.2≠.free
theorem qwg{a:Str->Option Qd}{x:Str}:∀{binds:List (Str×Value)}{m:Str->Option Value},(∀v,(x,v) ∉ binds)->bindL a binds m x=m x
 |[],_,_=>rfl
 |(n,v)::r,m,h=>by
  unfold bindL;rw[qwg λw b=>h w (Qqf _ b)]
  split
  ·have:x≠n:=by rintro rfl; exact h v Qql
   simp[this]
  ·rfl
theorem qwi{a:Str->Option Qd}{x:Str}:∀{binds:List (Str×Value)}{m:Str->Option Value},(∀v,(x,v) ∉ binds)->bindC a binds m x=m x
 |[],_,_=>rfl
 |(n,v)::r,m,h=>by
  unfold bindC;rw[qwi λw b=>h w (Qqf _ b)]
  split
  ·rfl
  ·have:x≠n:=by rintro rfl; exact h v Qql
   simp[this]
theorem qwh{a:Str->Option Qd}{x:Str}{v:Value}:∀{P:List Str}{vs:List Value}{i:Nat}{m:Str->Option Value},P.Nodup->P[i]?=some x->vs[i]?=some v->a x=some .local->
  bindL a (P.zip vs) m x=some v
 |[],_,_,_,_,h,_,_=>by simp at h
 |_::_,[],_,_,_,_,h,_=>by simp at h
 |p::P,w::vs,0,m,nd,h1,h2,b=>by
  simp at h1 h2; subst h1; subst h2;show bindL a ((p,w)::P.zip vs) m p=_;unfold bindL;rw[qwg λv c=>(Qxf.mp nd).1 (Qju c).1,Z3 b];simp
 |p::P,w::vs,i+1,m,nd,h1,h2,b=>by
  show bindL a ((p,w)::P.zip vs) m x=_;unfold bindL;exact qwh (i:=i) (Qxf.mp nd).2 (by simpa using h1) (by simpa using h2) b
theorem qwl{a:Str->Option Qd}{x:Str}{v:Value}:∀{P:List Str}{vs:List Value}{i:Nat}{m:Str->Option Value},P.Nodup->P[i]?=some x->vs[i]?=some v->a x≠some .local->
  bindC a (P.zip vs) m x=some v
 |[],_,_,_,_,h,_,_=>by simp at h
 |_::_,[],_,_,_,_,h,_=>by simp at h
 |p::P,w::vs,0,m,nd,h1,h2,b=>by
  simp at h1 h2; subst h1; subst h2;show bindC a ((p,w)::P.zip vs) m p=_;unfold bindC;rw[qwi λv c=>(Qxf.mp nd).1 (Qju c).1,Z2 b];simp
 |p::P,w::vs,i+1,m,nd,h1,h2,b=>by
  show bindC a ((p,w)::P.zip vs) m x=_;unfold bindC;exact qwl (i:=i) (Qxf.mp nd).2 (by simpa using h1) (by simpa using h2) b
noncomputable def start(N:List Str)(vs:List V):St:=vs.map some++List.replicate (N.length - vs.length) none
noncomputable def cxOf(CX:CXT)(P:Program)(w:Qk)(K:Qqq)(mg:Str->Option Value)(base:Heap)(N:List Str)(qual:Str)(scope:Scope)(f:Addr)(cd:Value)(A:Qv)(outer:List Env)(s:Qz)(H:Hp)(E:XK):Cx where
 prog:=P
 w:=w
 K:=K
 mg:=mg
 base:=base
 A:=A.deeper (envOfC qual scope s.heap.objs.size f cd)
 N:=N
 s₀:=s
 H₀:=H
 env:=envOfC qual scope s.heap.objs.size f cd
 outer:=outer
 stack:=envOfC qual scope s.heap.objs.size f cd::outer
 ex:=[]
 calm:=true
 fn:=λ_=>true
 pn:=[]
 xe:=λe s'=>wpAny (model P w) (A.deeper (envOfC qual scope s.heap.objs.size f cd)) (leaving (envOfC qual scope s.heap.objs.size f cd) e) (λ_ s''=>CX outer H s E e s'') (λe' s''=>CX outer H s E e' s'') s'
theorem qap{sc:Scope}{n:Nat}{x:Str}(h:sc.names.lookup x=some .cell):∃c,(cellsFrom n sc.names []).lookup x=some c:=by
 have q:=Qj1 sc.names n [] (.inl h);exact Qz4.mp q
theorem qdu{G:CXT}{P:Program}{w:Qk}{K:Qqq}{mg:Str->Option Value}{base:Heap}{N ps:List Str}{g:Str}{d:Scope}{f:Addr}{C:Value}{A:Qv}{outer:List Env}{s s1:Qz}{H:Hp}{E:XK}{us:List Value}{vs:List V}
  (S:FnScope N ps d) (hd:A.handled=none) (j:Env0 P w K mg base A outer s H) (T:vs.length=ps.length) (r:Vals vs us)
  (x:InCallC s s.heap.objs.size (bindL (envOfC g d s.heap.objs.size f C).kindOf (ps.zip us) λ_=>none) (cellsFrom (s.heap.objs.size+1) d.names []) (bindC (envOfC g d s.heap.objs.size f C).kindOf (ps.zip us) λ_=>none) s1) :
  Inv (cxOf G P w K mg base N g d f C A outer s H E) [] (start N vs) H s1:=by
 have Q:ps.length<=N.length:=by have:=congrArg List.length S.pre; rw[Qzm]at this; omega
 obtain⟨h1,tk,rfl,F⟩:=x.done;have l:∀b:Addr,b ∉ (cxOf G P w K mg base N g d f C A outer s H E).ex:=λb z=>absurd (show b∈([]:List Addr) from z) (by simp)
 refine⟨⟨j.mod,S.kind,rfl,rfl,Qqw _,λy z c h1 h2=>?_,λy m=>?_,λy c _ h=>?_,λ_=>hd,Around.frames_deeper j.frames,.inr ⟨rfl,rfl⟩,λb z=>absurd z (l b),j.bs,j.bsz,λb _ _=>l b,λb z=>absurd z (l b),j.funs,j.frf⟩,
  rfl,j.bare,Un.kept F,⟨_,x.toInCall.ns,λi y v h1 h2 U=>?_⟩,λy c h=>⟨_,x.cell y c h⟩,j.hok.fresh (Qqw _),λy c h=>?_,λp t=>absurd (show p∈([]:List (Addr×Obj)) from t) (by simp),j.hok.kept F,?_⟩
 ·exact name_of_addr x.apart (PySem.mem_of_lookup h1) (PySem.mem_of_lookup h2)
 ·have m:d.names.lookup y=some .cell\/d.names.lookup y=some .free:=m;rcases m with m|m
  ·exact qap m
  ·exact absurd rfl (S.nofree _ (PySem.mem_of_lookup m))
 ·exact Qx5 (x.above y c (PySem.mem_of_lookup h))
 ·have hi:i<vs.length:=by
   unfold start at h2
   by_cases hi:i<vs.length
   ·exact hi
   ·rw[Qqi (by simpa using hi)]at h2;rw[Qxa]at h2
    split at h2<;>cases h2
  have R:vs[i]?=some v:=by
   unfold start at h2;rw[Qqp (by simpa using hi),Qqk]at h2
   cases e:vs[i]? with
   |none=>rw[e]at h2; cases h2
   |some a=>rw[e]at h2; cases h2; rfl
  obtain⟨u,D,I⟩:=r.get R;have t:ps[i]?=some y:=by
   rw[<- S.pre,Qjm (by omega)]; exact h1
  have o:ps.Nodup:=by rw[<- S.pre]; exact S.nd.sublist (List.take_sublist _ _)
  refine⟨u,I,?_⟩;rcases S.par y (Qqd t) with k|k
  ·exact .inl ⟨k,qwh o t D k⟩
  ·obtain⟨c,e⟩:=qap (n:=s.heap.objs.size+1) k;refine .inr ⟨.inl k,c,e,?_⟩;have q:=x.cell y c e;rw[qwl o t D (by show d.names.lookup y≠_; rw[k]; decide)]at q;exact q
 ·exact j.hok.fresh (Qx5 (x.above y c (PySem.mem_of_lookup h)))
 ·unfold start;show _=N.length;rw[Qqn,Qqj,Qxq];omega
theorem fn_of{D:CXT}{P:Program}{w:Qk}{K:Qqq}{mg:Str->Option Value}{base:Heap}{k:Nat}{f:Addr}{name c:Str}{g:Arguments}{body:List Stmt}{a:Scope}{W kV doc U d ct oc:Value}{an od:Option Addr}
  {G:Array (Option Value)}{N ps:List Str}{sp:Sp}(lk:K.lookup f=some ⟨oc,od,.func (PySem.W.fnOf name c g body a W kV doc U an d ct),G⟩) (T:PySem.W.codeIn K d c=true) (S:FnScope N ps a)
  (len:∀vs H Q E,sp vs H Q E->vs.length=ps.length)
  (l:∀(A:Qv) (outer:List Env) (s:Qz) (H:Hp) (vs:List V) (Q:VK) (E:XK),Room k (A.deeper (envOfC c a s.heap.objs.size f d))->sp vs H Q E->
   ∃t,PSs (cxOf D P w K mg base N c a f d A outer s H E) body t/\t { nx:=λ_ H'=>Q .non H',rt:=Q } (start N vs) H) :
  FnOk P w K mg base D (k+1) f (PySem.W.fnOf name c g body a W kV doc U an d ct) ps sp:=by
 refine⟨len,λA outer s H X us vs Q E R C hb r p=>?_⟩;have hl:=len _ _ _ _ p;have KX:K.In s.heap:=C.mod.kin.keeps λb o e=>(C.bs b o e).1;have lim:s.heap.NoLimit:=C.mod.nolimit.keeps λb o e=>(C.bs b o e).1;have j:∀y∈ps.zip us,a.names.lookup y.1=some .local\/(a.names.lookup y.1=some .cell/\((cellsFrom (s.heap.objs.size+1) a.names []).lookup y.1).isSome=true):=λ⟨n,v⟩ hy=>by
  rcases S.par n (Qju hy).1 with q|q
  ·exact .inl q
  ·exact .inr ⟨q,Qj1 _ _ _ (.inl q)⟩
 refine codeAny_call_function R.depth (KX _ _ lk) rfl S.co S.gen rfl (PySem.W.codeRec_of KX T) (hb _ _ _ _ ?_);refine wpAny_newFunctionEnv_cells S.kind j λenv he s1 x=>?_;subst he;refine⟨lim.keeps x.toInCall.keep,codeAny_func ?_⟩;obtain⟨t,ht,hq⟩:=l A outer s H vs Q E (R.deeper _) p;have I:Inv (cxOf D P w K mg base N c a f d A outer s H E) [] (start N vs) H s1:=qdu S R.hd C hl r x;refine Qy (ht [] s1 (start N vs) H _ I hq) (λfl s' m=>?_) λe s' m=>m;have z:∀{h:St}{H':Hp}{v:V}{u:Value},Inv (cxOf D P w K mg base N c a f d A outer s H E) [] h H' s'->RelV v u->Q v H'->CE outer P w H s Q u s':=
  λ{h H' v u} i F q=>⟨v,H',i.os,i.bare,i.base,i.hok,F,q⟩
 cases fl with
 |ret u=>
  obtain⟨v,h,H',i,F,q⟩:=m;exact z i F q
 |next=>
  obtain⟨h,H',i,q⟩:=m;exact z (v:=V.non) (u:=Value.none) i rfl q
 |brk=>
  obtain⟨_,_,_,q⟩:=m;exact False.elim q
 |cont=>
  obtain⟨_,_,_,q⟩:=m;exact False.elim q
end L2
namespace L2
open PySem PySem.Spec PyProof.Rows
section
variable {X:Cx}{x:Str}{p pos:Pos}{e:Qx}{es:List Qx}{t:TA}{id T:String}{r:List V->Hp->VK->Prop}
noncomputable def tCB(r:List V->Hp->VK->Prop)(t:TA):TE:=λσ H Q=>t σ H λvs H1=>r vs H1 Q
theorem qz2(n:qqq X (.builtin id) r)(l:Gl X x)(k:X.mg x=none)(i:Qb x=some (.builtin id))(o:PA X (e::es) t)(j:x ≠ "__name__":=by decide)(b:(x==("__debug__" : Str))=false:=by decide)
  (m:starEach (e::es) X.env=(false,Qw e X.env)::starEach es X.env:=by rfl) (a:(backTo pos (starEach es X.env)).any (·.1)=false:=by rfl):PE X (.Call (.Name x p) (e::es) [] pos) (tCB r t):=by
 intro pins s σ H Q I h;refine Q8 (qv0 I l k i ?_ j b);exact PyProof.Rows.callWith_builtin1 (thn (o pos pins s σ H _ I h) λc d ⟨vs,H1,q,f,g⟩=>n pins d σ H1 vs c Q q f g) m a
theorem qq9(n:qqq X (.type T) r)(l:Gl X x)(k:X.mg x=none)(i:Qb x=some (.type T))(o:PA X (e::es) t)(j:x ≠ "__name__":=by decide)(b:(x==("__debug__" : Str))=false:=by decide)
  (m:starEach (e::es) X.env=(false,Qw e X.env)::starEach es X.env:=by rfl) (a:(backTo pos (starEach es X.env)).any (·.1)=false:=by rfl):PE X (.Call (.Name x p) (e::es) [] pos) (tCB r t):=by
 intro pins s σ H Q I h;refine Q8 (qv0 I l k i ?_ j b);exact PyProof.Rows.callWith_type1 (thn (o pos pins s σ H _ I h) λc d ⟨vs,H1,q,f,g⟩=>n pins d σ H1 vs c Q q f g) m a
end
end L2
namespace HT
open PySem PyProof.Rows
section
open PySem.SeqAt
open PySem.AutoSeq1 (wpAny_loadPart')
open PySem.MeetsSeq PySem.MeetsSeq2 PySem.MeetsSeq3
end
section
variable {prog:Program}{w:Qk}{A:Qv}{E:Value->Qz->Prop}{s:Qz}
theorem cat_tup{t b:Addr}{vs ws:List Value}{Q:Value->Qz->Prop}(q:IsTup s.heap t vs.toArray)(r:IsTup s.heap b ws.toArray)(l:vs≠[])
  (v:ws=[]->Q (.ref t) s) (u:ws≠[]->Q (.ref s.heap.objs.size) { s with heap:=s.heap.push { cls:=.type "tuple",data:=.seq (vs++ws).toArray } })
  (hsz:vs.length+ws.length<=sizeLine):wpAny (model prog w) A (Q1 .Add (.ref t) (.ref b)) Q E s:=by
 obtain⟨⟨cls,o,data,sl⟩,i,m,n,hd⟩:=id q;obtain⟨⟨p,g,j,c⟩,a,f,k,d⟩:=id r;simp only at m hd f d;subst m hd f d;have e:vs.toArray++ws.toArray=(vs++ws).toArray:=by simp
 by_cases h:ws=[]
 ·exact concat_meets ⟨_,i,rfl⟩ ⟨_,a,rfl⟩ noFill_tuple_add seq_tuple_add PySem.F.slot_tuple_add PySem.F.entry_tuple_add (PySem.F.args_tuple_add_2 _ _)
   (tuple_addW1 t b vs.toArray ws.toArray n k o g sl c (by simpa using l) (by simp[h])) ⟨i,a,v h⟩
 ·refine concat_meets ⟨_,i,rfl⟩ ⟨_,a,rfl⟩ noFill_tuple_add seq_tuple_add PySem.F.slot_tuple_add PySem.F.entry_tuple_add (PySem.F.args_tuple_add_2 _ _)
   (tuple_addW2 t b vs.toArray ws.toArray n k o g sl c (by simpa using l) (by simpa using h) (by rw[Qqy,Qqy]; exact hsz)) ⟨i,a,?_⟩
  rw[e];exact u h
noncomputable def sIx(n d:Nat):Option Int->Nat
 |none=>d
 |some v=>if v<0 then(v+(n:Int)).toNat else min v.toNat n
theorem sIx_le(n d:Nat)(hd:d<=n)(o:Option Int):sIx n d o<=n:=by
 cases o with
 |none=>exact hd
 |some v=>
  show(if v<0 then(v+(n:Int)).toNat else min v.toNat n)<=n
  by_cases a:v<0
  ·rw[Z3 a]; omega
  ·rw[Z2 a]; exact Nat.min_le_right _ _
theorem qec(v:Int)(n d:Nat):(if v<0 then max (v+(n:Int)) 0 else min v (n:Int))=((sIx n d (some v):Nat):Int):=by
 show(if v<0 then max (v+(n:Int)) 0 else min v (n:Int))=(((if v<0 then(v+(n:Int)).toNat else min v.toNat n):Nat):Int)
 by_cases a:v<0
 ·simp only[Z3 a]; omega
 ·simp only[Z2 a]; omega
theorem qbo(a b:Option Int)(n:Nat):Builtin.Slice.sliceAdjust a b 1 (n:Int)=(((sIx n 0 a:Nat):Int),((sIx n n b:Nat):Int)):=by
 have h1:¬ ((1:Int)<0):=by omega
 unfold Builtin.Slice.sliceAdjust;simp only[h1,if_false];refine Prod.ext ?_ ?_
 ·cases a with
  |none=>rfl
  |some v=>exact qec v n 0
 ·cases b with
  |none=>rfl
  |some v=>exact qec v n n
theorem qbj(i j:Nat):Builtin.Slice.slicePlaces (i:Int) (j:Int) 1=j - i:=by
 unfold Builtin.Slice.slicePlaces;have h1:(1:Int) > 0:=by omega
 simp only[h1,if_true,Int.ediv_one]
 split<;>omega
theorem qj9{v:Value}{o:Option Int}{Q:Option Int->Qz->Prop}(p:IsPart v o)(h:Q o s):wpAny (model prog w) A (Builtin.Slice.slicePartIndex v) Q E s:=by
 cases p with
 |none=>exact slicePart_none h
 |int i t=>exact slicePart_int h
theorem sliceApplied_gen{sl:Addr}{f e:Value}{a c:Option Int}{n:Nat}{Q:Int×Int×Nat->Qz->Prop}(i:s.heap.IsSliceOf sl f e .none)(pl:IsPart f a)(g:IsPart e c)
  (h:Q (((sIx n 0 a:Nat):Int),1,sIx n n c - sIx n 0 a) s):wpAny (model prog w) A (Builtin.Slice.sliceApplied (.ref sl) (pure (n:Int))) Q E s:=by
 obtain⟨os,b,j,d⟩:=id i;unfold Builtin.Slice.sliceApplied Builtin.Slice.sliceFields;refine Qq (Qq (Qc b d (x:=f) rfl (Qq (Qc b d (x:=e) rfl (Qq (Qc b d (x:=.none) rfl (Qj ?_)))))));refine Qq (slicePart_none ?_);show wpAny _ _ (if ((1:Int)==0)=true then _ else _) _ _ s;rw[Z2 (by decide)];refine Qq (qj9 pl (Qq (qj9 g (Qq (Qj ?_)))));show wpAny _ _ (match Builtin.Slice.sliceAdjust a c 1 (n:Int) with|(a,c)=>pure (a,(1:Int),Builtin.Slice.slicePlaces a c 1)) _ _ s;rw[qbo a c n];show wpAny _ _ (pure (((sIx n 0 a:Nat):Int),(1:Int),Builtin.Slice.slicePlaces ((sIx n 0 a:Nat):Int) ((sIx n n c:Nat):Int) 1)) _ _ s;rw[qbj];exact Qj h
theorem qf6(a:Array Value)(i k:Nat):((List.range k).filterMap λ(m:Nat)=>a[((i:Int)+(m:Int)*1).toNat]?).toArray=((a.toList.drop i).take k).toArray:=by
 have e:(λ(m:Nat)=>a[((i:Int)+(m:Int)*1).toNat]?)=λm=>a[i+m]?:=by
  funext m
  have:((i:Int)+(m:Int)*1).toNat=i+m:=by omega
  rw[this]
 rw[e];have:=pick_run a i k;rw[Qjw]at this;have b:((λx=>a[x]?)∘λx=>i+x)=λm=>a[i+m]?:=rfl;rw[b]at this;rw[this]
theorem getItem_tuple_cut{t sl:Addr}{a:Array Value}{l k:Value}{c d:Option Int}{Q:Value->Qz->Prop}(e:IsTup s.heap t a)(n:s.heap.IsSliceOf sl l k .none)(pl:IsPart l c)(o:IsPart k d)
  (p:¬ (sIx a.size 0 c=0/\sIx a.size a.size d=a.size))
  (h:Q (.ref s.heap.objs.size) { s with heap:=s.heap.push { cls:=.type "tuple",data:=.seq ((a.toList.drop (sIx a.size 0 c)).take (sIx a.size a.size d - sIx a.size 0 c)).toArray } })
  (hsz:a.size<=sizeLine):wpAny (model prog w) A (Zk (.ref t) (.ref sl)) Q E s:=by
 have b:sizeOk (.seq ((a.toList.drop (sIx a.size 0 c)).take (sIx a.size a.size d - sIx a.size 0 c)).toArray):=by
  show((a.toList.drop (sIx a.size 0 c)).take (sIx a.size a.size d - sIx a.size 0 c)).toArray.size<=sizeLine;rw[Qqy,Qzm,Qx1,Qzh];omega
 have x:sIx a.size a.size d<=a.size:=sIx_le _ _ (Qqw _) d;obtain⟨os,f,i,r⟩:=id n;have j:s.TypeIs (.ref sl) "slice":=⟨os,f,i⟩
 unfold Zk
 try with_reducible refine Qo ?_
 first|refine Qq (Qj ?_)|skip
 refine Qq (wpAny_sequenceKey e.typeIs (by decide) ?_)
 refine Qq (Qm (name:=Str.ofString "__getitem__") e.typeIs PyProof.Rows.slot_tuple_getitem
  (Qs PyProof.Rows.slot_tuple_getitem e.typeIs entry_tuple_getitem ?_ (args_tuple_getitem _ _)))
 show wpAny _ _ (Builtin.Tuple.tupleItemsOf (.ref t) >>= _) _ _ s;refine Qq (tupleItemsOf_ e ?_);refine Qq (wpAny_typeOf j ?_);rw[Z3 (by decide)];refine Qq (sliceApplied_gen n pl o ?_);have g:¬ ((((sIx a.size 0 c:Nat):Int)==0&&(1:Int)==1&&(sIx a.size a.size d - sIx a.size 0 c)==a.size)=true):=by
  intro q;rw[Qqo,Qqo]at q;have v:((sIx a.size 0 c:Nat):Int)=0:=eq_of_beq q.1.1;have u:sIx a.size a.size d - sIx a.size 0 c=a.size:=eq_of_beq q.2;exact p ⟨by omega,by omega⟩
 show wpAny _ _ (if (((sIx a.size 0 c:Nat):Int)==0&&(1:Int)==1&&(sIx a.size a.size d - sIx a.size 0 c)==a.size)=true then _ else _) _ _ s;rw[Z2 g,qf6]
 first
  |exact Qq (m:=Builtin.Tuple.tupleExact _) (Qn (Qj ⟨_,rfl,Qj h⟩) b)
  |exact Qq (m:=Builtin.Tuple.tupleExact _) (Qn (Qq (Qj (Qj ⟨_,rfl,Qj h⟩))) b)
  |exact Qq (Qq (m:=Builtin.Tuple.tupleExact _) (Qn (Qj (Qj ⟨_,rfl,Qj h⟩)) b))
  |exact Qq (Qq (m:=Builtin.Tuple.tupleExact _) (Qn (Qj ⟨_,rfl,Qj h⟩) b))
end
end HT
namespace L2
open PySem PySem.Spec PyProof.Rows
abbrev TO:=St->Hp->(Option Int->Hp->Prop)->Prop
def PO(X:Cx)(e:Option Qx)(t:TO):Prop:=
 ∀(pins:List (Addr×Obj)) (s:Qz) (σ:St) (H:Hp) (Q:Option Int->Hp->Prop),Inv X pins σ H s->t σ H Q->
  wpAny (model X.prog X.w) X.A (evalPart e X.env) (λu s'=>∃o H',Inv X pins σ H' s'/\IsPart u o/\Q o H') X.xe s
noncomputable def qif:TO:=λ_ H Q=>Q none H
noncomputable def tPart(t:TE):TO:=λσ H Q=>t σ H λx H1=>∃i,x=.int i/\Q (some i) H1
theorem intsAre_of{ns:List Int}:∀{us:List Value},Vals (ns.map V.int) us->Zp us ns:=by
 induction ns with
 |nil=>intro us r; rw[Qjn]at r; cases r; exact .nil
 |cons n ns c=>
  intro us r;rw[Qq3]at r
  cases r with
  |cons b a=>
   obtain⟨t,e⟩:=b;subst e;exact .cons n t (c a)
section
variable {X:Cx}{e:Qx}{te:TE}{lo hi:Option Qx}{tl th:TO}{pos p2:Pos}
theorem qlv:PO X none qif:=by
 intro pins s σ H Q I h;rw[evalPart_none];exact Qj ⟨none,H,I,.none,h⟩
theorem qlk(h:PE X e te):PO X (some e) (tPart te):=by
 intro pins s σ H Q I c;rw[evalPart_some];refine thn (h pins s σ H _ I c) λu f ⟨x,H1,d,a,b⟩=>?_;obtain⟨i,rfl,q⟩:=b;obtain⟨t,rfl⟩:=a;exact⟨some i,H1,d,.int i t,q⟩
def SlR(X:Cx)(r:V->Option Int->Option Int->Hp->VK->Prop):Prop:=
 ∀(pins:List (Addr×Obj)) (s:Qz) (σ:St) (H:Hp) (x:V) (v vl vu:Value) (lo hi:Option Int) (sl:Addr) (Q:VK),Inv X pins σ H s->RelV x v->s.heap.IsSliceOf sl vl vu .none->IsPart vl lo->IsPart vu hi->r x lo hi H Q->
  ∃T id,typeLookup (.type T) "__getitem__" = pure (some (.builtin id))/\s.TypeIs v T/\wpAny (model X.prog X.w) X.A (Zk v (.ref sl)) (EP X pins σ Q) X.xe s
noncomputable def tSl(r:V->Option Int->Option Int->Hp->VK->Prop)(te:TE)(tl th:TO):TE:=λσ H Q=>te σ H λx H1=>tl σ H1 λl H2=>th σ H2 λu H3=>r x l u H3 Q
theorem qf8{r:V->Option Int->Option Int->Hp->VK->Prop}(y:SlR X r)(C:PE X e te)(z:PO X lo tl)(t:PO X hi th):PE X (.Subscript e (.Slice lo hi none p2) pos) (tSl r te tl th):=by
 intro pins s σ H Q I h;refine Subscript_ (thn (C pins s σ H _ I h) λv i ⟨x,H1,K,j,n⟩=>?_);refine wpAny_Slice (thn (z pins i σ H1 _ K n) λd g ⟨l,H2,G,p,m⟩=>thn (t pins g σ H2 _ G m) λc a ⟨u,f,F,o,k⟩=>?_);rw[evalPart_none];refine Qj ?_;have E:Inv X pins σ f { a with heap:=a.heap.push { cls:=.type "slice",data:=.fields #[d,c,.none] } }:=F.kept (t':=a.toks) λb ob q=>Qqz _ q;obtain⟨T,id,D,w,A⟩:=y pins { a with heap:=a.heap.push { cls:=.type "slice",data:=.fields #[d,c,.none] } } σ f x v d c l u a.heap.objs.size Q E j (Heap.IsSliceOf.new ..) p o k;show wpAny (model X.prog X.w) X.A (subscriptTail e (.Slice lo hi none p2) v (.ref a.heap.objs.size)) (EP X pins σ Q) X.xe { a with heap:=a.heap.push { cls:=.type "slice",data:=.fields #[d,c,.none] } };exact tail_any (ops:=[.ref a.heap.objs.size,v]) w D A (by with_unfolding_all rfl)
noncomputable def cutV(xs:List V)(lo hi:Option Int):List V:=(xs.drop (HT.sIx xs.length 0 lo)).take (HT.sIx xs.length xs.length hi - HT.sIx xs.length 0 lo)
theorem qjp(a:List V)(b c:Option Int):(cutV a b c).length<=a.length:=by
 unfold cutV;rw[Qzm,Qx1];omega
def rSlT(K:Qqq):V->Option Int->Option Int->Hp->VK->Prop:=λx lo hi H Q=>∃a xs,x=.ref a/\SqT K H a xs/\
 ¬ (HT.sIx xs.length 0 lo=0/\HT.sIx xs.length xs.length hi=xs.length)/\∀p,H p=none->Q (.ref p) (upd H p (.tup (cutV xs lo hi)))
theorem sl_tup:SlR X (rSlT X.K):=by
 intro pins s σ H x v t p lo hi sl Q I i n k j h;obtain⟨a,xs,rfl,l,m,q⟩:=h;cases i;obtain⟨d,r,g,f⟩:=I.tuple l;have c:d.toArray.size=xs.length:=by rw[Qqy]; exact r.length.symm
 refine⟨"tuple",_,PyProof.Rows.slot_tuple_getitem.lookup,g.typeIs,?_⟩;refine HT.getItem_tuple_cut g n k j (by rw[c]; exact m) ?_ (by rw[c]; exact f);rw[c];refine⟨.ref s.heap.objs.size,_,I.laid (t':=s.toks) (o:=.tup (cutV xs lo hi)) (λb ob q=>Qqz _ q) (Qqw _) ?_,rfl,q _ (I.hok.fresh (Qqw _))⟩;exact⟨Qq9 (qjp xs lo hi) f,_,(r.drop (HT.sIx xs.length 0 lo)).take (HT.sIx xs.length xs.length hi - HT.sIx xs.length 0 lo),IsTup.new _ _⟩
noncomputable def rCatT(K:Qqq):R2:=λx y H Q=>∃a b xs ys,x=.ref a/\y=.ref b/\SqT K H a xs/\SqT K H b ys/\xs≠[]/\xs.length+ys.length<=sizeLine/\
 (ys=[]->Q (.ref a) H)/\(ys≠[]->∀p,H p=none->Q (.ref p) (upd H p (.tup (xs++ys))))
theorem Vals.nil_iff{a:List V}{us:List Value}(r:Vals a us):us=[]↔a=[]:=by
 cases r with
 |nil=>simp
 |cons _ _=>simp
theorem qlr:OpR X (Q1 .Add) (rCatT X.K):=by
 intro pins s σ H x y v u Q I j i h;obtain⟨a,b,xs,ys,rfl,rfl,t,r,p,g,l,k⟩:=h;cases j;cases i;obtain⟨n,d,m,_⟩:=I.tuple t;obtain⟨f,c,p2,_⟩:=I.tuple r;refine HT.cat_tup m p2 (λz=>p (d.nil_iff.mp z)) (λz=>⟨.ref a,H,I,rfl,l (c.nil_iff.mp z)⟩) (λz=>?_) (by rw[<- d.length,<- c.length]; exact g);refine⟨.ref s.heap.objs.size,_,I.laid (t':=s.toks) (o:=.tup (xs++ys)) (λb ob q=>Qqz _ q) (Qqw _) ?_,rfl,k (λw=>z (c.nil_iff.mpr w)) _ (I.hok.fresh (Qqw _))⟩;exact⟨by rw[Qqn]; exact g,_,d.append c,IsTup.new _ _⟩
end
end L2
namespace L2
open PySem PySem.Spec PyProof.Rows
noncomputable def ixN(n:Nat)(i:Int):Option Nat:=if 0<=i then(if i<n then some i.toNat else none) else if -(n:Int)<=i then some (i+n).toNat else none
noncomputable def atI{α:Type}(xs:List α)(i:Int):Option α:=(ixN xs.length i).bind λj=>xs[j]?
theorem qdr{n:Nat}{i:Int}{j:Nat}(h:ixN n i=some j):seqIndex? i n=some j/\j<n/\-(n:Int)<=i/\i<n:=by
 unfold ixN at h
 by_cases a:0<=i
 ·rw[Z3 a]at h
  by_cases h1:i<n
  ·rw[Z3 h1]at h;have e:i.toNat=j:=Option.some.inj h;exact⟨by rw[seqIndex_of a h1,e],by omega,by omega,h1⟩
  ·rw[Z2 h1]at h; cases h
 ·rw[Z2 a]at h
  by_cases h1:-(n:Int)<=i
  ·rw[Z3 h1]at h;have e:(i+n).toNat=j:=Option.some.inj h;exact⟨by rw[seqIndex_neg (by omega) h1,e],by omega,h1,by omega⟩
  ·rw[Z2 h1]at h; cases h
theorem qe8{α:Type}{a:List α}{i:Int}{v:α}(h:atI a i=some v):∃j,seqIndex? i a.length=some j/\a[j]?=some v/\j<a.length/\-(a.length:Int)<=i/\i<a.length:=by
 unfold atI at h
 cases e:ixN a.length i with
 |none=>rw[e]at h; cases h
 |some j=>
  rw[e]at h;obtain⟨h1,h2,c,b⟩:=qdr e;exact⟨j,h1,h,h2,c,b⟩
def qm1(b:Qx):Prop:=∀o i,subscripted b false o i=operate [o,i] (Zk o i)
def IxR(X:Cx)(r:R2):Prop:=
 ∀(value slice:Qx) (pins:List (Addr×Obj)) (s:Qz) (σ:St) (H:Hp) (x y:V) (v u:Value) (Q:VK),Inv X pins σ H s->RelV x v->RelV y u->r x y H Q->
  subscripted slice false v u=operate [v,u] (Zk v u)->wpAny (model X.prog X.w) X.A (subscriptTail value slice v u) (EP X pins σ Q) X.xe s
def MtR(X:Cx)(id:String)(r:V->List V->Hp->VK->Prop):Prop:=
 ∀(pins:List (Addr×Obj)) (s:Qz) (σ:St) (H:Hp) (x:V) (xs:List V) (v:Value) (us:List Value) (Q:VK),Inv X pins σ H s->RelV x v->Vals xs us->r x xs H Q->
  wpAny (model X.prog X.w) X.A (call (.builtin id) (v::us)) (EP X pins σ Q) X.xe s
section
variable {X:Cx}{a b:Qx}{ta tb:TE}{pos:Pos}
theorem pe_ix{r:R2}(g:IxR X r)(j:PE X a ta)(i:PE X b tb)(f:qm1 b):PE X (.Subscript a b pos) (tOp r ta tb):=by
 intro pins s σ H Q I h;exact Subscript_ (binT j i I h λv u c x y H2 k e d q=>g a b pins c σ H2 x y v u Q k e d q (f _ _))
noncomputable def rIxL(K:Qqq):R2:=λx y H Q=>∃p xs i v,x=.ref p/\y=.int i/\SqL K H p xs/\atI xs i=some v/\Q v H
noncomputable def rIxT(K:Qqq):R2:=λx y H Q=>∃p xs i v,x=.ref p/\y=.int i/\SqT K H p xs/\atI xs i=some v/\Q v H
theorem qmx:IxR X (rIxL X.K):=by
 intro value d pins s σ H x y v u Q I A o h l;obtain⟨p,xs,i,z,rfl,rfl,C,E,q⟩:=h;cases A;obtain⟨t,rfl⟩:=o;obtain⟨g,r,f,K⟩:=I.list C;obtain⟨j,h1,h2,N,G,F⟩:=qe8 E;obtain⟨w,n,e⟩:=r.get h2;have D:=r.length;have hn:=qvu;have c:EP X pins σ Q w s:=⟨z,H,I,e,q⟩
 by_cases m:0<=i
 ·have k:i.toNat=j:=by
   rw[seqIndex_of m F]at h1;exact Option.some.inj h1
  exact item_listR f.isList m (by omega) (by rw[k]; simpa using n) c l
 ·have k:(i+(g.toArray.size:Int)).toNat=j:=by
   rw[seqIndex_neg (by omega) G]at h1;rw[Qqy,<- D];exact Option.some.inj h1
  exact subscriptTail_builtinR (x:=w) f.isList.typeIs slot_list_getitem.lookup
   (wpAny_getItem_list_neg (Q:=λr s'=>r=w/\EP X pins σ Q r s') f.isList (by omega) (by rw[Qqy]<;>omega) (by omega) (by rw[k]; simpa using n) ⟨rfl,c⟩) l
theorem ix_tup:IxR X (rIxT X.K):=by
 intro value c pins s σ H x y v u Q I k g h m;obtain⟨p,xs,i,z,rfl,rfl,n,A,q⟩:=h;cases k;obtain⟨t,rfl⟩:=g;obtain⟨l,r,f,D⟩:=I.tuple n;obtain⟨j,h1,h2,G,F,E⟩:=qe8 A;obtain⟨w,C,d⟩:=r.get h2;have o:=r.length;have hn:=qvu;have e:EP X pins σ Q w s:=⟨z,H,I,d,q⟩
 exact subscriptTail_builtinR (x:=w) f.typeIs slot_tuple_getitem.lookup
  (getItem_tuple (j:=j) (Q:=λr s'=>r=w/\EP X pins σ Q r s') f (by omega) (by omega) (by rw[Qqy,<- o]; exact h1) (by simpa using C) ⟨rfl,e⟩) m
theorem qbb(c:List Value)(n j:Nat)(u:Value):Obj.mapSeq (·.setIfInBounds j u) { cls:=.type "list",data:=.seq c.toArray n }={ cls:=.type "list",data:=.seq (c.set j u).toArray n }:=by
 simp[Obj.mapSeq]
theorem Inv.lst{d:List (Addr×Obj)}{g:St}{H:Hp}{s:Qz}{p:Addr}{f:List V}(I:Inv X d g H s)(h:H p=some (.lst f)):
  ∃(c:List Value) (n:Nat),Vals f c/\s.heap.get? p=some { cls:=.type "list",data:=.seq c.toArray n }/\f.length<=sizeLine:=by
 obtain⟨z,c,n,r,e⟩:=I.hok p _ h;exact⟨c,n,r,e,z⟩
theorem Inv.lstUpd{c:List (Addr×Obj)}{i:St}{H:Hp}{s:Qz}{p:Addr}{k ys:List V}{d its':List Value}{n g:Nat}{f:Obj->Obj}(I:Inv X c i H s)(h:H p=some (.lst k))
  (m:s.heap.get? p=some { cls:=.type "list",data:=.seq d.toArray n }) (j:f { cls:=.type "list",data:=.seq d.toArray n }={ cls:=.type "list",data:=.seq its'.toArray g }) (r:Vals ys its') (l:ys.length<=sizeLine) (t:Nat) :
  Inv X c i (upd H p (.lst ys)) { s with heap:=s.heap.update p f,toks:=t }:=by
 have e:(s.heap.update p f).get? p=some { cls:=.type "list",data:=.seq its'.toArray g }:=by
  rw[Qxz f m (by rw[j]<;>rfl),j]
 refine I.write (x:=p) (e:=p) (by rw[h]; trivial) (.inl rfl) (λb u o q=>(Qz1 _ _ (Ne.symm o)).trans q) ⟨_,e⟩ ?_;exact⟨l,its',g,r,e⟩
def rSetL:V->V->V->Hp->(Hp->Prop)->Prop:=λo i v H Q=>∃p xs k j,o=.ref p/\i=.int k/\H p=some (.lst xs)/\ixN xs.length k=some j/\Q (upd H p (.lst (xs.set j v)))
theorem set_list:PSet X rSetL:=by
 intro pins s σ H o i v E F u Q I z A y h;obtain⟨p,xs,k,j,rfl,rfl,g,D,q⟩:=h;cases z;obtain⟨t,rfl⟩:=A;obtain⟨c,n,r,d,C⟩:=I.lst g;obtain⟨h1,h2,m,l⟩:=qdr D;have e:=r.length;have hn:=qvu;have x:Inv X pins σ (upd H p (.lst (xs.set j v))) { s with heap:=s.heap.update p (Obj.mapSeq (·.setIfInBounds j u)) }:=
  I.lstUpd g d (qbb c n j u) (r.set y j) (by rw[Qz5]; exact C) s.toks
 by_cases w:0<=k
 ·have f:k.toNat=j:=by
   rw[seqIndex_of w l]at h1;exact Option.some.inj h1
  exact PySem.W.ki_setAt d w (by omega) (by rw[Qqy,<- e]; exact l) (by rw[f]; exact⟨_,x,q⟩)
 ·have f:(k+(c.toArray.size:Int)).toNat=j:=by
   rw[seqIndex_neg (by omega) m]at h1;rw[Qqy,<- e];exact Option.some.inj h1
  exact PySem.W.ki_setBack d (by omega) (by rw[Qqy,<- e]; exact m) (by omega) (by rw[f]; exact⟨_,x,q⟩)
theorem qvv(c d:Option Int)(n:Nat):(Zv c d none n).1=((HT.sIx n 0 c:Nat):Int)/\(Zv c d none n).2.1=((HT.sIx n n d:Nat):Int)/\(Zv c d none n).2.2=1:=by
 refine⟨?_,?_,rfl⟩
 ·cases c with
  |none=>simp[Zv,HT.sIx]
  |some i=>
   simp only[Zv,HT.sIx,Option.getD_none,show(1:Int) > 0 by decide,if_true]
   by_cases h:i<0
   ·simp only[h,if_true]<;>omega
   ·simp only[h,if_false]<;>omega
 ·cases d with
  |none=>simp[Zv,HT.sIx]
  |some i=>
   simp only[Zv,HT.sIx,Option.getD_none,show(1:Int) > 0 by decide,if_true]
   by_cases h:i<0
   ·simp only[h,if_true]<;>omega
   ·simp only[h,if_false]<;>omega
theorem qkm(c:List Value)(d e:Option Int):slicePick c.toArray d e none=((c.drop (HT.sIx c.length 0 d)).take (HT.sIx c.length c.length e - HT.sIx c.length 0 d)).toArray:=by
 obtain⟨h1,h2,f⟩:=qvv d e c.toArray.size;unfold slicePick;rw[h1,h2,f];simp only[sliceRange_one,pick_run,Qqy]<;>rfl
def rSlL(K:Qqq):V->Option Int->Option Int->Hp->VK->Prop:=λx lo hi H Q=>∃a xs,x=.ref a/\SqL K H a xs/\∀p,H p=none->Q (.ref p) (upd H p (.lst (cutV xs lo hi)))
theorem qip:SlR X (rSlL X.K):=by
 intro pins s σ H x v n m lo hi sl Q I e l g f h;obtain⟨a,xs,rfl,k,q⟩:=h;cases e;obtain⟨i,r,d,j⟩:=I.list k;have c:=r.length;refine⟨"list",_,slot_list_getitem.lookup,d.isList.typeIs,?_⟩;refine wpAny_getItem_list_slice d.isList l g f .none (by simp) ?_ (by rw[Qqy]<;>omega);rw[qkm,<- c];refine⟨.ref s.heap.objs.size,_,I.laid (t':=s.toks) (o:=.lst (cutV xs lo hi)) (λb ob q=>Qqz _ q) (Qqw _) ?_,rfl,q _ (I.hok.fresh (Qqw _))⟩;exact⟨Qq9 (qjp xs lo hi) j,_,0,(r.drop (HT.sIx xs.length 0 lo)).take (HT.sIx xs.length xs.length hi - HT.sIx xs.length 0 lo),Qqe _ rfl⟩
theorem qxs:qqq X (.builtin "len") (λxs H Q=>∃p ys,xs=[.ref p]/\(SqL X.K H p ys\/SqT X.K H p ys)/\Q (.int ys.length) H):=by
 intro pins s σ H xs j Q I r h;obtain⟨p,ys,rfl,d,q⟩:=h;obtain⟨u,rfl,g⟩:=vals1 r;cases g;have hn:=qvu;rcases d with d|d
 ·obtain⟨f,r',e,i⟩:=I.list d;have c:=r'.length;exact Calls.call_len_list e.isList (by simp only[Qqy]<;>omega) ⟨.int ys.length,H,I.tok _,⟨s.toks+1,by rw[Qqy,c]⟩,q⟩
 ·obtain⟨f,r',e,i⟩:=I.tuple d;have c:=r'.length;exact len_tuple e (by simp only[Qqy]<;>omega) ⟨.int ys.length,H,I.tok _,⟨s.toks+1,by rw[Qqy,c]⟩,q⟩
theorem qxr:qqq X (.type "list") (λxs H Q=>∃p ys,xs=[.ref p]/\(SqL X.K H p ys\/SqT X.K H p ys)/\∀l,H l=none->Q (.ref l) (upd H l (.lst ys))):=by
 intro pins s σ H xs w Q I r h;obtain⟨p,ys,rfl,g,q⟩:=h;obtain⟨u,rfl,v⟩:=vals1 r;cases v;have j:∀(c:List Value),Vals ys c->ys.length<=sizeLine->∀(h':Heap) (d:Nat),(∀b o',s.heap.get? b=some o'->h'.get? b=some o')->
   h'.get? s.heap.objs.size=some { cls:=.type "list",dict:=none,data:=.seq c.toArray d,slots:=#[] }->EP X pins σ Q (.ref s.heap.objs.size) { s with heap:=h' }:=λc r' f h' d kp e=>
  ⟨.ref s.heap.objs.size,_,I.laid (t':=s.toks) kp (Qqw _) (show ObjOk X.prog X.w _ h' _ (.lst ys) from⟨f,c,d,r',e⟩),rfl,q _ (I.hok.fresh (Qqw _))⟩
 rcases g with g|g
 ·obtain⟨c,r',k,f⟩:=I.list g;have i:=r'.length;obtain⟨o,m,t,n,hd⟩:=k.isList;exact call_list_seq p (.inl rfl) m t hd (λh' d kp e=>j c r' f h' d kp e) (by simp only[Qqy]<;>omega)
 ·obtain⟨c,r',k,f⟩:=I.tuple g;have i:=r'.length;obtain⟨o,m,t,n,hd⟩:=k;exact call_list_seq p (.inr rfl) m t hd (λh' d kp e=>j c r' f h' d kp e) (by simp only[Qqy]<;>omega)
theorem qxa:qqq X (.type "tuple") (λxs H Q=>∃p ys,xs=[.ref p]/\((SqL X.K H p ys/\∀l,H l=none->Q (.ref l) (upd H l (.tup ys)))\/(SqT X.K H p ys/\Q (.ref p) H))):=by
 intro pins s σ H xs n Q I r h;obtain⟨p,ys,rfl,h⟩:=h;obtain⟨u,rfl,k⟩:=vals1 r;cases k;rcases h with⟨f,q⟩|⟨f,q⟩
 ·obtain⟨c,r',d,g⟩:=I.list f;have i:=r'.length;refine call_tuple_list d.isList (λh' kp=>?_) (by simp only[Qqy]<;>omega);have j:Inv X pins σ H { s with heap:=h' }:=I.kept (t':=s.toks) kp;have m:Inv X pins σ (upd H h'.objs.size (.tup ys)) { s with heap:=h'.push { cls:=.type "tuple",data:=.seq c.toArray } }:=
   j.laid (t':=s.toks) (λb o e=>Qqz _ e) (Qqw _) (show ObjOk X.prog X.w _ _ _ (.tup ys) from⟨g,c,r',IsTup.new _ _⟩)
  exact⟨.ref h'.objs.size,_,m,rfl,q _ (j.hok.fresh (Qqw _))⟩
 ·obtain⟨c,r',d,g⟩:=I.tuple f;exact call_tuple_same d ⟨.ref p,H,I,rfl,q⟩
def tyV(K:Qqq)(T:String)(x:V)(H:Hp):Prop:=match x with
 |.str _=>T = "str"
 |.int _=>T = "int"
 |.ref p=>(T = "list"/\∃xs,SqL K H p xs)\/(T = "tuple"/\∃o,K.lookup p=some o/\o.cls=.type "tuple"/\o.dict=none)\/
   (T = "dict"/\((∃kvs,H p=some (.dK kvs))\/∃kvs,H p=some (.dT kvs)))\/(T = "set"/\∃S n,H p=some (.set S n))
 |_=>False
theorem tyV_is{f:List (Addr×Obj)}{j:St}{H:Hp}{s:Qz}{T:String}{x:V}{v:Value}(I:Inv X f j H s)(r:RelV x v)(ty:tyV X.K T x H):
  s.TypeIs v T/\∀a,v=.ref a->∃ob,s.heap.get? a=some ob/\ob.dict=none:=by
 cases x with
 |str z=>
  obtain⟨t,rfl⟩:=r;cases (show T = "str" from ty);exact⟨typeIs_str s z t,λ_ e=>nomatch e⟩
 |int i=>
  obtain⟨t,rfl⟩:=r;cases (show T = "int" from ty);exact⟨typeIs_int s i t,λ_ e=>nomatch e⟩
 |ref p=>
  cases r;rcases ty with⟨rfl,xs,l⟩|⟨rfl,o,d,m,hd⟩|⟨rfl,d⟩|⟨rfl,S,n,d⟩
  ·obtain⟨k,_,h,_⟩:=I.list l;refine⟨h.isList.typeIs,λa e=>?_⟩;cases e;obtain⟨o,n,e,c,hd,_⟩:=h;exact⟨o,e,hd⟩
  ·refine⟨⟨o,I.kIn p o d,m⟩,λa e=>?_⟩;cases e;exact⟨o,I.kIn _ o d,hd⟩
  ·have z:∃o,s.heap.get? p=some o/\o.ExactDict:=by
    rcases d with⟨kvs,d⟩|⟨kvs,d⟩
    ·obtain⟨_,_,_,_,o,_,_,e,ex,_⟩:=I.hok p _ d;exact⟨o,e,ex⟩
    ·obtain⟨_,_,_,_,o,_,_,e,ex,_⟩:=I.hok p _ d;exact⟨o,e,ex⟩
   obtain⟨o,e,ex⟩:=z;refine⟨⟨o,e,ex.1⟩,λa g=>?_⟩;cases g;exact⟨o,e,ex.2.1⟩
  ·obtain⟨o,_,_,_,e,ex,_⟩:=I.hok p _ d;refine⟨⟨o,e,ex.1⟩,λa g=>?_⟩;cases g;exact⟨o,e,ex.2.1⟩
 |_=>exact False.elim ty
noncomputable def tBM(K:Qqq)(T:String)(r:V->List V->Hp->VK->Prop)(to:TE)(t:TA):TE:=λσ H Q=>to σ H λx H1=>tyV K T x H1/\t σ H1 λxs H2=>r x xs H2 Q
variable {o e:Qx}{es:List Qx}{to:TE}{t:TA}{name:Str}{apos cpos:Pos}{T id:String}{r:V->List V->Hp->VK->Prop}
theorem qgw(y:PlainAttrs T)(slot:Slot T name id)(i:typeOf (.builtin id)=pure (.type "method_descriptor"))(C:MtR X id r)(A:PE X o to)(D:PA X (e::es) t)
  (f:Zz o name X.env (Qw o X.env)=Qw o X.env:=by rfl)
  (g:((backTo cpos (starEach (e::es) X.env)).all (λx=>!x.1)&&(backToKw cpos (keywordEach [] X.env)).all (λx=>x.1.isSome)
   && decide ((e::es).length+([]:List Zo).length+(if ([]:List Zo).isEmpty then 0 else 1)<30))=true:=by rfl)
  (d:(apos.endLine==cpos.line)=true:=by rfl) (z:starEach (e::es) X.env=(false,Qw e X.env)::starEach es X.env:=by rfl) (c:(backTo cpos (starEach es X.env)).any (·.1)=false:=by rfl) :
  PE X (.Call (.Attribute o name apos) (e::es) [] cpos) (tBM X.K T r to t):=by
 intro pins s σ H Q I h;refine wpAny_Call_method_late f g d rfl (thn (A pins s σ H _ I h) λv p ⟨x,H1,l,j,ty,w⟩=>?_);obtain⟨h1,h2⟩:=tyV_is l j ty;refine⟨T,id,y,slot,i,h1,h2,?_⟩;have k:=D cpos pins p σ H1 _ l w;rw[z]at k ⊢;refine Calls.callWith_builtin (by show(false||(backTo cpos (starEach es X.env)).any (·.1))=false; rw[c]<;>rfl) (Calls.evalArgs_plain ?_);exact thn k λm n ⟨vs,H2,E,q,u⟩=>C pins n σ H2 x vs v m Q E j q u
end
end L2
namespace L2
open PySem PySem.Spec PyProof.Rows
def MtM(X:Cx)(id:String)(r:V->List V->Hp->VK->Prop):Prop:=
 ∀(pins:List (Addr×Obj)) (s:Qz) (σ:St) (H:Hp) (x:V) (xs:List V) (v:Value) (us:List Value) (Q:VK),Inv X pins σ H s->RelV x v->Vals xs us->r x xs H Q->
  wpAny (model X.prog X.w) X.A (call (.builtin id) (v::us)) (EP X pins σ Q) X.xe s
theorem Vals.one:∀{x:V}{us:List Value},Vals [x] us->∃u,us=[u]/\RelV x u
 |_,_,.cons r .nil=>⟨_,rfl,r⟩
theorem Vals.two:∀{x y:V}{us:List Value},Vals [x,y] us->∃u v,us=[u,v]/\RelV x u/\RelV y v
 |_,_,_,.cons r (.cons q .nil)=>⟨_,_,rfl,r,q⟩
theorem Vals.rep{a:List V}{us:List Value}(h:Vals a us):∀k:Nat,Vals (List.replicate k a).flatten (List.replicate k us).flatten
 |0=>.nil
 |k+1=>by
  rw[Qzw,Qzw,Qzs,Qzs];exact Vals.append h (Vals.rep h k)
theorem foldl_rep(its:List Value):∀(k:Nat) (acc:List Value),
  List.foldl (λa x2=>a++x2) acc.toArray (List.replicate k its.toArray)=(acc++(List.replicate k its).flatten).toArray
 |0,acc=>by simp
 |k+1,acc=>by
  have e:acc.toArray++its.toArray=(acc++its).toArray:=by simp
  have b:(acc++its)++(List.replicate k its).flatten=acc++(List.replicate (k+1) its).flatten:=by
   rw[Qzw,Qzs,Qq4]
  rw[<- b,<- foldl_rep its k (acc++its),<- e,Qzw,Qx6]
section
variable {X:Cx}{pins:List (Addr×Obj)}{σ:St}{H:Hp}{s:Qz}{l b:Addr}{xs ys zs:List V}
theorem Inv.lset{a its':List Value}{n:Nat}{f:Array Value->Array Value}{t':Nat}(I:Inv X pins σ H s)(j:H l=some (.lst xs))
  (e:s.heap.get? l=some { cls:=.type "list",data:=.seq a.toArray n }) (h:f a.toArray=its'.toArray) (d:Vals ys its') (c:ys.length<=sizeLine) :
  Inv X pins σ (upd H l (.lst ys)) { s with heap:=s.heap.update l (Obj.mapSeq f),toks:=t' }:=by
 have q:=PySem.IsL.update e f;rw[h]at q;refine I.write (x:=l) (e:=l) (by rw[j]; exact trivial) (.inl rfl) (λk u i g=>(Qz1 s.heap (Obj.mapSeq f) (Ne.symm i)).trans g) ⟨_,q⟩ ?_;exact⟨c,its',_,d,q⟩
theorem Inv.lnew{a:List Value}{t':Nat}(I:Inv X pins σ H s)(d:Vals ys a)(c:ys.length<=sizeLine):
  Inv X pins σ (upd H s.heap.objs.size (.lst ys)) { s with heap:=s.heap.push { cls:=.type "list",data:=.seq a.toArray },toks:=t' }:=
 I.laid (λ_ _ q=>Qqz _ q) (Qqw _) ⟨c,a,0,d,Qqe _ rfl⟩
theorem Inv.fresh(I:Inv X pins σ H s):H s.heap.objs.size=none:=I.hok.fresh (Qqw _)
theorem Inv.lstM(I:Inv X pins σ H s)(c:H l=some (.lst xs)):xs.length<=sizeLine/\∃(a:List Value) (n:Nat),Vals xs a/\xs.length=a.length/\s.heap.get? l=some { cls:=.type "list",data:=.seq a.toArray n }:=by
 obtain⟨z,a,n,r,e⟩:=I.hok l _ c;exact⟨z,a,n,r,r.length,e⟩
theorem qkt{n:Nat}(h:n<=sizeLine):Builtin.List.listTooLong n=false:=by
 unfold Builtin.List.listTooLong;exact Z1 (by omega)
end
section
variable {X:Cx}
def qi8:V->List V->Hp->VK->Prop:=λx vs H Q=>∃l xs y,x=.ref l/\vs=[y]/\H l=some (.lst xs)/\xs.length<sizeLine/\Q .non (upd H l (.lst (xs++[y])))
theorem qdy:MtM X "list.append" qi8:=by
 intro pins s σ H x vs v g Q I c d h;obtain⟨l,xs,y,rfl,rfl,b,i,q⟩:=h;cases c;obtain⟨u,rfl,f⟩:=d.one;obtain⟨z,a,n,r,j,e⟩:=I.lstM b;refine Qr F.slot_list_append ⟨_,e,rfl⟩ F.entry_list_append (F.args_list_append_2 _ _) (PySem.list_append l a.toArray n u (by rw[Qqy]; omega)) ⟨e,?_⟩;refine⟨.non,_,I.lset (its':=a++[u]) b e (by simp) (r.append (.cons f .nil)) ?_,rfl,q⟩;rw[Qqn,Qxx];omega
noncomputable def rRep:R2:=λx y H Q=>∃l k xs,x=.ref l/\y=.int k/\H l=some (.lst xs)/\-(2 ^ 63)<=k/\k<2 ^ 63/\xs.length*k.toNat<=sizeLine/\
 ∀p,H p=none->Q (.ref p) (upd H p (.lst (List.replicate k.toNat xs).flatten))
theorem len_rep{α:Type}(a:List α)(k:Nat):(List.replicate k a).flatten.length=k*a.length:=by
 induction k with
 |zero=>simp
 |succ k b=>rw[Qzw,Qzs,Qqn,b,Nat.succ_mul,Nat.add_comm]
theorem op_rep:OpR X (Q1 .Mult) rRep:=by
 intro pins s σ H x y v u Q I w p h;obtain⟨l,k,xs,rfl,rfl,C,h1,h2,o,q⟩:=h;cases w;obtain⟨t,rfl⟩:=p;obtain⟨z,b,n,r,A,e⟩:=I.lstM C;have f:b.toArray.size*k.toNat<=sizeLine:=by rw[Qqy,<- A]; exact o
 have i:¬ b.toArray.size*k.toNat > (2 ^ 63 - 1) / 8:=by
  have:(sizeLine:Nat)<=(2 ^ 63 - 1) / 8:=by decide
  omega
 have g:¬ (!Builtin.List.listFitsIndex k)=true:=by
  rw[fitsIndex_both h1 h2];exact Qqg
 have c:¬ Builtin.List.listTooLong (b.toArray.size*k.toNat)=true:=by
  rw[qkt f];exact Qqg
 have d:List.foldl (λj x2=>j++x2) #[] (List.replicate (if b.toArray.isEmpty=true then 0 else k.toNat) b.toArray)=(List.replicate k.toNat b).flatten.toArray:=by
  have D:∀m:Nat,List.foldl (λj x2=>j++x2) #[] (List.replicate m b.toArray)=(List.replicate m b).flatten.toArray:=λm=>by
   have:=foldl_rep b m [];rw[List.nil_append]at this;exact this
  rw[D]
  cases b with
  |nil=>simp
  |cons a r'=>rw[Z2 (by simp)]
 refine wpAny_binaryOp_repeat_ref (T:="list") (U:="int") (by decide) ⟨_,e,rfl⟩ (λs'=>typeIs_int s' k t) noFill_list_mul F.fills_int_mul F.slot_int_rmul repeat_list F.slot_int_index.lookup
  (Qr F.slot_int_rmul (typeIs_int s k t) F.entry_int_rmul (F.args_int_rmul_2 _ _) (int___rmul___int_list k t l b.toArray n)
   ⟨e,rfl,⟨_,e,rfl⟩,Qr F.slot_list_mul ⟨_,e,rfl⟩ F.entry_list_mul (F.args_list_mul_2 _ _) (AutoListH.list___mul___list_int_3 l b.toArray n k t g i c) ⟨e,?_⟩⟩)
 rw[d];exact⟨.ref _,_,I.lnew (t':=s.toks) (r.rep k.toNat) (by rw[len_rep,Qjo]; exact o),rfl,q _ I.fresh⟩
end
section
variable {prog:Program}{w:Qk}{A:Qv}{E:Value->Qz->Prop}{s:Qz}
end
section
variable {X:Cx}
end
end L2
namespace Att
open PySem PySem.W PySem.Calls PyProof.Rows
theorem qjl{P:Qp}{h:Heap}:∀(ns:List Int) (vs:List Value),WellAll P h vs (ns.map WData.int)->Zp vs ns:=by
 intro ns
 induction ns with
 |nil=>
  intro vs w;rw[Qjn]at w;cases w;exact .nil
 |cons n ns c=>
  intro vs w;rw[Qq3]at w
  cases w with
  |cons a b=>
   cases a;exact .cons _ _ (c _ b)
theorem qcl{l:OpenLaw}{n:Nat}(s:l.most=some n){P:Qp}{h:Heap}{args:List WData}{b:List Value}
  (c:l.row.toRowW.claim.pre args=true) (j:WellAll P h b args) :
  ∃a vs ns,b=[Value.ref a]/\args=[WData.list (ns.map WData.int)]/\h.get? a=some { cls:=.type "list",data:=.seq vs.toArray }/\Zp vs ns/\ns.length<=n:=by
 have k:WShape.hasAll [] args [.list .int]=true:=(pre_splitW c).1;have m:l.pre.holds [] { args:=args }=true:=(pre_splitW c).2;obtain⟨d,r,rfl,h1,h2⟩:=hasAllW_cons k;obtain rfl:=hasAllW_nil h2;obtain⟨xs,rfl,t⟩:=hasW_list h1;obtain⟨ns,rfl⟩:=items_int t;have e:ns.length<=n:=by
  unfold OpenLaw.pre at m;have i:(WTm.not (.lt (.lit (.int (n:Int))) (.len (.arg 0)))).holds [] { args:=[.list (ns.map .int)] }=true:=by
   have i:=(holds_andW m).1;rw[s]at i;exact i
  have g:=condW_of i (w_not (w_lt w_lit (w_len_list (w_arg rfl))));rw[Qqj]at g;refine Qjp λq=>?_;have o:(n:Int)<((ns.length:Nat):Int):=by omega
  first
   |(rw[Z0 o]at g; exact absurd g (by decide))
   |(simp at g; omega)
 cases j with
 |cons w1 w2=>
  cases w2
  cases w1 with
  |list p f=>exact⟨_,_,ns,rfl,rfl,p,qjl ns _ f,e⟩
theorem qc1(l:OpenLaw)(args:List WData):l.row.toRowW.claim.post args (.bool true) args=true:=
 postW_of (r:=l.row.toRowW) (X:=(true==true))
  (show WShape.has [] (.bool true) .bool=true by first|rfl|decide|simp[WShape.has,WShape.arms,WShape.armsAll])
  (show(WTm.eq .res (.lit (.bool true))).value [] { args:=args,res:=some (.bool true),after:=args }=some (.bool (true==true)) from w_eq_bool (w_res rfl) w_lit) rfl
theorem attach_call{l:OpenLaw}{n:Nat}{q:Program}{loose:List Str}{XP:(Str->Option Value)->Heap->Prop}{YP:Qk->Heap->Prop}{d:DefRec}
  (E:l.most=some n) (t:d.params.defaults=[])
  (call:∀(w:Qk) (s₀ b:Qz) (mg m:Str->Option Value) (i:Addr) (o:Obj) (k j doc:Value) (a:Addr) (vs:List Value) (ns:List Int),
   Ground q loose [] XP w s₀ mg m b.heap->YP w b.heap->
   b.heap.get? i=some o->o.data=.func (docDef d.name d.params d.body d.scope k j doc)->b.heap.CodeRec j d.name->mg d.name=some (.ref i)->
   b.heap.get? a=some { cls:=.type "list",data:=.seq vs.toArray }->Zp vs ns->ns.length<=n->b.gens=#[]->
   Zj (model l.prog w) Zr (.call (.ref i) ⟨[.ref a],[]⟩) (λr s'=>r=.ok (.ret (.bool true))/\OldK b.heap s'.heap/\s'.os=b.os/\Zc s'.gens) b) :
  WalkO q loose XP YP l.row.toRowW d [] (λf vs=>PySem.call f vs):=by
 intro w s₀ b mg m G Q i o k j doc P kV D hd u y s I z v R e x A p H;obtain rfl:P=.none:=Dflts.none y t;obtain rfl:kV=.none:=Dflts.noKw y;obtain⟨a,vs,ns,rfl,rfl,g,c,h⟩:=qcl E e p;refine enter_call (Q6 (call w s₀ b mg m i o k j doc a vs ns G Q D (fd_plain hd) u s g c h I) λr s' C=>?_);obtain⟨rfl,h2,N,K⟩:=C;exact⟨.inl ⟨.bool true,.bool true,[],rfl,λ_=>rfl,.bool true,qc1 l _,λ_=>⟨List.Pairwise.nil,λ_ F=>(nomatch F)⟩⟩,h2,N,K⟩
section
variable {prog:Program}{w:Qk}{A:Qv}{E:Value->Qz->Prop}{s:Qz}{K:Frag}
end
end Att
namespace L2
open PySem PySem.Spec PyProof.Rows
theorem qq6:∀{vs:List Value}{ns:List Int},Zp vs ns->Vals (ns.map V.int) vs
 |_,_,.nil=>.nil
 |_,_,.cons n t h=>.cons ⟨t,rfl⟩ (qq6 h)
def Only(H:Hp):Prop:=∀b,H b=none\/∃o xs,H b=some (.frz o (.lst xs))
theorem qge{P:Program}{w:Qk}{K:Qqq}{mg G:Str->Option Value}{CX:CXT}{k:Nat}{S a:Addr}{fd:Qh}{x:Str}{U:Sp}{s₁:Qz}{vs:List Value}{ns:List Int}
  (KX:K.In s₁.heap) (y:s₁.heap.Ns mainGlobals mg) (f:s₁.heap.Ns builtinsNs G) (Q:∀x:Str,x ≠ "__name__"->G x=Qb x) (A:s₁.heap.NoLimit) (hg:s₁.gens=#[])
  (D:s₁.heap.get? a=some { cls:=.type "list",data:=.seq vs.toArray }) (hi:Zp vs ns) (X:ns.length<=sizeLine) (hr:Room k Zr)
  (F:∀base:Heap,K.In base->base.Ns mainGlobals mg->FnOk P w K mg base CX k S fd [x] U) (j:∀(s:Qz) (u:Value),BindsTo s fd ⟨[u],[]⟩ [(x,u)])
  (I:∀H:Hp,Only H->SqL K H a (ns.map V.int)->U [.ref a] H (λv _=>v=.bl true) λ_ _ _=>False)
  (R:∀H e s',CX [] H s₁ (λ_ _ _=>False) e s'->False) :
  Zj (model P w) Zr (.call (.ref S) ⟨[.ref a],[]⟩) (λr s'=>r=.ok (.ret (.bool true))/\OldK s₁.heap s'.heap/\s'.os=s₁.os/\Zc s'.gens) s₁:=by
 have W:=qq6 hi;have p:=hi.length;have i:∀H:Hp,Only H->SqL K H a (ns.map V.int)->HOk P w H s₁.heap->(∀b,H b≠none->b=a)->(H a≠none->K.lookup a=none)->
   Zj (model P w) Zr (.call (.ref S) ⟨[.ref a],[]⟩) (λr s'=>r=.ok (.ret (.bool true))/\OldK s₁.heap s'.heap/\s'.os=s₁.os/\Zc s'.gens) s₁:=by
  intro H hO hS hok hA hK;have c:∀{b:Addr}{o:Obj},s₁.heap.get? b=some o->H b=none->(hidT s₁.heap H).get? b=some o:=λe n=>qgl e n;have E:∀{b:Addr}{o:Obj}{es:Array Q5}{ep:Nat},s₁.heap.get? b=some o->o.data=.dict es ep->H b=none:=λ{b o es ep} e d=>by
   cases q:H b with
   |none=>rfl
   |some u=>
    have T:b=a:=hA b (by rw[q]; simp);subst T;rw[D]at e; cases e;have d':Data.seq vs.toArray _=Data.dict es ep:=d;cases d'
  have g:∀{b:Addr}{m:Str->Option Value},s₁.heap.Ns b m->(hidT s₁.heap H).Ns b m:=λ{b m} ⟨o,es,ep,e,d,r⟩=>⟨o,es,ep,c e (E e d),d,r⟩
  have C:K.In (hidT s₁.heap H):=λb o e=>c (KX b o e) (by
   cases q:H b with
   |none=>rfl
   |some u=>
    have T:b=a:=hA b (by rw[q]; simp);subst T
    rw[hK (by rw[q]; simp)]at e; cases e)
  have hM:Mod K mg (hidT s₁.heap H):=⟨C,g y,⟨G,g f,Q⟩,let ⟨mc,h1,h2⟩:=A; ⟨mc,g h1,h2⟩⟩
  have e0:Env0 P w K mg (hidT s₁.heap H) Zr [] s₁ H:=⟨rfl,hM,λb o e=>ql0 e,Nat.le_of_eq (qd1 _ _),trivial,λb f=>absurd (show b∈([]:List Addr) from f) (by simp),hok,.of_eq hg⟩
  refine Q6 ((F _ C (g y)).run Zr [] s₁ H ⟨[.ref a],[]⟩ [.ref a] [.ref a] _ _ hr e0 (j s₁ (.ref a)) (.cons rfl .nil) (I H hO hS)) λr s' h=>?_
  cases r with
  |error e=>exact(R H e s' h).elim
  |ok fl=>
   cases fl with
   |next=>exact False.elim h
   |brk=>exact False.elim h
   |cont=>exact False.elim h
   |ret u=>
    obtain⟨v,H',os,bare,un,t,r',q⟩:=h;have q':v=.bl true:=q;subst q';obtain rfl:u=Value.bool true:=r';refine⟨rfl,OldK.of_keep λb o e=>?_,os,bare⟩
    cases q:H b with
    |none=>exact un.keep b o e q (by intro z; exact absurd (show b∈([]:List Addr) from z) (by simp)) (by simp)
    |some u=>
     rcases hO b with z|⟨ob,xs,z⟩
     ·rw[q]at z; cases z
     ·have z2:=un.frzs b ob _ z;obtain⟨e1,_⟩:=hok b _ z;obtain⟨e2,_⟩:=t b _ z2;rw[e]at e1; cases e1;exact e2
 cases N:K.lookup a with
 |some o=>
  have e:=KX a o N;rw[D]at e;cases e;refine i (λ_=>none) (λ_=>.inl rfl) (.inr ⟨_,vs.toArray,_,N,rfl,rfl,rfl,by rw[Qqy,p]; exact X,by simpa using W⟩) (λb u z=>by have l:(none:Option HO)=some u:=z; cases l) (λb z=>absurd rfl z) λz=>absurd rfl z
 |none=>
  refine i (λb=>if b=a then some (.frz { cls:=.type "list",data:=.seq vs.toArray } (.lst (ns.map V.int))) else none) (λb=>?_) (.inl (.inr ⟨{ cls:=.type "list",data:=.seq vs.toArray },Z3 rfl⟩)) (λb u z=>?_) (λb z=>?_) λ_=>N
  ·by_cases f:b=a
   ·exact .inr ⟨_,_,Z3 f⟩
   ·exact .inl (Z2 f)
  ·by_cases f:b=a
   ·have l:=(Z3 f).symm.trans z;cases l;subst f;exact⟨D,by rw[Qqj]; exact X,vs,_,W,D⟩
   ·have l:=(Z2 f).symm.trans z;cases l
  ·by_cases f:b=a
   ·exact f
   ·exact absurd (Z2 f) z
end L2
namespace L2
open PySem PySem.Spec PyProof.Rows
theorem walk_of{l:PySem.W.OpenLaw}{n k:Nat}{q:Program}{loose:List Str}{XP:(Str->Option Value)->Heap->Prop}{YP:Qk->Heap->Prop}{d:DefRec}{K:Qp->Qqq}{C:Qk->CXT}{z:Qk->Sp}{x:Str}
  (E:l.most=some n) (p:n<=sizeLine) (t:d.params.defaults=[]) (D:Room k Zr)
  (Q:∀(w:Qk) (h:Heap),YP w h->(K w.params).In h)
  (F:∀(w:Qk) (mg:Str->Option Value) (j:Addr) (h:Heap),(K w.params).In h->h.Ns mainGlobals mg->mg d.name=some (.ref j)->
   ∃fd:Qh,(∀(s:Qz) (u:Value),BindsTo s fd ⟨[u],[]⟩ [(x,u)])/\
    ∀base:Heap,(K w.params).In base->base.Ns mainGlobals mg->FnOk l.prog w (K w.params) mg base (C w) k j fd [x] (z w))
  (m:∀(w:Qk) (H:Hp) (a:Addr) (ns:List Int),ns.length<=n->Only H->SqL (K w.params) H a (ns.map V.int)->z w [.ref a] H (λv _=>v=.bl true) λ_ _ _=>False)
  (y:∀(w:Qk) (H:Hp) (s:Qz) (e:Value) (s':Qz),C w [] H s (λ_ _ _=>False) e s'->False) :
  PySem.W.WalkO q loose XP YP l.row.toRowW d [] (λf vs=>PySem.call f vs):=by
 refine Att.attach_call E t λw s₀ g mg X j o W cd doc a vs ns G U ho hd N r i c b I=>?_;have A:=Q w _ U;obtain⟨fd,P,T⟩:=F w mg j _ A G.T.g r;exact qge A G.T.g G.T.b G.T.builtins G.T.nolimit I i c (Qq9 b p) D T P (λH S R=>m w H a ns b S R) λH e s'=>y w H g e s'
end L2
namespace L2
open PySem PySem.Spec PyProof.Rows
noncomputable abbrev CX0:CXT:=λ_ _ _ _ _ _=>False
noncomputable abbrev E0:XK:=λ_ _ _=>False
theorem qdz{X:Cx}:qjt CX0 X E0:=λ_ _ _ _ _ _ _ h=>h.elim
structure Fun (K:Qqq) (x qual:Str) (st:Stmt) (f:Addr) (fd:Qh):Prop where
 ex:∃(oc:Value) (od:Option Addr) (kV doc pm:Value) (an:Option Addr) (cdv ct:Value) (osl:Array (Option Value)),
  fd=PySem.W.fnOf x qual (qqg st) (qzl st) (qzz st) .none kV doc pm an cdv ct/\K.lookup f=some ⟨oc,od,.func fd,osl⟩/\PySem.W.codeIn K cdv qual=true
 kp:Qzx K (.ref f)=true
section
variable {P:Program}{w:Qk}{K:Qqq}{mg:Str->Option Value}{base:Heap}
theorem Fun.ok{x a:Str}{st:Stmt}{f:Addr}{g:Qh}{N ps:List Str}{k:Nat}{sp:Sp}(F:Fun K x a st f g)(S:FnScope N ps (qzz st))(len:∀vs H Q E,sp vs H Q E->vs.length=ps.length)
  (c:∀(b:Value) (A:Qv) (outer:List Env) (s:Qz) (H:Hp) (vs:List V) (Q:VK) (E:XK),Room k (A.deeper (envOfC a (qzz st) s.heap.objs.size f b))->sp vs H Q E->
   ∃t,PSs (cxOf CX0 P w K mg base N a (qzz st) f b A outer s H E).nox (qzl st) t/\t { nx:=λ_ H'=>Q .non H',rt:=Q } (start N vs) H):FnOk P w K mg base CX0 (k+1) f g ps sp:=by
 obtain⟨n,m,kV,doc,l,an,b,ct,i,rfl,lk,e⟩:=F.ex;refine fn_of lk e S len λA outer s H vs Q E j d=>?_;obtain⟨t,h,q⟩:=c b A outer s H vs Q E j d;exact⟨t,h.nox,q⟩
theorem Fun.binds{x a:Str}{st:Stmt}{f:Addr}{d:Qh}{ps:List Str}(F:Fun K x a st f d)
  (h:∀(kV doc c:Value) (an:Option Addr) (b ct:Value) (us:List Value),us.length=ps.length->bindArgs (PySem.W.fnOf x a (qqg st) (qzl st) (qzz st) .none kV doc c an b ct) ⟨us,[]⟩=pure (ps.zip us)):Binds K d ps []:=by
 obtain⟨j,i,kV,doc,c,an,b,ct,e,rfl,lk,g⟩:=F.ex;exact .all (h kV doc c an b ct)
theorem qjm{x a:Str}{st:Stmt}{f:Addr}{h:Value}{g an:Option Addr}{d:Array (Option Value)}{kV doc e b ct:Value}(l:K.lookup f=some ⟨h,g,.func (PySem.W.fnOf x a (qqg st) (qzl st) (qzz st) .none kV doc e an b ct),d⟩)
  (c:PySem.W.codeIn K b a=true) (k:Qzx K (.ref f)=true):Fun K x a st f (PySem.W.fnOf x a (qqg st) (qzl st) (qzz st) .none kV doc e an b ct):=⟨⟨h,g,kV,doc,e,an,b,ct,d,rfl,l,c⟩,k⟩
end
theorem qcf{n:Nat}(h:n<=1000):n<sizeLine:=Qjy h (by decide)
section
variable {X:Cx}
end
def Same(H H':Hp):Prop:=∀b o,H b=some o->H' b=some o
end L2
end
section
namespace L2
open PySem PySem.Spec PyProof.Rows
section
variable {κ:Type} [DecidableEq κ]
noncomputable def valV(kvs:List (κ×V))(k:κ):Option V:=(kvs.find? λkv=>decide (kv.1=k)).map (·.2)
noncomputable def putK(kvs:List (κ×V))(k:κ)(v:V):List (κ×V):=
 if (kvs.any λkv=>decide (kv.1=k))=true then kvs.map (λkv=>if kv.1=k then(kv.1,v) else kv) else kvs++[(k,v)]
theorem qx1{p:κ×V}{r:List (κ×V)}{k:κ}(e:p.1=k):valV (p::r) k=some p.2:=by simp[valV,Qzd,e]
theorem qx2{p:κ×V}{r:List (κ×V)}{k:κ}(e:¬ p.1=k):valV (p::r) k=valV r k:=by simp[valV,Qzd,e]
theorem qyc(k:κ):∀kvs:List (κ×V),(kvs.any λa=>decide (a.1=k))=(valV kvs k).isSome
 |[]=>rfl
 |p::r=>by
  rw[Qz7]
  by_cases e:p.1=k
  ·simp only[qx1 e,Z0 e,Bool.true_or,Qja]
  ·rw[qx2 e,Z1 e,Bool.false_or]; exact qyc k r
theorem qq1(kvs:List (κ×V))(k:κ)(v:V):(putK kvs k v).length<=kvs.length+1:=by
 unfold putK
 split
 ·rw[Qqj]; omega
 ·rw[Qqn,Qqh,List.length_nil]; omega
theorem RelO.isSome_eq{o:Option V}{u:Option Value}(r:RelO o u):o.isSome=u.isSome:=by
 cases o with
 |none=>cases u with
  |none=>rfl
  |some _=>exact(show False from r).elim
 |some _=>cases u with
  |none=>exact(show False from r).elim
  |some _=>rfl
theorem RelO.getD{o:Option V}{u:Option Value}{d:V}{d':Value}(r:RelO o u)(rd:RelV d d'):RelV (o.getD d) (u.getD d'):=by
 cases o with
 |none=>cases u with
  |none=>exact rd
  |some _=>exact(show False from r).elim
 |some _=>cases u with
  |none=>exact(show False from r).elim
  |some _=>exact r
theorem KV.val{kvs:List (κ×V)}{vs:List (κ×Value)}(r:KV kvs vs)(k:κ):RelO (valV kvs k) (valueAt vs k):=by
 unfold KV at r
 induction r with
 |nil=>exact True.intro
 |@cons p q ps a h t d=>
  obtain⟨h1,h2⟩:=h
  by_cases e:p.1=k
  ·have c:q.1=k:=h1.symm.trans e;have b:valueAt (q::a) k=some q.2:=by simp[valueAt,Qzd,c]
   rw[qx1 e,b]; exact h2
  ·have c:¬ q.1=k:=λz=>e (h1.trans z);have b:valueAt (q::a) k=valueAt a k:=by simp[valueAt,Qzd,c]
   rw[qx2 e,b]; exact d
theorem KV.any{kvs:List (κ×V)}{vs:List (κ×Value)}(r:KV kvs vs)(k:κ):(kvs.any λa=>decide (a.1=k))=vs.any λa=>decide (a.1=k):=by
 unfold KV at r
 induction r with
 |nil=>rfl
 |cons h t b=>rw[Qz7,Qz7,b,h.1]
theorem KV.repl{kvs:List (κ×V)}{vs:List (κ×Value)}(r:KV kvs vs)(k:κ){y:V}{u:Value}(b:RelV y u):
  KV (kvs.map λa=>if a.1=k then(a.1,y) else a) (vs.map λa=>if a.1=k then(a.1,u) else a):=by
 unfold KV at r ⊢
 induction r with
 |nil=>exact .nil
 |@cons p q ps d h t c=>
  rw[Qq3,Qq3];refine .cons ?_ c;obtain⟨h1,h2⟩:=h
  by_cases e:p.1=k
  ·rw[Z3 e,Z3 (h1.symm.trans e)]; exact⟨h1,b⟩
  ·rw[Z2 e,Z2 (λz=>e (h1.trans z))]; exact⟨h1,h2⟩
theorem KV.put{kvs:List (κ×V)}{vs:List (κ×Value)}(r:KV kvs vs)(k:κ){y:V}{u:Value}(a:RelV y u):KV (putK kvs k y) (stored vs k u):=by
 unfold putK stored;rw[r.any k]
 by_cases e:(vs.any λb=>decide (b.1=k))=true
 ·rw[Z3 e,Z3 e]; exact r.repl k a
 ·rw[Z2 e,Z2 e]; exact Paired.snoc r ⟨rfl,a⟩
theorem KV.keys{kvs:List (κ×V)}{vs:List (κ×Value)}(r:KV kvs vs):kvs.map (·.1)=vs.map (·.1):=by
 unfold KV at r
 induction r with
 |nil=>rfl
 |cons h t a=>rw[Qq3,Qq3,a,h.1]
theorem KV.length{kvs:List (κ×V)}{vs:List (κ×Value)}(r:KV kvs vs):kvs.length=vs.length:=Paired.length r
end
theorem qj3{P:Program}{w:Qk}{k:Key}{u:Value}(r:RelV (kV k) u):(mixKind P w).is k u=true:=by
 cases k with
 |inl i=>obtain⟨t,e⟩:=(show ∃t,u=Value.int i t from r); subst e; exact qw1 P w i t
 |inr x=>obtain⟨t,e⟩:=(show ∃t,u=Value.str x t from r); subst e; exact qq0 P w x t
theorem qv1{P:Program}{w:Qk}:∀{a:List Key}{us:List Value},Vals (a.map kV) us->ItemsAre (mixKind P w) a us
 |[],_,r=>by rw[Qjn]at r; cases r; exact .nil
 |k::a,_,r=>by
  rw[Qq3]at r
  cases r with
  |cons h t=>exact .cons (qj3 h) (qv1 t)
abbrev KT(H:Hp):List (List Key×V)->List (List Key×Addr×Value)->Prop:=Paired λp q=>p.1=q.1/\H q.2.1=some (.tup (p.1.map kV))/\RelV p.2 q.2.2
theorem KT.val{H:Hp}{kvs:List (List Key×V)}{d:List (List Key×Addr×Value)}(r:KT H kvs d)(k:List Key):RelO (valV kvs k) ((atKey d k).map (·.2)):=by
 induction r with
 |nil=>exact True.intro
 |@cons p q ps a h t f=>
  obtain⟨h1,_,h2⟩:=h
  by_cases e:p.1=k
  ·have c:q.1=k:=h1.symm.trans e;have b:atKey (q::a) k=some q.2:=by simp[atKey,Qzd,c]
   rw[qx1 e,b]; exact h2
  ·have c:¬ q.1=k:=λz=>e (h1.trans z);have b:atKey (q::a) k=atKey a k:=by simp[atKey,Qzd,c]
   rw[qx2 e,b]; exact f
theorem KT.repl{H:Hp}{kvs:List (List Key×V)}{b:List (List Key×Addr×Value)}(r:KT H kvs b)(k:List Key){y:V}{u:Value}(c:RelV y u):
  KT H (kvs.map λa=>if a.1=k then(a.1,y) else a) (b.map (putAt k u)):=by
 induction r with
 |nil=>exact .nil
 |@cons p q ps g h t d=>
  rw[Qq3,Qq3];refine .cons ?_ d;obtain⟨h1,h2,f⟩:=h;unfold putAt
  by_cases e:p.1=k
  ·rw[Z3 e,Z3 (h1.symm.trans e)]; exact⟨h1,h2,c⟩
  ·rw[Z2 e,Z2 (λz=>e (h1.trans z))]; exact⟨h1,h2,f⟩
theorem KT.put{H:Hp}{kvs:List (List Key×V)}{a:List (List Key×Addr×Value)}(r:KT H kvs a)(k:List Key){b:Addr}{y:V}{u:Value}(f:H b=some (.tup (k.map kV)))(c:RelV y u):
  KT H (putK kvs k y) (storedH a k b u):=by
 have e:(kvs.any λd=>decide (d.1=k))=(atKey a k).isSome:=by
  rw[qyc,(r.val k).isSome_eq,Qjf]
 unfold putK storedH;rw[e]
 by_cases q:(atKey a k).isSome=true
 ·rw[Z3 q,Z3 q]; exact r.repl k c
 ·rw[Z2 q,Z2 q]; exact Paired.snoc r ⟨rfl,f,c⟩
theorem KT.keeps{H H':Hp}{kvs:List (List Key×V)}{xs:List (List Key×Addr×Value)}(r:KT H kvs xs)(a:∀b ys,H b=some (.tup ys)->H' b=some (.tup ys)):KT H' kvs xs:=
 Paired.mapP r λ_ _ z=>⟨z.1,a _ _ z.2.1,z.2.2⟩
section
variable {P:Program}{w:Qk}{H:Hp}{h:Heap}{a:Addr}
theorem rd_of{u:HO}(ok:HOk P w H h)(e:Rd H a u):ObjOk P w H h a u:=e.ok ok
theorem qwz{kvs:List (Key×V)}(ok:HOk P w H h)(e:Rd H a (.dK kvs)):kvs.length<=sizeLine/\(a==Qi)=false/\∃vs,KV kvs vs/\h.DictOf (mixKind P w) a vs:=
 show ObjOk P w H h a (.dK kvs) from rd_of ok e
theorem dk_of{kvs:List (Key×V)}(ok:HOk P w H h)(e:H a=some (.dK kvs)):kvs.length<=sizeLine/\(a==Qi)=false/\∃vs,KV kvs vs/\h.DictOf (mixKind P w) a vs:=qwz ok (.inl e)
theorem qqt{b:List Key}(ok:HOk P w H h)(e:H a=some (.tup (b.map kV))):(tupleKind (mixKind P w)).is h b a:=by
 obtain⟨_,c,r,o,h1,h2,n,d⟩:=(show ObjOk P w H h a (.tup (b.map kV)) from ok a _ e)
 exact⟨o,c.toArray,n,h1,h2,d,by simpa using qv1 r⟩
theorem qw8{kvs:List (List Key×V)}(ok:HOk P w H h)(e:Rd H a (.dT kvs)):kvs.length<=sizeLine/\(a==Qi)=false/\
  ∃xs,KT H kvs xs/\h.DictOfH (tupleKind (mixKind P w)) a xs:=by
 obtain⟨z,y,xs,r,o,es,j,h1,h2,i,g,f⟩:=(show ObjOk P w H h a (.dT kvs) from rd_of ok e)
 refine⟨z,y,xs,r,o,es,j,h1,h2,i,g,λx b=>?_,f⟩;have all:∀{l:List (List Key×V)}{m:List (List Key×Addr×Value)},KT H l m->∀x∈m,(tupleKind (mixKind P w)).is h x.1 x.2.1:=by
  intro l m q
  induction q with
  |nil=>intro x b; exact nomatch b
  |@cons p q ps k c t d=>
   intro x b;rcases Qqb.mp b with e|b
   ·subst e;exact qqt ok (by rw[<- c.1]; exact c.2.1)
   ·exact d x b
 exact all r x b
theorem dt_of{kvs:List (List Key×V)}(ok:HOk P w H h)(e:H a=some (.dT kvs)):kvs.length<=sizeLine/\(a==Qi)=false/\
  ∃xs,KT H kvs xs/\h.DictOfH (tupleKind (mixKind P w)) a xs:=qw8 ok (.inl e)
end
def DGet(H:Hp)(a:Addr)(y:V)(r:Option V):Prop:=
 (∃kvs k,Rd H a (.dK kvs)/\y=kV k/\r=valV kvs k)\/∃kvs k b,Rd H a (.dT kvs)/\y=.ref b/\H b=some (.tup (k.map kV))/\r=valV kvs k
def DPut(H:Hp)(a:Addr)(y v:V)(H':Hp):Prop:=
 (∃kvs k,H a=some (.dK kvs)/\y=kV k/\kvs.length<sizeLine/\H'=upd H a (.dK (putK kvs k v)))\/
 ∃kvs k b,H a=some (.dT kvs)/\y=.ref b/\H b=some (.tup (k.map kV))/\kvs.length<sizeLine/\H'=upd H a (.dT (putK kvs k v))
theorem DPut.k{H:Hp}{a:Addr}{kvs:List (Key×V)}{k:Key}{v:V}(e:H a=some (.dK kvs))(b:kvs.length<sizeLine):DPut H a (kV k) v (upd H a (.dK (putK kvs k v))):=.inl ⟨kvs,k,e,rfl,b,rfl⟩
section
variable {X:Cx}{pins:List (Addr×Obj)}{σ:St}{H:Hp}{s:Qz}{a:Addr}{y v:V}{u r:Value}{o:Option V}{A:Qv}{E:Value->Qz->Prop}
theorem Inv.big(I:Inv X pins σ H s):Qi<s.heap.objs.size:=by
 have h:mainGlobals<s.heap.objs.size:=(I.mod.glob.keeps I.bk).lt;exact Nat.lt_trans (by decide) h
theorem qev{Q:Value->Qz->Prop}(t:A.units+1<cLine)(I:Inv X pins σ H s)(g:DGet H a y (some v))(q:RelV y u)(h:∀f s',Inv X pins σ H s'->RelV v f->Q f s'):
  wpAny (model X.prog X.w) A (Zk (.ref a) u) Q E s:=by
 rcases g with⟨kvs,k,e,m,l⟩|⟨kvs,k,b,e,m,x,l⟩
 ·subst m;obtain⟨z,hd,vs,d,n⟩:=qwz I.hok e;obtain⟨f,i,c⟩:=RelO.some_of (v:=v) (o:=valueAt vs k) (by rw[l]; exact d.val k);exact wpAny_getItem_of (qj3 q) n.mapOf i (h f _ (I.tok _) c)
 ·subst m;cases (show u=Value.ref b from q);obtain⟨z,hd,xs,d,n⟩:=qw8 I.hok e;obtain⟨f,i,c⟩:=RelO.some_of (v:=v) (o:=(atKey xs k).map (·.2)) (by rw[l]; exact d.val k);obtain⟨p,w,j⟩:=Qqc.mp i;refine wpAny_getItem_heap (Q9 t) (qqt I.hok x) n w ?_;rw[j];exact h f _ (I.tok _) c
theorem d_in{Q:Value->Qz->Prop}(j:A.units+1<cLine)(I:Inv X pins σ H s)(g:DGet H a y o)(i:RelV y u)(h:∀s',Inv X pins σ H s'->Q (.bool o.isSome) s'):
  wpAny (model X.prog X.w) A (Qg .In u (.ref a)) Q E s:=by
 rcases g with⟨kvs,k,e,d,l⟩|⟨kvs,k,b,e,d,m,l⟩
 ·subst d;obtain⟨z,hd,vs,c,f⟩:=qwz I.hok e;refine wpAny_in_of (qj3 i) hd f.mapOf ?_;rw[<- (c.val k).isSome_eq,<- l];exact h _ (I.tok _)
 ·subst d;cases (show u=Value.ref b from i);obtain⟨z,hd,xs,c,f⟩:=qw8 I.hok e;refine wpAny_in_heap (Q9 j) (qqt I.hok m) hd f ?_;have q:=(c.val k).isSome_eq;rw[Qjf]at q;rw[<- q,<- l];exact h _ (I.tok _)
theorem qml{Q:Value->Qz->Prop}(j:A.units+1<cLine)(I:Inv X pins σ H s)(g:DGet H a y o)(i:RelV y u)(h:∀s',Inv X pins σ H s'->Q (.bool (!o.isSome)) s'):
  wpAny (model X.prog X.w) A (Qg .NotIn u (.ref a)) Q E s:=by
 rcases g with⟨kvs,k,e,d,l⟩|⟨kvs,k,b,e,d,m,l⟩
 ·subst d;obtain⟨z,hd,vs,c,f⟩:=qwz I.hok e;refine wpAny_notIn_of (qj3 i) hd f.mapOf ?_;rw[<- (c.val k).isSome_eq,<- l];exact h _ (I.tok _)
 ·subst d;cases (show u=Value.ref b from i);obtain⟨z,hd,xs,c,f⟩:=qw8 I.hok e;refine wpAny_notIn_heap (Q9 j) (qqt I.hok m) hd f ?_;have q:=(c.val k).isSome_eq;rw[Qjf]at q;rw[<- q,<- l];exact h _ (I.tok _)
theorem qyj{h':Heap}{t':Nat}{ob:HO}(I:Inv X pins σ H s)(c:Mut (H a))(d:Heap.SameBut a s.heap h')(f:∃q,h'.get? a=some q)(new:ObjOk X.prog X.w (upd H a ob) h' a ob):
  Inv X pins σ (upd H a ob) { s with heap:=h',toks:=t' }:=
 I.write (x:=a) (e:=a) c (.inl rfl) (λb q g z=>(d.2 b g).trans z) f new
theorem dk_new{P:Program}{w:Qk}{H':Hp}{h':Heap}{kvs:List (Key×V)}{vs:List (Key×Value)}(z:kvs.length<=sizeLine)(hd:(a==Qi)=false)(b:KV kvs vs)(dd:h'.DictOf (mixKind P w) a vs):
  ObjOk P w H' h' a (.dK kvs):=⟨z,hd,vs,b,dd⟩
theorem qek{H':Hp}{Q:Unit->Qz->Prop}(G:A.units+1<cLine)(I:Inv X pins σ H s)(g:DPut H a y v H')(x:RelV y u)(C:RelV v r)(h:∀s',Inv X pins σ H' s'->Q () s'):
  wpAny (model X.prog X.w) A (setItem (.ref a) u r) Q E s:=by
 rcases g with⟨kvs,k,e,p,l,t⟩|⟨kvs,k,b,e,p,F,l,t⟩
 ·subst p t;obtain⟨z,hd,vs,d,w⟩:=dk_of I.hok e;have j:vs.length<=sizeLine:=by rw[<- d.length]; exact z
  have n:(putK kvs k v).length<=sizeLine:=by have:=qq1 kvs k v; omega
  refine wpAny_setItem_pairs (hsz:=j) (qj3 x) w λh' f m=>h _ ?_;have K:∃q,h'.get? a=some q:=let ⟨q,_,_,i,_⟩:=f; ⟨q,i⟩;exact qyj I (by rw[e]; exact True.intro) m K (dk_new n hd (d.put k C) f)
 ·subst p t;cases (show u=Value.ref b from x);obtain⟨z,hd,xs,d,w⟩:=dt_of I.hok e;have j:xs.length<=sizeLine:=by rw[<- Paired.length d]; exact z
  have n:(putK kvs k v).length<=sizeLine:=by have:=qq1 kvs k v; omega
  refine wpAny_setItem_heap (hsz:=j) (Q9 G) (qqt I.hok F) w λh' f m=>h _ ?_;obtain⟨q,es,S,i,h2,R,P,_,N⟩:=f;refine qyj I (by rw[e]; exact True.intro) m ⟨q,i⟩ ⟨n,hd,_,(d.put k F C).keeps λc ys D=>?_,q,es,S,i,h2,R,P,N⟩;rw[qzx (qzr D e (λz=>nomatch z))];exact D
end
section
variable {X:Cx}{pins:List (Addr×Obj)}{σ:St}{H:Hp}{s:Qz}{a:Addr}{kvs:List (Key×V)}{k:Key}{u:Value}{A:Qv}{E:Value->Qz->Prop}
end
def NoSl(i:Qx):Prop:=∀ov iv,subscripted i false ov iv=operate [ov,iv] (Zk ov iv)
theorem qcy{prog:Program}{w:Qk}{A:Qv}{E:Value->Qz->Prop}{s:Qz}{env:Env}{b a:Qx}{pos:Pos}{T l:String}{Q:Value->Qz->Prop}
  (n:typeLookup (.type T) "__getitem__" = pure (some (.builtin l))) (m:NoSl a)
  (h:wpAny (model prog w) A (Qw b env) (λo e=>wpAny (model prog w) A (Qw a env) (λi s₂=>s₂.TypeIs o T/\wpAny (model prog w) A (Zk o i) Q E s₂) E e) E s) :
  wpAny (model prog w) A (Qw (.Subscript b a pos) env) Q E s:=by
 refine Subscript_ (Qy h (λo e j=>Qy j (λi s₂ c=>?_) λ_ _ x=>x) λ_ _ x=>x);obtain⟨k,c⟩:=c;unfold subscriptTail;refine Qq ?_;rw[getitemInPython_of_ne k.not_modules];refine Qq (wpAny_specialOf k n ?_);have f:wpAny (model prog w) A (subscripted a false o i) (λr d=>wpAny (model prog w) A (letTemporaryGo b o r >>= λ_=>pure r) Q E d) E s₂:=by
  rw[m o i];exact wpAny_operating (Qy c (λr d g=>Qq (wpAny_letTemporaryGo (Qj g))) λ_ _ x=>x)
 first
  |exact Qj (Qq f)
  |exact Qq (Qj (Qq f))
  |exact Qq f
theorem qyq{X:Cx}{c:List (Addr×Obj)}{f:St}{H:Hp}{s:Qz}{a:Addr}{y:V}{o:Option V}(I:Inv X c f H s)(g:DGet H a y o):s.TypeIs (.ref a) "dict":=by
 rcases g with⟨kvs,k,e,_,_⟩|⟨kvs,k,b,e,_,_,_⟩
 ·obtain⟨_,_,vs,_,d⟩:=qwz I.hok e;exact d.typeIs
 ·obtain⟨_,_,xs,_,d⟩:=qw8 I.hok e;exact d.typeIs
noncomputable def tDGet(td ty:TE):TE:=λσ H Q=>td σ H λx H1=>ty σ H1 λy H2=>∃a v,x=.ref a/\DGet H2 a y (some v)/\Q v H2
noncomputable def tDIn(ty td:TE):TE:=λσ H Q=>ty σ H λy H1=>td σ H1 λx H2=>∃a o,x=.ref a/\DGet H2 a y o/\Q (.bl o.isSome) H2
noncomputable def qcv(ty td:TE):TE:=λσ H Q=>ty σ H λy H1=>td σ H1 λx H2=>∃a o,x=.ref a/\DGet H2 a y o/\Q (.bl (!o.isSome)) H2
noncomputable def sDPut(td ty tv:TE):TS:=λD σ H=>tv σ H λv H1=>td σ H1 λx H2=>ty σ H2 λy H3=>∃a H4,x=.ref a/\DPut H3 a y v H4/\D.nx σ H4
section
variable {X:Cx}{o i e value:Qx}{pos pos' tpos:Pos}{td ty tv:TE}
theorem qc5(m:X.A.units+1<cLine)(p:PE X o td)(q:PE X i ty)(n:NoSl i):PE X (.Subscript o i pos) (tDGet td ty):=by
 intro pins s σ H Q I h;refine qcy PySem.F.slot_dict_getitem.lookup n (thn (p pins s σ H _ I h) λu d ⟨x,H1,t,j,l⟩=>thn (q pins d σ H1 _ t l) λC A ⟨y,H2,c,f,a,v,ex,g,k⟩=>?_);subst ex;obtain rfl:u=Value.ref a:=j;exact⟨qyq c g,qev m c g f λw z r b=>⟨v,H2,r,b,k⟩⟩
theorem pc_din(l:X.A.units+1<cLine)(n:PE X i ty)(m:PE X o td):PC X .In i o (tDIn ty td):=by
 intro pins s σ H Q I h;refine thn (n pins s σ H _ I h) λw b ⟨y,H1,r,c,j⟩=>thn (m pins b σ H1 _ r j) λu v ⟨x,H2,q,d,a,k,ex,g,f⟩=>?_;subst ex;obtain rfl:u=Value.ref a:=d;exact d_in l q g c λt p=>⟨.bl k.isSome,H2,p,rfl,f⟩
theorem qc8(l:X.A.units+1<cLine)(n:PE X i ty)(m:PE X o td):PC X .NotIn i o (qcv ty td):=by
 intro pins s σ H Q I h;refine thn (n pins s σ H _ I h) λw b ⟨y,H1,r,c,j⟩=>thn (m pins b σ H1 _ r j) λu v ⟨x,H2,q,d,a,k,ex,g,f⟩=>?_;subst ex;obtain rfl:u=Value.ref a:=d;exact qml l q g c λt p=>⟨.bl (!k.isSome),H2,p,rfl,f⟩
theorem qlx(p:X.A.units+1<cLine)(t:PE X o td)(w:PE X i ty)(n:PE X value tv)(q:swapsWith value (some (.Subscript o i pos')) pos.line X.env=pure false):
  PS X (.Assign [.Subscript o i pos'] value pos) (sDPut td ty tv):=by
 intro pins s σ H D I h;refine wpAny_Assign_Subscript (thn (n pins s σ H _ I h) λr c ⟨v,H1,E,j,m⟩=>thn (t pins c σ H1 _ E m) λu b ⟨x,H2,C,f,l⟩=>thn (w pins b σ H2 _ C l) λN K ⟨y,P,A,d,a,F,ex,g,k⟩=>?_) q;subst ex;obtain rfl:u=Value.ref a:=f;exact qek p A g d j λG z=>⟨σ,F,z,k⟩
end
theorem qaf{P:Program}{w:Qk}{H:Hp}(h:Heap)(a:Qi<h.objs.size):ObjOk P w H (h.push { cls:=.type "dict",data:=.dict #[] }) h.objs.size (.dK []):=
 ⟨Qzc _,beq_eq_false_iff_ne.mpr (Ne.symm (Qq1 a)),[],.nil,Heap.DictOf.new h⟩
noncomputable def tDNewK:TE:=λ_ H Q=>∀p,H p=none->Q (.ref p) (upd H p (.dK []))
section
variable {X:Cx}{pos:Pos}
theorem pe_dnewK:PE X (.Dict [] [] pos) tDNewK:=λpins s σ H Q I h=>
 wpAny_Dict_empty ⟨.ref s.heap.objs.size,_,I.laid (a:=s.heap.objs.size) (o:=.dK []) (t':=s.toks) (λ_ _ q=>Qqz _ q) (Qqw _) (qaf s.heap I.big),rfl,h _ (I.hok.fresh (Qqw _))⟩
end
noncomputable def qyf:List (TE×TE)->St->Hp->(List (V×V)->Hp->Prop)->Prop
 |[],_,H,Q=>Q [] H
 |(tk,tv)::r,σ,H,Q=>tk σ H λx H1=>tv σ H1 λy H2=>qyf r σ H2 λps H3=>Q ((x,y)::ps) H3
abbrev VV:List (V×V)->List (Value×Value)->Prop:=Paired λp q=>RelV p.1 q.1/\RelV p.2 q.2
def PPs(X:Cx)(pos:Pos)(keys:List (Option Qx))(values:List Qx)(trs:List (TE×TE)):Prop:=
 ∀(pins:List (Addr×Obj)) (s:Qz) (σ:St) (H:Hp) (Q:List (V×V)->Hp->Prop),Inv X pins σ H s->qyf trs σ H Q->
  wpAny (model X.prog X.w) X.A (evalPairs (pairTrees keys values X.env pos)) (λvs s'=>∃ps H',Inv X pins σ H' s'/\VV ps vs/\Q ps H') X.xe s
theorem qlj{X:Cx}{pos:Pos}:PPs X pos [] [] []:=λpins s σ H Q I h=>pairTrees_nil_walk ⟨[],H,I,.nil,h⟩
theorem qf5{X:Cx}{pos:Pos}{k v:Qx}{e:List (Option Qx)}{vs:List Qx}{d c:TE}{a:List (TE×TE)}(q:PE X k d)(o:PE X v c)(p:PPs X pos e vs a):
  PPs X pos (some k::e) (v::vs) ((d,c)::a):=λpins s σ H Q I h=>
 pairTrees_cons_walk (thn (q pins s σ H _ I h) λu g ⟨x,H1,w,j,n⟩=>thn (o pins g σ H1 _ w n) λw2 f ⟨y,H2,t,i,m⟩=>
  thn (p pins f σ H2 _ t m) λws A ⟨ps,z,r,b,l⟩=>⟨(x,y)::ps,z,r,.cons ⟨j,i⟩ b,l⟩)
noncomputable def qkj(kvs more:List (Key×V)):List (Key×V):=more.foldl (λacc kv=>putK acc kv.1 kv.2) kvs
theorem KV.merge:∀{more:List (Key×V)}{rs:List (Key×Value)}{kvs:List (Key×V)}{vs:List (Key×Value)},KV more rs->KV kvs vs->KV (qkj kvs more) (merged vs rs):=by
 intro more rs kvs vs r;unfold KV at r
 induction r generalizing kvs vs with
 |nil=>intro q; exact q
 |@cons p q ps c h t b=>
  intro a;have e:KV (putK kvs p.1 p.2) (stored vs q.1 q.2):=by
   have:=a.put p.1 h.2;rw[<- h.1]; exact this
  exact b e
theorem qxj:∀(more kvs:List (Key×V)),(qkj kvs more).length<=kvs.length+more.length
 |[],kvs=>by show kvs.length<=kvs.length+0; omega
 |p::r,kvs=>by
  have h1:=qxj r (putK kvs p.1 p.2);have h2:=qq1 kvs p.1 p.2;show(qkj (putK kvs p.1 p.2) r).length<=_;rw[Qqh]; omega
theorem qkf{P:Program}{w:Qk}:∀{kvs:List (Key×V)}{e:List (Value×Value)},VV (kvs.map λf=>(kV f.1,f.2)) e->∃d,Carries (mixKind P w) e d/\KV kvs d
 |[],_,r=>by rw[Qjn]at r; cases r; exact⟨[],True.intro,.nil⟩
 |p::kvs,_,r=>by
  rw[Qq3]at r
  cases r with
  |@cons a b g bs h t=>
   obtain⟨d,c,q⟩:=qkf (P:=P) (w:=w) t;obtain⟨b1,b2⟩:=b;exact⟨(p.1,b2)::d,⟨qj3 h.1,rfl,c⟩,.cons ⟨rfl,h.2⟩ q⟩
noncomputable def tDisp(trs:List (TE×TE)):TE:=λσ H Q=>∀p,H p=none->qyf trs σ (upd H p (.dK [])) λps H2=>H2 p=some (.dK [])/\∃kvs:List (Key×V),ps=kvs.map (λkv=>(kV kv.1,kv.2))/\kvs.length<=15/\Q (.ref p) (upd H2 p (.dK (qkj [] kvs)))
theorem qlf{X:Cx}{pos:Pos}{keys:List (Option Qx)}{b:List Qx}{d:List (TE×TE)}(h:PPs X pos keys b d)(f:keys.all (·.isSome)=true)(x:keys.length=b.length)(A:keys≠[])
  (j:keys.length<=15):PE X (.Dict keys b pos) (tDisp d):=by
 intro pins s σ H Q I q;have hn:=I.hok.fresh (Qqw s.heap.objs.size);have E:=I.laid (a:=s.heap.objs.size) (o:=.dK []) (h':=s.heap.push { cls:=.type "dict",data:=.dict #[] }) (t':=s.toks) (λ_ _ q=>Qqz _ q) (Qqw _) (qaf s.heap I.big);refine wpAny_Dict_walk (knd:=mixKind X.prog X.w) f x A j (thn (h pins _ σ _ _ E (q _ hn)) λws F ⟨ps,H2,k,i,e,kvs,C,lk,r⟩=>?_);subst C;obtain⟨m,c,n⟩:=qkf (P:=X.prog) (w:=X.w) i;obtain⟨z,hd,l,p,D⟩:=dk_of k.hok e;cases p;refine⟨m,c,D,λh' g u=>⟨.ref s.heap.objs.size,_,?_,rfl,r⟩⟩;have t:(qkj [] kvs).length<=sizeLine:=by
  have h1:=qxj kvs [];rw[List.length_nil]at h1;rw[Q4]; omega
 have y:∃q,h'.get? s.heap.objs.size=some q:=let ⟨q,_,_,v,_⟩:=g; ⟨q,v⟩;exact qyj k (by rw[e]; exact True.intro) u y (dk_new t hd (n.merge .nil) g)
structure M1 (X:Cx) (o:Qx) (m:Str) (apos:Pos) (e:Qx) (cpos:Pos):Prop where
 base:Zz o m X.env (Qw o X.env)=Qw o X.env
 few:((backTo cpos (starEach [e] X.env)).all (λx=>!x.1)&&(backToKw cpos (keywordEach [] X.env)).all (λx=>x.1.isSome)
  && decide (([e]:List Qx).length+([]:List Zo).length+(if ([]:List Zo).isEmpty then 0 else 1)<30))=true
 line:(apos.endLine==cpos.line)=true
 trees:backTo cpos (starEach [e] X.env)=[(false,Qw e X.env)]
def IsD(H:Hp)(a:Addr):Prop:=(∃kvs,Rd H a (.dK kvs))\/∃kvs,Rd H a (.dT kvs)
theorem isD_at{X:Cx}{c:List (Addr×Obj)}{g:St}{H:Hp}{s:Qz}{a:Addr}(I:Inv X c g H s)(d:IsD H a):
  s.TypeIs (.ref a) "dict"/\(∀b,Value.ref a=.ref b->∃ob,s.heap.get? b=some ob/\ob.dict=none)/\(a==Qi)=false:=by
 rcases d with⟨kvs,e⟩|⟨kvs,e⟩
 ·obtain⟨_,hd,vs,_,f⟩:=qwz I.hok e;refine⟨f.typeIs,λb q=>?_,hd⟩;cases q;obtain⟨ob,_,_,h1,h2,_⟩:=f;exact⟨ob,h1,h2.2.1⟩
 ·obtain⟨_,hd,xs,_,f⟩:=qw8 I.hok e;refine⟨f.typeIs,λb q=>?_,hd⟩;cases q;obtain⟨ob,_,_,h1,h2,_⟩:=f;exact⟨ob,h1,h2.2.1⟩
section
variable {X:Cx}{pins:List (Addr×Obj)}{σ:St}{H:Hp}{s:Qz}{a:Addr}{y d:V}{u r:Value}{o:Option V}{A:Qv}{E:Value->Qz->Prop}
theorem d_get1{Q:Value->Qz->Prop}(n:A.units+1<cLine)(I:Inv X pins σ H s)(g:DGet H a y o)(m:RelV y u)(h:∀j s',Inv X pins σ H s'->RelV (o.getD .non) j->Q j s'):
  wpAny (model X.prog X.w) A (call (.builtin "dict.get") [.ref a,u]) Q E s:=by
 rcases g with⟨kvs,k,e,i,l⟩|⟨kvs,k,b,e,i,p,l⟩
 ·subst i;obtain⟨z,hd,vs,c,f⟩:=qwz I.hok e;refine call_meetsIn PySem.F.slot_dict_get f.typeIs PySem.F.entry_dict_get (PySem.F.args_dict_get_2 _ _) (meets_dict_get (mixKind X.prog X.w) a (qj3 m) hd) ⟨_,f.mapOf,h _ _ (I.tok _) ?_⟩;rw[l];exact(c.val k).getD rfl
 ·subst i;cases (show u=Value.ref b from m);obtain⟨z,hd,xs,c,f⟩:=qw8 I.hok e;refine call_meetsIn PySem.F.slot_dict_get f.typeIs PySem.F.entry_dict_get (PySem.F.args_dict_get_2 _ _) (meetsH_dict_get (tupleKind (mixKind X.prog X.w)) a b hd) ⟨Q9 n,k,xs,qqt I.hok p,f,h _ _ (I.tok _) ?_⟩;rw[l];exact(c.val k).getD rfl
end
noncomputable def tDGet1(td ty:TE):TE:=λσ H Q=>td σ H λx H1=>∃a,x=.ref a/\IsD H1 a/\ty σ H1 λy H2=>∃o,DGet H2 a y o/\Q (o.getD .non) H2
section
variable {X:Cx}{o e f:Qx}{apos cpos:Pos}{td ty tx:TE}
theorem qgj(r:X.A.units+1<cLine)(t:PE X o td)(v:PE X e ty)(m:M1 X o "get" apos e cpos):PE X (.Call (.Attribute o "get" apos) [e] [] cpos) (tDGet1 td ty):=by
 intro pins s σ H Q I h;refine wpAny_Call_method m.base m.few m.line PySem.F.plainAttrs_dict PySem.F.slot_dict_get PySem.F.type_dict_get (thn (t pins s σ H _ I h) λu k ⟨x,H1,c,n,a,ex,d,q⟩=>?_);subst ex;obtain rfl:u=Value.ref a:=n;obtain⟨j,i,_⟩:=isD_at c d;refine⟨j,i,?_⟩;rw[m.trees];refine Calls.callWith_builtin rfl (Calls.evalArgs_plain (Calls.spliced_cons (thn (v pins k σ H1 _ c q) λF D ⟨y,H2,z,l,E,g,p⟩=>Calls.spliced_nil ?_)));exact d_get1 r z g l λA C w b=>⟨_,H2,w,b,p⟩
end
section
variable {X:Cx}{pins:List (Addr×Obj)}{σ:St}{H:Hp}{s:Qz}{a:Addr}{kvs:List (Key×V)}{A:Qv}{E:Value->Qz->Prop}
end
section
variable {X:Cx}{pins:List (Addr×Obj)}{σ:St}{H:Hp}{s:Qz}{a:Addr}{y:V}{u:Value}{A:Qv}{E:Value->Qz->Prop}
end
end L2
end
section
namespace M
open PySem (Str Operator CmpOp)
inductive D where
 |non|bl (b:Bool)|int (i:Int)|str (s:Str)|tup (ds:List D)|lst (ds:List D)|loc (l:Nat)
 deriving Inhabited
inductive Cell where
 |lst (w:Bool) (ds:List D)
 |dic (w:Bool) (kvs:List (D×D))
 |obj (C:Nat) (fs:List (Str×D))
 deriving Inhabited
abbrev Store:=List Cell
abbrev Sl:=List (Option D)
noncomputable def lim:Nat:=16777216
inductive Ty where
 |non|bl|int|str|tup|lst
 deriving DecidableEq
noncomputable def Ty.name:Ty->String
 |.non=>"NoneType"
 |.bl=>"bool"
 |.int=>"int"
 |.str=>"str"
 |.tup=>"tuple"
 |.lst=>"list"
inductive Bq where
 |len|min|tuple|list|all|sorted|any|int|max
inductive Mt where
 |append|extend|index|insert
inductive T where
 |var (i:Nat)
 |tup (is:List Nat)
noncomputable def T.slots:T->List Nat
 |.var i=>[i]
 |.tup is=>is
inductive E where
 |var (i:Nat)
 |lit (d:D)
 |glo (x:Str) (d:D)
 |bin (op:Za) (a b:E)
 |neg (a:E)
 |not (a:E)
 |cmp (op:CmpOp) (a b:E)
 |cmp2 (op op':CmpOp) (a b c:E)
 |and (a b:E)
 |or (a b:E)
 |tup (es:List E)
 |lst (es:List E)
 |idx (a b:E)
 |sli (a:E) (lo hi:Option E)
 |call (f:Nat) (es:List E)
 |bcall (f:Bq) (es:List E)
 |isi (a:E) (ts:List Ty) (many:Bool)
 |meth (a:E) (m:Mt) (es:List E)
 |gc (a:E)
 |rng1 (a:E)
 |zip (a b:E)
 |dic (es:List E)
 |didx (a b:E)
 |din (neg:Bool) (a b:E)
 |dgt (a b:E)
 |gidx (x:Str) (ks:List Str) (ds:List D) (b:E)
 |gin (neg:Bool) (x:Str) (ks:List Str) (b:E)
 |lenset (a:E)
 |comp (t:T) (it:E) (test:Option E) (elt:E) (src:List (Option Nat))
 |attr (C:Nat) (a:E) (f:Str)
 |mcall (C f:Nat) (m:Str) (a:E) (es:List E)
 |new (C f:Nat) (es:List E)
inductive S where
 |set (t:T) (e:E)
 |dset (a i e:E)
 |setA (C:Nat) (a:E) (f:Str) (e:E)
 |ford (t:T) (a:E) (body:List S)
 |bad
 |rais (x:Str)
 |whil (c:E) (body:List S)
 |brk
 |six (a i e:E)
 |expr (e:E)
 |ret (e:E)
 |ite (c:E) (a b:List S)
 |forr (t:T) (it:E) (body:List S)
structure Fn where
 np:Nat
 nl:Nat
 body:List S
mutual
noncomputable def eqT:D->D->Bool
 |.non,.non=>true
 |.bl a,.bl b=>a==b
 |.bl a,.int j=>(if a then 1 else 0)==j
 |.int i,.bl b=>i==(if b then 1 else 0)
 |.int i,.int j=>i==j
 |.str a,.str b=>a==b
 |.tup a,.tup b=>eqTs a b
 |_,_=>false
noncomputable def eqTs:List D->List D->Bool
 |[],[]=>true
 |a::as,b::bs=>eqT a b&&eqTs as bs
 |_,_=>false
end
noncomputable def isI:D->Bool
 |.int _=>true
 |_=>false
noncomputable def flat(_:Nat):D->Bool
 |.int _=>true
 |.str _=>true
 |.tup ds=>ds.all isI
 |_=>false
noncomputable abbrev flats(n:Nat)(ds:List D):Bool:=ds.all (flat n)
noncomputable def mulOk(i j:Int):Bool:=(decide (-(2 ^ 64)<i)&&decide (i<2 ^ 64))||(decide (-(2 ^ 64)<j)&&decide (j<2 ^ 64))
noncomputable def listAt(st:Store)(l:Nat):Option (List D):=match st[l]? with|some (.lst _ ds)=>some ds|_=>none
noncomputable def wlistAt(st:Store)(l:Nat):Option (List D):=match st[l]? with|some (.lst true ds)=>some ds|_=>none
noncomputable def seqAt(st:Store):D->Option (List D)
 |.loc l=>listAt st l
 |.lst ds=>some ds
 |_=>none
mutual
/-- no place of the store within -/
noncomputable def noLoc:D->Bool
 |.loc _=>false
 |.tup ds=>noLocs ds
 |.lst ds=>noLocs ds
 |_=>true
noncomputable def noLocs:List D->Bool
 |[]=>true
 |d::ds=>noLoc d&&noLocs ds
end
mutual
/-- every place of the store within is one of the first n -/
noncomputable def lt(n:Nat):D->Bool
 |.loc l=>Nat.blt l n
 |.tup ds=>lts n ds
 |.lst ds=>lts n ds
 |_=>true
noncomputable def lts(n:Nat):List D->Bool
 |[]=>true
 |d::ds=>lt n d&&lts n ds
end
noncomputable def ltC(n:Nat):Cell->Bool
 |.lst _ ds=>lts n ds
 |.dic _ kvs=>kvs.all λp=>lt n p.2
 |.obj _ fs=>fs.all λp=>lt n p.2
noncomputable def gcX(n:Nat)(p:D×Store):D×Store:=
 if noLoc p.1 then(p.1,p.2.take n) else match p.1 with
  |.loc l=>if n<=l then(match p.2[l]? with
   |some (.lst true ds)=>if noLocs ds then(.lst ds,p.2.take n) else p
   |_=>p) else p
  |_=>p
open Classical in
noncomputable def gcD(st:Store)(p:D×Store):D×Store:=
 if (p.2.take st.length).all (ltC st.length)=true then gcX st.length p else if p.2.take st.length=st then gcX st.length p else p
noncomputable def dicAt(st:Store)(l:Nat):Option (List (D×D)):=match st[l]? with|some (.dic _ kvs)=>some kvs|_=>none
noncomputable def wdicAt(st:Store)(l:Nat):Option (List (D×D)):=match st[l]? with|some (.dic true kvs)=>some kvs|_=>none
noncomputable def objAt(st:Store)(C:Nat):D->Option (List (Str×D))
 |.loc l=>match st[l]? with|some (.obj C' fs)=>if C'=C then some fs else none|_=>none
 |_=>none
noncomputable def putA(f:Str)(v:D):List (Str×D)->List (Str×D)
 |[]=>[(f,v)]
 |(g,x)::r=>if g=f then(g,v)::r else(g,x)::putA f v r
noncomputable def keysOf(kvs:List (D×D)):List D:=kvs.map (·.1)
noncomputable def dkeys(st:Store):D->Option (List D)
 |.loc l=>(dicAt st l).map keysOf
 |_=>none
noncomputable def isKey:D->Bool
 |.int _=>true
 |.str _=>true
 |_=>false
noncomputable def dget(kvs:List (D×D))(k:D):Option D:=(kvs.find? λp=>eqT p.1 k).map (·.2)
noncomputable def dput(kvs:List (D×D))(k v:D):List (D×D):=if kvs.any λp=>eqT p.1 k then kvs.map (λp=>if eqT p.1 k then(p.1,v) else p) else kvs++[(k,v)]
noncomputable def pairUp:List D->Option (List (D×D))
 |[]=>some []
 |k::v::r=>if isKey k then(pairUp r).map ((k,v)::·) else none
 |_=>none
noncomputable def dall(kvs:List (D×D)):List (D×D):=kvs.foldl (λacc p=>dput acc p.1 p.2) []
noncomputable def alloc(st:Store)(c:Cell):D×Store:=(.loc st.length,st++[c])
noncomputable def binop(st:Store):Za->D->D->Option (D×Store)
 |.Add,.int i,.int j=>some (.int (i+j),st)
 |.Add,.tup a,.tup b=>if a.isEmpty||decide (lim<a.length+b.length) then none else some (.tup (a++b),st)
 |.Add,a,b=>(seqAt st a).bind λx=>(seqAt st b).bind λy=>if lim<x.length+y.length then none else some (alloc st (.lst true (x++y)))
 |.Sub,.int i,.int j=>some (.int (i - j),st)
 |.Mult,.int i,.int j=>if mulOk i j then some (.int (i*j),st) else none
 |.Mult,.tup a,.int k=>if decide (k < -(2 ^ 62))||decide (2 ^ 62<=k)||decide (lim<a.length*k.toNat) then none else some (.tup (List.replicate k.toNat a).flatten,st)
 |.Mult,.loc l,.int k=>(wlistAt st l).bind λa=>if decide (k < -(2 ^ 62))||decide (2 ^ 62<=k)||decide (lim<a.length*k.toNat) then none else some (alloc st (.lst true (List.replicate k.toNat a).flatten))
 |.FloorDiv,.int i,.int j=>if 0<j/\j<2 ^ 64 then some (.int (i / j),st) else none
 |.Mod,.int i,.int j=>if 0<j then some (.int (i % j),st) else none
 |.Pow,.int i,.int j=>if 0<=j/\j<=1000/\i.natAbs<2 ^ 64 then some (.int (i ^ j.toNat),st) else none
 |_,_,_=>none
noncomputable def addK(S:List (List Int))(k:List Int):List (List Int):=if k∈S then S else S++[k]
noncomputable def distinct(ks:List (List Int)):List (List Int):=ks.foldl addK []
noncomputable def keyD:D->Option (List Int)
 |.tup ds=>ds.mapM λd=>match d with|.int i=>some i|_=>none
 |_=>none
noncomputable def qk1:D->Option D
 |.tup ds=>(ds.mapM keyD).bind λks=>if ds.length<=16 then some (.int (distinct ks).length) else none
 |_=>none
noncomputable def ixN(n:Nat)(i:Int):Option Nat:=if 0<=i then(if i<n then some i.toNat else none) else if -(n:Int)<=i then some (i+n).toNat else none
noncomputable def atI{α:Type}(xs:List α)(i:Int):Option α:=(ixN xs.length i).bind λj=>xs[j]?
noncomputable def idxD(st:Store):D->D->Option D
 |.tup ds,.int i=>atI ds i
 |d,.int i=>(seqAt st d).bind λds=>atI ds i
 |_,_=>none
noncomputable def cutIx(n d:Nat):Option Int->Nat
 |none=>d
 |some v=>if v<0 then(v+(n:Int)).toNat else min v.toNat n
noncomputable def cut{α:Type}(xs:List α)(lo hi:Option Int):List α:=(xs.drop (cutIx xs.length 0 lo)).take (cutIx xs.length xs.length hi - cutIx xs.length 0 lo)
noncomputable def sliD(st:Store):D->Option Int->Option Int->Option (D×Store)
 |.tup ds,lo,hi=>some (.tup (cut ds lo hi),st)
 |d,lo,hi=>(seqAt st d).map λds=>alloc st (.lst true (cut ds lo hi))
noncomputable def inD(st:Store)(x:D):D->Option Bool
 |.tup ds=>if flat 9 x&&flats 9 ds then some (ds.any λy=>eqT y x) else none
 |d=>(seqAt st d).bind λds=>if flat 9 x&&flats 9 ds then some (ds.any λy=>eqT y x) else none
noncomputable def isNon:D->Bool
 |.non=>true
 |_=>false
noncomputable def eqD(_:Store)(x y:D):Option Bool:=match x,y with
 |.bl a,.bl b=>some (a==b)
 |.non,.non=>some true
 |x,y=>if flat 9 x&&(flat 9 y||isNon y) then some (eqT x y) else none
noncomputable def neD(_:Store):D->D->Option Bool
 |.int i,.int j=>some (!(i==j))
 |.str i,.str j=>some (!(i==j))
 |_,_=>none
noncomputable def cmpD(st:Store):CmpOp->D->D->Option Bool
 |.Lt,.int i,.int j=>some (decide (i<j))
 |.LtE,.int i,.int j=>some (decide (i<=j))
 |.Gt,.int i,.int j=>some (decide (j<i))
 |.GtE,.int i,.int j=>some (decide (j<=i))
 |.Eq,x,y=>eqD st x y
 |.NotEq,x,y=>neD st x y
 |.Is,x,.non=>some (isNon x)
 |.IsNot,x,.non=>some (!isNon x)
 |.In,x,y=>inD st x y
 |.NotIn,x,y=>(inD st x y).map (!·)
 |_,_,_=>none
noncomputable def tyName(st:Store):D->Option Ty
 |.non=>some .non
 |.bl _=>some .bl
 |.int _=>some .int
 |.str _=>some .str
 |.tup _=>some .tup
 |d=>(seqAt st d).map λ_=>.lst
noncomputable def tyIs(t n:Ty):Bool:=t==n||(t==.int&&n==.bl)
noncomputable def truth(st:Store):D->Option Bool
 |.non=>some false
 |.bl b=>some b
 |.int i=>some (i != 0)
 |.tup ds=>some (!ds.isEmpty)
 |d=>(seqAt st d).map λds=>!ds.isEmpty
noncomputable def insInt(x:Int):List Int->List Int
 |[]=>[x]
 |y::r=>if x<=y then x::y::r else y::insInt x r
noncomputable def sortInt:List Int->List Int
 |[]=>[]
 |x::r=>insInt x (sortInt r)
noncomputable def asInts:List D->Option (List Int)
 |[]=>some []
 |.int i::r=>(asInts r).map (i::·)
 |_=>none
noncomputable def asBools:List D->Option (List Bool)
 |[]=>some []
 |.bl i::r=>(asBools r).map (i::·)
 |_=>none
noncomputable def bLen(st:Store):List D->Option (D×Store)
 |[.tup ds]=>some (.int ds.length,st)
 |[d]=>(seqAt st d).map λds=>(.int ds.length,st)
 |_=>none
noncomputable def bMin(st:Store):List D->Option (D×Store)
 |[.int i,.int j]=>some (.int (if j<i then j else i),st)
 |_=>none
noncomputable def bMax(st:Store):List D->Option (D×Store)
 |[.int i,.int j]=>some (.int (if j > i then j else i),st)
 |_=>none
noncomputable def bTuple(st:Store):List D->Option (D×Store)
 |[.tup ds]=>some (.tup ds,st)
 |[d]=>(seqAt st d).map λds=>(.tup ds,st)
 |_=>none
noncomputable def bList(st:Store):List D->Option (D×Store)
 |[.tup ds]=>some (alloc st (.lst true ds))
 |[d]=>((seqAt st d).or (dkeys st d)).map λds=>alloc st (.lst true ds)
 |_=>none
noncomputable def bAll(st:Store):List D->Option (D×Store)
 |[d]=>(seqAt st d).bind λds=>(asBools ds).map λbs=>(.bl (bs.all id),st)
 |_=>none
noncomputable def bAny(st:Store):List D->Option (D×Store)
 |[d]=>(seqAt st d).bind λds=>(asBools ds).map λbs=>(.bl (bs.any id),st)
 |_=>none
noncomputable def bSorted(st:Store):List D->Option (D×Store)
 |[d]=>((seqAt st d).or (dkeys st d)).bind λds=>(if 64<=ds.length then none else asInts ds).map λns=>alloc st (.lst true ((sortInt ns).map .int))
 |_=>none
noncomputable def bInt(st:Store):List D->Option (D×Store)
 |[.int i]=>some (.int i,st)
 |[.bl b]=>some (.int (if b then 1 else 0),st)
 |_=>none
noncomputable def bfun(st:Store):Bq->List D->Option (D×Store)
 |.len=>bLen st
 |.min=>bMin st
 |.tuple=>bTuple st
 |.list=>bList st
 |.all=>bAll st
 |.sorted=>bSorted st
 |.any=>bAny st
 |.max=>bMax st
 |.int=>bInt st
noncomputable def mAppend(st:Store):D->List D->Option (D×Store)
 |.loc l,[d]=>(wlistAt st l).bind λds=>if ds.length<lim then some (.non,st.set l (.lst true (ds++[d]))) else none
 |_,_=>none
noncomputable def mExtend(st:Store):D->List D->Option (D×Store)
 |.loc l,[d]=>(wlistAt st l).bind λds=>(match d with|.tup es=>some es|d=>seqAt st d).bind λes=>if ds.length+es.length<=lim then some (.non,st.set l (.lst true (ds++es))) else none
 |_,_=>none
noncomputable def mIndex(st:Store):D->List D->Option (D×Store)
 |d,[x]=>(seqAt st d).bind λds=>if flat 9 x&&flats 9 ds then(ds.findIdx? λy=>eqT y x).map λ(j:Nat)=>(.int (j:Int),st) else none
 |_,_=>none
noncomputable def mInsert(st:Store):D->List D->Option (D×Store)
 |.loc l,[.int i,d]=>(wlistAt st l).bind λds=>if 0<=i/\i<=ds.length/\ds.length<lim then some (.non,st.set l (.lst true (ds.take i.toNat++d::ds.drop i.toNat))) else none
 |_,_=>none
noncomputable def mfun(st:Store):Mt->D->List D->Option (D×Store)
 |.append=>mAppend st
 |.extend=>mExtend st
 |.index=>mIndex st
 |.insert=>mInsert st
noncomputable def Mt.ofList(_:Mt):Bool:=true
noncomputable def mty(st:Store)(m:Mt):D->Bool
 |.str _=>!m.ofList
 |d=>m.ofList&&(seqAt st d).isSome
noncomputable def sixD(st:Store):D->D->D->Option Store
 |.loc l,.int i,d=>(wlistAt st l).bind λds=>(ixN ds.length i).map λj=>st.set l (.lst true (ds.set j d))
 |_,_,_=>none
inductive Out where
 |nx (τ:Sl)
 |rt (d:D)
 |bk (τ:Sl)
 |ct (τ:Sl)
structure R where
 ev:Sl->Store->E->Option (D×Store)
 tst:Sl->Store->E->Option (Bool×Store)
 ex:Sl->Store->List S->Option (Out×Store)
 call:Nat->List D->Store->Option (D×Store)
noncomputable def evs(f:Store->E->Option (D×Store)):List E->Store->Option (List D×Store)
 |[],st=>some ([],st)
 |e::es,st=>(f st e).bind λp=>(evs f es p.2).bind λq=>some (p.1::q.1,q.2)
noncomputable def setIs:List Nat->List D->Sl->Option Sl
 |[],[],τ=>some τ
 |i::is,d::ds,τ=>if i<τ.length then setIs is ds (τ.set i (some d)) else none
 |_,_,_=>none
noncomputable def setT:T->D->Sl->Option Sl
 |.var i,d,τ=>if i<τ.length then some (τ.set i (some d)) else none
 |.tup is,.tup ds,τ=>setIs is ds τ
 |_,_,_=>none
inductive Src where
 |tup (ds:List D)
 |lst (d:D)
 |rng (lo:Int) (n:Nat)
 |zip (a b:D)
noncomputable def rowAt(st:Store):D->Option (List D)
 |.tup ds=>some ds
 |d=>seqAt st d
noncomputable def pairAt(xs ys:List D)(i:Nat):Option D:=match xs[i]?,ys[i]? with
 |some x,some y=>some (.tup [x,y])
 |_,_=>none
noncomputable def Src.at(st:Store)(i:Nat):Src->Option (Option D)
 |.tup ds=>some ds[i]?
 |.lst d=>(seqAt st d).map λds=>ds[i]?
 |.rng lo n=>some (if i<n then some (.int (lo+i)) else none)
 |.zip a b=>(rowAt st a).bind λxs=>(rowAt st b).map λys=>pairAt xs ys i
noncomputable def Src.size(st:Store):Src->Nat
 |.tup ds=>ds.length
 |.lst d=>((seqAt st d).getD []).length
 |.rng _ n=>n
 |.zip a b=>min ((rowAt st a).getD []).length ((rowAt st b).getD []).length
noncomputable def big(i:Int):Bool:=decide (i < -(2 ^ 62))||decide (2 ^ 62<=i)
noncomputable def src(r:R)(τ:Sl)(st:Store):E->Option (Src×Store)
 |.rng1 a=>(r.ev τ st a).bind λp=>match p.1 with
  |.int n=>if big n then none else some (.rng 0 n.toNat,p.2)
  |_=>none
 |.zip a b=>(r.ev τ st a).bind λp=>(r.ev τ p.2 b).bind λq=>(rowAt q.2 p.1).bind λ_=>(rowAt q.2 q.1).map λ_=>(.zip p.1 q.1,q.2)
 |e=>(r.ev τ st e).bind λp=>match p.1 with
  |.tup ds=>some (.tup ds,p.2)
  |d=>(seqAt p.2 d).map λ_=>(.lst d,p.2)
noncomputable def loop(it:Src)(f:Sl->Store->D->Option (Out×Store)):Nat->Nat->Sl->Store->Option (Out×Store)
 |0,_,_,_=>none
 |k+1,i,τ,st=>(it.at st i).bind λo=>match o with
  |none=>some (.nx τ,st)
  |some d=>(f τ st d).bind λp=>match p.1 with
   |.nx τ'=>loop it f k (i+1) τ' p.2
   |.ct τ'=>loop it f k (i+1) τ' p.2
   |.bk τ'=>some (.nx τ',p.2)
   |.rt v=>some (.rt v,p.2)
noncomputable def turnC(r:R)(t:T)(test:Option E)(elt:E)(τ:Sl)(st:Store)(d:D):Option (Option D×Sl×Store):=
 (setT t d τ).bind λτ'=>match test with
  |none=>(r.ev τ' st elt).map λp=>(some p.1,τ',p.2)
  |some c=>(r.tst τ' st c).bind λb=>if b.1 then(r.ev τ' b.2 elt).map λp=>(some p.1,τ',p.2) else some (none,τ',b.2)
noncomputable def loopC(it:Src)(f:Sl->Store->D->Option (Option D×Sl×Store)):Nat->Nat->List D->Sl->Store->Option (List D×Store)
 |0,_,_,_,_=>none
 |k+1,i,acc,τ,st=>(it.at st i).bind λo=>match o with
  |none=>if lim<acc.length then none else some (acc,st)
  |some d=>if lim<=acc.length then none else(f τ st d).bind λp=>loopC it f k (i+1) (match p.1 with|some x=>acc++[x]|none=>acc) p.2.1 p.2.2
noncomputable def loopW(f:Sl->Store->Option (Bool×Store))(g:Sl->Store->Option (Out×Store)):Nat->Sl->Store->Option (Out×Store)
 |0,_,_=>none
 |k+1,τ,st=>(f τ st).bind λb=>if b.1 then(g τ b.2).bind λp=>match p.1 with
   |.nx τ'=>loopW f g k τ' p.2
   |.ct τ'=>loopW f g k τ' p.2
   |.bk τ'=>some (.nx τ',p.2)
   |.rt v=>some (.rt v,p.2)
  else some (.nx τ,b.2)
noncomputable def inner(src:List (Option Nat))(τ:Sl):Sl:=src.map λo=>o.bind λi=>(τ[i]?).bind id
noncomputable def part(r:R)(τ:Sl)(st:Store):Option E->Option (Option Int×Store)
 |none=>some (none,st)
 |some e=>(r.ev τ st e).bind λp=>match p.1 with
  |.int i=>some (some i,p.2)
  |_=>none
noncomputable def dinR(r:R)(τ:Sl)(st:Store)(neg:Bool)(a b:E):Option (D×Store):=
 (r.ev τ st a).bind λp=>(r.ev τ p.2 b).bind λq=>match q.1 with
  |.loc l=>(dicAt q.2 l).bind λkvs=>if isKey p.1 then some (.bl ((dget kvs p.1).isSome != neg),q.2) else none
  |_=>none
noncomputable def ginR(r:R)(τ:Sl)(st:Store)(neg:Bool)(ks:List Str)(b:E):Option (D×Store):=
 (r.ev τ st b).bind λp=>match p.1 with
  |.str z=>some (.bl (ks.contains z != neg),p.2)
  |_=>none
noncomputable def stepEv(r:R)(τ:Sl)(st:Store):E->Option (D×Store)
 |.var i=>match τ[i]? with
  |some (some d)=>some (d,st)
  |_=>none
 |.lit d=>some (d,st)
 |.glo _ d=>some (d,st)
 |.bin op a b=>(r.ev τ st a).bind λp=>(r.ev τ p.2 b).bind λq=>binop q.2 op p.1 q.1
 |.neg a=>(r.ev τ st a).bind λp=>match p.1 with
  |.int i=>some (.int (-i),p.2)
  |_=>none
 |.not a=>(r.ev τ st a).bind λp=>match p.1 with
  |.bl b=>some (.bl (!b),p.2)
  |_=>none
 |.cmp op a b=>(r.ev τ st a).bind λp=>(r.ev τ p.2 b).bind λq=>(cmpD q.2 op p.1 q.1).map λk=>(.bl k,q.2)
 |.cmp2 op op' a b c=>(r.ev τ st a).bind λp=>(r.ev τ p.2 b).bind λq=>(cmpD q.2 op p.1 q.1).bind λk=>
   if k then(r.ev τ q.2 c).bind λu=>(cmpD u.2 op' q.1 u.1).map λk'=>(.bl k',u.2) else some (.bl false,q.2)
 |.and a b=>(r.ev τ st a).bind λp=>match p.1 with
  |.bl true=>r.ev τ p.2 b
  |.bl false=>some (.bl false,p.2)
  |_=>none
 |.or a b=>(r.ev τ st a).bind λp=>match p.1 with
  |.bl false=>r.ev τ p.2 b
  |.bl true=>some (.bl true,p.2)
  |_=>none
 |.tup es=>(evs (r.ev τ) es st).bind λp=>if lim<p.1.length then none else some (.tup p.1,p.2)
 |.lst es=>(evs (r.ev τ) es st).bind λp=>if lim<p.1.length then none else some (alloc p.2 (.lst true p.1))
 |.idx a b=>(r.ev τ st a).bind λp=>(r.ev τ p.2 b).bind λq=>(idxD q.2 p.1 q.1).map λd=>(d,q.2)
 |.sli a lo hi=>(r.ev τ st a).bind λp=>(part r τ p.2 lo).bind λl=>(part r τ l.2 hi).bind λh=>sliD h.2 p.1 l.1 h.1
 |.call f es=>(evs (r.ev τ) es st).bind λp=>r.call f p.1 p.2
 |.bcall f es=>(evs (r.ev τ) es st).bind λp=>bfun p.2 f p.1
 |.isi a ts _=>(r.ev τ st a).bind λp=>(tyName p.2 p.1).map λn=>(.bl (ts.any λt=>tyIs t n),p.2)
 |.meth a m es=>(r.ev τ st a).bind λp=>if mty p.2 m p.1 then(evs (r.ev τ) es p.2).bind λq=>mfun q.2 m p.1 q.1 else none
 |.gc a=>(r.ev τ st a).map λp=>gcD st p
 |.rng1 _=>none
 |.zip _ _=>none
 |.dic es=>(evs (r.ev τ) es (st++[.dic true []])).bind λp=>match wdicAt p.2 st.length with
  |some []=>(pairUp p.1).bind λkvs=>if kvs.length<=15 then some (.loc st.length,p.2.set st.length (.dic true (dall kvs))) else none
  |_=>none
 |.didx a b=>(r.ev τ st a).bind λp=>(r.ev τ p.2 b).bind λq=>match p.1 with
  |.loc l=>(dicAt q.2 l).bind λkvs=>if isKey q.1 then(dget kvs q.1).map λd=>(d,q.2) else none
  |_=>none
 |.din neg a b=>dinR r τ st neg a b
 |.dgt a b=>(r.ev τ st a).bind λp=>match p.1 with
  |.loc l=>(dicAt p.2 l).bind λ_=>(r.ev τ p.2 b).bind λq=>(dicAt q.2 l).bind λkvs=>if isKey q.1 then some ((dget kvs q.1).getD .non,q.2) else none
  |_=>none
 |.gidx _ ks ds b=>(r.ev τ st b).bind λp=>match p.1 with
  |.str z=>((ks.zip ds).find? λq=>q.1==z).map λq=>(q.2,p.2)
  |_=>none
 |.gin neg _ ks b=>ginR r τ st neg ks b
 |.lenset a=>(r.ev τ st a).bind λp=>(qk1 p.1).map λd=>(d,p.2)
 |.comp t it test elt sr=>(src r τ st it).bind λp=>
   (loopC p.1 (turnC r t test elt) (p.1.size p.2+1) 0 [] (inner sr τ) p.2).map λq=>alloc q.2 (.lst true q.1)
 |.attr C a f=>(r.ev τ st a).bind λp=>(objAt p.2 C p.1).bind λfs=>(fs.lookup f).map λd=>(d,p.2)
 |.mcall C f m a es=>(r.ev τ st a).bind λp=>(objAt p.2 C p.1).bind λfs=>if (fs.lookup m).isSome then none else(evs (r.ev τ) es p.2).bind λq=>r.call f (p.1::q.1) q.2
 |.new C f es=>(evs (r.ev τ) es st).bind λp=>(r.call f (.loc p.2.length::p.1) (p.2++[.obj C []])).bind λq=>if isNon q.1 then some (.loc p.2.length,q.2) else none
noncomputable def stepTst(r:R)(τ:Sl)(st:Store):E->Option (Bool×Store)
 |.not a=>(r.tst τ st a).map λp=>(!p.1,p.2)
 |.and a b=>(r.tst τ st a).bind λp=>if p.1 then r.tst τ p.2 b else some (false,p.2)
 |.or a b=>(r.tst τ st a).bind λp=>if p.1 then some (true,p.2) else r.tst τ p.2 b
 |.din neg a b=>(dinR r τ st neg a b).bind λp=>(truth p.2 p.1).map λk=>(k,p.2)
 |.gin neg _ ks b=>(ginR r τ st neg ks b).bind λp=>(truth p.2 p.1).map λk=>(k,p.2)
 |.cmp op a b=>(r.ev τ st a).bind λp=>(r.ev τ p.2 b).bind λq=>(cmpD q.2 op p.1 q.1).map λk=>(k,q.2)
 |.cmp2 op op' a b c=>(r.ev τ st a).bind λp=>(r.ev τ p.2 b).bind λq=>(cmpD q.2 op p.1 q.1).bind λk=>
   if k then(r.ev τ q.2 c).bind λu=>(cmpD u.2 op' q.1 u.1).map λk'=>(k',u.2) else some (false,q.2)
 |e=>(r.ev τ st e).bind λp=>(truth p.2 p.1).map λk=>(k,p.2)
noncomputable def stepEx(r:R)(τ:Sl)(st:Store):S->Option (Out×Store)
 |.set t e=>(r.ev τ st e).bind λp=>(setT t p.1 τ).map λτ'=>(.nx τ',p.2)
 |.dset a i e=>(r.ev τ st e).bind λp=>(r.ev τ p.2 a).bind λq=>(r.ev τ q.2 i).bind λu=>match q.1 with
  |.loc l=>(wdicAt u.2 l).bind λkvs=>if isKey u.1&&decide (kvs.length<lim) then some (.nx τ,u.2.set l (.dic true (dput kvs u.1 p.1))) else none
  |_=>none
 |.setA C a f e=>(r.ev τ st e).bind λp=>(r.ev τ p.2 a).bind λq=>(objAt q.2 C q.1).bind λfs=>match q.1 with
  |.loc l=>if fs.length<900 then some (.nx τ,q.2.set l (.obj C (putA f p.1 fs))) else none
  |_=>none
 |.ford t a body=>(r.ev τ st a).bind λp=>match p.1 with
  |.loc l=>(wdicAt p.2 l).bind λkvs=>(loop (.tup (keysOf kvs)) (λτ st d=>(setT t d τ).bind λτ'=>r.ex τ' st body) (kvs.length+1) 0 τ (p.2.set l (.dic false kvs))).bind λq=>
   match q.2[l]? with
   |some (.dic false kvs')=>some (q.1,q.2.set l (.dic true kvs'))
   |_=>none
  |_=>none
 |.bad=>none
 |.rais _=>none
 |.whil c body=>loopW (λτ st=>r.tst τ st c) (λτ st=>r.ex τ st body) lim τ st
 |.brk=>some (.bk τ,st)
 |.six a i e=>(r.ev τ st e).bind λp=>(r.ev τ p.2 a).bind λq=>(r.ev τ q.2 i).bind λu=>(sixD u.2 q.1 u.1 p.1).map λst'=>(.nx τ,st')
 |.expr e=>(r.ev τ st e).map λp=>(.nx τ,p.2)
 |.ret e=>(r.ev τ st e).map λp=>(.rt p.1,p.2)
 |.ite c a b=>(r.tst τ st c).bind λp=>if p.1 then r.ex τ p.2 a else r.ex τ p.2 b
 |.forr t it body=>(src r τ st it).bind λp=>
   loop p.1 (λτ st d=>(setT t d τ).bind λτ'=>r.ex τ' st body) (p.1.size p.2+1) 0 τ p.2
noncomputable def exs(f:Sl->Store->S->Option (Out×Store)):List S->Sl->Store->Option (Out×Store)
 |[],τ,st=>some (.nx τ,st)
 |s::ss,τ,st=>(f τ st s).bind λp=>match p.1 with
  |.nx τ'=>exs f ss τ' p.2
  |o=>some (o,p.2)
noncomputable def stepCall(fns:List Fn)(r:R)(f:Nat)(ds:List D)(st:Store):Option (D×Store):=
 match fns[f]? with
 |some F=>if ds.length=F.np then(r.ex (ds.map some++List.replicate (F.nl - ds.length) none) st F.body).bind λp=>match p.1 with
   |.rt d=>some (d,p.2)
   |.nx _=>some (.non,p.2)
   |_=>none
  else none
 |none=>none
noncomputable def step(c:Nat->List D->Store->Option (D×Store))(r:R):R:=⟨stepEv r,stepTst r,λτ st ss=>exs (stepEx r) ss τ st,c⟩
noncomputable def runK(c:Nat->List D->Store->Option (D×Store)):Nat->R
 |0=>⟨λ_ _ _=>none,λ_ _ _=>none,λ_ _ _=>none,c⟩
 |k+1=>step c (runK c k)
open Classical in
noncomputable def lim1{α:Type}(f:Nat->Option α):Option α:=if h:∃x,∃n,f n=some x then some h.choose else none
noncomputable def RL(c:Nat->List D->Store->Option (D×Store)):R:=⟨λτ st e=>lim1 λn=>(runK c n).ev τ st e,λτ st e=>lim1 λn=>(runK c n).tst τ st e,λτ st e=>lim1 λn=>(runK c n).ex τ st e,c⟩
noncomputable def callD(fns:List Fn):Nat->Nat->List D->Store->Option (D×Store)
 |0=>λ_ _ _=>none
 |d+1=>stepCall fns (RL (callD fns d))
noncomputable abbrev rn(fns:List Fn)(d n:Nat):R:=runK (callD fns d) n
noncomputable abbrev Lv(fns:List Fn)(d:Nat):R:=RL (callD fns d)
theorem lim1_is{α:Type}{f:Nat->Option α}{x:α}(h:lim1 f=some x):∃n,f n=some x:=by
 unfold lim1 at h
 split at h
 ·rename_i a;obtain⟨n,hn⟩:=a.choose_spec;exact⟨n,by rw[hn]; exact h⟩
 ·cases h
theorem runK_call(c:Nat->List D->Store->Option (D×Store)):∀n,(runK c n).call=c
 |0=>rfl
 |_+1=>rfl
end M
end
section
namespace M
open PySem (Str)
theorem eqT_ii(a b:Int):eqT (.int a) (.int b)=(a==b):=by rw[eqT]
end M
end
section
namespace M
open PySem (Str)
def Co{α:Type}(a:Option α)(b:Nat->Option α):Prop:=∀x,a=some x->∃n,∀m,n<=m->b m=some x
theorem Co.refl{α:Type}(a:Option α):Co a λ_=>a:=λ_ h=>⟨0,λ_ _=>h⟩
theorem Co.none{α:Type}(b:Nat->Option α):Co Option.none b:=λ_ h=>by cases h
theorem Co.bind{α b:Type}{f:Option α}{c:Nat->Option α}{g:α->Option b}{g':Nat->α->Option b}(j:Co f c)(i:∀a,Co (g a) λm=>g' m a):Co (f.bind g) λm=>(c m).bind (g' m):=λx h=>by
 cases e:f with
 |none=>rw[e]at h; cases h
 |some a=>
  rw[e]at h;obtain⟨n,hn⟩:=j a e;obtain⟨k,d⟩:=i a x h;refine⟨max n k,λm l=>?_⟩;simp only;rw[hn m (by lia)];exact d m (by lia)
theorem Co.map{α c:Type}{f:Option α}{b:Nat->Option α}(g:α->c)(i:Co f b):Co (f.map g) λm=>(b m).map g:=λx h=>by
 cases e:f with
 |none=>rw[e]at h; cases h
 |some a=>
  rw[e]at h;obtain⟨n,hn⟩:=i a e;refine⟨n,λm d=>?_⟩;simp only;rw[hn m d];exact h
theorem Co.ite{α:Type}{c:Prop} [Decidable c]{a b:Option α}{e d:Nat->Option α}(g:Co a e) (f:Co b d):Co (if c then a else b) λm=>if c then e m else d m:=by
 by_cases h:c
 ·simp only[Z3 h]; exact g
 ·simp only[Z2 h]; exact f
structure Le (r:R) (r':Nat->R):Prop where
 ev:∀τ st e,Co (r.ev τ st e) λm=>(r' m).ev τ st e
 tst:∀τ st e,Co (r.tst τ st e) λm=>(r' m).tst τ st e
 ex:∀τ st e,Co (r.ex τ st e) λm=>(r' m).ex τ st e
 call:∀f ds st,Co (r.call f ds st) λm=>(r' m).call f ds st
theorem qz3{f:Store->E->Option (D×Store)}{a:Nat->Store->E->Option (D×Store)}(h:∀st e,Co (f st e) λm=>a m st e):∀(es:List E) (st:Store),Co (evs f es st) λm=>evs (a m) es st
 |[],st=>.refl _
 |e::es,st=>(h st e).bind λp=>(qz3 h es p.2).bind λq=>.refl _
theorem qxx{it:Src}{f:Sl->Store->D->Option (Out×Store)}{b:Nat->Sl->Store->D->Option (Out×Store)}(h:∀τ st d,Co (f τ st d) λm=>b m τ st d):∀(k i:Nat) (τ:Sl) (st:Store),Co (loop it f k i τ st) λm=>loop it (b m) k i τ st
 |0,_,_,_=>.refl _
 |k+1,i,τ,st=>by
  unfold loop;refine(Co.refl _).bind λo=>?_
  cases o with
  |none=>exact .refl _
  |some d=>
   refine(h τ st d).bind λp=>?_
   cases c:p.1 with
   |nx a=>exact qxx h k _ _ _
   |ct a=>exact qxx h k _ _ _
   |bk a=>exact .refl _
   |rt v=>exact .refl _
theorem qkk{it:Src}{f:Sl->Store->D->Option (Option D×Sl×Store)}{a:Nat->Sl->Store->D->Option (Option D×Sl×Store)}(h:∀τ st d,Co (f τ st d) λm=>a m τ st d):∀(k i:Nat) (acc:List D) (τ:Sl) (st:Store),Co (loopC it f k i acc τ st) λm=>loopC it (a m) k i acc τ st
 |0,_,_,_,_=>.refl _
 |k+1,i,acc,τ,st=>by
  unfold loopC;refine(Co.refl _).bind λo=>?_
  cases o with
  |none=>exact .refl _
  |some d=>exact Co.ite (.refl _) ((h τ st d).bind λp=>qkk h k _ _ _ _)
theorem qxc{f:Sl->Store->Option (Bool×Store)}{c:Nat->Sl->Store->Option (Bool×Store)}{g:Sl->Store->Option (Out×Store)}{g':Nat->Sl->Store->Option (Out×Store)}(h:∀τ st,Co (f τ st) λm=>c m τ st)(h':∀τ st,Co (g τ st) λm=>g' m τ st):∀(k:Nat) (τ:Sl) (st:Store),Co (loopW f g k τ st) λm=>loopW (c m) (g' m) k τ st
 |0,_,_=>.refl _
 |k+1,τ,st=>by
  unfold loopW;refine(h τ st).bind λb=>Co.ite ((h' τ _).bind λp=>?_) (.refl _)
  cases d:p.1 with
  |nx a=>exact qxc h h' k _ _
  |ct a=>exact qxc h h' k _ _
  |bk a=>exact .refl _
  |rt v=>exact .refl _
theorem qk3{f:Sl->Store->S->Option (Out×Store)}{a:Nat->Sl->Store->S->Option (Out×Store)}(h:∀τ st s,Co (f τ st s) λm=>a m τ st s):∀(ss:List S) (τ:Sl) (st:Store),Co (exs f ss τ st) λm=>exs (a m) ss τ st
 |[],_,_=>.refl _
 |s::ss,τ,st=>by
  unfold exs;refine(h τ st s).bind λp=>?_
  cases c:p.1 with
  |nx b=>exact qk3 h ss _ _
  |_=>exact .refl _
section
variable {r:R}{r':Nat->R}(h:Le r r')
include h
theorem qyl(τ:Sl)(st:Store)(e:E):Co (src r τ st e) λm=>src (r' m) τ st e:=by
 cases e with
 |rng1 a=>exact(h.ev τ st a).bind λp=>.refl _
 |zip a b=>exact(h.ev τ st a).bind λp=>(h.ev τ _ b).bind λq=>.refl _
 |_=>exact(h.ev τ st _).bind λp=>.refl _
theorem qvg(τ:Sl)(st:Store)(e:Option E):Co (part r τ st e) λm=>part (r' m) τ st e:=by
 cases e with
 |none=>exact .refl _
 |some e=>exact(h.ev τ st e).bind λp=>.refl _
theorem qa2(t:T)(a:Option E)(elt:E)(τ:Sl)(st:Store)(d:D):Co (turnC r t a elt τ st d) λm=>turnC (r' m) t a elt τ st d:=by
 unfold turnC;refine(Co.refl _).bind λe=>?_
 cases a with
 |none=>exact(h.ev _ _ _).map _
 |some c=>exact(h.tst _ _ _).bind λb=>Co.ite ((h.ev _ _ _).map _) (.refl _)
theorem qwq(τ:Sl)(st:Store)(neg:Bool)(a b:E):Co (dinR r τ st neg a b) λm=>dinR (r' m) τ st neg a b:=(h.ev τ st a).bind λp=>(h.ev τ _ b).bind λq=>.refl _
theorem qv5(τ:Sl)(st:Store)(neg:Bool)(a:List PySem.Str)(b:E):Co (ginR r τ st neg a b) λm=>ginR (r' m) τ st neg a b:=(h.ev τ st b).bind λp=>.refl _
theorem qjk(τ:Sl)(st:Store)(e:E):Co (stepEv r τ st e) λm=>stepEv (r' m) τ st e:=by
 cases e with
 |var i=>exact .refl _
 |lit d=>exact .refl _
 |glo x d=>exact .refl _
 |bin j a b=>exact(h.ev τ st a).bind λp=>(h.ev τ _ b).bind λq=>.refl _
 |neg a=>exact(h.ev τ st a).bind λp=>.refl _
 |not a=>exact(h.ev τ st a).bind λp=>.refl _
 |cmp j a b=>exact(h.ev τ st a).bind λp=>(h.ev τ _ b).bind λq=>.refl _
 |cmp2 j n a b c=>exact(h.ev τ st a).bind λp=>(h.ev τ _ b).bind λq=>(Co.refl _).bind λk=>Co.ite ((h.ev τ _ c).bind λu=>.refl _) (.refl _)
 |and a b=>
  refine(h.ev τ st a).bind λp=>?_;obtain⟨d,s⟩:=p
  cases d with
  |bl k=>cases k with
   |true=>exact h.ev τ _ b
   |false=>exact .refl _
  |_=>exact .refl _
 |or a b=>
  refine(h.ev τ st a).bind λp=>?_;obtain⟨d,s⟩:=p
  cases d with
  |bl k=>cases k with
   |false=>exact h.ev τ _ b
   |true=>exact .refl _
  |_=>exact .refl _
 |tup es=>exact(qz3 (h.ev τ) es st).bind λp=>.refl _
 |lst es=>exact(qz3 (h.ev τ) es st).bind λp=>.refl _
 |idx a b=>exact(h.ev τ st a).bind λp=>(h.ev τ _ b).bind λq=>.refl _
 |sli a lo hi=>exact(h.ev τ st a).bind λp=>(qvg h τ _ lo).bind λl=>(qvg h τ _ hi).bind λu=>.refl _
 |call f es=>exact(qz3 (h.ev τ) es st).bind λp=>h.call f _ _
 |bcall f es=>exact(qz3 (h.ev τ) es st).bind λp=>.refl _
 |isi a o m=>exact(h.ev τ st a).bind λp=>.refl _
 |lenset a=>exact(h.ev τ st a).bind λp=>.refl _
 |gc a=>exact(h.ev τ st a).map _
 |meth a m es=>exact(h.ev τ st a).bind λp=>Co.ite ((qz3 (h.ev τ) es _).bind λq=>.refl _) (.refl _)
 |rng1 a=>exact .refl _
 |zip a b=>exact .refl _
 |dic es=>exact(qz3 (h.ev τ) es _).bind λp=>.refl _
 |didx a b=>exact(h.ev τ st a).bind λp=>(h.ev τ _ b).bind λq=>.refl _
 |din neg a b=>exact qwq h τ st neg a b
 |dgt a b=>
  refine(h.ev τ st a).bind λp=>?_;obtain⟨d,s⟩:=p
  cases d with
  |loc l=>exact(Co.refl _).bind λ_=>(h.ev τ _ b).bind λq=>.refl _
  |_=>exact .refl _
 |gidx x ks ds b=>exact(h.ev τ st b).bind λp=>.refl _
 |gin neg x ks b=>exact qv5 h τ st neg ks b
 |comp t it g elt sr=>exact(qyl h τ st it).bind λp=>(qkk (qa2 h t g elt) _ _ _ _ _).map _
 |attr C a f=>exact(h.ev τ st a).bind λp=>.refl _
 |mcall C f m a es=>exact(h.ev τ st a).bind λp=>(Co.refl _).bind λfs=>Co.ite (.refl _) ((qz3 (h.ev τ) es _).bind λq=>h.call f _ _)
 |new C f es=>exact(qz3 (h.ev τ) es st).bind λp=>(h.call f _ _).bind λq=>.refl _
theorem qxl(τ:Sl)(st:Store)(e:E):Co (stepTst r τ st e) λm=>stepTst (r' m) τ st e:=by
 cases e with
 |not a=>exact(h.tst τ st a).map _
 |and a b=>exact(h.tst τ st a).bind λp=>Co.ite (h.tst τ _ b) (.refl _)
 |or a b=>exact(h.tst τ st a).bind λp=>Co.ite (.refl _) (h.tst τ _ b)
 |din neg a b=>exact(qwq h τ st neg a b).bind λp=>.refl _
 |gin neg x ks b=>exact(qv5 h τ st neg ks b).bind λp=>.refl _
 |cmp f a b=>exact(h.ev τ st a).bind λp=>(h.ev τ _ b).bind λq=>.refl _
 |cmp2 f d a b c=>exact(h.ev τ st a).bind λp=>(h.ev τ _ b).bind λq=>(Co.refl _).bind λk=>Co.ite ((h.ev τ _ c).bind λu=>.refl _) (.refl _)
 |_=>exact(h.ev τ st _).bind λp=>.refl _
theorem qjx(τ:Sl)(st:Store)(s:S):Co (stepEx r τ st s) λm=>stepEx (r' m) τ st s:=by
 cases s with
 |set t e=>exact(h.ev τ st e).bind λp=>.refl _
 |dset a i e=>exact(h.ev τ st e).bind λp=>(h.ev τ _ a).bind λq=>(h.ev τ _ i).bind λu=>.refl _
 |bad=>exact .refl _
 |rais x=>exact .refl _
 |whil c body=>exact qxc (λτ st=>h.tst τ st c) (λτ st=>h.ex τ st body) _ _ _
 |brk=>exact .refl _
 |six a i e=>exact(h.ev τ st e).bind λp=>(h.ev τ _ a).bind λq=>(h.ev τ _ i).bind λu=>.refl _
 |setA C a f e=>exact(h.ev τ st e).bind λp=>(h.ev τ _ a).bind λq=>.refl _
 |ford t a body=>
  refine(h.ev τ st a).bind λp=>?_;obtain⟨d,s⟩:=p
  cases d with
  |loc l=>exact(Co.refl _).bind λkvs=>(qxx (λτ st d=>(Co.refl _).bind λg=>h.ex g st body) _ _ _ _).bind λq=>.refl _
  |_=>exact .refl _
 |expr e=>exact(h.ev τ st e).map _
 |ret e=>exact(h.ev τ st e).map _
 |ite c a b=>exact(h.tst τ st c).bind λp=>Co.ite (h.ex τ _ a) (h.ex τ _ b)
 |forr t it body=>exact(qyl h τ st it).bind λp=>qxx (λτ st d=>(Co.refl _).bind λg=>h.ex g st body) _ _ _ _
theorem qca(c:Nat->List D->Store->Option (D×Store)):Le (step c r) λm=>step c (r' m):=
 ⟨qjk h,qxl h,λτ st ss=>qk3 (qjx h) ss τ st,λf ds st=>.refl _⟩
end
theorem qx3(c:Nat->List D->Store->Option (D×Store)):∀n,Le (runK c n) λ_=>runK c (n+1)
 |0=>⟨λ_ _ _=>.none _,λ_ _ _=>.none _,λ_ _ _=>.none _,λ_ _ _=>.refl _⟩
 |n+1=>qca (qx3 c n) c
section
variable {c:Nat->List D->Store->Option (D×Store)}{n N:Nat}
theorem ev_up{τ:Sl}{st:Store}{e:E}{x:D×Store}(h:(runK c n).ev τ st e=some x)(d:n<=N):(runK c N).ev τ st e=some x:=by
 induction d with
 |refl=>exact h
 |step _ a=>obtain⟨k,b⟩:=(qx3 c _).ev τ st e x a; exact b k (Qqw _)
theorem qg4{τ:Sl}{st:Store}{e:E}{x:Bool×Store}(h:(runK c n).tst τ st e=some x)(d:n<=N):(runK c N).tst τ st e=some x:=by
 induction d with
 |refl=>exact h
 |step _ a=>obtain⟨k,b⟩:=(qx3 c _).tst τ st e x a; exact b k (Qqw _)
theorem ex_up{τ:Sl}{st:Store}{e:List S}{x:Out×Store}(h:(runK c n).ex τ st e=some x)(d:n<=N):(runK c N).ex τ st e=some x:=by
 induction d with
 |refl=>exact h
 |step _ a=>obtain⟨k,b⟩:=(qx3 c _).ex τ st e x a; exact b k (Qqw _)
end
theorem qw3{α:Type}{f:Nat->Option α}{n:Nat}{x:α}(up:∀n N x,f n=some x->n<=N->f N=some x)(h:f n=some x):lim1 f=some x:=by
 have a:∃x,∃n,f n=some x:=⟨x,n,h⟩
 unfold lim1;rw[dif_pos a];obtain⟨k,c⟩:=a.choose_spec;have d:=up _ (max n k) _ h (by lia);have b:=up _ (max n k) _ c (by lia);rw[d]at b;exact b.symm
section
variable {fns:List Fn}{d:Nat}{τ:Sl}{st:Store}
end
end M
end
section
namespace M
open PySem (Str)
section
variable {r:R}{s:Src}{S:Store}{rest:Sl}{elt:E}{ds:List D}
theorem qvn{es:List D}(a:∀i,s.at S i=some ds[i]?)(c:es.length=ds.length)(b:ds.length<lim)(f:∀(i:Nat) (d e:D),ds[i]?=some d->es[i]?=some e->r.ev (some d::rest) S elt=some (e,S)):
  ∀(k i:Nat) (o:Option D),i+k=ds.length->loopC s (turnC r (.var 0) none elt) (k+1) i (es.take i) (o::rest) S=some (es,S)
 |0,i,o,h=>by
  have e:i=ds.length:=by lia
  subst e;have h1:es.take ds.length=es:=Qzv (by lia);rw[loopC,a,h1];simp only[oBs,Qq0 (Qqw _)];rw[Z2 (by lia)]
 |k+1,i,o,h=>by
  have hi:i<ds.length:=by lia
  have h1:ds[i]?=some ds[i]:=by simp
  have h2:es[i]?=some (es[i]'(by lia)):=by simp
  have g:=f i _ _ h1 h2;rw[loopC,a,h1];simp only[oBs];rw[Z2 (by rw[Qzm]; lia)];have j:turnC r (.var 0) none elt (o::rest) S ds[i]=some (some (es[i]'(by lia)),some ds[i]::rest,S):=by
   unfold turnC;simp only[setT,Qqh,Nat.zero_lt_succ,if_true,List.set_cons_zero,oBs,g,oMs]
  rw[j];simp only[oBs];rw[show es.take i++[es[i]'(by lia)]=es.take (i+1) by rw[Qzg (by lia)]];exact qvn a c b f k (i+1) _ (by lia)
end
theorem qah{r:R}{τ:Sl}{S a:Store}{it elt:E}{sr:List (Option Nat)}{s:Src}{rest:Sl}{ds es:List D}(b:src r τ S it=some (s,a))(j:∀i,s.at a i=some ds[i]?)(hsz:s.size a=ds.length)(g:inner sr τ=none::rest)(f:es.length=ds.length)(c:ds.length<lim)
  (k:∀(i:Nat) (d e:D),ds[i]?=some d->es[i]?=some e->r.ev (some d::rest) a elt=some (e,a)):stepEv r τ S (.comp (.var 0) it none elt sr)=some (.loc a.length,a++[.lst true es]):=by
 have h:=qvn j f c k ds.length 0 none (by lia);show((src r τ S it).bind λp=>(loopC p.1 (turnC r (.var 0) none elt) (p.1.size p.2+1) 0 [] (inner sr τ) p.2).map λq=>alloc q.2 (.lst true q.1))=_;rw[b];simp only[oBs,hsz,g];rw[show([]:List D)=es.take 0 by simp,h]
 rfl
theorem qwm{S:Store}{q:D}{ds:List D}(h:seqAt S q=some ds)(i:Nat):(Src.lst q).at S i=some ds[i]?:=by simp[Src.at,h]
theorem qq7{S:Store}{q:D}{ds:List D}(h:seqAt S q=some ds):(Src.lst q).size S=ds.length:=by simp[Src.size,h]
theorem qxu{S:Store}(a:Int)(n:Nat)(i:Nat):(Src.rng a n).at S i=some ((List.range n).map λ(j:Nat)=>D.int (a+j))[i]?:=by
 simp only[Src.at,Qqk]
 by_cases h:i<n
 ·rw[Z3 h,Qzu h]; rfl
 ·rw[Z2 h,Qq0 (by simpa using h)]; rfl
theorem qja{f:Sl->Store->D->Option (Out×Store)}{s:Src}{ds:List D}(P:Nat->Sl->Store->Prop)(Q:Sl->Store->Prop)(b:∀i τ st,P i τ st->s.at st i=some ds[i]?)
  (c:∀i τ st d,ds[i]?=some d->P i τ st->(∃a st',(f τ st d=some (.nx a,st')\/f τ st d=some (.ct a,st'))/\P (i+1) a st')\/∃a st',f τ st d=some (.bk a,st')/\Q a st') :
  ∀(k i:Nat) (τ:Sl) (st:Store),i+k=ds.length->P i τ st->∃a st',loop s f (k+1) i τ st=some (.nx a,st')/\(P ds.length a st'\/Q a st')
 |0,i,τ,st,h,p=>by
  have e:i=ds.length:=by lia
  subst e;refine⟨τ,st,?_,.inl p⟩;rw[loop,b _ _ _ p];simp[Qq0 (Qqw _)]
 |k+1,i,τ,st,h,p=>by
  have hi:i<ds.length:=by lia
  have h1:ds[i]?=some ds[i]:=by simp
  rw[loop,b _ _ _ p,h1];simp only[oBs];rcases c i τ st _ h1 p with⟨a,st',e|e,q⟩|⟨a,st',e,q⟩
  ·rw[e];exact qja P Q b c k (i+1) a st' (by lia) q
  ·rw[e];exact qja P Q b c k (i+1) a st' (by lia) q
  ·rw[e];exact⟨a,st',rfl,.inr q⟩
theorem qy7{f:Sl->Store->D->Option (Out×Store)}{s:Src}{ds:List D}{τ:Sl}{st:Store}(P:Nat->Sl->Store->Prop)(Q:Sl->Store->Prop)(e:P 0 τ st)(hsz:s.size st=ds.length)(b:∀i τ st,P i τ st->s.at st i=some ds[i]?)
  (c:∀i τ st d,ds[i]?=some d->P i τ st->(∃a st',(f τ st d=some (.nx a,st')\/f τ st d=some (.ct a,st'))/\P (i+1) a st')\/∃a st',f τ st d=some (.bk a,st')/\Q a st') :
  ∃a st',loop s f (s.size st+1) 0 τ st=some (.nx a,st')/\(P ds.length a st'\/Q a st'):=by
 rw[hsz];exact qja P Q b c ds.length 0 τ st (by lia) e
end M
end
section
namespace M
open PySem (Str)
section
variable {st r:Store}{d:D}{ds:List D}
theorem gc_x{p:D×Store}(h:p.2.take st.length=st):gcD st p=gcX st.length p:=by
 unfold gcD;rw[Z3 h,ite_self]
theorem qqo:noLoc (.tup ds)=noLocs ds:=by rw[noLoc]
theorem qdv:noLoc (.lst ds)=noLocs ds:=by rw[noLoc]
theorem qw0:noLocs (d::ds)=(noLoc d&&noLocs ds):=rfl
theorem qkx:∀{ds:List D},noLocs ds=ds.all noLoc
 |[]=>rfl
 |d::ds=>by rw[qw0,Qzo,qkx]
theorem qvl(h:∀d∈ds,noLoc d=true):noLocs ds=true:=by rw[qkx,Qq7]; exact h
theorem qz4{α:Type}{a:List α}{g:α->D}(h:∀x∈a,noLoc (g x)=true):noLocs (a.map g)=true:=qvl λd hd=>by
 obtain⟨x,b,rfl⟩:=Qzb.mp hd;exact h x b
theorem qzp(h:noLocs ds=true):gcD st (.loc st.length,st++[.lst true ds])=(.lst ds,st):=by
 rw[gc_x (by simp)];unfold gcX;rw[Z2 (by simp[noLoc])];simp[h]
end
theorem qvx{r:R}{τ:Sl}{st st':Store}{c:E}{a b:List S}(h:r.tst τ st c=some (true,st')):stepEx r τ st (.ite c a b)=r.ex τ st' a:=by
 show(r.tst τ st c).bind _=_;rw[h]; rfl
theorem qvj{r:R}{τ:Sl}{st st':Store}{c:E}{a b:List S}(h:r.tst τ st c=some (false,st')):stepEx r τ st (.ite c a b)=r.ex τ st' b:=by
 show(r.tst τ st c).bind _=_;rw[h]; rfl
theorem qqk{a b:Int}(d:-(2 ^ 64)<b)(c:b<2 ^ 64):mulOk a b=true:=by unfold mulOk; simp; lia
section
variable {c:Nat->List D->Store->Option (D×Store)}{n:Nat}{τ:Sl}{st:Store}
end
theorem bMo(S:Store)(a:Int){b:Int}(h:0<b):binop S .Mod (.int a) (.int b)=some (.int (a % b),S):=by
 simp only[binop];rw[Z3 h]
theorem bDi(S:Store)(a:Int){b:Int}(h:0<b)(c:b<2 ^ 64):binop S .FloorDiv (.int a) (.int b)=some (.int (a / b),S):=by
 simp only[binop];rw[Z3 ⟨h,c⟩]
end M
end
section
namespace M
open PySem (Str)
abbrev CF:=Nat->List D->Store->Option (D×Store)
section
variable {c:CF}{n:Nat}{τ:Sl}{st:Store}{it elt:E}{sr:List (Option Nat)}{s:Src}{rest:Sl}{α:Type}
end
section
variable {fns:List Fn}{f:Nat}
end
end M
end
section
namespace M
open PySem (Str)
section
variable {c:CF}{n:Nat}{τ:Sl}{st st':Store}
end
end M
end
section
namespace M
open PySem (Str CmpOp Operator)
inductive It where
 /-- a test comes out so -/
 |b (k:Bool)
 /-- a call answers so -/
 |c (a:D×Store)
 /-- seen by the kernel -/
 |k
 /-- what lies in a cell -/
 |r (c:Cell)
 /-- what a dict has at a key -/
 |q (o:Option D)
 /-- what lies at an index -/
 |i (d:D)
 |n
 /-- a part leaves nothing behind -/
 |g
 /-- a part leaves a list -/
 |l (ds:List D)
 /-- a loop ends so -/
 |s (o:Out×Store)
 /-- slots and store stand so -/
 |e (p:Sl×Store)
 /-- an if ends so -/
 |t (o:Out×Store)
abbrev Tp:=List It
noncomputable def TM(α:Type):=Tp->(α->Tp->Prop)->Prop
noncomputable def TM.bind{α β:Type}(x:TM α)(f:α->TM β):TM β:=λt K=>x t λa t'=>f a t' K
noncomputable def TM.map{α β:Type}(x:TM α)(f:α->β):TM β:=λt K=>x t λa t'=>K (f a) t'
noncomputable def no{α:Type}:TM α:=λ_ _=>False
noncomputable def lf{α:Type}:Option α->TM α
 |some a=>λt K=>K a t
 |none=>no
noncomputable def ys{α:Type}(a:α):TM α:=λt K=>K a t
noncomputable def askB(p:Bool):TM Bool:=λt K=>match t with
 |.b k::t'=>p=k/\K k t'
 |.k::t'=>K p t'
 |_=>False
noncomputable def askC(o:Option (D×Store)):TM (D×Store):=λt K=>match t with
 |.c a::t'=>o=some a/\K a t'
 |_=>False
noncomputable def askD(o:Option (D×Store)):TM (D×Store):=λt K=>match t with
 |.c a::t'=>o=some a/\K a t'
 |t=>lf o t K
noncomputable def askE(o:Option (D×Store))(x:TM (D×Store)):TM (D×Store):=λt K=>match t with
 |.c a::t'=>o=some a/\K a t'
 |t=>x t K
noncomputable def askS(o:Option (Out×Store))(x:TM (Out×Store)):TM (Out×Store):=λt K=>match t with
 |.s a::t'=>o=some a/\K a t'
 |t=>x t K
noncomputable def askT(o:Option (Out×Store))(x:TM (Out×Store)):TM (Out×Store):=λt K=>match t with
 |.t a::t'=>o=some a/\K a t'
 |t=>x t K
noncomputable def askQ(o:Option D):TM (Option D):=λt K=>match t with
 |.q a::t'=>o=a/\K a t'
 |.k::t'=>K o t'
 |_=>False
noncomputable def askI(o:Option D):TM D:=λt K=>match t with
 |.i a::t'=>o=some a/\K a t'
 |.n::t'=>lf o t' K
 |t=>lf o t K
noncomputable def askR(o:Option Cell):TM Cell:=λt K=>match t with
 |.r c::t'=>o=some c/\K c t'
 |_=>False
noncomputable def askN(p:Sl×Store):TM (Sl×Store):=λt K=>match t with
 |.e q::t'=>p=q/\K q t'
 |t=>K p t
noncomputable def rdT(n:Nat)(st:Store)(l:Nat):TM Cell:=if Nat.blt l n then lf st[l]? else askR st[l]?
noncomputable def Cell.ls:Cell->Option (List D)
 |.lst _ ds=>some ds
 |_=>none
noncomputable def Cell.wls:Cell->Option (List D)
 |.lst true ds=>some ds
 |_=>none
noncomputable def Cell.dc:Cell->Option (List (D×D))
 |.dic _ ds=>some ds
 |_=>none
noncomputable def Cell.wdc:Cell->Option (List (D×D))
 |.dic true ds=>some ds
 |_=>none
noncomputable def Cell.ob(C:Nat):Cell->Option (List (Str×D))
 |.obj C' fs=>if C'=C then some fs else none
 |_=>none
noncomputable def seqT(n:Nat)(st:Store):D->TM (List D)
 |.loc l=>(rdT n st l).bind λc=>lf c.ls
 |.lst ds=>ys ds
 |_=>no
noncomputable def rowT(n:Nat)(st:Store):D->TM (List D)
 |.tup ds=>ys ds
 |d=>seqT n st d
noncomputable def wlT(n:Nat)(st:Store)(l:Nat):TM (List D):=(rdT n st l).bind λc=>lf c.wls
noncomputable def dcT(n:Nat)(st:Store)(l:Nat):TM (List (D×D)):=(rdT n st l).bind λc=>lf c.dc
noncomputable def wdT(n:Nat)(st:Store)(l:Nat):TM (List (D×D)):=(rdT n st l).bind λc=>lf c.wdc
noncomputable def obT(n:Nat)(st:Store)(C:Nat):D->TM (List (Str×D))
 |.loc l=>(rdT n st l).bind λc=>lf (c.ob C)
 |_=>no
noncomputable def qmk:CmpOp->D->Bool
 |.Lt,_=>true
 |.LtE,_=>true
 |.Gt,_=>true
 |.GtE,_=>true
 |.Is,_=>true
 |.IsNot,_=>true
 |.Eq,.int _=>true
 |.NotEq,.int _=>true
 |_,_=>false
noncomputable def isLs:D->Bool
 |.loc _=>true
 |.lst _=>true
 |_=>false
noncomputable def isAsk:CmpOp->D->D->Bool
 |.In,_,y=>isLs y
 |.NotIn,_,y=>isLs y
 |.Eq,x,_=>isLs x
 |.NotEq,x,_=>isLs x
 |_,_,_=>false
noncomputable def askO(o:Option Bool):TM Bool:=λt K=>match t with
 |.b k::t'=>o=some k/\K k t'
 |.k::t'=>lf o t' K
 |_=>False
noncomputable def cmpT(st:Store)(op:CmpOp)(x y:D):TM Bool:=if isAsk op x y then askO (cmpD st op x y) else(lf (cmpD st op x y)).bind λp=>if qmk op x then askB p else ys p
noncomputable def qg6(n:Nat)(st:Store)(d:D):TM Bool:=match d with
 |.loc l=>(seqT n st (.loc l)).bind λds=>askB (!ds.isEmpty)
 |.lst ds=>askB (!ds.isEmpty)
 |d=>lf (truth st d)
noncomputable def addT(n:Nat)(st:Store)(a b:D):TM (D×Store):=(seqT n st a).bind λx=>(seqT n st b).bind λy=>(askB (decide (lim<x.length+y.length))).bind λk=>if k then no else ys (alloc st (.lst true (x++y)))
noncomputable def binT(n:Nat)(st:Store)(op:Za)(a b:D):TM (D×Store):=match op,a with
 |.Add,.loc l=>addT n st (.loc l) b
 |.Add,.lst l=>addT n st (.lst l) b
 |.Mult,.int i=>match b with
  |.int j=>(askB (mulOk i j)).bind λk=>if k then ys (.int (i*j),st) else no
  |b=>lf (binop st .Mult (.int i) b)
 |.Mult,.tup l=>askD (binop st .Mult (.tup l) b)
 |.Mult,.loc l=>askD (binop st .Mult (.loc l) b)
 |.Mod,.int i=>askD (binop st .Mod (.int i) b)
 |.FloorDiv,.int i=>askD (binop st .FloorDiv (.int i) b)
 |op,a=>lf (binop st op a b)
noncomputable def qba(n:Nat)(st:Store)(m:Mt)(d:D)(es:List D):TM (D×Store):=match m with
 |.append=>match d,es with
  |.loc l,[d]=>(wlT n st l).bind λds=>(askB (decide (ds.length<lim))).bind λb=>if b then ys (.non,st.set l (.lst true (ds++[d]))) else no
  |_,_=>no
 |.extend=>match d,es with
  |.loc l,[d]=>(wlT n st l).bind λds=>(rowT n st d).bind λes=>(askB (decide (ds.length+es.length<=lim))).bind λb=>if b then ys (.non,st.set l (.lst true (ds++es))) else no
  |_,_=>no
 |.insert=>match d,es with
  |.loc l,[.int i,d]=>(wlT n st l).bind λds=>(askB (decide (0<=i/\i<=ds.length/\ds.length<lim))).bind λb=>if b then ys (.non,st.set l (.lst true (ds.take i.toNat++d::ds.drop i.toNat))) else no
  |_,_=>no
 |.index=>match es with
  |[x]=>(seqT n st d).bind λds=>askD (if flat 9 x&&flats 9 ds then(ds.findIdx? λy=>eqT y x).map λ(j:Nat)=>(.int (j:Int),st) else none)
  |_=>no
noncomputable def sliT(n:Nat)(st:Store):D->Option Int->Option Int->TM (D×Store)
 |.tup ds,lo,hi=>ys (.tup (cut ds lo hi),st)
 |d,lo,hi=>(seqT n st d).map λds=>alloc st (.lst true (cut ds lo hi))
noncomputable def tyT(n:Nat)(st:Store):D->TM Ty
 |.non=>ys .non
 |.bl _=>ys .bl
 |.int _=>ys .int
 |.str _=>ys .str
 |.tup _=>ys .tup
 |d=>(seqT n st d).map λ_=>.lst
noncomputable def mtyT(n:Nat)(st:Store)(m:Mt)(d:D):TM Bool:=match d with
 |.str _=>ys (!m.ofList)
 |.lst _=>ys m.ofList
 |.loc l=>(seqT n st (.loc l)).bind λ_=>ys m.ofList
 |_=>no
noncomputable def qmr(n:Nat)(st:Store)(f:Bq)(ds:List D):TM (D×Store):=match f with
 |.len=>match ds with
  |[.loc l]=>(seqT n st (.loc l)).bind λxs=>ys (.int xs.length,st)
  |ds=>lf (bfun st .len ds)
 |.list=>match ds with
  |[.loc l]=>(rdT n st l).bind λc=>(lf (c.ls.or (c.dc.map keysOf))).bind λxs=>ys (alloc st (.lst true xs))
  |ds=>lf (bfun st .list ds)
 |.tuple=>match ds with
  |[.loc l]=>(seqT n st (.loc l)).bind λxs=>ys (.tup xs,st)
  |ds=>lf (bfun st .tuple ds)
 |.max=>match ds with
  |[.int i,.int j]=>(askB (decide (j > i))).bind λk=>ys (.int (if k then j else i),st)
  |_=>no
 |.min=>match ds with
  |[.int i,.int j]=>(askB (decide (j<i))).bind λk=>ys (.int (if k then j else i),st)
  |_=>no
 |f=>askD (bfun st f ds)
structure RT where
 rl:R
 ev:Sl->Store->E->TM (D×Store)
 tst:Sl->Store->E->TM (Bool×Store)
 ex:Sl->Store->List S->TM (Out×Store)
 call:Nat->List D->Store->TM (D×Store)
noncomputable def gcT(st:Store)(p:D×Store):TM (D×Store):=λt K=>match t with
 |.g::t'=>(noLoc p.1=true/\p.2.take st.length=st)/\K (p.1,st) t'
 |.l ds::t'=>gcD st p=(.lst ds,st)/\K (.lst ds,st) t'
 |.k::t'=>K (gcD st p) t'
 |_=>False
noncomputable def evsT(f:Store->E->TM (D×Store)):List E->Store->TM (List D×Store)
 |[],st=>ys ([],st)
 |e::es,st=>(f st e).bind λp=>(evsT f es p.2).bind λq=>ys (p.1::q.1,q.2)
noncomputable def srcT(n:Nat)(r:RT)(τ:Sl)(st:Store):E->TM (Src×Store)
 |.rng1 a=>(r.ev τ st a).bind λp=>match p.1 with
  |.int n=>if big n then no else ys (.rng 0 n.toNat,p.2)
  |_=>no
 |.zip a b=>(r.ev τ st a).bind λp=>(r.ev τ p.2 b).bind λq=>lf ((rowAt q.2 p.1).bind λ_=>(rowAt q.2 q.1).map λ_=>(.zip p.1 q.1,q.2))
 |e=>(r.ev τ st e).bind λp=>match p.1 with
  |.tup ds=>ys (.tup ds,p.2)
  |.str z=>no
  |d=>(seqT n p.2 d).map λ_=>(.lst d,p.2)
noncomputable def qdc(it:Src)(f:Sl->Store->D->TM (Out×Store)):Nat->Nat->Sl->Store->TM (Out×Store)
 |0,_,_,_=>no
 |k+1,i,τ,st=>(lf (it.at st i)).bind λo=>match o with
  |none=>ys (.nx τ,st)
  |some d=>(f τ st d).bind λp=>match p.1 with
   |.nx τ'=>qdc it f k (i+1) τ' p.2
   |.ct τ'=>qdc it f k (i+1) τ' p.2
   |.bk τ'=>ys (.nx τ',p.2)
   |.rt v=>ys (.rt v,p.2)
noncomputable def turnT(r:RT)(t:T)(test:Option E)(elt:E)(τ:Sl)(st:Store)(d:D):TM (Option D×Sl×Store):=
 (lf (setT t d τ)).bind λτ'=>match test with
  |none=>(r.ev τ' st elt).map λp=>(some p.1,τ',p.2)
  |some c=>(r.tst τ' st c).bind λb=>if b.1 then(r.ev τ' b.2 elt).map λp=>(some p.1,τ',p.2) else ys (none,τ',b.2)
noncomputable def qaz(it:Src)(f:Sl->Store->D->TM (Option D×Sl×Store)):Nat->Nat->List D->Sl->Store->TM (List D×Store)
 |0,_,_,_,_=>no
 |k+1,i,acc,τ,st=>(lf (it.at st i)).bind λo=>match o with
  |none=>if lim<acc.length then no else ys (acc,st)
  |some d=>if lim<=acc.length then no else(f τ st d).bind λp=>qaz it f k (i+1) (match p.1 with|some x=>acc++[x]|none=>acc) p.2.1 p.2.2
noncomputable def qll(r:RT)(τ:Sl)(st:Store):Option E->TM (Option Int×Store)
 |none=>ys (none,st)
 |some e=>(r.ev τ st e).bind λp=>match p.1 with
  |.int i=>ys (some i,p.2)
  |_=>no
noncomputable def dgT(n:Nat)(p:D×Store)(k:D)(st:Store):TM (Option D):=match p.1 with
 |.loc l=>(dcT n st l).bind λkvs=>if isKey k then askQ (dget kvs k) else no
 |_=>no
noncomputable def qcc(n:Nat)(r:RT)(τ:Sl)(st:Store):E->TM (D×Store)
 |.var i=>lf (match τ[i]? with
  |some (some d)=>some (d,st)
  |_=>none)
 |.lit d=>ys (d,st)
 |.glo _ d=>ys (d,st)
 |.bin op a b=>(r.ev τ st a).bind λp=>(r.ev τ p.2 b).bind λq=>binT n q.2 op p.1 q.1
 |.neg a=>(r.ev τ st a).bind λp=>lf (match p.1 with
  |.int i=>some (.int (-i),p.2)
  |_=>none)
 |.not a=>(r.ev τ st a).bind λp=>lf (match p.1 with
  |.bl b=>some (.bl (!b),p.2)
  |_=>none)
 |.cmp op a b=>(r.ev τ st a).bind λp=>(r.ev τ p.2 b).bind λq=>(cmpT q.2 op p.1 q.1).map λk=>(.bl k,q.2)
 |.cmp2 op op' a b c=>(r.ev τ st a).bind λp=>(r.ev τ p.2 b).bind λq=>(cmpT q.2 op p.1 q.1).bind λk=>
   if k then(r.ev τ q.2 c).bind λu=>(cmpT u.2 op' q.1 u.1).map λk'=>(.bl k',u.2) else ys (.bl false,q.2)
 |.and a b=>(r.ev τ st a).bind λp=>match p.1 with
  |.bl true=>r.ev τ p.2 b
  |.bl false=>ys (.bl false,p.2)
  |_=>no
 |.or a b=>(r.ev τ st a).bind λp=>match p.1 with
  |.bl false=>r.ev τ p.2 b
  |.bl true=>ys (.bl true,p.2)
  |_=>no
 |.tup es=>(evsT (r.ev τ) es st).bind λp=>if lim<p.1.length then no else ys (.tup p.1,p.2)
 |.lst es=>(evsT (r.ev τ) es st).bind λp=>if lim<p.1.length then no else ys (alloc p.2 (.lst true p.1))
 |.idx a b=>(r.ev τ st a).bind λp=>(r.ev τ p.2 b).bind λq=>(askI (idxD q.2 p.1 q.1)).map λd=>(d,q.2)
 |.sli a lo hi=>(r.ev τ st a).bind λp=>(qll r τ p.2 lo).bind λl=>(qll r τ l.2 hi).bind λh=>sliT n h.2 p.1 l.1 h.1
 |.call f es=>(evsT (r.ev τ) es st).bind λp=>r.call f p.1 p.2
 |.bcall f es=>(evsT (r.ev τ) es st).bind λp=>qmr n p.2 f p.1
 |.isi a ts _=>(r.ev τ st a).bind λp=>(tyT n p.2 p.1).map λn=>(.bl (ts.any λt=>tyIs t n),p.2)
 |.meth a m es=>(r.ev τ st a).bind λp=>(mtyT n p.2 m p.1).bind λk=>if k then(evsT (r.ev τ) es p.2).bind λq=>qba n q.2 m p.1 q.1 else no
 |.gc a=>(r.ev τ st a).bind λp=>gcT st p
 |.dic es=>(evsT (r.ev τ) es (st++[.dic true []])).bind λp=>(wdT n p.2 st.length).bind λk0=>lf (match k0 with
  |[]=>(pairUp p.1).bind λkvs=>if kvs.length<=15 then some (.loc st.length,p.2.set st.length (.dic true (dall kvs))) else none
  |_=>none)
 |.didx a b=>(r.ev τ st a).bind λp=>(r.ev τ p.2 b).bind λq=>(dgT n p q.1 q.2).bind λo=>(lf o).map λd=>(d,q.2)
 |.din neg a b=>(r.ev τ st a).bind λp=>(r.ev τ p.2 b).bind λq=>(dgT n q p.1 q.2).map λo=>(.bl (o.isSome != neg),q.2)
 |.dgt a b=>(r.ev τ st a).bind λp=>match p.1 with
  |.loc l=>(dcT n p.2 l).bind λ_=>(r.ev τ p.2 b).bind λq=>(dgT n p q.1 q.2).bind λo=>ys (o.getD .non,q.2)
  |_=>no
 |.gidx _ ks ds b=>(r.ev τ st b).bind λp=>lf (match p.1 with
  |.str z=>((ks.zip ds).find? λq=>q.1==z).map λq=>(q.2,p.2)
  |_=>none)
 |.gin neg _ ks b=>(r.ev τ st b).bind λp=>lf (match p.1 with
  |.str z=>some (.bl (ks.contains z != neg),p.2)
  |_=>none)
 |.lenset a=>(r.ev τ st a).bind λp=>(askI (qk1 p.1)).map λd=>(d,p.2)
 |.comp t it test elt sr=>askE (stepEv r.rl τ st (.comp t it test elt sr)) ((srcT n r τ st it).bind λp=>
   (qaz p.1 (turnT r t test elt) (p.1.size p.2+1) 0 [] (inner sr τ) p.2).map λq=>alloc q.2 (.lst true q.1))
 |.attr C a f=>(r.ev τ st a).bind λp=>(obT n p.2 C p.1).bind λfs=>lf ((fs.lookup f).map λd=>(d,p.2))
 |.mcall C f m a es=>(r.ev τ st a).bind λp=>(obT n p.2 C p.1).bind λfs=>if (fs.lookup m).isSome then no else(evsT (r.ev τ) es p.2).bind λq=>r.call f (p.1::q.1) q.2
 |.new C f es=>(evsT (r.ev τ) es st).bind λp=>(r.call f (.loc p.2.length::p.1) (p.2++[.obj C []])).bind λq=>if isNon q.1 then ys (.loc p.2.length,q.2) else no
 |_=>no
noncomputable def qyh(n:Nat)(r:RT)(τ:Sl)(st:Store):E->TM (Bool×Store)
 |.not a=>(r.tst τ st a).map λp=>(!p.1,p.2)
 |.and a b=>(r.tst τ st a).bind λp=>if p.1 then r.tst τ p.2 b else ys (false,p.2)
 |.or a b=>(r.tst τ st a).bind λp=>if p.1 then ys (true,p.2) else r.tst τ p.2 b
 |.din neg a b=>(r.ev τ st a).bind λp=>(r.ev τ p.2 b).bind λq=>(dgT n q p.1 q.2).map λo=>(o.isSome != neg,q.2)
 |.gin neg _ ks b=>(r.ev τ st b).bind λp=>lf (match p.1 with
  |.str z=>some (ks.contains z != neg,p.2)
  |_=>none)
 |.cmp op a b=>(r.ev τ st a).bind λp=>(r.ev τ p.2 b).bind λq=>(cmpT q.2 op p.1 q.1).map λk=>(k,q.2)
 |.cmp2 op op' a b c=>(r.ev τ st a).bind λp=>(r.ev τ p.2 b).bind λq=>(cmpT q.2 op p.1 q.1).bind λk=>
   if k then(r.ev τ q.2 c).bind λu=>(cmpT u.2 op' q.1 u.1).map λk'=>(k',u.2) else ys (false,q.2)
 |e=>(r.ev τ st e).bind λp=>(qg6 n p.2 p.1).map λk=>(k,p.2)
noncomputable def qhq(n:Nat)(r:RT)(τ:Sl)(st:Store):S->TM (Out×Store)
 |.set t e=>(r.ev τ st e).bind λp=>(lf (setT t p.1 τ)).map λτ'=>(.nx τ',p.2)
 |.dset a i e=>(r.ev τ st e).bind λp=>(r.ev τ p.2 a).bind λq=>(r.ev τ q.2 i).bind λu=>match q.1 with
  |.loc l=>(wdT n u.2 l).bind λkvs=>if isKey u.1 then(askB (decide (kvs.length<lim))).bind λb=>if b then ys (.nx τ,u.2.set l (.dic true (dput kvs u.1 p.1))) else no else no
  |_=>no
 |.setA C a f e=>(r.ev τ st e).bind λp=>(r.ev τ p.2 a).bind λq=>(obT n q.2 C q.1).bind λfs=>match q.1 with
  |.loc l=>if fs.length<900 then ys (.nx τ,q.2.set l (.obj C (putA f p.1 fs))) else no
  |_=>no
 |.expr e=>(r.ev τ st e).map λp=>(.nx τ,p.2)
 |.ret e=>(r.ev τ st e).map λp=>(.rt p.1,p.2)
 |.ite c a b=>askT (stepEx r.rl τ st (.ite c a b)) ((r.tst τ st c).bind λp=>if p.1 then r.ex τ p.2 a else r.ex τ p.2 b)
 |.forr t it body=>askS (stepEx r.rl τ st (.forr t it body)) ((srcT n r τ st it).bind λp=>
   qdc p.1 (λτ st d=>(lf (setT t d τ)).bind λτ'=>r.ex τ' st body) (p.1.size p.2+1) 0 τ p.2)
 |.ford t a body=>askS (stepEx r.rl τ st (.ford t a body)) no
 |.whil c body=>askS (stepEx r.rl τ st (.whil c body)) no
 |.brk=>ys (.bk τ,st)
 |.six a i e=>askT (stepEx r.rl τ st (.six a i e)) ((r.ev τ st e).bind λp=>(r.ev τ p.2 a).bind λq=>(r.ev τ q.2 i).bind λu=>match q.1,u.1 with
  |.loc l,.int i=>(wlT n u.2 l).bind λds=>(lf (ixN ds.length i)).map λj=>(.nx τ,u.2.set l (.lst true (ds.set j p.1)))
  |_,_=>no)
 |_=>no
noncomputable def qjj(n:Nat)(r:RT)(τ:Sl)(st:Store)(s:S):TM (Out×Store):=askT (stepEx r.rl τ st s) (qhq n r τ st s)
noncomputable def exsT(f:Sl->Store->S->TM (Out×Store)):List S->Sl->Store->TM (Out×Store)
 |[],τ,st=>ys (.nx τ,st)
 |s::ss,τ,st=>(askN (τ,st)).bind λu=>(f u.1 u.2 s).bind λp=>match p.1 with
  |.nx τ'=>exsT f ss τ' p.2
  |o=>ys (o,p.2)
abbrev CT:=Nat->List D->Store->TM (D×Store)
noncomputable def runT(n:Nat)(R0:R)(c:CT):Nat->RT
 |0=>⟨R0,λ_ _ _=>no,λ_ _ _=>no,λ_ _ _=>no,c⟩
 |k+1=>⟨R0,qcc n (runT n R0 c k),qyh n (runT n R0 c k),λτ st ss=>exsT (qjj n (runT n R0 c k)) ss τ st,c⟩
noncomputable def qj6(fns:List Fn)(n:Nat)(Oq:List Nat)(k:Nat):Nat->CT
 |0=>λ_ _ _=>no
 |d+1=>λf ds st=>if Oq.contains f then askC (callD fns (k+(d+1)) f ds st) else match fns[f]? with
   |some F=>if ds.length=F.np then((runT n (RL (callD fns (k+d))) (qj6 fns n Oq k d) 40).ex (ds.map some++List.replicate (F.nl - ds.length) none) st F.body).bind λp=>(match p.1 with
     |.rt d=>ys (d,p.2)
     |.nx _=>ys (.non,p.2)
     |_=>no)
    else no
   |none=>no
def Sn{α:Type}(x:TM α)(y:Option α):Prop:=∀t K,x t K->∃a t',y=some a/\K a t'
theorem Sn.lf{α:Type}:∀(o:Option α),Sn (lf o) o
 |some a=>λt K h=>⟨a,t,rfl,h⟩
 |none=>λt K h=>h.elim
theorem Sn.ys{α:Type}(a:α):Sn (ys a) (some a):=λt K h=>⟨a,t,rfl,h⟩
theorem Sn.no{α:Type}(o:Option α):Sn no o:=λt K h=>h.elim
theorem Sn.bind{α b:Type}{x:TM α}{y:Option α}{f:α->TM b}{g:α->Option b}(h:Sn x y)(h':∀a,Sn (f a) (g a)):Sn (x.bind f) (y.bind g):=λt K e=>by
 obtain⟨a,d,rfl,c⟩:=h _ _ e;exact h' a _ _ c
theorem Sn.map{α b:Type}{x:TM α}{y:Option α}(f:α->b)(h:Sn x y):Sn (x.map f) (y.map f):=λt K e=>by
 obtain⟨a,c,rfl,d⟩:=h _ _ e;exact⟨f a,c,rfl,d⟩
theorem Sn.ite{α:Type}{c:Prop} [Decidable c]{a b:TM α}{e d:Option α}(g:Sn a e) (f:Sn b d):Sn (if c then a else b) (if c then e else d):=by
 by_cases h:c
 ·rw[Z3 h,Z3 h]; exact g
 ·rw[Z2 h,Z2 h]; exact f
theorem Sn.up{α:Type}{x:TM α}{y y':Option α}(h:∀a,y=some a->y'=some a)(e:Sn x y):Sn x y':=λt K h1=>by
 obtain⟨a,b,d,c⟩:=e t K h1;exact⟨a,b,h a d,c⟩
theorem Sn.eq{α:Type}{x:TM α}{y y':Option α}(h:y=y')(e:Sn x y):Sn x y':=h▸e
theorem bm{α a:Type}{o:Option α}{f:α->a}:(o.bind λx=>some (f x))=o.map f:=by cases o<;>rfl
theorem Sn.askB(p:Bool):Sn (askB p) (some p):=λt K h=>by
 cases t with
 |nil=>exact h.elim
 |cons i t=>
  cases i with
  |b k=>obtain⟨rfl,e⟩:=h; exact⟨_,_,rfl,e⟩
  |k=>exact⟨p,t,rfl,h⟩
  |_=>exact h.elim
theorem Sn.askC(o:Option (D×Store)):Sn (askC o) o:=λt K h=>by
 cases t with
 |nil=>exact h.elim
 |cons i t=>
  cases i with
  |c a=>exact⟨a,t,h.1,h.2⟩
  |_=>exact h.elim
theorem Sn.askD(o:Option (D×Store)):Sn (askD o) o:=λt K h=>by
 cases t with
 |nil=>exact Sn.lf o _ _ h
 |cons i t=>
  cases i with
  |c a=>exact⟨a,t,h.1,h.2⟩
  |_=>exact Sn.lf o _ _ h
theorem Sn.askE{o:Option (D×Store)}{x:TM (D×Store)}(h:Sn x o):Sn (askE o x) o:=λt K e=>by
 cases t with
 |nil=>exact h _ _ e
 |cons i t=>
  cases i with
  |c a=>exact⟨a,t,e.1,e.2⟩
  |_=>exact h _ _ e
theorem Sn.askS{o:Option (Out×Store)}{x:TM (Out×Store)}(h:Sn x o):Sn (askS o x) o:=λt K e=>by
 cases t with
 |nil=>exact h _ _ e
 |cons i t=>
  cases i with
  |s a=>exact⟨a,t,e.1,e.2⟩
  |_=>exact h _ _ e
theorem Sn.askT{o:Option (Out×Store)}{x:TM (Out×Store)}(h:Sn x o):Sn (askT o x) o:=λt K e=>by
 cases t with
 |nil=>exact h _ _ e
 |cons i t=>
  cases i with
  |t a=>exact⟨a,t,e.1,e.2⟩
  |_=>exact h _ _ e
theorem Sn.askQ(o:Option D):Sn (askQ o) (some o):=λt K h=>by
 cases t with
 |nil=>exact h.elim
 |cons i t=>
  cases i with
  |q a=>exact⟨a,t,congrArg some h.1,h.2⟩
  |k=>exact⟨o,t,rfl,h⟩
  |_=>exact h.elim
theorem Sn.askI(o:Option D):Sn (askI o) o:=λt K h=>by
 cases t with
 |nil=>exact Sn.lf o _ _ h
 |cons i t=>
  cases i with
  |i a=>exact⟨a,t,h.1,h.2⟩
  |n=>exact Sn.lf o _ _ h
  |_=>exact Sn.lf o _ _ h
theorem Sn.askR(o:Option Cell):Sn (askR o) o:=λt K h=>by
 cases t with
 |nil=>exact h.elim
 |cons i t=>
  cases i with
  |r c=>exact⟨c,t,h.1,h.2⟩
  |_=>exact h.elim
theorem Sn.askN(p:Sl×Store):Sn (askN p) (some p):=λt K h=>by
 cases t with
 |nil=>exact⟨p,[],rfl,h⟩
 |cons i t=>
  cases i with
  |e q=>exact⟨q,t,congrArg some h.1,h.2⟩
  |_=>exact⟨p,_,rfl,h⟩
theorem Sn.rd(n:Nat)(st:Store)(l:Nat):Sn (rdT n st l) st[l]?:=by
 unfold rdT
 by_cases a:Nat.blt l n=true
 ·rw[Z3 a]; exact .lf _
 ·rw[Z2 a]; exact .askR _
theorem Sn.seq(n:Nat)(st:Store)(d:D):Sn (seqT n st d) (seqAt st d):=by
 cases d with
 |loc l=>exact((Sn.rd n st l).bind λc=>.lf _).eq (by show _=listAt st l; unfold listAt; cases st[l]? with|none=>rfl|some c=>cases c<;>rfl)
 |lst ds=>exact .ys _
 |_=>exact .no _
theorem Sn.sli(n:Nat)(st:Store)(d:D)(a b:Option Int):Sn (sliT n st d a b) (sliD st d a b):=by
 cases d with
 |tup ds=>exact .ys _
 |_=>exact(Sn.seq n st _).map _
theorem Sn.ty(n:Nat)(st:Store)(d:D):Sn (tyT n st d) (tyName st d):=by
 cases d with
 |non=>exact .ys _
 |bl _=>exact .ys _
 |int _=>exact .ys _
 |str _=>exact .ys _
 |tup _=>exact .ys _
 |_=>exact(Sn.seq n st _).map _
theorem Sn.row(n:Nat)(st:Store)(d:D):Sn (rowT n st d) (rowAt st d):=by
 cases d with
 |tup ds=>exact .ys _
 |non=>exact Sn.seq n st .non
 |bl b=>exact Sn.seq n st (.bl b)
 |int b=>exact Sn.seq n st (.int b)
 |str b=>exact Sn.seq n st (.str b)
 |lst b=>exact Sn.seq n st (.lst b)
 |loc b=>exact Sn.seq n st (.loc b)
theorem Sn.wl(n:Nat)(st:Store)(l:Nat):Sn (wlT n st l) (wlistAt st l):=((Sn.rd n st l).bind λc=>.lf _).eq (by
 unfold wlistAt
 cases st[l]? with
 |none=>rfl
 |some c=>cases c with
  |lst w ds=>cases w<;>rfl
  |_=>rfl)
theorem Sn.dc(n:Nat)(st:Store)(l:Nat):Sn (dcT n st l) (dicAt st l):=((Sn.rd n st l).bind λc=>.lf _).eq (by unfold dicAt; cases st[l]? with|none=>rfl|some c=>cases c<;>rfl)
theorem Sn.wd(n:Nat)(st:Store)(l:Nat):Sn (wdT n st l) (wdicAt st l):=((Sn.rd n st l).bind λc=>.lf _).eq (by
 unfold wdicAt
 cases st[l]? with
 |none=>rfl
 |some c=>cases c with
  |dic w ds=>cases w<;>rfl
  |_=>rfl)
theorem Sn.ob(n:Nat)(st:Store)(C:Nat)(d:D):Sn (obT n st C d) (objAt st C d):=by
 cases d with
 |loc l=>exact((Sn.rd n st l).bind λc=>.lf _).eq (by unfold objAt; dsimp only; cases st[l]? with|none=>rfl|some c=>cases c<;>rfl)
 |_=>exact .no _
theorem Sn.gc(st:Store)(p:D×Store):Sn (gcT st p) (some (gcD st p)):=λt K h=>by
 cases t with
 |nil=>exact h.elim
 |cons i t=>
  cases i with
  |g=>
   obtain⟨⟨h1,h2⟩,h⟩:=h;refine⟨_,t,?_,h⟩;unfold gcD gcX;rw[h2,Z3 h1,Z3 rfl,ite_self]
  |l ds=>exact⟨_,t,congrArg some h.1,h.2⟩
  |k=>exact⟨_,t,rfl,h⟩
  |_=>exact h.elim
theorem Sn.cond{α:Type}(p:Bool)(a:α):Sn (TM.bind (M.askB p) λb=>if b=true then M.ys a else M.no) (if p=true then some a else none):=
 (Sn.askB p).bind λb=>Sn.ite (Sn.ys a) (.no none)
theorem Sn.meth(n:Nat)(st:Store)(m:Mt)(d:D)(es:List D):Sn (qba n st m d es) (mfun st m d es):=by
 cases m with
 |append=>
  unfold qba;dsimp only
  split
  ·refine(Sn.wl n st _).bind λds=>(Sn.cond _ _).eq ?_;simp only[decide_eq_true_eq]
  ·exact .no _
 |extend=>
  unfold qba;dsimp only
  split
  ·rename_i l d;refine(Sn.wl n st _).bind λds=>((Sn.row n st d).bind λes=>Sn.cond _ _).eq ?_;simp only[decide_eq_true_eq];cases d<;>rfl
  ·exact .no _
 |insert=>
  unfold qba;dsimp only
  split
  ·refine(Sn.wl n st _).bind λds=>(Sn.cond _ _).eq ?_;simp only[decide_eq_true_eq]
  ·exact .no _
 |index=>
  unfold qba;dsimp only
  split
  ·exact(Sn.seq n st _).bind λds=>.askD _
  ·exact .no _
theorem Sn.mt(n:Nat)(st:Store)(m:Mt)(d:D){α:Type}{x:TM α}{y:Option α}(h:Sn x y):Sn (TM.bind (mtyT n st m d) λk=>if k=true then x else M.no) (if mty st m d then y else none):=by
 cases d with
 |str z=>exact λt K e=>Sn.ite h (.no none) t K e
 |lst z=>
  refine((Sn.ys m.ofList).bind λk=>Sn.ite h (.no none)).eq ?_
  show(if m.ofList=true then y else none)=if (m.ofList&&true)=true then y else none
  rw[Qjd]
 |loc l=>
  have e:=((Sn.seq n st (.loc l)).bind λ_=>Sn.ys m.ofList).bind λk=>Sn.ite (c:=k=true) h (.no none);refine e.up λa e=>?_;show(if (m.ofList&&(seqAt st (.loc l)).isSome)=true then y else none)=some a
  cases b:seqAt st (.loc l) with
  |none=>rw[b]at e; cases e
  |some xs=>rw[b]at e; rw[Qja,Qjd]; exact e
 |_=>exact λt K e=>e.elim
theorem Sn.askO(o:Option Bool):Sn (askO o) o:=λt K h=>by
 cases t with
 |nil=>exact h.elim
 |cons i t=>
  cases i with
  |b k=>exact⟨k,t,h.1,h.2⟩
  |k=>exact Sn.lf o _ _ h
  |_=>exact h.elim
theorem Sn.cmp(st:Store)(a:CmpOp)(x y:D):Sn (cmpT st a x y) (cmpD st a x y):=by
 unfold cmpT
 by_cases b:isAsk a x y=true
 ·rw[Z3 b]; exact .askO _
 ·rw[Z2 b];have h:Sn ((M.lf (cmpD st a x y)).bind λp=>if qmk a x=true then M.askB p else M.ys p) ((cmpD st a x y).bind λp=>if qmk a x=true then some p else some p):=(Sn.lf _).bind λp=>Sn.ite (Sn.askB p) (Sn.ys p);simpa using h
theorem Sn.truth(n:Nat)(st:Store)(d:D):Sn (qg6 n st d) (truth st d):=by
 cases d with
 |loc l=>exact((Sn.seq n st (.loc l)).bind λds=>Sn.askB _).eq (by show _=(seqAt st (.loc l)).map _; rw[Option.map_eq_bind]; rfl)
 |lst l=>exact .askB _
 |non=>exact .lf (M.truth st .non)
 |bl b=>exact .lf (M.truth st (.bl b))
 |int b=>exact .lf (M.truth st (.int b))
 |str b=>exact .lf (M.truth st (.str b))
 |tup b=>exact .lf (M.truth st (.tup b))
theorem Sn.add(n:Nat)(st:Store)(a b:D):Sn (addT n st a b) ((seqAt st a).bind λx=>(seqAt st b).bind λy=>if lim<x.length+y.length then none else some (alloc st (.lst true (x++y)))):=
 (Sn.seq n st a).bind λx=>(Sn.seq n st b).bind λy=>by
  have h:=(Sn.askB (decide (lim<x.length+y.length))).bind λk=>Sn.ite (c:=k=true) (.no none) (Sn.ys (alloc st (.lst true (x++y))));simpa only[oBs,decide_eq_true_eq] using h
theorem Sn.bin(n:Nat)(st:Store)(c:Za)(a b:D):Sn (binT n st c a b) (binop st c a b):=by
 unfold binT
 split
 ·exact(Sn.add n st _ b).eq (by cases b<;>rfl)
 ·exact(Sn.add n st _ b).eq (by cases b<;>rfl)
 ·split
  ·exact Sn.cond _ _
  ·exact .lf _
 ·exact .askD _
 ·exact .askD _
 ·exact .askD _
 ·exact .askD _
 ·exact .lf _
theorem Sn.bf(n:Nat)(st:Store)(f:Bq)(ds:List D):Sn (qmr n st f ds) (bfun st f ds):=by
 unfold qmr
 split
 ·split
  ·exact((Sn.seq n st _).bind λxs=>.ys _).eq (bm)
  ·exact .lf _
 ·split
  ·rename_i l;refine((Sn.rd n st l).bind λc=>(Sn.lf _).bind λxs=>.ys _).eq ?_;show _=bList st [.loc l];unfold bList seqAt listAt dkeys dicAt;dsimp only
   cases st[l]? with
   |none=>rfl
   |some c=>cases c<;>rfl
  ·exact .lf _
 ·split
  ·exact((Sn.seq n st _).bind λxs=>.ys _).eq (bm)
  ·exact .lf _
 ·split
  ·rename_i i j;refine((Sn.askB _).bind λk=>.ys _).eq ?_;show some _=some _
   by_cases h:j > i<;>simp[h]
  ·exact .no _
 ·split
  ·rename_i i j;refine((Sn.askB _).bind λk=>.ys _).eq ?_;show some _=some _
   by_cases h:j<i<;>simp[h]
  ·exact .no _
 ·exact .askD _
structure SnR (r:RT) (r':R):Prop where
 rl:r.rl=r'
 ev:∀τ st e,Sn (r.ev τ st e) (r'.ev τ st e)
 tst:∀τ st e,Sn (r.tst τ st e) (r'.tst τ st e)
 ex:∀τ st e,Sn (r.ex τ st e) (r'.ex τ st e)
 call:∀f ds st,Sn (r.call f ds st) (r'.call f ds st)
theorem qxy{f:Store->E->TM (D×Store)}{a:Store->E->Option (D×Store)}(h:∀st e,Sn (f st e) (a st e)):∀(es:List E) (st:Store),Sn (evsT f es st) (evs a es st)
 |[],st=>.ys _
 |e::es,st=>(h st e).bind λp=>(qxy h es p.2).bind λq=>.ys _
theorem qw2{it:Src}{f:Sl->Store->D->TM (Out×Store)}{b:Sl->Store->D->Option (Out×Store)}(h:∀τ st d,Sn (f τ st d) (b τ st d)):∀(k i:Nat) (τ:Sl) (st:Store),Sn (qdc it f k i τ st) (loop it b k i τ st)
 |0,_,_,_=>.no _
 |k+1,i,τ,st=>by
  unfold loop qdc;refine(Sn.lf _).bind λo=>?_
  cases o with
  |none=>exact .ys _
  |some d=>
   refine(h τ st d).bind λp=>?_;obtain⟨o,s⟩:=p
   cases o with
   |nx a=>exact qw2 h k _ _ _
   |ct a=>exact qw2 h k _ _ _
   |bk a=>exact .ys _
   |rt v=>exact .ys _
theorem qy9{it:Src}{f:Sl->Store->D->TM (Option D×Sl×Store)}{a:Sl->Store->D->Option (Option D×Sl×Store)}(h:∀τ st d,Sn (f τ st d) (a τ st d)):∀(k i:Nat) (acc:List D) (τ:Sl) (st:Store),Sn (qaz it f k i acc τ st) (loopC it a k i acc τ st)
 |0,_,_,_,_=>.no _
 |k+1,i,acc,τ,st=>by
  unfold loopC qaz;refine(Sn.lf _).bind λo=>?_
  cases o with
  |none=>exact Sn.ite (.no _) (.ys _)
  |some d=>exact Sn.ite (.no _) ((h τ st d).bind λp=>qy9 h k _ _ _ _)
theorem qd9{f:Sl->Store->S->TM (Out×Store)}{a:Sl->Store->S->Option (Out×Store)}(h:∀τ st s,Sn (f τ st s) (a τ st s)):∀(ss:List S) (τ:Sl) (st:Store),Sn (exsT f ss τ st) (exs a ss τ st)
 |[],_,_=>.ys _
 |s::ss,τ,st=>by
  unfold exs exsT;refine Sn.bind (y:=some (τ,st)) (.askN _) λu=>(h u.1 u.2 s).bind λp=>?_;obtain⟨o,q⟩:=p
  cases o with
  |nx b=>exact qd9 h ss _ _
  |rt _=>exact .ys _
  |bk _=>exact .ys _
  |ct _=>exact .ys _
section
variable {n:Nat}{r:RT}{r':R}(h:SnR r r')
include h
theorem qhx(τ:Sl)(st:Store)(e:E):Sn (srcT n r τ st e) (src r' τ st e):=by
 cases e with
 |rng1 a=>
  refine(h.ev τ st a).bind λp=>?_;obtain⟨d,s⟩:=p
  cases d with
  |int n=>exact Sn.ite (.no _) (.ys _)
  |_=>exact .no _
 |zip a b=>exact(h.ev τ st a).bind λp=>(h.ev τ _ b).bind λq=>.lf _
 |_=>
  refine(h.ev τ st _).bind λp=>?_;obtain⟨d,s⟩:=p
  cases d with
  |tup n=>exact .ys _
  |str z=>exact .no _
  |_=>exact(Sn.seq n s _).map _
theorem qdq(τ:Sl)(st:Store)(e:Option E):Sn (qll r τ st e) (part r' τ st e):=by
 cases e with
 |none=>exact .ys _
 |some e=>
  refine(h.ev τ st e).bind λp=>?_;obtain⟨d,s⟩:=p
  cases d with
  |int n=>exact .ys _
  |_=>exact .no _
theorem qiq(t:T)(a:Option E)(elt:E)(τ:Sl)(st:Store)(d:D):Sn (turnT r t a elt τ st d) (turnC r' t a elt τ st d):=(Sn.lf _).bind λe=>by
 cases a with
 |none=>exact(h.ev _ _ _).map _
 |some c=>exact(h.tst _ _ _).bind λb=>Sn.ite ((h.ev _ _ _).map _) (.ys _)
omit h in
theorem qgt(p:D×Store)(k:D)(st:Store){α:Type}{f:Option D->TM α}{g:Option D->Option α}(a:∀o,Sn (f o) (g o)):Sn ((dgT n p k st).bind f) (match p.1 with
  |.loc l=>(dicAt st l).bind λkvs=>if isKey k then g (dget kvs k) else none
  |_=>none):=by
 obtain⟨d,s⟩:=p
 cases d with
 |loc l=>
  refine(((Sn.dc n st l).bind λkvs=>Sn.ite (Sn.askQ (dget kvs k)) (.no none)).bind a).eq ?_;dsimp only
  cases dicAt st l with
  |none=>rfl
  |some kvs=>
   show Option.bind (if isKey k=true then some (dget kvs k) else none) g=if isKey k=true then g (dget kvs k) else none
   by_cases e:isKey k=true
   ·rw[Z3 e,Z3 e]; rfl
   ·rw[Z2 e,Z2 e]; rfl
 |_=>exact λt K e=>e.elim
theorem qcb(τ:Sl)(st:Store)(e:E):Sn (qcc n r τ st e) (stepEv r' τ st e):=by
 cases e with
 |var i=>exact .lf _
 |lit d=>exact .ys _
 |glo x d=>exact .ys _
 |bin j a b=>exact(h.ev τ st a).bind λp=>(h.ev τ _ b).bind λq=>.bin _ _ _ _ _
 |neg a=>exact(h.ev τ st a).bind λp=>.lf _
 |not a=>exact(h.ev τ st a).bind λp=>.lf _
 |cmp j a b=>exact(h.ev τ st a).bind λp=>(h.ev τ _ b).bind λq=>(Sn.cmp _ _ _ _).map _
 |cmp2 j w a b c=>exact(h.ev τ st a).bind λp=>(h.ev τ _ b).bind λq=>(Sn.cmp _ _ _ _).bind λk=>Sn.ite ((h.ev τ _ c).bind λu=>(Sn.cmp _ _ _ _).map _) (.ys _)
 |and a b=>
  refine(h.ev τ st a).bind λp=>?_;obtain⟨d,s⟩:=p
  cases d with
  |bl k=>cases k with
   |true=>exact h.ev τ _ b
   |false=>exact .ys _
  |_=>exact .no _
 |or a b=>
  refine(h.ev τ st a).bind λp=>?_;obtain⟨d,s⟩:=p
  cases d with
  |bl k=>cases k with
   |false=>exact h.ev τ _ b
   |true=>exact .ys _
  |_=>exact .no _
 |tup es=>exact(qxy (h.ev τ) es st).bind λp=>Sn.ite (.no _) (.ys _)
 |lst es=>exact(qxy (h.ev τ) es st).bind λp=>Sn.ite (.no _) (.ys _)
 |idx a b=>exact(h.ev τ st a).bind λp=>(h.ev τ _ b).bind λq=>(Sn.askI _).map _
 |sli a lo hi=>exact(h.ev τ st a).bind λp=>(qdq h τ _ lo).bind λl=>(qdq h τ _ hi).bind λu=>.sli _ _ _ _ _
 |call f es=>exact(qxy (h.ev τ) es st).bind λp=>h.call f _ _
 |bcall f es=>exact(qxy (h.ev τ) es st).bind λp=>.bf _ _ _ _
 |isi a y m=>exact(h.ev τ st a).bind λp=>(Sn.ty _ _ _).map _
 |lenset a=>exact(h.ev τ st a).bind λp=>(Sn.askI _).map _
 |gc a=>exact((h.ev τ st a).bind λp=>Sn.gc st p).eq (bm)
 |meth a m es=>exact(h.ev τ st a).bind λp=>Sn.mt _ _ _ _ ((qxy (h.ev τ) es _).bind λq=>.meth _ _ _ _ _)
 |dic es=>
  refine(qxy (h.ev τ) es _).bind λp=>((Sn.wd n p.2 st.length).bind λv=>Sn.lf _).eq ?_
  cases wdicAt p.2 st.length with
  |none=>rfl
  |some v=>cases v<;>rfl
 |didx a b=>exact(h.ev τ st a).bind λp=>(h.ev τ _ b).bind λq=>qgt p q.1 q.2 λo=>(Sn.lf o).map _
 |din neg a b=>exact(h.ev τ st a).bind λp=>(h.ev τ _ b).bind λq=>qgt q p.1 q.2 λo=>Sn.ys _
 |dgt a b=>
  refine(h.ev τ st a).bind λp=>?_;obtain⟨d,s⟩:=p
  cases d with
  |loc l=>exact(Sn.dc n s l).bind λ_=>(h.ev τ _ b).bind λq=>qgt (.loc l,s) q.1 q.2 λo=>Sn.ys _
  |_=>exact .no _
 |gidx x ks ds b=>exact(h.ev τ st b).bind λp=>.lf _
 |gin neg x ks b=>exact(h.ev τ st b).bind λp=>.lf _
 |comp t it g elt sr=>
  show Sn (askE (stepEv r.rl τ st (.comp t it g elt sr)) _) _;rw[h.rl];exact Sn.askE ((qhx h τ st it).bind λp=>(qy9 (qiq h t g elt) _ _ _ _ _).map _)
 |attr C a f=>exact(h.ev τ st a).bind λp=>(Sn.ob _ _ _ _).bind λfs=>.lf _
 |mcall C f m a es=>exact(h.ev τ st a).bind λp=>(Sn.ob _ _ _ _).bind λfs=>Sn.ite (.no _) ((qxy (h.ev τ) es _).bind λq=>h.call f _ _)
 |new C f es=>exact(qxy (h.ev τ) es st).bind λp=>(h.call f _ _).bind λq=>Sn.ite (.ys _) (.no _)
 |_=>exact .no _
theorem qa3(τ:Sl)(st:Store)(e:E):Sn (qyh n r τ st e) (stepTst r' τ st e):=by
 cases e with
 |not a=>exact(h.tst τ st a).map _
 |and a b=>exact(h.tst τ st a).bind λp=>Sn.ite (h.tst τ _ b) (.ys _)
 |or a b=>exact(h.tst τ st a).bind λp=>Sn.ite (.ys _) (h.tst τ _ b)
 |din neg a b=>
  refine((h.ev τ st a).bind λp=>(h.ev τ _ b).bind λq=>qgt q p.1 q.2 λo=>Sn.ys _).eq ?_;show _=(dinR r' τ st neg a b).bind _;unfold dinR;simp only[Option.bind_assoc];refine congrArg _ (funext λp=>congrArg _ (funext λq=>?_))
  cases q.1 with
  |loc l=>
   dsimp only
   cases dicAt q.2 l with
   |none=>rfl
   |some kvs=>
    simp only[oBs]
    by_cases e:isKey p.1=true
    ·rw[Z3 e,Z3 e]; rfl
    ·rw[Z2 e,Z2 e]; rfl
  |_=>rfl
 |gin neg x ks b=>
  refine((h.ev τ st b).bind λp=>Sn.lf _).eq ?_;show _=(ginR r' τ st neg ks b).bind _;unfold ginR;simp only[Option.bind_assoc];refine congrArg _ (funext λp=>?_);cases p.1<;>rfl
 |cmp f a b=>exact(h.ev τ st a).bind λp=>(h.ev τ _ b).bind λq=>(Sn.cmp _ _ _ _).map _
 |cmp2 f d a b c=>exact(h.ev τ st a).bind λp=>(h.ev τ _ b).bind λq=>(Sn.cmp _ _ _ _).bind λk=>Sn.ite ((h.ev τ _ c).bind λu=>(Sn.cmp _ _ _ _).map _) (.ys _)
 |_=>exact(h.ev τ st _).bind λp=>(Sn.truth _ _ _).map _
theorem qcd(τ:Sl)(st:Store)(s:S):Sn (qhq n r τ st s) (stepEx r' τ st s):=by
 cases s with
 |set t e=>exact(h.ev τ st e).bind λp=>(Sn.lf _).map _
 |dset a i e=>
  refine(h.ev τ st e).bind λp=>(h.ev τ _ a).bind λq=>(h.ev τ _ i).bind λu=>?_;obtain⟨d,s⟩:=q
  cases d with
  |loc l=>
   refine((Sn.wd n u.2 l).bind λkvs=>Sn.ite (Sn.cond (decide (kvs.length<lim)) (Out.nx τ,u.2.set l (.dic true (dput kvs u.1 p.1)))) (.no none)).eq ?_;refine congrArg _ (funext λkvs=>?_)
   cases isKey u.1 with
   |true=>rfl
   |false=>rfl
  |_=>exact .no _
 |setA C a f e=>
  refine(h.ev τ st e).bind λp=>(h.ev τ _ a).bind λq=>(Sn.ob n _ _ _).bind λfs=>?_;obtain⟨d,s⟩:=q
  cases d with
  |loc l=>exact Sn.ite (.ys _) (.no _)
  |_=>exact .no _
 |expr e=>exact(h.ev τ st e).map _
 |ret e=>exact(h.ev τ st e).map _
 |ite c a b=>
  show Sn (askT (stepEx r.rl τ st (.ite c a b)) _) _;rw[h.rl];exact Sn.askT ((h.tst τ st c).bind λp=>Sn.ite (h.ex τ _ a) (h.ex τ _ b))
 |forr t it body=>
  show Sn (askS (stepEx r.rl τ st (.forr t it body)) _) _;rw[h.rl];exact Sn.askS ((qhx h τ st it).bind λp=>qw2 (λτ st d=>(Sn.lf _).bind λg=>h.ex g st body) _ _ _ _)
 |ford t a body=>
  show Sn (askS (stepEx r.rl τ st (.ford t a body)) _) _;rw[h.rl];exact Sn.askS (.no _)
 |whil c body=>
  show Sn (askS (stepEx r.rl τ st (.whil c body)) _) _;rw[h.rl];exact Sn.askS (.no _)
 |brk=>exact .ys _
 |six a i e=>
  show Sn (askT (stepEx r.rl τ st (.six a i e)) _) _;rw[h.rl];refine Sn.askT ((h.ev τ st e).bind λp=>(h.ev τ _ a).bind λq=>(h.ev τ _ i).bind λu=>?_);obtain⟨d,s⟩:=q;obtain⟨k,s'⟩:=u
  cases d with
  |loc l=>
   cases k with
   |int i=>
    refine((Sn.wl n s' l).bind λds=>(Sn.lf (ixN ds.length i)).map λj=>(Out.nx τ,s'.set l (.lst true (ds.set j p.1)))).eq ?_;show _=((wlistAt s' l).bind λds=>(ixN ds.length i).map λj=>s'.set l (.lst true (ds.set j p.1))).map _
    cases wlistAt s' l with
    |none=>rfl
    |some ds=>show Option.map _ _=Option.map _ (Option.map _ _); rw[Option.map_map]; rfl
   |_=>exact .no _
  |_=>exact .no _
 |_=>exact .no _
theorem qjq(τ:Sl)(st:Store)(s:S):Sn (qjj n r τ st s) (stepEx r' τ st s):=by
 show Sn (askT (stepEx r.rl τ st s) _) _;rw[h.rl];exact Sn.askT (qcd h τ st s)
end
theorem qi7(c:CF):Le (RL c) λm=>runK c m:=
 ⟨λτ st e x h=>by obtain⟨n,e⟩:=lim1_is h; exact⟨n,λm a=>ev_up e a⟩,λτ st e x h=>by obtain⟨n,e⟩:=lim1_is h; exact⟨n,λm a=>qg4 e a⟩,λτ st e x h=>by obtain⟨n,e⟩:=lim1_is h; exact⟨n,λm a=>ex_up e a⟩,λf ds st x h=>⟨0,λm _=>by show(runK c m).call f ds st=_; rw[runK_call]; exact h⟩⟩
theorem qq8(c:CF)(τ:Sl)(st:Store)(e:E)(x:D×Store)(h:stepEv (RL c) τ st e=some x):(RL c).ev τ st e=some x:=by
 obtain⟨n,hn⟩:=qjk (qi7 c) τ st e x h;exact qw3 (n:=n+1) (λ_ _ _ h k=>ev_up h k) (hn n (Qqw _))
theorem rl_tst(c:CF)(τ:Sl)(st:Store)(e:E)(x:Bool×Store)(h:stepTst (RL c) τ st e=some x):(RL c).tst τ st e=some x:=by
 obtain⟨n,hn⟩:=qxl (qi7 c) τ st e x h;exact qw3 (n:=n+1) (λ_ _ _ h k=>qg4 h k) (hn n (Qqw _))
theorem rl_ex(c:CF)(τ:Sl)(st:Store)(e:List S)(x:Out×Store)(h:exs (stepEx (RL c)) e τ st=some x):(RL c).ex τ st e=some x:=by
 obtain⟨n,hn⟩:=qk3 (qjx (qi7 c)) e τ st x h;exact qw3 (n:=n+1) (λ_ _ _ h k=>ex_up h k) (hn n (Qqw _))
theorem qxm{n:Nat}{c:CT}{c':CF}(h:∀f ds st,Sn (c f ds st) (c' f ds st)):∀k,SnR (runT n (RL c') c k) (RL c')
 |0=>⟨rfl,λ_ _ _=>.no _,λ_ _ _=>.no _,λ_ _ _=>.no _,h⟩
 |k+1=>⟨rfl,λτ st e=>(qcb (qxm h k) τ st e).up (qq8 c' τ st e),λτ st e=>(qa3 (qxm h k) τ st e).up (rl_tst c' τ st e),λτ st ss=>(qd9 (qjq (qxm h k)) ss τ st).up (rl_ex c' τ st ss),h⟩
theorem qq5{fns:List Fn}{n:Nat}{b:List Nat}{k:Nat}:∀(d f:Nat) (ds:List D) (st:Store),Sn (qj6 fns n b k d f ds st) (callD fns (k+d) f ds st)
 |0,f,ds,st=>.no _
 |d+1,f,ds,st=>by
  unfold qj6
  by_cases a:b.contains f=true
  ·rw[Z3 a];exact .askC _
  ·rw[Z2 a];show Sn _ (stepCall fns (RL (callD fns (k+d))) f ds st);unfold stepCall
   cases hf:fns[f]? with
   |none=>exact .no _
   |some F=>
    refine Sn.ite (((qxm (λf ds st=>qq5 d f ds st) 40).ex _ _ _).bind λp=>?_) (.no _);obtain⟨o,s⟩:=p
    cases o with
    |rt _=>exact .ys _
    |nx _=>exact .ys _
    |bk _=>exact .no _
    |ct _=>exact .no _
theorem qgs{fns:List Fn}{k:Nat}{τ:Sl}{st:Store}{ss:List S}{r:Out×Store}(n:Nat)(c:List Nat)(d:Nat)(P:Prop->Prop)(t:Tp)(b:P (r=r))(h:exsT (qjj n (runT n (RL (callD fns (k+d))) (qj6 fns n c k d) 40)) ss τ st t (λa _=>a=r)=P (r=r):=by kernel_rfl):exs (stepEx (RL (callD fns (k+d)))) ss τ st=some r:=by
 rw[<- h]at b;obtain⟨a,g,e,rfl⟩:=qd9 (qjq (qxm (λf ds st=>qq5 d f ds st) 40)) ss τ st t _ b;exact e
theorem qzg{fns:List Fn}{k:Nat}{τ:Sl}{st:Store}{ss:List S}{r:Out×Store}(n:Nat)(b:List Nat)(d:Nat)(P:Prop->Prop)(t:Tp)(c:P (r=r))(h:exsT (qjj n (runT n (RL (callD fns (k+d))) (qj6 fns n b k d) 40)) ss τ st t (λa _=>a=r)=P (r=r):=by kernel_rfl):(RL (callD fns (k+d))).ex τ st ss=some r:=rl_ex _ _ _ _ _ (qgs n b d P t c h)
theorem qzf{fns:List Fn}{k:Nat}{τ:Sl}{st:Store}{e:E}{r:D×Store}(n:Nat)(c:List Nat)(d:Nat)(P:Prop->Prop)(t:Tp)(b:P (r=r))(h:(runT n (RL (callD fns (k+d))) (qj6 fns n c k d) 40).ev τ st e t (λa _=>a=r)=P (r=r):=by kernel_rfl):(RL (callD fns (k+d))).ev τ st e=some r:=by
 rw[<- h]at b;obtain⟨a,g,e,rfl⟩:=(qxm (λf ds st=>qq5 d f ds st) 40).ev τ st e t _ b;exact e
theorem qzt{fns:List Fn}{k:Nat}{τ:Sl}{st:Store}{e:E}{r:Bool×Store}(n:Nat)(c:List Nat)(d:Nat)(P:Prop->Prop)(t:Tp)(b:P (r=r))(h:(runT n (RL (callD fns (k+d))) (qj6 fns n c k d) 40).tst τ st e t (λa _=>a=r)=P (r=r):=by kernel_rfl):(RL (callD fns (k+d))).tst τ st e=some r:=by
 rw[<- h]at b;obtain⟨a,g,e,rfl⟩:=(qxm (λf ds st=>qq5 d f ds st) 40).tst τ st e t _ b;exact e
theorem qzq{fns:List Fn}{k f:Nat}{ds:List D}{st:Store}{r:D×Store}(n:Nat)(c:List Nat)(d:Nat)(P:Prop->Prop)(t:Tp)(b:P (r=r))(h:qj6 fns n c k d f ds st t (λa _=>a=r)=P (r=r):=by kernel_rfl):callD fns (k+d) f ds st=some r:=by
 rw[<- h]at b;obtain⟨a,g,e,rfl⟩:=qq5 d f ds st t _ b;exact e
theorem qar{fns:List Fn}{k f:Nat}{ds:List D}{st:Store}{r:D×Store}(n:Nat)(g:List Nat)(d:Nat)(c:D×Store)(P:Prop->Prop)(t:Tp)(b:P (c=r))(h:qj6 fns n g k d f ds st t (λa _=>a=r)=P (c=r):=by kernel_rfl):callD fns (k+d) f ds st=some r:=by
 rw[<- h]at b;obtain⟨a,i,e,rfl⟩:=qq5 d f ds st t _ b;exact e
end M
end
section
namespace MS
open PySem PySem.Spec PyProof.Rows L2
theorem qx0:fillsNumberSlot (.type "tuple") "mul" = pure false:=
 PySem.fillsNumberSlot_seq F.slot_tuple_mul.lookup (by decide +kernel) F.slot_tuple_rmul.lookup (by decide +kernel)
theorem qvc:seqRepeat? (.type "tuple")=pure (some (.builtin "tuple.__mul__")):=by
 unfold seqRepeat?;rw[PySem.seqSlot_of (name:="__mul__") F.slot_tuple_mul.lookup (by decide +kernel),PySem.seqSlot_of (name:="__rmul__") F.slot_tuple_rmul.lookup (by decide +kernel)]
 rfl
theorem qj4(a:Int)(t:Tok)(l:Addr)(b:Array Value)(n:Nat)(dd:Option Addr)(sl:Array (Option Value)):
  Meets (Zd.«int.__rmul__» ⟨[.int a t,.ref l],[]⟩) (λ_ R s=>s.heap.get? l=some { cls:=.type "tuple",dict:=dd,data:=.seq b n,slots:=sl }/\R (.ok (.ret Value.notImplemented)) s):=
 .of_wp λprog w A R s h=>by obtain⟨c,g,d,tk,os⟩:=s; obtain⟨e,h⟩:=h; wp_walk; exact⟨_,rfl,h⟩
theorem qju(l:Addr)(a:Array Value)(n:Nat)(dd:Option Addr)(sl:Array (Option Value))(x:Int)(u:Tok)(b:¬ (decide (x < -(2 ^ 63))||decide (x >= 2 ^ 63))=true)(f:(a.isEmpty||x==1)=true):
  Meets (Zd.«tuple.__mul__» ⟨[.ref l,.int x u],[]⟩) (λ_ R s=>s.heap.get? l=some { cls:=.type "tuple",dict:=dd,data:=.seq a n,slots:=sl }/\R (.ok (.ret (Value.ref l))) s):=
 .of_wp λprog w A R s h=>by
  obtain⟨c,g,d,tk,os⟩:=s; obtain⟨e,h⟩:=h
  wp_walk
  simp only[Z2 b]
  wp_walk
  exact⟨_,rfl,h⟩
theorem qj0(l:Addr)(a:Array Value)(n:Nat)(dd:Option Addr)(sl:Array (Option Value))(x:Int)(u:Tok)(b:¬ (decide (x < -(2 ^ 63))||decide (x >= 2 ^ 63))=true)(i:¬ (a.isEmpty||x==1)=true)(f:(decide (x<=0)||a.isEmpty)=true):
  Meets (Zd.«tuple.__mul__» ⟨[.ref l,.int x u],[]⟩) (λ_ R s=>s.heap.get? l=some { cls:=.type "tuple",dict:=dd,data:=.seq a n,slots:=sl }/\R (.ok (.ret (Value.ref s.heap.objs.size))) { s with heap:=s.heap.push { cls:=.type "tuple",data:=.seq #[] } }):=
 .of_wp λprog w A R s h=>by
  obtain⟨c,g,d,tk,os⟩:=s; obtain⟨e,h⟩:=h
  wp_walk
  simp only[Z2 b]
  wp_walk
  exact⟨_,rfl,h⟩
theorem qj1(l:Addr)(a:Array Value)(n:Nat)(dd:Option Addr)(sl:Array (Option Value))(x:Int)(u:Tok)(e:¬ (decide (x < -(2 ^ 63))||decide (x >= 2 ^ 63))=true)(o:¬ (a.isEmpty||x==1)=true)(m:¬ (decide (x<=0)||a.isEmpty)=true)
  (c:¬ ((a.size:Int)*x > (2 ^ 63 - 1) / 8)) (k:¬ Builtin.Tuple.tupleTooMany ((a.size:Int)*x)=true) (j:(List.foldl (λb x2=>b++x2) #[] (List.replicate x.toNat a)).size<=sizeLine) :
  Meets (Zd.«tuple.__mul__» ⟨[.ref l,.int x u],[]⟩) (λ_ R s=>s.heap.get? l=some { cls:=.type "tuple",dict:=dd,data:=.seq a n,slots:=sl }/\R (.ok (.ret (Value.ref s.heap.objs.size))) { s with heap:=s.heap.push { cls:=.type "tuple",data:=.seq (List.foldl (λb x2=>b++x2) #[] (List.replicate x.toNat a)) } }):=
 .of_wp λprog w A R s h=>by
  obtain⟨f,g,d,tk,os⟩:=s; obtain⟨i,h⟩:=h
  wp_walk
  simp only[Z2 e]
  wp_walk
  simp only[Z2 c]
  wp_walk
  exact⟨_,rfl,h⟩
noncomputable def rRepT(K:Qqq):R2:=λx y H Q=>∃l k xs,x=.ref l/\y=.int k/\SqT K H l xs/\-(2 ^ 62)<=k/\k<2 ^ 62/\xs.length*k.toNat<=sizeLine/\
 (∀ys,ys=(List.replicate k.toNat xs).flatten->(ys=xs->Q (.ref l) H)/\∀p,H p=none->Q (.ref p) (upd H p (.tup ys)))
theorem qlo{X:Cx}:OpR X (Q1 .Mult) (rRepT X.K):=by
 intro pins s σ H x y v u Q I G E h;obtain⟨l,k,xs,rfl,rfl,R,k1,W,p,q⟩:=h;cases G;obtain⟨t,rfl⟩:=E;obtain⟨a,r,S,N⟩:=I.tuple R;obtain⟨⟨cls,d,D,sl⟩,b,A,n,hd⟩:=id S;simp only at A hd;subst A hd;have w:=r.length;obtain⟨K,o⟩:=q _ rfl;have C:=λm=>by
  have:=foldl_rep a m [];rw[List.nil_append]at this;exact this
 have i:¬ (decide (k < -(2 ^ 63))||decide (k >= 2 ^ 63))=true:=by simp; omega
 refine wpAny_binaryOp_repeat_ref (by decide) ⟨_,b,rfl⟩ (λs'=>typeIs_int s' k t) qx0 F.fills_int_mul F.slot_int_rmul qvc F.slot_int_index.lookup
  (Qr F.slot_int_rmul (typeIs_int s k t) F.entry_int_rmul (F.args_int_rmul_2 _ _) (qj4 k t l a.toArray n d sl) ⟨b,rfl,⟨_,b,rfl⟩,?_⟩)
 by_cases h1:(a.toArray.isEmpty||k==1)=true
 ·refine Qr F.slot_tuple_mul ⟨_,b,rfl⟩ F.entry_tuple_mul (F.args_tuple_mul_2 _ _) (qju l a.toArray n d sl k t i h1) ⟨b,⟨.ref l,H,I,rfl,K ?_⟩⟩;rw[Qxj]at h1;rcases h1 with z|z
  ·have j:a=[]:=by simpa using z
   have U:=Qzr.mp (by rw[w,j]; rfl);rw[U];simp
  ·have j:k=1:=by simpa using z
   rw[j];simp
 ·have g:a≠[]:=λz=>h1 (by rw[z]; rfl)
  by_cases h2:(decide (k<=0)||a.toArray.isEmpty)=true
  ·refine Qr F.slot_tuple_mul ⟨_,b,rfl⟩ F.entry_tuple_mul (F.args_tuple_mul_2 _ _) (qj0 l a.toArray n d sl k t i h1 h2) ⟨b,?_⟩;have T:k<=0:=by
    rw[Qxj]at h2;rcases h2 with z|z
    ·simpa using z
    ·exact absurd (by simpa using z) g
   have V:k.toNat=0:=by omega
   refine⟨.ref _,_,I.laid (λ_ _ e=>Qqz _ e) (Qqw _) ?_,rfl,o _ I.fresh⟩;rw[V];exact⟨Qzc _,[],.nil,IsTup.new s.heap _⟩
  ·have T:0<k:=by
    simp at h2; omega
   have c:((a.toArray.size:Nat):Int)*k=((a.length*k.toNat:Nat):Int):=by
    rw[Qqy,Int.natCast_mul]
    congr 1
    omega
   have f:a.length*k.toNat<=sizeLine:=by rw[<- w]; exact p
   have P:(sizeLine:Nat)<2 ^ 60:=by rw[Q4]; decide
   refine Qr F.slot_tuple_mul ⟨_,b,rfl⟩ F.entry_tuple_mul (F.args_tuple_mul_2 _ _) (qj1 l a.toArray n d sl k t i h1 h2 ?_ ?_ ?_) ⟨b,?_⟩
   ·rw[c]; omega
   ·unfold Builtin.Tuple.tupleTooMany;rw[c,decide_eq_true_eq];omega
   ·rw[C,Qqy,len_rep,Qjo]; exact f
   ·refine⟨.ref _,_,I.laid (λ_ _ e=>Qqz _ e) (Qqw _) ?_,rfl,o _ I.fresh⟩;rw[C];exact⟨by rw[len_rep,Qjo]; exact p,_,r.rep k.toNat,IsTup.new s.heap _⟩
section
variable {prog:Program}{w:Qk}{A:Qv}{E:Value->Qz->Prop}{s:Qz}
theorem qq3{t sl:Addr}{a:Array Value}{k j:Value}{b e:Option Int}{Q:Value->Qz->Prop}(d:IsTup s.heap t a)(m:s.heap.IsSliceOf sl k j .none)(pl:IsPart k b)(n:IsPart j e)
  (l:HT.sIx a.size 0 b=0/\HT.sIx a.size a.size e=a.size) (h:Q (.ref t) s):wpAny (model prog w) A (Zk (.ref t) (.ref sl)) Q E s:=by
 obtain⟨os,f,g,o⟩:=id m;have i:s.TypeIs (.ref sl) "slice":=⟨os,f,g⟩
 unfold Zk
 try with_reducible refine Qo ?_
 first|refine Qq (Qj ?_)|skip
 refine Qq (wpAny_sequenceKey d.typeIs (by decide) ?_)
 refine Qq (Qm d.typeIs PyProof.Rows.slot_tuple_getitem
  (Qs PyProof.Rows.slot_tuple_getitem d.typeIs entry_tuple_getitem ?_ (args_tuple_getitem _ _)))
 show wpAny _ _ (Builtin.Tuple.tupleItemsOf (.ref t) >>= _) _ _ s;refine Qq (tupleItemsOf_ d ?_);refine Qq (wpAny_typeOf i ?_);rw[Z3 (by decide)];refine Qq (HT.sliceApplied_gen m pl n ?_);have c:(((HT.sIx a.size 0 b:Nat):Int)==0&&(1:Int)==1&&(HT.sIx a.size a.size e - HT.sIx a.size 0 b)==a.size)=true:=by
  rw[l.1,l.2];simp
 show wpAny _ _ (if (((HT.sIx a.size 0 b:Nat):Int)==0&&(1:Int)==1&&(HT.sIx a.size a.size e - HT.sIx a.size 0 b)==a.size)=true then _ else _) _ _ s;rw[Z3 c];refine Qq ?_;unfold Builtin.Tuple.tupleIsExact;refine Qq (wpAny_typeOf d.typeIs (Qj ?_));rw[Z3 (by decide)]
 first
  |exact Qq (Zn (Qj ⟨_,rfl,Qj h⟩))
  |exact Qq (Zn (Qq (Qj (Qj ⟨_,rfl,Qj h⟩))))
  |exact Qq (Qq (Zn (Qj (Qj ⟨_,rfl,Qj h⟩))))
end
end MS
end
section
namespace MS
open PySem PySem.Spec PyProof.Rows L2
open M (D Cell Store Sl)
theorem nn{α:Type}{a:α}{P:Prop}(h:none=some a):P:=by cases h
def SqF(K:Qqq)(H:Hp)(a:Addr)(xs:List V):Prop:=
 (∃o,H a=some (.frz o (.lst xs)))\/∃(o:Obj) (its:Array Value) (n:Nat),K.lookup a=some o/\o.cls=.type "list"/\o.dict=none/\o.data=.seq its n/\its.size<=sizeLine/\Vals xs its.toList
mutual
noncomputable def IsD(K:Qqq)(m:List Addr)(H:Hp):D->V->Prop
 |.non,v=>v=.non
 |.bl b,v=>v=.bl b
 |.int i,v=>v=.int i
 |.str s,v=>v=.str s
 |.tup ds,v=>∃a xs,v=.ref a/\SqT K H a xs/\IsDs K m H ds xs
 |.lst ds,v=>∃a xs,v=.ref a/\SqF K H a xs/\IsDs K m H ds xs
 |.loc l,v=>∃a,m[l]?=some a/\v=.ref a
noncomputable def IsDs(K:Qqq)(m:List Addr)(H:Hp):List D->List V->Prop
 |[],xs=>xs=[]
 |d::ds,xs=>∃x r,xs=x::r/\IsD K m H d x/\IsDs K m H ds r
end
def Sub(m m':List Addr):Prop:=∀(l:Nat) (a:Addr),m[l]?=some a->m'[l]?=some a
noncomputable def Sq:HO->Prop
 |.lst _=>True
 |.tup _=>True
 |_=>False
structure Tr (H H':Hp):Prop where
 tup:∀b xs,H b=some (.tup xs)->H' b=some (.tup xs)
 frz:∀b o u,H b=some (.frz o u)->H' b=some (.frz o u)
structure Tw (H H':Hp):Prop where
 tup:∀b xs,H b=some (.tup xs)->H' b=some (.tup xs)
 frz:∀b o u,Sq u->H b=some (.frz o u)->H' b=some (.frz o u)
theorem Tr.w{H H':Hp}(t:Tr H H'):Tw H H':=⟨t.tup,λb o u _=>t.frz b o u⟩
theorem Sub.refl(m:List Addr):Sub m m:=λ_ _ h=>h
theorem Sub.trans{m c m2:List Addr}(a:Sub m c)(b:Sub c m2):Sub m m2:=λl x h=>b l x (a l x h)
theorem Sub.app(m r:List Addr):Sub m (m++r):=λl a h=>by
 rw[Qqp (Qqv.mp h).1]; exact h
theorem Tr.refl(H:Hp):Tr H H:=⟨λ_ _ h=>h,λ_ _ _ h=>h⟩
theorem Tr.trans{H d H2:Hp}(a:Tr H d)(b:Tr d H2):Tr H H2:=⟨λc xs h=>b.tup c xs (a.tup c xs h),λc o u h=>b.frz c o u (a.frz c o u h)⟩
theorem Tr.of_same{H H':Hp}(h:Same H H'):Tr H H':=⟨λb xs e=>h b _ e,λb o u e=>h b _ e⟩
theorem qzy{H:Hp}{p:Addr}{o:HO}(a:H p=none):Same H (upd H p o):=λb u e=>by
 rw[qzx (qze e a)]; exact e
theorem Tr.put{H:Hp}{p:Addr}{c ys:List V}(a:H p=some (.lst c)):Tr H (upd H p (.lst ys)):=
 ⟨λb zs e=>by rw[qzx (qzr e a (by intro z; cases z))]; exact e,λb o u e=>by rw[qzx (qzr e a (by intro z; cases z))]; exact e⟩
theorem Tw.sqT{K:Qqq}{H H':Hp}{a:Addr}{xs:List V}(t:Tw H H')(h:SqT K H a xs):SqT K H' a xs:=by
 rcases h with (h|⟨o,h⟩)|h
 ·exact .inl (.inl (t.tup _ _ h))
 ·exact .inl (.inr ⟨o,t.frz _ _ _ trivial h⟩)
 ·exact .inr h
theorem SqF.sq{K:Qqq}{H:Hp}{a:Addr}{xs:List V}(h:SqF K H a xs):SqL K H a xs:=by
 rcases h with h|h
 ·exact .inl (.inr h)
 ·exact .inr h
theorem Tw.sqF{K:Qqq}{H H':Hp}{a:Addr}{xs:List V}(t:Tw H H')(h:SqF K H a xs):SqF K H' a xs:=by
 rcases h with⟨o,h⟩|h
 ·exact .inl ⟨o,t.frz _ _ _ trivial h⟩
 ·exact .inr h
theorem Tr.sqT{K:Qqq}{H H':Hp}{a:Addr}{xs:List V}(t:Tr H H')(h:SqT K H a xs):SqT K H' a xs:=t.w.sqT h
theorem Tr.sqF{K:Qqq}{H H':Hp}{a:Addr}{xs:List V}(t:Tr H H')(h:SqF K H a xs):SqF K H' a xs:=t.w.sqF h
section
variable {K:Qqq}{m m':List Addr}{H H':Hp}
mutual
theorem qqb(c:Sub m m')(b:Tw H H'):∀(d:D) (v:V),IsD K m H d v->IsD K m' H' d v
 |.non,_,h=>h
 |.bl _,_,h=>h
 |.int _,_,h=>h
 |.str _,_,h=>h
 |.tup ds,_,h=>by
  unfold IsD at h ⊢;obtain⟨a,xs,e,q,r⟩:=h;exact⟨a,xs,e,b.sqT q,qz5 c b ds xs r⟩
 |.lst ds,_,h=>by
  unfold IsD at h ⊢;obtain⟨a,xs,e,q,r⟩:=h;exact⟨a,xs,e,b.sqF q,qz5 c b ds xs r⟩
 |.loc l,_,h=>by
  unfold IsD at h ⊢;obtain⟨a,e,q⟩:=h;exact⟨a,c l a e,q⟩
theorem qz5(c:Sub m m')(b:Tw H H'):∀(ds:List D) (a:List V),IsDs K m H ds a->IsDs K m' H' ds a
 |[],_,h=>h
 |d::ds,_,h=>by
  unfold IsDs at h ⊢;obtain⟨x,r,e,q,t⟩:=h;exact⟨x,r,e,qqb c b d x q,qz5 c b ds r t⟩
end
theorem qzv(b:Sub m m')(a:Tr H H')(d:D)(v:V)(h:IsD K m H d v):IsD K m' H' d v:=qqb b a.w d v h
theorem qza(b:Sub m m')(a:Tr H H')(ds:List D)(xs:List V)(h:IsDs K m H ds xs):IsDs K m' H' ds xs:=qz5 b a.w ds xs h
theorem IsD.int{i:Int}{v:V}(h:IsD K m H (.int i) v):v=.int i:=by unfold IsD at h; exact h
theorem IsD.bl{i:Bool}{v:V}(h:IsD K m H (.bl i) v):v=.bl i:=by unfold IsD at h; exact h
theorem IsD.str{i:Str}{v:V}(h:IsD K m H (.str i) v):v=.str i:=by unfold IsD at h; exact h
theorem IsD.non{v:V}(h:IsD K m H .non v):v=.non:=by unfold IsD at h; exact h
theorem IsD.tup{ds:List D}{v:V}(h:IsD K m H (.tup ds) v):∃a xs,v=.ref a/\SqT K H a xs/\IsDs K m H ds xs:=by unfold IsD at h; exact h
theorem IsD.lst{ds:List D}{v:V}(h:IsD K m H (.lst ds) v):∃a xs,v=.ref a/\SqF K H a xs/\IsDs K m H ds xs:=by unfold IsD at h; exact h
theorem IsD.loc{l:Nat}{v:V}(h:IsD K m H (.loc l) v):∃a,m[l]?=some a/\v=.ref a:=by unfold IsD at h; exact h
theorem mkInt(i:Int):IsD K m H (.int i) (.int i):=by unfold IsD; rfl
theorem mkBl(i:Bool):IsD K m H (.bl i) (.bl i):=by unfold IsD; rfl
theorem mkStr(i:Str):IsD K m H (.str i) (.str i):=by unfold IsD; rfl
theorem qku:IsD K m H .non .non:=by unfold IsD; rfl
theorem qxz{ds:List D}{a:Addr}{b:List V}(h:SqT K H a b)(q:IsDs K m H ds b):IsD K m H (.tup ds) (.ref a):=by unfold IsD; exact⟨a,b,rfl,h,q⟩
theorem qby{ds:List D}{a:Addr}{b:List V}(h:SqF K H a b)(q:IsDs K m H ds b):IsD K m H (.lst ds) (.ref a):=by unfold IsD; exact⟨a,b,rfl,h,q⟩
theorem qgc{l:Nat}{a:Addr}(h:m[l]?=some a):IsD K m H (.loc l) (.ref a):=by unfold IsD; exact⟨a,h,rfl⟩
theorem IsDs.nil{a:List V}(h:IsDs K m H [] a):a=[]:=by unfold IsDs at h; exact h
theorem IsDs.cons{d:D}{ds:List D}{a:List V}(h:IsDs K m H (d::ds) a):∃x r,a=x::r/\IsD K m H d x/\IsDs K m H ds r:=by unfold IsDs at h; exact h
theorem qqz:IsDs K m H [] []:=by unfold IsDs; rfl
theorem qzi{d:D}{ds:List D}{x:V}{r:List V}(h:IsD K m H d x)(t:IsDs K m H ds r):IsDs K m H (d::ds) (x::r):=by unfold IsDs; exact⟨x,r,rfl,h,t⟩
theorem IsDs.one{d:D}{a:List V}(h:IsDs K m H [d] a):∃x,a=[x]/\IsD K m H d x:=by
 obtain⟨x,r,rfl,q,t⟩:=h.cons;rw[t.nil];exact⟨x,rfl,q⟩
theorem IsDs.two{d e:D}{a:List V}(h:IsDs K m H [d,e] a):∃x y,a=[x,y]/\IsD K m H d x/\IsD K m H e y:=by
 obtain⟨x,r,rfl,q,t⟩:=h.cons;obtain⟨y,rfl,b⟩:=t.one;exact⟨x,y,rfl,q,b⟩
theorem IsDs.length:∀{ds:List D}{a:List V},IsDs K m H ds a->ds.length=a.length
 |[],_,h=>by rw[h.nil]; rfl
 |_::_,_,h=>by
  obtain⟨x,r,rfl,_,t⟩:=h.cons;rw[Qqh,Qqh,t.length]
theorem IsDs.get:∀{ds:List D}{a:List V}{i:Nat}{d:D},IsDs K m H ds a->ds[i]?=some d->∃x,a[i]?=some x/\IsD K m H d x
 |[],_,_,_,_,e=>by simp at e
 |d::ds,_,0,d',h,e=>by
  obtain⟨x,r,rfl,q,_⟩:=h.cons;have f:d=d':=by simpa using e
  subst f;exact⟨x,rfl,q⟩
 |d::ds,_,i+1,d',h,e=>by
  obtain⟨x,r,rfl,_,t⟩:=h.cons;obtain⟨y,c,b⟩:=t.get (by simpa using e);exact⟨y,by simpa using c,b⟩
theorem IsDs.append:∀{ds es:List D}{b ys:List V},IsDs K m H ds b->IsDs K m H es ys->IsDs K m H (ds++es) (b++ys)
 |[],_,_,_,h,q=>by rw[h.nil]; exact q
 |_::_,_,_,_,h,q=>by
  obtain⟨x,r,rfl,a,t⟩:=h.cons;exact qzi a (t.append q)
theorem IsDs.set:∀{ds:List D}{b:List V}(i:Nat){d:D}{x:V},IsDs K m H ds b->IsD K m H d x->IsDs K m H (ds.set i d) (b.set i x)
 |[],_,_,_,_,h,_=>by rw[h.nil]; exact qqz
 |_::_,_,0,_,_,h,q=>by
  obtain⟨x,r,rfl,a,t⟩:=h.cons;exact qzi q t
 |_::_,_,i+1,_,_,h,q=>by
  obtain⟨x,r,rfl,a,t⟩:=h.cons;exact qzi a (t.set i q)
end
noncomputable def keyOf:D->Option Key
 |.int i=>some (.inl i)
 |.str z=>some (.inr z)
 |_=>none
noncomputable def IsKV(K:Qqq)(m:List Addr)(H:Hp):List (D×D)->List (Key×V)->Prop
 |[],xs=>xs=[]
 |p::r,xs=>∃k v xr,xs=(k,v)::xr/\keyOf p.1=some k/\IsD K m H p.2 v/\IsKV K m H r xr
theorem qqy{K:Qqq}{m c:List Addr}{H H':Hp}(f:Sub m c)(d:Tw H H'):∀(kvs:List (D×D)) (a:List (Key×V)),IsKV K m H kvs a->IsKV K c H' kvs a
 |[],_,h=>h
 |p::r,_,⟨k,v,b,e,j,g,i⟩=>⟨k,v,b,e,j,qqb f d _ _ g,qqy f d r b i⟩
theorem qjg{K:Qqq}{m a:List Addr}{H H':Hp}(c:Sub m a)(b:Tr H H')(kvs:List (D×D))(xs:List (Key×V))(h:IsKV K m H kvs xs):IsKV K a H' kvs xs:=qqy c b.w kvs xs h
theorem IsKV.length{K:Qqq}{m:List Addr}{H:Hp}:∀{kvs:List (D×D)}{a:List (Key×V)},IsKV K m H kvs a->kvs.length=a.length
 |[],_,h=>by rw[show _=[] from h]; rfl
 |p::r,_,⟨k,v,c,e,_,_,b⟩=>by rw[e,Qqh,Qqh,b.length]
theorem qez{a b:D}{k j:Key}(d:keyOf a=some k)(c:keyOf b=some j):M.eqT a b=decide (k=j):=by
 cases a with
 |int i=>
  cases d
  cases b with
  |int e=>cases c; rw[M.eqT]; by_cases h:i=e<;>simp[h]
  |str z=>cases c; simp[M.eqT]
  |_=>exact nn c
 |str z=>
  cases d
  cases b with
  |int e=>cases c; simp[M.eqT]
  |str f=>cases c; rw[M.eqT]; by_cases h:z=f<;>simp[h]
  |_=>exact nn c
 |_=>exact nn d
theorem qqt{a:D}(h:M.isKey a=true):∃k,keyOf a=some k:=by
 cases a with
 |int i=>exact⟨_,rfl⟩
 |str z=>exact⟨_,rfl⟩
 |_=>cases h
theorem ql9{K:Qqq}{m:List Addr}{H:Hp}{a:D}{k:Key}{v:V}(h:keyOf a=some k)(i:IsD K m H a v):v=kV k:=by
 cases a with
 |int b=>cases h; exact i.int
 |str z=>cases h; exact i.str
 |_=>exact nn h
theorem IsKV.get{K:Qqq}{m:List Addr}{H:Hp}{a:D}{j:Key}(f:keyOf a=some j):∀{kvs:List (D×D)}{c:List (Key×V)},IsKV K m H kvs c->(M.dget kvs a=none/\valV c j=none)\/∃d v,M.dget kvs a=some d/\valV c j=some v/\IsD K m H d v
 |[],_,h=>by rw[show _=[] from h]; exact .inl ⟨rfl,rfl⟩
 |p::r,_,⟨k,v,o,e,l,g,i⟩=>by
  subst e;have eq:=qez l f
  by_cases b:k=j
  ·refine .inr ⟨p.2,v,?_,qx1 b,g⟩;rw[Z0 b]at eq;simp[M.dget,eq]
  ·rw[Z1 b]at eq;have n:M.dget (p::r) a=M.dget r a:=by simp[M.dget,eq]
   rw[n,qx2 b];exact i.get f
theorem IsKV.any{K:Qqq}{m:List Addr}{H:Hp}{a:D}{j:Key}(c:keyOf a=some j):∀{kvs:List (D×D)}{b:List (Key×V)},IsKV K m H kvs b->(kvs.any λp=>M.eqT p.1 a)=(b.any λp=>decide (p.1=j))
 |[],_,h=>by rw[show _=[] from h]; rfl
 |p::r,_,⟨k,v,g,e,f,i,d⟩=>by
  subst e;rw[Qz7,Qz7,qez f c,d.any c]
theorem IsKV.repl{K:Qqq}{m:List Addr}{H:Hp}{a d:D}{j:Key}{w:V}(f:keyOf a=some j)(hd:IsD K m H d w):∀{kvs:List (D×D)}{g:List (Key×V)},IsKV K m H kvs g->IsKV K m H (kvs.map λp=>if M.eqT p.1 a then(p.1,d) else p) (g.map λp=>if p.1=j then(p.1,w) else p)
 |[],_,h=>by rw[show _=[] from h]; rfl
 |p::r,_,⟨k,v,n,e,c,l,i⟩=>by
  subst e;have eq:=qez c f;rw[Qq3,Qq3]
  by_cases b:k=j
  ·rw[Z0 b]at eq;rw[Z3 eq,Z3 b];exact⟨k,w,_,rfl,c,hd,i.repl f hd⟩
  ·rw[Z1 b]at eq;rw[Z2 (by rw[eq]; nofun),Z2 b];exact⟨k,v,_,rfl,c,l,i.repl f hd⟩
theorem IsKV.snoc{K:Qqq}{m:List Addr}{H:Hp}{a d:D}{j:Key}{w:V}(c:keyOf a=some j)(hd:IsD K m H d w):∀{kvs:List (D×D)}{b:List (Key×V)},IsKV K m H kvs b->IsKV K m H (kvs++[(a,d)]) (b++[(j,w)])
 |[],_,h=>by rw[show _=[] from h]; exact⟨j,w,[],rfl,c,hd,rfl⟩
 |p::r,_,⟨k,v,l,e,i,f,g⟩=>by
  subst e;exact⟨k,v,_,rfl,i,f,g.snoc c hd⟩
theorem IsKV.put{K:Qqq}{m:List Addr}{H:Hp}{a d:D}{j:Key}{w:V}{kvs:List (D×D)}{c:List (Key×V)}(h:IsKV K m H kvs c)(b:keyOf a=some j)(hd:IsD K m H d w):IsKV K m H (M.dput kvs a d) (putK c j w):=by
 unfold M.dput putK;rw[h.any b]
 split
 ·exact h.repl b hd
 ·exact h.snoc b hd
theorem IsKV.merge{K:Qqq}{m:List Addr}{H:Hp}:∀{more:List (D×D)}{ms:List (Key×V)}{kvs:List (D×D)}{a:List (Key×V)},IsKV K m H more ms->IsKV K m H kvs a->IsKV K m H (more.foldl (λb p=>M.dput b p.1 p.2) kvs) (qkj a ms)
 |[],_,kvs,a,h,q=>by rw[show _=[] from h]; exact q
 |p::r,_,kvs,a,⟨k,v,g,e,f,c,d⟩,q=>by
  subst e;exact d.merge (q.put f c)
noncomputable def IsFs(K:Qqq)(m:List Addr)(H:Hp):List (Str×D)->List (Str×V)->Prop
 |[],ys=>ys=[]
 |p::r,ys=>∃v yr,ys=(p.1,v)::yr/\IsD K m H p.2 v/\IsFs K m H r yr
theorem qxe{K:Qqq}{m b:List Addr}{H H':Hp}(d:Sub m b)(c:Tw H H'):∀(fs:List (Str×D)) (ys:List (Str×V)),IsFs K m H fs ys->IsFs K b H' fs ys
 |[],_,h=>h
 |p::r,_,⟨v,a,e,f,g⟩=>⟨v,a,e,qqb d c _ _ f,qxe d c r a g⟩
theorem qds{K:Qqq}{m a:List Addr}{H H':Hp}(c:Sub m a)(b:Tr H H')(fs:List (Str×D))(ys:List (Str×V))(h:IsFs K m H fs ys):IsFs K a H' fs ys:=qxe c b.w fs ys h
theorem IsFs.length{K:Qqq}{m:List Addr}{H:Hp}:∀{fs:List (Str×D)}{ys:List (Str×V)},IsFs K m H fs ys->fs.length=ys.length
 |[],_,h=>by rw[show _=[] from h]; rfl
 |p::r,_,⟨v,b,e,_,a⟩=>by rw[e,Qqh,Qqh,a.length]
theorem IsFs.get{K:Qqq}{m:List Addr}{H:Hp}(f:Str):∀{fs:List (Str×D)}{ys:List (Str×V)},IsFs K m H fs ys->(fs.lookup f=none/\ys.lookup f=none)\/∃d v,fs.lookup f=some d/\ys.lookup f=some v/\IsD K m H d v
 |[],_,h=>by rw[show _=[] from h]; exact .inl ⟨rfl,rfl⟩
 |(g,d)::r,_,⟨v,c,e,a,b⟩=>by
  subst e;rw[Qqt,Qqt]
  cases f==g with
  |true=>exact .inr ⟨d,v,rfl,rfl,a⟩
  |false=>exact b.get f
theorem IsFs.put{K:Qqq}{m:List Addr}{H:Hp}{f:Str}{d:D}{w:V}(hd:IsD K m H d w):∀{fs:List (Str×D)}{ys:List (Str×V)},IsFs K m H fs ys->IsFs K m H (M.putA f d fs) (putF f w ys)
 |[],_,h=>by rw[show _=[] from h]; exact⟨w,[],rfl,hd,rfl⟩
 |(g,x)::r,_,⟨v,b,e,c,a⟩=>by
  subst e;unfold M.putA putF
  split
  ·exact⟨w,b,rfl,hd,a⟩
  ·exact⟨v,_,rfl,c,a.put hd⟩
noncomputable def IsC(K:Qqq)(m:List Addr)(H:Hp):Cell->Addr->Prop
 |.lst true ds,a=>∃xs,H a=some (.lst xs)/\IsDs K m H ds xs
 |.lst false ds,a=>∃xs,SqF K H a xs/\IsDs K m H ds xs
 |.dic true kvs,a=>∃xs,H a=some (.dK xs)/\IsKV K m H kvs xs
 |.dic false kvs,a=>∃o xs,H a=some (.frz o (.dK xs))/\IsKV K m H kvs xs
 |.obj C fs,a=>∃dx ys,H a=some (.ins C dx ys)/\IsFs K m H fs ys
noncomputable def Wr:Cell->Bool
 |.lst w _=>w
 |_=>true
structure Rel (K:Qqq) (m:List Addr) (st:Store) (H:Hp):Prop where
 len:m.length=st.length
 nd:∀(l l':Nat) (a:Addr) (c c':Cell),m[l]?=some a->m[l']?=some a->st[l]?=some c->st[l']?=some c'->Wr c=true->Wr c'=true->l=l'
 cell:∀(l:Nat) (c:Cell) (a:Addr),st[l]?=some c->m[l]?=some a->IsC K m H c a
section
variable {K:Qqq}{m:List Addr}{st:Store}{H:Hp}
theorem Rel.addr(h:Rel K m st H){l:Nat}{c:Cell}(e:st[l]?=some c):∃a,m[l]?=some a:=by
 have b:=(Qqv.mp e).1;have:=h.len;exact⟨m[l]'(by lia),by simp⟩
theorem IsC.wr{c:Cell}{a:Addr}(h:IsC K m H c a)(w:Wr c=true):∃o,H a=some o:=by
 cases c with
 |lst b ds=>
  have e:=w;subst e;obtain⟨xs,e,_⟩:=h;exact⟨_,e⟩
 |dic b kvs=>
  cases b with
  |true=>obtain⟨xs,e,_⟩:=h; exact⟨_,e⟩
  |false=>obtain⟨o,xs,e,_⟩:=h; exact⟨_,e⟩
 |obj C fs=>
  obtain⟨dx,ys,e,_⟩:=h;exact⟨_,e⟩
theorem Rel.list(h:Rel K m st H){l:Nat}{ds:List D}{v:V}(e:M.listAt st l=some ds)(g:IsD K m H (.loc l) v):∃a xs,m[l]?=some a/\v=.ref a/\SqL K H a xs/\IsDs K m H ds xs:=by
 obtain⟨a,b,rfl⟩:=g.loc;unfold M.listAt at e
 split at e
 ·rename_i w i q;cases e;have c:=h.cell l _ a q b
  cases w with
  |true=>
   obtain⟨xs,f,d⟩:=c;exact⟨a,xs,b,rfl,SqL.of f,d⟩
  |false=>
   obtain⟨xs,f,d⟩:=c;exact⟨a,xs,b,rfl,f.sq,d⟩
 ·exact nn e
theorem Rel.seq(h:Rel K m st H){d:D}{ds:List D}{v:V}(e:M.seqAt st d=some ds)(b:IsD K m H d v):∃a xs,True/\v=.ref a/\SqL K H a xs/\IsDs K m H ds xs:=by
 cases d with
 |loc l=>
  obtain⟨a,xs,_,q⟩:=h.list e b;exact⟨a,xs,trivial,q⟩
 |lst es=>
  cases e;obtain⟨a,xs,e,q,r⟩:=b.lst;exact⟨a,xs,trivial,e,q.sq,r⟩
 |_=>exact nn e
theorem Rel.wlist(h:Rel K m st H){l:Nat}{ds:List D}{v:V}(e:M.wlistAt st l=some ds)(c:IsD K m H (.loc l) v):∃a xs,m[l]?=some a/\v=.ref a/\H a=some (.lst xs)/\IsDs K m H ds xs/\st[l]?=some (.lst true ds):=by
 obtain⟨a,b,rfl⟩:=c.loc;unfold M.wlistAt at e
 split at e
 ·rename_i g q;cases e;obtain⟨xs,f,d⟩:=h.cell l _ a q b;exact⟨a,xs,b,rfl,f,d,q⟩
 ·exact nn e
theorem qv4{g:List Addr}{H':Hp}(d:Sub m g)(b:Tw H H'){c:Cell}{a:Addr}(h:IsC K m H c a)(f:Wr c=true->H' a=H a):IsC K g H' c a:=by
 cases c with
 |lst w ds=>
  cases w with
  |true=>
   obtain⟨xs,e,q⟩:=h;exact⟨xs,(f rfl).trans e,qz5 d b ds xs q⟩
  |false=>
   obtain⟨xs,e,q⟩:=h;exact⟨xs,b.sqF e,qz5 d b ds xs q⟩
 |dic w kvs=>
  cases w with
  |true=>
   obtain⟨xs,e,q⟩:=h;exact⟨xs,(f rfl).trans e,qqy d b kvs xs q⟩
  |false=>
   obtain⟨o,xs,e,q⟩:=h;exact⟨o,xs,(f rfl).trans e,qqy d b kvs xs q⟩
 |obj C fs=>
  obtain⟨dx,ys,e,q⟩:=h;exact⟨dx,ys,(f rfl).trans e,qxe d b fs ys q⟩
theorem qx5{b:List Addr}{H':Hp}(f:Sub m b)(e:Tr H H'){c:Cell}{a:Addr}(h:IsC K m H c a)(d:Wr c=true->H' a=H a):IsC K b H' c a:=qv4 f e.w h d
theorem Rel.dict(h:Rel K m st H){l:Nat}{kvs:List (D×D)}{v:V}(e:M.dicAt st l=some kvs)(i:IsD K m H (.loc l) v):∃a xs,m[l]?=some a/\v=.ref a/\Rd H a (.dK xs)/\IsKV K m H kvs xs:=by
 obtain⟨a,b,rfl⟩:=i.loc;unfold M.dicAt at e
 split at e
 ·rename_i w g q;cases e;have c:=h.cell l _ a q b
  cases w with
  |true=>
   obtain⟨xs,f,d⟩:=c;exact⟨a,xs,b,rfl,.inl f,d⟩
  |false=>
   obtain⟨o,xs,f,d⟩:=c;exact⟨a,xs,b,rfl,.inr ⟨o,f⟩,d⟩
 ·exact nn e
theorem Rel.wdict(h:Rel K m st H){l:Nat}{kvs:List (D×D)}{v:V}(e:M.wdicAt st l=some kvs)(d:IsD K m H (.loc l) v):∃a xs,m[l]?=some a/\v=.ref a/\H a=some (.dK xs)/\IsKV K m H kvs xs/\st[l]?=some (.dic true kvs):=by
 obtain⟨a,c,rfl⟩:=d.loc;unfold M.wdicAt at e
 split at e
 ·rename_i b q;cases e;obtain⟨xs,g,f⟩:=h.cell l _ a q c;exact⟨a,xs,c,rfl,g,f,q⟩
 ·exact nn e
theorem Rel.inst(h:Rel K m st H){C:Nat}{d:D}{fs:List (Str×D)}{v:V}(e:M.objAt st C d=some fs)(f:IsD K m H d v):∃l a dx ys,d=.loc l/\m[l]?=some a/\v=.ref a/\H a=some (.ins C dx ys)/\IsFs K m H fs ys/\st[l]?=some (.obj C fs):=by
 cases d with
 |loc l=>
  obtain⟨a,b,rfl⟩:=f.loc;have e:(match st[l]? with|some (.obj c fs)=>if c=C then some fs else none|_=>none)=some fs:=e
  split at e
  ·rename_i c fs' q
   split at e
   ·rename_i g;cases e;subst g;obtain⟨dx,ys,j,i⟩:=h.cell l _ a q b;exact⟨l,a,dx,ys,rfl,b,rfl,j,i,q⟩
   ·exact nn e
  ·exact nn e
 |_=>exact nn e
theorem Rel.same(h:Rel K m st H){H':Hp}(s:Same H H'):Rel K m st H':=
 ⟨h.len,h.nd,λl c a e ea=>qx5 (Sub.refl m) (Tr.of_same s) (h.cell l c a e ea) λw=>by
  obtain⟨xs,q⟩:=(h.cell l c a e ea).wr w
  rw[q]; exact s _ _ q⟩
theorem Rel.newC(h:Rel K m st H){p:Addr}{o:HO}{c:Cell}(j:H p=none)(C:Wr c=true->True)(hd:IsC K (m++[p]) (upd H p o) c p):Rel K (m++[p]) (st++[c]) (upd H p o):=by
 have y:Tr H (upd H p o):=Tr.of_same (qzy j);have f:∀(l:Nat) (e:Cell) (a:Addr),(st++[c])[l]?=some e->(m++[p])[l]?=some a->(l<st.length/\st[l]?=some e/\m[l]?=some a)\/(l=st.length/\e=c/\a=p):=by
  intro l e a g ea
  by_cases r:l<st.length
  ·rw[Qqp r]at g;rw[Qqp (by rw[h.len]; exact r)]at ea;exact .inl ⟨r,g,ea⟩
  ·have q:=(Qqv.mp g).1;rw[Qqn,Qxx]at q;have u:l=st.length:=by lia
   subst u;rw[Qqi (Qqw _)]at g;rw[Qqi (by rw[h.len]; exact Qqw _),h.len]at ea;have t:c=e:=by simpa using g
   have s:p=a:=by simpa using ea
   exact .inr ⟨rfl,t.symm,s.symm⟩
 refine⟨by simp[h.len],λl n a e v u t s A w x=>?_,λl e a g ea=>?_⟩
 ·rcases f l e a s u with⟨h1,d,b⟩|⟨h1,d,b⟩<;>rcases f n v a A t with⟨h2,k,i⟩|⟨h2,k,i⟩
  ·exact h.nd l n a e v b i d k w x
  ·obtain⟨ys,z⟩:=(h.cell l e a d b).wr w;rw[i,j]at z; cases z
  ·obtain⟨ys,z⟩:=(h.cell n v a k i).wr x;rw[b,j]at z; cases z
  ·rw[h1,h2]
 ·rcases f l e a g ea with⟨h1,d,b⟩|⟨h1,d,b⟩
  ·refine qx5 (Sub.app m [p]) y (h.cell l e a d b) λw=>?_;obtain⟨ys,z⟩:=(h.cell l e a d b).wr w;exact qzx (qze z j)
  ·rw[d,b];exact hd
theorem Rel.new(h:Rel K m st H){p:Addr}{ds:List D}{a:List V}(b:H p=none)(hd:IsDs K m H ds a):Rel K (m++[p]) (st++[.lst true ds]) (upd H p (.lst a)):=
 h.newC b (λ_=>trivial) ⟨a,qzw,qza (Sub.app m [p]) (Tr.of_same (qzy b)) ds a hd⟩
theorem Rel.newD(h:Rel K m st H){p:Addr}{kvs:List (D×D)}{a:List (Key×V)}(b:H p=none)(hd:IsKV K m H kvs a):Rel K (m++[p]) (st++[.dic true kvs]) (upd H p (.dK a)):=
 h.newC b (λ_=>trivial) ⟨a,qzw,qjg (Sub.app m [p]) (Tr.of_same (qzy b)) kvs a hd⟩
theorem Rel.newLoc(h:Rel K m st H){p:Addr}{H':Hp}:IsD K (m++[p]) H' (.loc st.length) (.ref p):=qgc (by
 rw[Qqi (by rw[h.len]; exact Qqw _),h.len]; simp)
theorem Rel.putW(h:Rel K m st H){l:Nat}{a:Addr}{c c':Cell}{o:HO}(e:st[l]?=some c)(i:Wr c=true)(t:m[l]?=some a)(v:Tw H (upd H a o))(hd:IsC K m (upd H a o) c' a):
  Rel K m (st.set l c') (upd H a o):=by
 have x:=(Qqv.mp e).1;have wr:∀(j:Nat) (d:Cell),(st.set l c')[j]?=some d->(j=l/\d=c')\/(j≠l/\st[j]?=some d):=by
  intro j d q
  by_cases k:j=l
  ·subst k;rw[Qzj x]at q;exact .inl ⟨rfl,(Option.some.inj q).symm⟩
  ·rw[Qzz (Ne.symm k)]at q;exact .inr ⟨k,q⟩
 refine⟨by rw[Qz5]; exact h.len,λj u b d d' p n A y w s=>?_,λj d b q g=>?_⟩
 ·rcases wr j d A with⟨f,b1⟩|⟨f,b1⟩<;>rcases wr u d' y with⟨r,b2⟩|⟨r,b2⟩
  ·rw[f,r]
  ·subst f; exact h.nd _ _ b _ _ p n e b2 i s
  ·subst r; exact h.nd _ _ b _ _ p n b1 e w i
  ·exact h.nd _ _ b _ _ p n b1 b2 w s
 ·rcases wr j d q with⟨f,b1⟩|⟨f,b1⟩
  ·subst f b1;rw[t]at g; cases g;exact hd
  ·refine qv4 (Sub.refl m) v (h.cell j d b b1 g) λw=>qzx λz=>?_;subst z;exact f (h.nd _ _ b _ _ g t b1 e w i)
theorem Rel.putC(h:Rel K m st H){l:Nat}{a:Addr}{c c':Cell}{o:HO}(e:st[l]?=some c)(b:Wr c=true)(f:m[l]?=some a)(d:Tr H (upd H a o))(hd:IsC K m (upd H a o) c' a):
  Rel K m (st.set l c') (upd H a o):=h.putW e b f d.w hd
theorem Rel.put(h:Rel K m st H){l:Nat}{a:Addr}{ds b:List D}{d ys:List V}(e:st[l]?=some (.lst true ds))(f:m[l]?=some a)(c:H a=some (.lst d))(hd:IsDs K m H b ys):
  Rel K m (st.set l (.lst true b)) (upd H a (.lst ys)):=
 h.putC e rfl f (Tr.put c) ⟨ys,qzw,qza (Sub.refl m) (Tr.put c) b ys hd⟩
theorem Tr.putD{H:Hp}{p:Addr}{c ys:List (Key×V)}(a:H p=some (.dK c)):Tr H (upd H p (.dK ys)):=
 ⟨λb zs e=>by rw[qzx (qzr e a (by intro z; cases z))]; exact e,λb o u e=>by rw[qzx (qzr e a (by intro z; cases z))]; exact e⟩
theorem Rel.putD(h:Rel K m st H){l:Nat}{a:Addr}{kvs b:List (D×D)}{d ys:List (Key×V)}(e:st[l]?=some (.dic true kvs))(f:m[l]?=some a)(c:H a=some (.dK d))(hd:IsKV K m H b ys):
  Rel K m (st.set l (.dic true b)) (upd H a (.dK ys)):=
 h.putC e rfl f (Tr.putD c) ⟨ys,qzw,qjg (Sub.refl m) (Tr.putD c) b ys hd⟩
end
theorem Tr.putI{H:Hp}{p C c:Addr}{d ys:List (Str×V)}(a:H p=some (.ins C c d)):Tr H (upd H p (.ins C c ys)):=
 ⟨λb zs e=>by rw[qzx (qzr e a (by intro z; cases z))]; exact e,λb o u e=>by rw[qzx (qzr e a (by intro z; cases z))]; exact e⟩
theorem Rel.putI{K:Qqq}{m:List Addr}{st:Store}{H:Hp}(h:Rel K m st H){l:Nat}{a C c:Addr}{fs b:List (Str×D)}{f ys:List (Str×V)}(e:st[l]?=some (.obj C fs))(g:m[l]?=some a)(d:H a=some (.ins C c f))(hd:IsFs K m H b ys):
  Rel K m (st.set l (.obj C b)) (upd H a (.ins C c ys)):=
 h.putC e rfl g (Tr.putI d) ⟨c,ys,qzw,qds (Sub.refl m) (Tr.putI d) b ys hd⟩
theorem Rel.newI{K:Qqq}{m:List Addr}{st:Store}{H:Hp}(h:Rel K m st H){x a C:Addr}(i:H x=none)(f:H a=none)(d:a≠x):Same H (upd (upd H a (.own x)) x (.ins C a []))/\Rel K (m++[x]) (st++[.obj C []]) (upd (upd H a (.own x)) x (.ins C a [])):=by
 have g:Same H (upd H a (.own x)):=qzy f;have c:(upd H a (.own x)) x=none:=by rw[qzx (Ne.symm d)]; exact i
 exact⟨λb u e=>qzy c b u (g b u e),(h.same g).newC c (λ_=>trivial) ⟨a,[],qzw,rfl⟩⟩
theorem Tr.ice{H:Hp}{a:Addr}{o:Obj}{c:List (Key×V)}(h:H a=some (.dK c)):Tr H (upd H a (.frz o (.dK c))):=
 ⟨λb zs e=>by rw[qzx (qzr e h (by intro z; cases z))]; exact e,λb o u e=>by rw[qzx (qzr e h (by intro z; cases z))]; exact e⟩
theorem Tr.thaw{H H':Hp}{a:Addr}{o:Obj}{d ys:List (Key×V)}(h:H a=some (.dK d))(t:Tr (upd H a (.frz o (.dK d))) H'):Tr H (upd H' a (.dK ys)):=
 ⟨λb zs e=>by
  have c:=qzr e h (by intro z; cases z);rw[qzx c];exact t.tup b zs (by rw[qzx c]; exact e),λb o u e=>by
  have c:=qzr e h (by intro z; cases z);rw[qzx c]
  exact t.frz b o u (by rw[qzx c]; exact e)⟩
theorem Tw.thaw{H:Hp}{a:Addr}{o:Obj}{c ys:List (Key×V)}(h:H a=some (.frz o (.dK c))):Tw H (upd H a (.dK ys)):=
 ⟨λb zs e=>by rw[qzx (qzr e h (by intro z; cases z))]; exact e,λb o u d e=>by rw[qzx (qzr e h (by intro z; cases z; exact d))]; exact e⟩
theorem Rel.ice{K:Qqq}{m:List Addr}{st:Store}{H:Hp}(h:Rel K m st H){l:Nat}{a:Addr}{o:Obj}{kvs:List (D×D)}{b:List (Key×V)}(e:st[l]?=some (.dic true kvs))(d:m[l]?=some a)(c:H a=some (.dK b))(hd:IsKV K m H kvs b):
  Rel K m (st.set l (.dic false kvs)) (upd H a (.frz o (.dK b))):=
 h.putC e rfl d (Tr.ice c) ⟨o,b,qzw,qjg (Sub.refl m) (Tr.ice c) kvs b hd⟩
theorem Rel.thaw{K:Qqq}{m:List Addr}{st:Store}{H:Hp}(h:Rel K m st H){l:Nat}{a:Addr}{o:Obj}{kvs:List (D×D)}{b:List (Key×V)}(e:st[l]?=some (.dic false kvs))(d:m[l]?=some a)(c:H a=some (.frz o (.dK b))):
  Rel K m (st.set l (.dic true kvs)) (upd H a (.dK b)):=by
 obtain⟨o',ys,f,q⟩:=h.cell l _ a e d;rw[c]at f;cases f;exact h.putW e rfl d (Tw.thaw c) ⟨b,qzw,qqy (Sub.refl m) (Tw.thaw c) kvs b q⟩
structure SlotOk (K:Qqq) (m:List Addr) (H:Hp) (τ:Sl) (σ:L2.St):Prop where
 len:τ.length=σ.length
 at_:∀(i:Nat) (d:D),τ[i]?=some (some d)->∃v,σ[i]?=some (some v)/\IsD K m H d v
theorem SlotOk.monoW{K:Qqq}{m c:List Addr}{H H':Hp}{τ:Sl}{σ:L2.St}(h:SlotOk K m H τ σ)(s:Sub m c)(t:Tw H H'):SlotOk K c H' τ σ:=
 ⟨h.len,λi d e=>let ⟨v,a,b⟩:=h.at_ i d e; ⟨v,a,qqb s t d v b⟩⟩
theorem SlotOk.mono{K:Qqq}{m c:List Addr}{H H':Hp}{τ:Sl}{σ:L2.St}(h:SlotOk K m H τ σ)(s:Sub m c)(t:Tr H H'):SlotOk K c H' τ σ:=
 ⟨h.len,λi d e=>let ⟨v,a,b⟩:=h.at_ i d e; ⟨v,a,qzv s t d v b⟩⟩
theorem SlotOk.put{K:Qqq}{m:List Addr}{H:Hp}{τ:Sl}{b:L2.St}(h:SlotOk K m H τ b){i:Nat}{d:D}{v:V}(q:IsD K m H d v):SlotOk K m H (τ.set i (some d)) (b.set i (some v)):=by
 refine⟨by rw[Qz5,Qz5]; exact h.len,λj e a=>?_⟩
 by_cases c:i=j
 ·subst c;have hi:i<τ.length:=by
   have:=(Qqv.mp a).1;rwa [Qz5]at this
  rw[Qzj hi]at a;cases a;exact⟨v,Qzj (by rw[<- h.len]; exact hi),q⟩
 ·rw[Qzz c]at a ⊢;exact h.at_ j e a
def Post(K:Qqq)(m:List Addr)(H:Hp)(d:D)(st':Store)(Q:VK):Prop:=∀v m' H',Sub m m'->Tr H H'->Rel K m' st' H'->IsD K m' H' d v->Q v H'
def PostB(K:Qqq)(m:List Addr)(H:Hp)(b:Bool)(st':Store)(Q:Bool->Hp->Prop):Prop:=∀m' H',Sub m m'->Tr H H'->Rel K m' st' H'->Q b H'
def PostL(K:Qqq)(m:List Addr)(H:Hp)(ds:List D)(st':Store)(Q:List V->Hp->Prop):Prop:=∀vs m' H',Sub m m'->Tr H H'->Rel K m' st' H'->IsDs K m' H' ds vs->Q vs H'
theorem Post.mono{K:Qqq}{m a:List Addr}{H b:Hp}{d:D}{st':Store}{Q:VK}(p:Post K m H d st' Q)(s:Sub m a)(t:Tr H b):Post K a b d st' Q:=
 λv m' H' s' c r i=>p v m' H' (s.trans s') (t.trans c) r i
theorem Post.here{K:Qqq}{m:List Addr}{H:Hp}{d:D}{st':Store}{Q:VK}{v:V}(p:Post K m H d st' Q)(r:Rel K m st' H)(i:IsD K m H d v):Q v H:=p v m H (Sub.refl m) (Tr.refl H) r i
noncomputable def tD(K:Qqq)(f:Sl->Store->Option (D×Store)):TE:=λσ H Q=>∃m st τ d st',Rel K m st H/\SlotOk K m H τ σ/\f τ st=some (d,st')/\Post K m H d st' Q
noncomputable def tTs(K:Qqq)(f:Sl->Store->Option (Bool×Store)):TT:=λσ H Q=>∃m st τ d st',Rel K m st H/\SlotOk K m H τ σ/\f τ st=some (d,st')/\PostB K m H d st' Q
noncomputable def tL(K:Qqq)(f:Sl->Store->Option (List D×Store)):TA:=λσ H Q=>∃m st τ d st',Rel K m st H/\SlotOk K m H τ σ/\f τ st=some (d,st')/\PostL K m H d st' Q
noncomputable def rD(K:Qqq)(g:Store->D->D->Option (D×Store)):R2:=λx y H Q=>∃m st a b d st',Rel K m st H/\IsD K m H a x/\IsD K m H b y/\g st a b=some (d,st')/\Post K m H d st' Q
def rC(K:Qqq)(g:Store->List D->Option (D×Store)):List V->Hp->VK->Prop:=λxs H Q=>∃m st ds d st',Rel K m st H/\IsDs K m H ds xs/\g st ds=some (d,st')/\Post K m H d st' Q
def rU1(K:Qqq)(g:Store->D->Option (D×Store)):V->Hp->VK->Prop:=λx H Q=>∃m st a d st',Rel K m st H/\IsD K m H a x/\g st a=some (d,st')/\Post K m H d st' Q
theorem Post.of{K:Qqq}{m:List Addr}{H:Hp}{d d':D}{s s':Store}{Q:VK}(q:Post K m H d s Q)(e:some (d',s')=some (d,s)):Post K m H d' s' Q:=by cases e; exact q
theorem PostB.of{K:Qqq}{m:List Addr}{H:Hp}{d d':Bool}{s s':Store}{Q:Bool->Hp->Prop}(q:PostB K m H d s Q)(e:some (d',s')=some (d,s)):PostB K m H d' s' Q:=by cases e; exact q
theorem PostL.of{K:Qqq}{m:List Addr}{H:Hp}{d d':List D}{s s':Store}{Q:List V->Hp->Prop}(q:PostL K m H d s Q)(e:some (d',s')=some (d,s)):PostL K m H d' s' Q:=by cases e; exact q
theorem rsI{α:Type}{K:Qqq}{f:Sl->Store->Option (α×Store)}{a:L2.St}{H:Hp}{W:List Addr->α->Store->Prop}{m:List Addr}{st:Store}{τ:Sl}{d:α}{st':Store}(R:Rel K m st H)(S:SlotOk K m H τ a)(e:f τ st=some (d,st'))(w:W m d st'):∃m st τ d st',Rel K m st H/\SlotOk K m H τ a/\f τ st=some (d,st')/\W m d st':=⟨m,st,τ,d,st',R,S,e,w⟩
theorem tD.el{K:Qqq}{f:Sl->Store->Option (D×Store)}{g:L2.St}{H:Hp}{Q:VK}{P:Prop}(h:tD K f g H Q)(k:∀m st τ d st',Rel K m st H->SlotOk K m H τ g->f τ st=some (d,st')->Post K m H d st' Q->P):P:=by
 rcases h with⟨m,st,τ,d,st',a,b,c,e⟩
 exact k m st τ d st' a b c e
theorem tTs.el{K:Qqq}{f:Sl->Store->Option (Bool×Store)}{a:L2.St}{H:Hp}{Q:Bool->Hp->Prop}{P:Prop}(h:tTs K f a H Q)(k:∀m st τ d st',Rel K m st H->SlotOk K m H τ a->f τ st=some (d,st')->PostB K m H d st' Q->P):P:=by
 rcases h with⟨m,st,τ,d,st',p0,c,p2,b⟩
 exact k m st τ d st' p0 c p2 b
theorem tL.el{K:Qqq}{f:Sl->Store->Option (List D×Store)}{a:L2.St}{H:Hp}{Q:List V->Hp->Prop}{P:Prop}(h:tL K f a H Q)(k:∀m st τ d st',Rel K m st H->SlotOk K m H τ a->f τ st=some (d,st')->PostL K m H d st' Q->P):P:=by
 rcases h with⟨m,st,τ,d,st',p0,c,p2,b⟩
 exact k m st τ d st' p0 c p2 b
theorem rD.el{K:Qqq}{f:Store->D->D->Option (D×Store)}{x y:V}{H:Hp}{Q:VK}{P:Prop}(h:rD K f x y H Q)(k:∀m st a b d st',Rel K m st H->IsD K m H a x->IsD K m H b y->f st a b=some (d,st')->Post K m H d st' Q->P):P:=by
 rcases h with⟨m,st,a,b,d,st',p0,g,p2,e,c⟩
 exact k m st a b d st' p0 g p2 e c
theorem rC.el{K:Qqq}{f:Store->List D->Option (D×Store)}{a:List V}{H:Hp}{Q:VK}{P:Prop}(h:rC K f a H Q)(k:∀m st ds d st',Rel K m st H->IsDs K m H ds a->f st ds=some (d,st')->Post K m H d st' Q->P):P:=by
 rcases h with⟨m,st,ds,d,st',p0,c,p2,b⟩
 exact k m st ds d st' p0 c p2 b
theorem rU1.el{K:Qqq}{f:Store->D->Option (D×Store)}{x:V}{H:Hp}{Q:VK}{P:Prop}(h:rU1 K f x H Q)(k:∀m st a d st',Rel K m st H->IsD K m H a x->f st a=some (d,st')->Post K m H d st' Q->P):P:=by
 rcases h with⟨m,st,a,d,st',p0,c,p2,b⟩
 exact k m st a d st' p0 c p2 b
theorem _root_.L2.PE.imp{X:Cx}{e:Qx}{t t':TE}(h:PE X e t)(f:∀σ H Q,t' σ H Q->t σ H Q):PE X e t':=λpins s σ H Q I q=>h pins s σ H Q I (f σ H Q q)
theorem _root_.L2.PT.imp{X:Cx}{e:Qx}{t t':TT}(h:PT X e t)(f:∀σ H Q,t' σ H Q->t σ H Q):PT X e t':=λpins s σ H Q I q=>h pins s σ H Q I (f σ H Q q)
theorem _root_.L2.PW.imp{X:Cx}{e:Qx}{t t':TT}(h:PW X e t)(f:∀σ H Q,t' σ H Q->t σ H Q):PW X e t':=λw pins s σ H Q I q=>h w pins s σ H Q I (f σ H Q q)
theorem _root_.L2.PA.imp{X:Cx}{e:List Qx}{t t':TA}(h:PA X e t)(f:∀σ H Q,t' σ H Q->t σ H Q):PA X e t':=λp pins s σ H Q I q=>h p pins s σ H Q I (f σ H Q q)
theorem _root_.L2.PS.imp{X:Cx}{e:Stmt}{t t':TS}(h:PS X e t)(f:∀σ H Q,t' σ H Q->t σ H Q):PS X e t':=λpins s σ H Q I q=>h pins s σ H Q I (f Q σ H q)
theorem _root_.L2.PSs.imp{X:Cx}{e:List Stmt}{t t':TS}(h:PSs X e t)(f:∀D σ H,t' D σ H->t D σ H):PSs X e t':=λpins s σ H D I q=>h pins s σ H D I (f D σ H q)
theorem qzk{α:Type}{f:Option (D×Store)}{g:D×Store->Option α}{r:α}{P:Prop}(e:f.bind g=some r)(k:∀d st,f=some (d,st)->g (d,st)=some r->P):P:=by
 cases f with
 |none=>exact nn e
 |some p=>exact k p.1 p.2 rfl e
theorem qzc{α a:Type}{f:Option α}{g:α->a}{r:a}{P:Prop}(e:f.map g=some r)(k:∀d,f=some d->g d=r->P):P:=by
 cases f with
 |none=>exact nn e
 |some p=>exact k p rfl (Option.some.inj e)
theorem qzj{α a:Type}{f:Option α}{g:α->Option a}{r:a}{P:Prop}(e:f.bind g=some r)(k:∀d,f=some d->g d=some r->P):P:=by
 cases f with
 |none=>exact nn e
 |some p=>exact k p rfl e
theorem orO{α:Type}{a b:Option α}{r:α}(h:a.or b=some r):a=some r\/b=some r:=by
 cases a with
 |none=>exact .inr h
 |some x=>exact .inl h
theorem mapD{α a:Type}{f:Option α}{g:α->a}{r:a}(e:f.map g=some r):∃d,f=some d/\g d=r:=by
 cases f with
 |none=>exact nn e
 |some p=>exact⟨p,rfl,Option.some.inj e⟩
section
variable {K:Qqq}
theorem qck{i f:Sl->Store->Option (D×Store)}{g:Store->D->D->Option (D×Store)}{a:L2.St}{H:Hp}{Q:VK}
  (h:tD K (λτ st=>(i τ st).bind λp=>(f τ p.2).bind λq=>g q.2 p.1 q.1) a H Q):tOp (rD K g) (tD K i) (tD K f) a H Q:=by
 exact h.el λm st τ d st' w j e q=>qzk e λu z s e=>qzk e λt k r e=>rsI w j s λx m1 H1 b1 c v o=>rsI v (j.mono b1 c) r λy l H2 b2 b R2 n=>
  ⟨l,k,u,t,d,st',R2,qzv b2 b _ _ o,n,e,q.mono (b1.trans b2) (c.trans b)⟩
theorem tD_un{b:Sl->Store->Option (D×Store)}{g:Store->D->Option (D×Store)}{a:L2.St}{H:Hp}{Q:VK}
  (h:tD K (λτ st=>(b τ st).bind λp=>g p.2 p.1) a H Q):tUn (rU1 K g) (tD K b) a H Q:=by
 exact h.el λm st τ d st' o l e q=>qzk e λk f j e=>rsI o l j λx m1 H1 b1 c n i=>⟨m1,f,k,d,st',n,i,e,q.mono b1 c⟩
theorem qig{f:Sl->Store->Option (D×Store)}{fr:Sl->Store->Option (List D×Store)}{a:L2.St}{H:Hp}{Q:List V->Hp->Prop}
  (h:tL K (λτ st=>(f τ st).bind λp=>(fr τ p.2).bind λq=>some (p.1::q.1,q.2)) a H Q):qih (tD K f) (tL K fr) a H Q:=by
 refine h.el λm st τ d st' r g e q=>qzk e λt s n e=>qzj e λp l e=>?_;have q:=q.of e;exact rsI r g n λx m1 H1 b1 c o k=>rsI o (g.mono b1 c) l λxs i H2 b2 b R2 j=>
  q _ i H2 (b1.trans b2) (c.trans b) R2 (qzi (qzv b2 b _ _ k) j)
theorem tL_nil{a:L2.St}{H:Hp}{Q:List V->Hp->Prop}(h:tL K (λ_ st=>some ([],st)) a H Q):tNil a H Q:=by
 refine h.el λm st τ d st' b c e q=>?_;have q:=q.of e;exact q [] m H (Sub.refl m) (Tr.refl H) b qqz
theorem qqd{b:Sl->Store->Option (List D×Store)}{g:Store->List D->Option (D×Store)}{a:L2.St}{H:Hp}{Q:VK}
  (h:tD K (λτ st=>(b τ st).bind λp=>g p.2 p.1) a H Q):tCB (rC K g) (tL K b) a H Q:=by
 exact h.el λm st τ d st' l j e q=>qzj e λp i e=>rsI l j i λxs m1 H1 b1 c k f=>⟨m1,p.2,p.1,d,st',k,f,e,q.mono b1 c⟩
end
end MS
end
section
namespace MS
open PySem PySem.Spec PyProof.Rows L2
open M (D Cell Store Sl)
section
variable {X:Cx}
theorem qqw:(sizeLine:Nat)=M.lim:=Q4
theorem qdx:OpR X (Q1 .FloorDiv) (rI (λ_ j=>0<j/\j<2 ^ 64) λi j=>.int (i / j)):=opI λi j _ _ _ _ _ c q=>by
 refine floordiv_int (by omega) (by rw[Int.fdiv_eq_ediv_of_nonneg i (by omega)]; exact q) (.inl (PyProof.noPylong_of_log2 ?_));have b:j.natAbs<2 ^ 64:=by omega
 have a:j.natAbs≠0:=by omega
 have d:=(Nat.log2_lt a).mpr b;omega
theorem _root_.MS.IsDs.rep{K:Qqq}{m:List Addr}{H:Hp}{ds:List D}{a:List V}(h:IsDs K m H ds a):∀k:Nat,IsDs K m H (List.replicate k ds).flatten (List.replicate k a).flatten
 |0=>by simp only[List.replicate_zero]; exact qqz
 |k+1=>by
  rw[Qzw,Qzw,Qzs,Qzs];exact h.append (IsDs.rep h k)
theorem qls{a:List (Addr×Obj)}{s:Qz}{o:L2.St}{H:Hp}{Q:VK}{l b:Addr}{g ys:List V}(I:Inv X a o H s)(C:SqL X.K H l g)(j:SqL X.K H b ys)(K:g.length+ys.length<=sizeLine)(q:∀p,H p=none->Q (.ref p) (upd H p (.lst (g++ys)))):
  wpAny (model X.prog X.w) X.A (Q1 .Add (.ref l) (.ref b)) (EP X a o Q) X.xe s:=by
 obtain⟨vs,t,z,_⟩:=I.list C;obtain⟨ws,r,i,_⟩:=I.list j;have G:=t.length;have F:=r.length;obtain⟨⟨cls,E,x,sl⟩,n,u,w,D,hd⟩:=z;obtain⟨⟨y,k,m,h⟩,A,c,f,v,d⟩:=i;simp only at w hd f d;subst w hd f d;have e:vs.toArray++ws.toArray=(vs++ws).toArray:=by simp
 refine concat_meets ⟨_,u,rfl⟩ ⟨_,c,rfl⟩ noFill_list_add seq_list_add PySem.F.slot_list_add PySem.F.entry_list_add (PySem.F.args_list_add_2 _ _) (list_addW l b vs.toArray ws.toArray n A E k sl h (by simp; omega)) ⟨u,c,?_⟩;rw[e];exact⟨.ref _,_,I.lnew (t.append r) (by rw[Qqn]; omega),rfl,q _ I.fresh⟩
theorem qlt(R:Za):OpR X (Q1 R) (rD X.K λst a b=>M.binop st R a b):=by
 intro pins s σ H x y v u Q I j i h;refine h.el λm st a b d st' f n l e q=>?_;have e:=e;unfold M.binop at e
 split at e
 ·have q:=q.of e;exact op_add pins s σ H x y v u Q I j i ⟨_,_,n.int,l.int,q.here f (mkInt _)⟩
 ·rename_i W bs
  split at e
  ·exact nn e
  ·rename_i c;have q:=q.of e;rw[Qxj,decide_eq_true_eq,not_or,List.isEmpty_iff]at c;obtain⟨C,xs,rfl,r,g⟩:=n.tup;obtain⟨P,ys,rfl,F,E⟩:=l.tup;have D:=g.length;have T:=E.length;have G:=qqw;refine qlr pins s σ H _ _ v u Q I j i ⟨C,P,xs,ys,rfl,rfl,r,F,?_,by omega,λz=>?_,λz p t=>?_⟩
   ·intro z;subst z;exact c.1 (Qzr.mp D)
   ·have w:=g.append E;rw[z,Qzi]at w;exact q.here f (qxz r w)
   ·have A:=qzy (o:=.tup (xs++ys)) t;exact q _ m _ (Sub.refl m) (Tr.of_same A) (f.same A) (qxz (SqT.of qzw) (qza (Sub.refl m) (Tr.of_same A) _ _ (g.append E)))
 ·rename_i S lb _ _;refine qzj e λN K e=>qzj e λV U e=>?_
  split at e
  ·exact nn e
  ·rename_i c;have q:=q.of e;obtain⟨C,xs,_,rfl,r,g⟩:=f.seq K n;obtain⟨P,ys,_,rfl,F,E⟩:=f.seq U l;have D:=g.length;have T:=E.length;have G:=qqw;cases j;cases i;refine qls I r F (by omega) λp t=>?_;exact q _ (m++[p]) _ (Sub.app m [p]) (Tr.of_same (qzy t)) (f.new t (g.append E)) f.newLoc
 ·have q:=q.of e;exact op_sub pins s σ H x y v u Q I j i ⟨_,_,n.int,l.int,q.here f (mkInt _)⟩
 ·split at e
  ·rename_i c;have q:=q.of e;refine op_mul pins s σ H x y v u Q I j i ⟨_,_,n.int,l.int,?_,q.here f (mkInt _)⟩;unfold M.mulOk at c;simp only[Qxj,Qqo,decide_eq_true_eq]at c;exact c
  ·exact nn e
 ·rename_i W k _
  split at e
  ·exact nn e
  ·rename_i c;have q:=q.of e;simp only[Qxj,decide_eq_true_eq]at c;obtain⟨C,xs,rfl,r,g⟩:=n.tup;have D:=g.length;have G:=qqw;refine qlo pins s σ H _ _ v u Q I j i ⟨C,k,xs,rfl,l.int,r,by omega,by omega,by rw[<- D]; omega,λys F=>⟨λz=>?_,λp t=>?_⟩⟩
   ·have w:=g.rep k.toNat
    rw[<- F,z]at w;exact q.here f (qxz r w)
   ·have A:=qzy (o:=.tup ys) t;have w:=g.rep k.toNat
    rw[<- F]at w;exact q _ m _ (Sub.refl m) (Tr.of_same A) (f.same A) (qxz (SqT.of qzw) (qza (Sub.refl m) (Tr.of_same A) _ _ w))
 ·rename_i S k _;refine qzj e λN K e=>?_
  split at e
  ·exact nn e
  ·rename_i c;have q:=q.of e;simp only[Qxj,decide_eq_true_eq]at c;obtain⟨C,xs,m1,rfl,r,g,_⟩:=f.wlist K n;have D:=g.length;have G:=qqw;refine op_rep pins s σ H _ _ v u Q I j i ⟨C,k,xs,rfl,l.int,r,by omega,by omega,by rw[<- D]; omega,λp t=>?_⟩;exact q _ (m++[p]) _ (Sub.app m [p]) (Tr.of_same (qzy t)) (f.new t (g.rep k.toNat)) f.newLoc
 ·split at e
  ·rename_i c;have q:=q.of e;exact qdx pins s σ H x y v u Q I j i ⟨_,_,n.int,l.int,c,q.here f (mkInt _)⟩
  ·exact nn e
 ·split at e
  ·rename_i c;have q:=q.of e;exact op_mod pins s σ H x y v u Q I j i ⟨_,_,n.int,l.int,c,q.here f (mkInt _)⟩
  ·exact nn e
 ·split at e
  ·rename_i c;have q:=q.of e;exact op_pow pins s σ H x y v u Q I j i ⟨_,_,n.int,l.int,⟨c.1,by omega,c.2.2⟩,q.here f (mkInt _)⟩
  ·exact nn e
 ·exact nn e
theorem qz8{c:List (Addr×Obj)}{e:L2.St}{H:Hp}{s:Qz}{m:List Addr}{ds:List D}{v:V}(I:Inv X c e H s)(h:IsD X.K m H (.tup ds) v):∃a xs b,v=.ref a/\SqT X.K H a xs/\IsDs X.K m H ds xs/\Vals xs b/\IsTup s.heap a b.toArray:=by
 obtain⟨a,xs,rfl,d,f⟩:=h.tup;obtain⟨b,r,p,_⟩:=I.tuple d;exact⟨a,xs,b,rfl,d,f,r,p⟩
section
variable {pins:List (Addr×Obj)}{σ:L2.St}{H:Hp}{s:Qz}{m:List Addr}
theorem qw5:∀{ds es:List D}{c:List V},ds.all M.isI=true->es.all M.isI=true->IsDs X.K m H ds c->IsDs X.K m H es c->ds=es
 |[],es,c,_,_,h,h'=>by
  rw[h.nil]at h';exact(Qzr.mp h'.length).symm
 |d::ds,es,c,f,g,h,h'=>by
  obtain⟨x,r,rfl,q,t⟩:=h.cons
  cases es with
  |nil=>cases h'.nil
  |cons e es=>
   obtain⟨k,r',z,j,i⟩:=h'.cons;cases z;rw[Qzo,Qqo]at f g;rw[qw5 f.2 g.2 t i]
   cases d with
   |int a=>
    cases e with
    |int b=>cases q.int; cases j.int; rfl
    |_=>cases g.1
   |_=>cases f.1
theorem qmw(I:Inv X pins σ H s){n:Nat}{d e:D}{v:V}(f:M.flat n d=true)(c:M.flat n e=true)(h:IsD X.K m H d v)(h':IsD X.K m H e v):d=e:=by
 cases d with
 |int b=>
  rw[h.int]at h'
  cases e with
  |tup ds=>obtain⟨a,xs,z,_⟩:=h'.tup; cases z
  |int b=>cases h'.int; rfl
  |str b=>cases h'.str
  |_=>cases c
 |str b=>
  rw[h.str]at h'
  cases e with
  |tup ds=>obtain⟨a,xs,z,_⟩:=h'.tup; cases z
  |int b=>cases h'.int
  |str b=>cases h'.str; rfl
  |_=>cases c
 |tup ds=>
  obtain⟨a,xs,rfl,k,i⟩:=h.tup
  cases e with
  |tup es=>
   obtain⟨b,ys,z,j,g⟩:=h'.tup;cases z;cases I.tuple_inj k j;rw[qw5 f c i g]
  |int b=>cases h'.int
  |str b=>cases h'.str
  |_=>cases c
 |_=>cases f
theorem qv7:∀{ds:List D},ds.all M.isI=true->M.eqTs ds ds=true
 |[],_=>rfl
 |d::ds,f=>by
  rw[Qzo,Qqo]at f;unfold M.eqTs;rw[qv7 f.2,Qjd]
  cases d with
  |int a=>exact beq_self_eq_true a
  |_=>cases f.1
noncomputable def pairE(ds es:List D)(j:Nat):Bool:=match ds[j]?,es[j]? with
 |some d,some e=>M.eqT d e
 |_,_=>true
theorem qv8:∀(ds es:List D),M.eqTs ds es=((List.range (min ds.length es.length)).all (pairE ds es)&&ds.length==es.length)
 |[],[]=>rfl
 |[],e::es=>by simp[M.eqTs]
 |d::ds,[]=>by simp[M.eqTs]
 |d::ds,e::es=>by
  simp only[M.eqTs];rw[qv8 ds es,Qqh,Qqh,Nat.add_min_add_right,List.range_succ_eq_map,Qzo,List.all_map,Bool.and_assoc]
  congr 1
  congr 1
  rw[Qj0,beq_iff_eq,beq_iff_eq];omega
theorem int_at{ds:List D}{c:List V}{b:List Value}{j:Nat}(f:ds.all M.isI=true)(e:IsDs X.K m H ds c)(r:Vals c b)(h:j<b.toArray.size):∃a t,ds[j]?=some (.int a)/\b.toArray[j]=Value.int a t:=by
 have n:=e.length;have l:=r.length;rw[Qqy]at h;obtain⟨d,g⟩:∃d,ds[j]?=some d:=⟨_,Qqx (by omega)⟩
 obtain⟨x,k,q⟩:=e.get g;obtain⟨u,w,z⟩:=r.get k;have i:=Qq7.mp f _ (Qqd g)
 cases d with
 |int a=>
  cases q.int;obtain⟨t,rfl⟩:=z;exact⟨a,t,g,(Qx7 _).trans (Qqv.mp w).2⟩
 |_=>cases i
theorem qhu(I:Inv X pins σ H s)(n:Nat)(A:Qv)(d e:D)(x y:V)(u v:Value)(W:A.units+n<cLine)(f:M.flat n d=true)(C:M.flat n e=true)(K:IsD X.K m H d x)(l:IsD X.K m H e y)(F:RelV x u)(k:RelV y v):SeqAt.EqAt A s u v (M.eqT d e)/\SeqAt.RcAt A s u v (M.eqT d e):=by
 have c:A.units<cLine:=by omega
 cases d with
 |int a=>
  cases K.int; obtain⟨h,rfl⟩:=F
  cases e with
  |tup es=>obtain⟨b,ys,o,rfl,p,r,E,p2⟩:=qz8 I l; cases k; exact⟨SeqAt.EqAt.int_tuple a h p2 c,SeqAt.RcAt.int_tuple a h p2 c⟩
  |int b=>cases l.int; obtain⟨t,rfl⟩:=k; exact⟨SeqAt.EqAt.int_int a h b t,SeqAt.RcAt.int_int a h b t⟩
  |str b=>cases l.str; obtain⟨t,rfl⟩:=k; exact⟨SeqAt.EqAt.int_str a h b t,SeqAt.RcAt.int_str a h b t⟩
  |_=>cases C
 |str a=>
  cases K.str; obtain⟨h,rfl⟩:=F
  cases e with
  |tup es=>obtain⟨b,ys,o,rfl,p,r,E,p2⟩:=qz8 I l; cases k; exact⟨SeqAt.EqAt.str_tuple a h p2 c,SeqAt.RcAt.str_tuple a h p2 c⟩
  |int b=>cases l.int; obtain⟨t,rfl⟩:=k; exact⟨SeqAt.EqAt.str_int a h b t,SeqAt.RcAt.str_int a h b t⟩
  |str b=>cases l.str; obtain⟨t,rfl⟩:=k; exact⟨SeqAt.EqAt.str_str a h b t,SeqAt.RcAt.str_str a h b t⟩
  |_=>cases C
 |tup ds=>
  obtain⟨a,xs,R,rfl,T,G,P,q⟩:=qz8 I K;cases F
  cases e with
  |int b=>cases l.int; obtain⟨t,rfl⟩:=k; exact⟨SeqAt.EqAt.tuple_int b t q c,SeqAt.RcAt.tuple_int b t q c⟩
  |str b=>cases l.str; obtain⟨t,rfl⟩:=k; exact⟨SeqAt.EqAt.tuple_str b t q c,SeqAt.RcAt.tuple_str b t q c⟩
  |tup es=>
   obtain⟨b,ys,o,rfl,p,r,E,p2⟩:=qz8 I l;cases k;have N:SeqAt.RcAt A s (.ref a) (.ref b) (M.eqTs ds es):=by
    have:=SeqAt.RcAt.tuples q p2 c (e:=pairE ds es) λj h1 h2=>by
     obtain⟨i,t,g,w⟩:=int_at f G P h1;obtain⟨S,h,U,Q⟩:=int_at C r E h2;rw[w,Q];unfold pairE;rw[g,U];exact SeqAt.EqAt.int_int i t S h
    rw[qv8,G.length,r.length,P.length,E.length];simpa using this
   refine⟨?_,N⟩
   by_cases z:a=b
   ·subst z;cases I.tuple_inj T p;cases qw5 f C G r;show SeqAt.EqAt A s _ _ (M.eqTs ds ds);rw[qv7 f];exact SeqAt.EqAt.same _
   ·exact SeqAt.EqAt.of_refs z N
  |_=>cases C
 |_=>cases f
end
end
end MS
end
section
namespace MS
open PySem PySem.Spec PyProof.Rows L2
section
variable {X:Cx}
end
end MS
end
section
namespace MS
open PySem PySem.Spec PyProof.Rows L2
open M (D Cell Store Sl)
section
variable {X:Cx}
section
variable {pins:List (Addr×Obj)}{σ:L2.St}{H:Hp}{s:Qz}{m:List Addr}
theorem qe9(I:Inv X pins σ H s)(A:Qv)(G:A.units+9<cLine){d0:D}{h:V}{g:Value}(N:M.flat 9 d0=true)(K:IsD X.K m H d0 h)(C:RelV h g):
  ∃e:Value->Bool,∀(ds:List D) (c:List V) (a:List Value),M.flats 9 ds=true->IsDs X.K m H ds c->Vals c a->(∀w∈a,SeqAt.EqAt A s w g (e w))/\a.any e=ds.any λy=>M.eqT y d0:=by
 classical
 refine⟨λw=>decide (∃d x,M.flat 9 d=true/\IsD X.K m H d x/\RelV x w/\M.eqT d d0=true),λds=>?_⟩;have b:∀d x w,M.flat 9 d=true->IsD X.K m H d x->RelV x w->decide (∃d x,M.flat 9 d=true/\IsD X.K m H d x/\RelV x w/\M.eqT d d0=true)=M.eqT d d0:=by
  intro d x w f i r
  cases q:M.eqT d d0 with
  |true=>exact Z0 ⟨d,x,f,i,r,q⟩
  |false=>
   refine Z1 ?_;rintro⟨d',U,P,F,r',n⟩;have R:=r.inj r';subst R;have Q:=qmw I f P i F;subst Q;rw[q]at n;cases n
 induction ds with
 |nil=>
  intro c a _ k r;rw[k.nil]at r;cases r;exact⟨λw l=>(by cases l),rfl⟩
 |cons d ds E=>
  intro c a f k r;obtain⟨x,o,rfl,q,t⟩:=k.cons;simp only[ Qzo,Qqo]at f
  cases r with
  |@cons _ u _ p j v=>
   obtain⟨T,S⟩:=E o p f.2 t v;refine⟨λw l=>?_,?_⟩
   ·rcases Qqb.mp l with z|z
    ·subst z;show SeqAt.EqAt A s w g (decide _);rw[b d x w f.1 q j];exact(qhu I 9 A d d0 x h w g G f.1 N q K j C).1
    ·exact T w z
   ·rw[Qz7,Qz7,S]
    congr 1
    exact b d x u f.1 q j
end
theorem qhf(n:Bool)(N:X.A.units+64<cLine):OpR X (Qg (cond n .NotIn .In)) (rD X.K λst a b=>(M.inD st a b).map λk=>(.bl (cond n (!k) k),st)):=by
 intro pins s σ H x y v u Q I C A h;refine h.el λm st a b d st' G E D e q=>qzc e λk f z=>?_;cases z;have j:X.A.in1.units+9<cLine:=by have K:X.A.in1.units=X.A.units+1:=rfl; lia
 have q:=q.here G (mkBl _)
 cases b with
 |tup ds=>
  simp only[M.inD]at f
  split at f
  ·rename_i hf;cases f;rw[Qqo]at hf;obtain⟨p,xs,c,rfl,F,o,r,i⟩:=qz8 I D;cases A;obtain⟨ef,t⟩:=qe9 I X.A.in1 j hf.1 E C;obtain⟨h1,h2⟩:=t ds xs c hf.2 o r;have e:c.toArray.any ef=c.any ef:=by simp
   rw[<- h2,<- e]at q;cases n
   ·exact SeqAt.in_tupleAt ef i (λw g=>h1 w (by simpa using g)) ⟨.bl _,H,I,rfl,q⟩
   ·exact SeqAt.notIn_tupleAt ef i (λw g=>h1 w (by simpa using g)) ⟨.bl _,H,I,rfl,q⟩
  ·exact nn f
 |loc l|lst l=>
  simp only[M.inD]at f;refine qzj f λds z f=>?_
  split at f
  ·rename_i hf;cases f;rw[Qqo]at hf;obtain⟨p,xs,_,rfl,F,o⟩:=G.seq z D;cases A;obtain⟨c,r,i,_⟩:=I.list F;obtain⟨ef,t⟩:=qe9 I X.A.in1 j hf.1 E C;obtain⟨h1,h2⟩:=t ds xs c hf.2 o r;have e:c.toArray.any ef=c.any ef:=by simp
   rw[<- h2,<- e]at q;cases n
   ·exact SeqAt.in_listAt ef i.isList (λw g=>h1 w (by simpa using g)) ⟨.bl _,H,I,rfl,q⟩
   ·exact SeqAt.notIn_listAt ef i.isList (λw g=>h1 w (by simpa using g)) ⟨.bl _,H,I,rfl,q⟩
  ·exact nn f
 |_=>simp[M.inD,M.seqAt]at f
theorem op_eqD(C:X.A.units+64<cLine):OpR X (Qg .Eq) (rD X.K λst a b=>(M.eqD st a b).map λk=>(.bl k,st)):=by
 intro pins s σ H x y v u Q I f j h;refine h.el λm st a b d st' n g l e q=>qzc e λk c w=>?_;cases w;unfold M.eqD at c
 split at c
 ·cases c; cases g.bl; cases l.bl; cases f; cases j; exact SeqAt.RcAt.bool_bool _ _ _ _ _ _ ⟨.bl _,H,I,rfl,q.here n (mkBl _)⟩
 ·cases c; cases g.non; cases l.non; cases f; cases j; exact SeqAt.RcAt.none_none _ _ _ _ ⟨.bl _,H,I,rfl,q.here n (mkBl _)⟩
 ·split at c
  ·rename_i hf;cases c;rw[Qqo]at hf;have K:=q.here n (mkBl _)
   cases o:M.flat 9 b with
   |true=>exact(qhu I 9 X.A a b x y v u (by lia) hf.1 o g l f j).2 _ _ _ _ ⟨.bl _,H,I,rfl,K⟩
   |false=>
    rw[o]at hf
    cases b with
    |non=>
     cases l.non; cases j
     cases a with
     |int i=>cases g.int; obtain⟨t,rfl⟩:=f; exact SeqAt.RcAt.int_none i t _ _ _ _ ⟨.bl _,H,I,rfl,K⟩
     |str i=>cases g.str; obtain⟨t,rfl⟩:=f; exact SeqAt.RcAt.str_none i t _ _ _ _ ⟨.bl _,H,I,rfl,K⟩
     |tup ds=>
      obtain⟨a,xs,r,rfl,D,A,z,p⟩:=qz8 I g;cases f;exact SeqAt.RcAt.tuple_none p (by lia) _ _ _ _ ⟨.bl _,H,I,rfl,K⟩
     |_=>cases hf.1
    |_=>cases hf.2
  ·exact nn c
theorem op_neD:OpR X (Qg .NotEq) (rD X.K λst a b=>(M.neD st a b).map λk=>(.bl k,st)):=by
 intro pins s σ H x y v u Q I i g h;refine h.el λm st a b d st' n l j e q=>qzc e λk c o=>?_;cases o;unfold M.neD at c
 split at c
 ·cases c;cases l.int; cases j.int;obtain⟨t,rfl⟩:=i;obtain⟨f,rfl⟩:=g;exact SeqAt.RcNeAt.int_int _ t _ f _ _ _ _ ⟨.bl _,H,I,rfl,q.here n (mkBl _)⟩
 ·cases c;cases l.str; cases j.str;obtain⟨t,rfl⟩:=i;obtain⟨f,rfl⟩:=g;exact SeqAt.RcNeAt.str_str _ t _ f _ _ _ _ ⟨.bl _,H,I,rfl,q.here n (mkBl _)⟩
 ·exact nn c
theorem qaw{K:Qqq}{m:List Addr}{H:Hp}{d:D}{x:V}(h:IsD K m H d x):decide (x=.non)=M.isNon d:=by
 cases d with
 |non=>rw[h.non]; rfl
 |bl b=>rw[h.bl]; rfl
 |int b=>rw[h.int]; rfl
 |str b=>rw[h.str]; rfl
 |tup ds=>obtain⟨a,xs,rfl,_⟩:=h.tup; rfl
 |loc l=>obtain⟨a,_,rfl⟩:=h.loc; rfl
 |lst l=>obtain⟨a,xs,rfl,_⟩:=h.lst; rfl
theorem qxb(n:X.A.units+64<cLine)(p:CmpOp):OpR X (Qg p) (rD X.K λst a b=>(M.cmpD st p a b).map λk=>(.bl k,st)):=by
 intro pins s σ H x y v u Q I g f h;obtain⟨m,st,a,b,d,st',l,j,i,e,q⟩:=h;refine qzc e λk c o=>?_;cases o;unfold M.cmpD at c
 split at c
 ·cases c;exact op_lt pins s σ H x y v u Q I g f ⟨_,_,j.int,i.int,q.here l (mkBl _)⟩
 ·cases c;exact op_le pins s σ H x y v u Q I g f ⟨_,_,j.int,i.int,q.here l (mkBl _)⟩
 ·cases c;exact op_gt pins s σ H x y v u Q I g f ⟨_,_,j.int,i.int,q.here l (mkBl _)⟩
 ·cases c;exact op_ge pins s σ H x y v u Q I g f ⟨_,_,j.int,i.int,q.here l (mkBl _)⟩
 ·exact op_eqD n pins s σ H x y v u Q I g f ⟨m,st,a,b,_,_,l,j,i,by dsimp only; rw[c]; rfl,q⟩
 ·exact op_neD pins s σ H x y v u Q I g f ⟨m,st,a,b,_,_,l,j,i,by dsimp only; rw[c]; rfl,q⟩
 ·cases c;refine op_isN pins s σ H x y v u Q I g f ⟨i.non,?_⟩;rw[qaw j];exact q.here l (mkBl _)
 ·cases c;refine qlp pins s σ H x y v u Q I g f ⟨i.non,?_⟩;rw[qaw j];exact q.here l (mkBl _)
 ·exact qhf false n pins s σ H x y v u Q I g f ⟨m,st,a,b,_,_,l,j,i,by dsimp only; rw[c]; rfl,q⟩
 ·obtain⟨k,o,rfl⟩:=mapD c;exact qhf true n pins s σ H x y v u Q I g f ⟨m,st,a,b,_,_,l,j,i,by dsimp only; rw[o]; rfl,q⟩
 ·exact nn c
theorem qix{K:Qqq}{m:List Addr}{st:Store}{H:Hp}{d:D}{x:V}{k:Bool}(j:Rel K m st H)(h:IsD K m H d x)(e:M.truth st d=some k):TruV K x H k:=by
 cases d with
 |non=>rw[h.non]; simp only[M.truth]at e; exact(Option.some.inj e).symm
 |bl b=>rw[h.bl]; simp only[M.truth]at e; exact(Option.some.inj e).symm
 |int b=>rw[h.int]; simp only[M.truth]at e; exact(Option.some.inj e).symm
 |str b=>exact nn e
 |tup ds=>
  obtain⟨a,xs,rfl,f,c⟩:=h.tup;simp only[M.truth]at e;refine .inr (.inl ⟨xs,f,?_⟩);have:=c.length;cases e;cases ds<;>cases xs<;>simp_all
 |loc l=>
  simp only[M.truth]at e;refine qzc e λds i g=>?_;obtain⟨a,xs,_,rfl,f,c⟩:=j.seq i h;refine .inl ⟨xs,f,?_⟩;have:=c.length;subst g;cases ds<;>cases xs<;>simp_all
 |lst l=>
  simp only[M.truth]at e;refine qzc e λds i g=>?_;obtain⟨a,xs,_,rfl,f,c⟩:=j.seq i h;refine .inl ⟨xs,f,?_⟩;have:=c.length;subst g;cases ds<;>cases xs<;>simp_all
theorem qh6{K:Qqq}{m:List Addr}{H:Hp}{ds:List D}{a:List V}{i:Int}{d:D}(b:IsDs K m H ds a)(e:M.atI ds i=some d):∃x,L2.atI a i=some x/\IsD K m H d x:=by
 unfold M.atI at e;refine qzj e λj h g=>?_;obtain⟨x,f,q⟩:=b.get g;refine⟨x,?_,q⟩;unfold L2.atI;have c:L2.ixN a.length i=some j:=by rw[<- b.length]; exact h
 rw[c];exact f
theorem ix_D:IxR X (rD X.K λst a b=>(M.idxD st a b).map λd=>(d,st)):=by
 intro value c pins s σ H x y v u Q I t r h C;obtain⟨m,st,a,b,d,st',o,A,z,e,q⟩:=h;refine qzc e λk f n=>?_;cases n;unfold M.idxD at f
 split at f
 ·obtain⟨p,xs,rfl,j,g⟩:=A.tup;obtain⟨w,l,i⟩:=qh6 g f;exact ix_tup value c pins s σ H _ _ v u Q I t r ⟨p,xs,_,w,rfl,z.int,j,l,q.here o i⟩ C
 ·refine qzj f λds n f=>?_;obtain⟨p,xs,_,rfl,j,g⟩:=o.seq n A;obtain⟨w,l,i⟩:=qh6 g f;exact qmx value c pins s σ H _ _ v u Q I t r ⟨p,xs,_,w,rfl,z.int,j,l,q.here o i⟩ C
 ·exact nn f
theorem qes:qqq X (.type "int") (rC X.K M.bInt):=by
 intro pins s σ H xs a Q I r h;refine h.el λm st ds d st' c b e q=>?_;unfold M.bInt at e
 split at e
 ·rename_i i;have q:=q.of e;obtain⟨x,rfl,j⟩:=b.one;exact qwa pins s σ H _ a Q I r (.inl ⟨i,by rw[j.int],q.here c (mkInt _)⟩)
 ·rename_i k;have q:=q.of e;obtain⟨x,rfl,j⟩:=b.one;exact qwa pins s σ H _ a Q I r (.inr ⟨k,by rw[j.bl],q.here c (mkInt _)⟩)
 ·exact nn e
def rSixD(K:Qqq):V->V->V->Hp->(Hp->Prop)->Prop:=λo i v H Q=>∃m st a b c st',Rel K m st H/\IsD K m H a o/\IsD K m H b i/\IsD K m H c v/\M.sixD st a b c=some st'/\
 ∀m' H',Sub m m'->Tr H H'->Rel K m' st' H'->Q H'
theorem six_D:PSet X (rSixD X.K):=by
 intro pins s σ H o i v r t u Q I l n k h;obtain⟨m,st,a,b,c,st',g,y,x,w,e,q⟩:=h;unfold M.sixD at e
 split at e
 ·refine qzj e λds E e=>?_;obtain⟨j,D,C⟩:=mapD e;subst C;obtain⟨p,xs,A,rfl,d,f,z⟩:=g.wlist E y;refine set_list pins s σ H _ _ _ r t u Q I l n k ⟨p,xs,_,j,rfl,x.int,d,by rw[<- f.length]; exact D,?_⟩;exact q m _ (Sub.refl m) (Tr.put d) (g.put z A d (f.set j w))
 ·exact nn e
theorem qbw:MtM X "list.append" (λx xs H Q=>∃m st a ds d st',Rel X.K m st H/\IsD X.K m H a x/\IsDs X.K m H ds xs/\M.mAppend st a ds=some (d,st')/\Post X.K m H d st' Q):=by
 intro pins s σ H x xs v g Q I i j h;obtain⟨m,st,a,ds,d,st',f,n,l,e,q⟩:=h;unfold M.mAppend at e
 split at e
 ·refine qzj e λu t e=>?_
  split at e
  ·rename_i A;have q:=q.of e;obtain⟨p,ys,r,rfl,b,c,o⟩:=f.wlist t n;obtain⟨y,rfl,k⟩:=l.one;have z:=c.length;have w:=qqw;refine qdy pins s σ H _ _ v g Q I i j ⟨p,ys,y,rfl,rfl,b,by lia,?_⟩;exact q _ m _ (Sub.refl m) (Tr.put b) (f.put o r b (c.append (qzi k qqz))) qku
  ·exact nn e
 ·exact nn e
def rSlD(K:Qqq):V->Option Int->Option Int->Hp->VK->Prop:=λx lo hi H Q=>∃m st a d st',Rel K m st H/\IsD K m H a x/\M.sliD st a lo hi=some (d,st')/\Post K m H d st' Q
theorem _root_.MS.IsDs.take{K:Qqq}{m:List Addr}{H:Hp}:∀{ds:List D}{a:List V}(n:Nat),IsDs K m H ds a->IsDs K m H (ds.take n) (a.take n)
 |_,_,0,_=>by simp only[List.take_zero]; exact qqz
 |[],_,n+1,h=>by rw[h.nil]; simp only[List.take_nil]; exact qqz
 |d::ds,_,n+1,h=>by
  obtain⟨x,r,rfl,q,t⟩:=h.cons;simp only[List.take_succ_cons];exact qzi q (IsDs.take n t)
theorem _root_.MS.IsDs.drop{K:Qqq}{m:List Addr}{H:Hp}:∀{ds:List D}{a:List V}(n:Nat),IsDs K m H ds a->IsDs K m H (ds.drop n) (a.drop n)
 |_,_,0,h=>by simp only[Qj6]; exact h
 |[],_,n+1,h=>by rw[h.nil]; simp only[List.drop_nil]; exact qqz
 |d::ds,_,n+1,h=>by
  obtain⟨x,r,rfl,q,t⟩:=h.cons;simp only[List.drop_succ_cons];exact IsDs.drop n t
theorem qag(n d:Nat)(o:Option Int):M.cutIx n d o=HT.sIx n d o:=by
 cases o<;>rfl
theorem qh3{K:Qqq}{m:List Addr}{H:Hp}{ds:List D}{a:List V}(h:IsDs K m H ds a)(b c:Option Int):IsDs K m H (M.cut ds b c) (cutV a b c):=by
 unfold M.cut cutV;rw[qag,qag,h.length];exact(h.drop _).take _
theorem sl_D:SlR X (rSlD X.K):=by
 intro pins s σ H x v C A lo hi sl Q I i y k j h;obtain⟨m,st,a,d,st',c,D,e,q⟩:=h;unfold M.sliD at e
 split at e
 ·have q:=q.of e;obtain⟨p,xs,rfl,w,n⟩:=D.tup;have u:=qh3 n lo hi
  by_cases f:HT.sIx xs.length 0 lo=0/\HT.sIx xs.length xs.length hi=xs.length
  ·cases i;obtain⟨t,r,E,R⟩:=I.tuple w;refine⟨"tuple",_,PyProof.Rows.slot_tuple_getitem.lookup,E.typeIs,?_⟩;have b:t.toArray.size=xs.length:=by rw[Qqy]; exact r.length.symm
   refine qq3 E y k j (by rw[b]; exact f) ?_;refine⟨.ref p,H,I,rfl,q.here c (qxz w ?_)⟩;have z:cutV xs lo hi=xs:=by
    unfold cutV;rw[f.1,f.2];simp
   rw[z]at u;exact u
  ·refine sl_tup pins s σ H _ v C A lo hi sl Q I i y k j ⟨p,xs,rfl,w,f,λP K=>?_⟩;have g:=qzy (o:=.tup (cutV xs lo hi)) K;exact q _ m _ (Sub.refl m) (Tr.of_same g) (c.same g) (qxz (SqT.of qzw) (qza (Sub.refl m) (Tr.of_same g) _ _ u))
 ·refine qzc e λds z N=>?_;cases N;obtain⟨p,xs,_,rfl,G,n⟩:=c.seq z D;exact qip pins s σ H _ v C A lo hi sl Q I i y k j ⟨p,xs,rfl,G,λl F=>q _ (m++[l]) _ (Sub.app m [l]) (Tr.of_same (qzy F)) (c.new F (qh3 n lo hi)) c.newLoc⟩
theorem qeo:qqq X (.builtin "len") (rC X.K M.bLen):=by
 intro pins s σ H xs f Q I r h;refine h.el λm st ds d st' c g e q=>?_;unfold M.bLen at e
 split at e
 ·have q:=q.of e;obtain⟨x,rfl,i⟩:=g.one;obtain⟨p,ys,rfl,b,a⟩:=i.tup;refine qxs pins s σ H _ f Q I r ⟨p,ys,rfl,.inr b,?_⟩;rw[<- a.length];exact q.here c (mkInt _)
 ·refine qzc e λl k j=>?_;cases j;obtain⟨x,rfl,i⟩:=g.one;obtain⟨p,ys,_,rfl,b,a⟩:=c.seq k i;refine qxs pins s σ H _ f Q I r ⟨p,ys,rfl,.inl b,?_⟩;rw[<- a.length];exact q.here c (mkInt _)
 ·exact nn e
theorem qeh(c:X.calm=true):qqq X (.builtin "min") (rC X.K M.bMin):=by
 intro pins s σ H xs a Q I r h;refine h.el λm st ds d st' f b e q=>?_;unfold M.bMin at e
 split at e
 ·have q:=q.of e;obtain⟨x,y,rfl,i,j⟩:=b.two;cases i.int; cases j.int;exact qei c pins s σ H _ a Q I r ⟨_,_,rfl,q.here f (mkInt _)⟩
 ·exact nn e
theorem qel(c:X.calm=true):qqq X (.builtin "max") (rC X.K M.bMax):=by
 intro pins s σ H xs a Q I r h;refine h.el λm st ds d st' f b e q=>?_;unfold M.bMax at e
 split at e
 ·have q:=q.of e;obtain⟨x,y,rfl,i,j⟩:=b.two;cases i.int; cases j.int;exact qem c pins s σ H _ a Q I r ⟨_,_,rfl,q.here f (mkInt _)⟩
 ·exact nn e
theorem qyw:qqq X (.type "tuple") (rC X.K M.bTuple):=by
 intro pins s σ H xs g Q I r h;refine h.el λm st ds d st' f j e q=>?_;unfold M.bTuple at e
 split at e
 ·have q:=q.of e;obtain⟨x,rfl,i⟩:=j.one;obtain⟨p,ys,rfl,a,c⟩:=i.tup;exact qxa pins s σ H _ g Q I r ⟨p,ys,rfl,.inr ⟨a,q.here f (qxz a c)⟩⟩
 ·refine qzc e λu t n=>?_;cases n;obtain⟨x,rfl,i⟩:=j.one;obtain⟨p,ys,_,rfl,a,c⟩:=f.seq t i;refine qxa pins s σ H _ g Q I r ⟨p,ys,rfl,.inl ⟨a,λl k=>?_⟩⟩;have b:=qzy (o:=.tup ys) k;exact q _ m _ (Sub.refl m) (Tr.of_same b) (f.same b) (qxz (SqT.of qzw) (qza (Sub.refl m) (Tr.of_same b) _ _ c))
 ·exact nn e
theorem qje{P:Program}{w:Qk}:∀{c:List (Key×V)}{vs:List (Key×Value)}{b:List Value},KV c vs->b.length=vs.length->(∀(j:Nat) (v:Value),b[j]?=some v->∃k x,vs[j]?=some (k,x)/\(mixKind P w).is k v=true)->Vals (c.map λp=>kV p.1) b
 |[],_,b,.nil,a,_=>by
  rw[Qzr.mp a];exact .nil
 |(k,x)::c,(k',u)::vs,[],.cons _ _,a,_=>by cases a
 |(k,x)::c,(k',u)::vs,v::b,.cons h r,a,f=>by
  obtain⟨y,s,e,n⟩:=f 0 v rfl;cases e;have d:=h.1;subst d;refine .cons ?_ (qje (P:=P) (w:=w) r (by simpa using a) λj l e=>?_)
  ·rcases qzd n with⟨i,t,rfl,rfl⟩|⟨z,t,rfl,rfl⟩
   ·exact⟨t,rfl⟩
   ·exact⟨t,rfl⟩
  ·obtain⟨m,g,q,o⟩:=f (j+1) l (by simpa using e);exact⟨m,g,by simpa using q,o⟩
theorem IsKV.keys{K:Qqq}{m:List Addr}{H:Hp}:∀{kvs:List (D×D)}{b:List (Key×V)},IsKV K m H kvs b->IsDs K m H (M.keysOf kvs) (b.map λp=>kV p.1)
 |[],_,h=>by rw[show _=[] from h]; exact qqz
 |p::r,_,⟨k,v,f,e,a,g,c⟩=>by
  subst e;refine qzi ?_ c.keys;obtain⟨d,e⟩:=p
  cases d with
  |int i=>cases a; exact mkInt i
  |str z=>cases a; exact mkStr z
  |_=>exact nn a
theorem Rel.dkeys{K:Qqq}{m:List Addr}{st:Store}{H:Hp}(h:Rel K m st H){d:D}{ds:List D}{v:V}(e:M.dkeys st d=some ds)(b:IsD K m H d v):∃a xs,v=.ref a/\Rd H a (.dK xs)/\IsDs K m H ds (xs.map λp=>kV p.1):=by
 cases d with
 |loc l=>
  obtain⟨kvs,g,rfl⟩:=mapD e;obtain⟨a,xs,_,rfl,c,f⟩:=h.dict g b;exact⟨a,xs,rfl,c,f.keys⟩
 |_=>exact nn e
theorem qej{b:List (Addr×Obj)}{g:L2.St}{H:Hp}{s:Qz}{a:Addr}{d:List (Key×V)}(I:Inv X b g H s)(e:Rd H a (.dK d)):∃vs c,KV d vs/\s.heap.DictAt (mixKind X.prog X.w) a vs c/\(a==Qi)=false/\vs.length<=sizeLine:=by
 obtain⟨h,lo,vs,f,o,es,c,r⟩:=qwz I.hok e;exact⟨vs,c,f,⟨o,es,r⟩,lo,by rw[<- f.length]; exact h⟩
theorem qj5(m:X.A.handled=none):qqq X (.type "list") (λxs H Q=>∃p ys,xs=[.ref p]/\Rd H p (.dK ys)/\∀l,H l=none->Q (.ref l) (upd H l (.lst (ys.map λq=>kV q.1)))):=by
 intro pins s σ H xs t Q I r h;obtain⟨p,ys,rfl,i,q⟩:=h;obtain⟨u,rfl,f⟩:=vals1 r;cases f;obtain⟨vs,w,b,o,lo,hn⟩:=qej I i;refine PySem.W.kdl_call (PySem.W.kdl_dict lo) m o hn λh' tk a c k n d=>?_;have g:=qje b (by rw[Qzh]; exact d.1) λj v e=>d.2 j v (by rw[<- Qqr]; exact e);refine⟨.ref s.heap.objs.size,_,I.laid k (Qqw _) (show ObjOk X.prog X.w _ h' _ (.lst (ys.map λq=>kV q.1)) from⟨?_,a.toList,c,g,n⟩),rfl,q _ (I.hok.fresh (Qqw _))⟩;rw[Qqj,b.length]; exact hn
theorem qyv{T:String}{r d:Addr}{n:Nat}{P:Nat->Value->Prop}{t:Heap->Prop}{A:Qv}{E:Value->Qz->Prop}{s:Qz}{R:List Value->Qz->Prop}(K:PySem.W.KdlSrc X.prog X.w T r d n P t)(C:A.handled=none)(hok:t s.heap)(z:n<=sizeLine)
  (h:∀(a:Heap) (k:Nat) (vs:Array Value),(∀b o,s.heap.get? b=some o->a.get? b=some o)->s.heap.objs.size<a.objs.size->ItemsOf P vs n->R vs.toList { s with heap:=a,toks:=k }):wpAny (model X.prog X.w) A (collect (.ref r)) R E s:=by
 have lt:=K.there _ hok
 let g:=s.heap.objs.size
 let p:=s.heap.push { cls:=.type "list",data:=.seq ([]:List Value).toArray }
 have D:p.get? g=some { cls:=.type "list",data:=.seq #[] }:=Qqe _ rfl;have ext:=PySem.W.kdl_extend (s:={ s with heap:=p }) (R:=λq m=>∃(a:Heap) (k:Nat) (vs:Array Value) (c:Nat),q=.ok (.ret (.ref g))/\m={ s with heap:=a,toks:=k }/\(∀b o,s.heap.get? b=some o->a.get? b=some o)/\a.get? g=some { cls:=.type "list",dict:=none,data:=.seq vs c,slots:=#[] }/\ItemsOf P vs n)
  K C (K.keep _ _ hok λb _ o e=>Qqz _ e) g (Qxh lt.1) (Qxh lt.2) (.ref g) 0 D
  (λa k vs c l i j=>⟨a,k,vs,c,rfl,rfl,λb o e=>l b o (Qq1 (Qqa e)) (Qqz _ e),i,j⟩) z
 unfold collect;apply Qq;apply wpAny_runValue;apply Zy entry_proto_collect';rw[Around.under_plainId PySem.F.plain_proto_collect _];apply Qq;refine Qn (Qj ⟨plainId_quiet PySem.F.plain_list_iadd _,?_⟩);apply Zy entry_list_iadd';rw[Around.under_plainId PySem.F.plain_list_iadd _];refine Qy (ext) (λF m x=>?_) λe m x=>?_
 ·cases F with
  |done f=>
   rcases x with⟨a,k,vs,c,e,rfl,l,i,j⟩
   cases e;apply Qq;apply wpAny_load i;exact Qj (h a k vs l (Qqa i) j)
  |again c=>
   rcases x with⟨v,u⟩
   refine⟨v,Q6 u λw G y=>?_⟩
   rcases y with⟨a,k,vs,c,rfl,rfl,l,i,j⟩
   apply Qq;apply wpAny_load i;exact Qj (h a k vs l (Qqa i) j)
 ·rcases x with⟨_,_,_,_,e,_⟩
  cases e
theorem qa5{T:String}{r d:Addr}{n:Nat}{P:Nat->Value->Prop}{x:Heap->Prop}{A:Qv}{E:Value->Qz->Prop}{s:Qz}{Q:Value->Qz->Prop}{ns:List Int}(K:PySem.W.KdlSrc X.prog X.w T r d n P x)(y:A.handled=none)(hok:x s.heap)(H:n<64)(C:∀vs:List Value,vs.length=n->(∀(j:Nat) (v:Value),vs[j]?=some v->P j v)->Zp vs ns)
  (h:∀(a:Addr) (h':Heap) (m e:Nat) (f:Array Value) (c:List Int),(∀b o,s.heap.get? b=some o->h'.get? b=some o)->s.heap.objs.size<=a->h'.get? a=some (seqObj "list" f e)->Zp f.toList c->c.Perm ns->c.Pairwise (· <= ·)->Q (.ref a) { s with heap:=h',toks:=m }) :
  wpAny (model X.prog X.w) A (call (.builtin "sorted") [.ref r]) Q E s:=by
 have i:n<=sizeLine:=by rw[Q4]; lia
 apply PySem.Calls.call_function_entry kind_sorted plain_sorted entry_sorted (args_sorted1 _);unfold Zd.«sorted»;apply Qq;apply Qj;apply Qq;apply qyv (A:=A.in1) K y hok i;intro h1 m g t k w;have p:g.toList.length=n:=by rw[Qzh]; exact w.1
 have hi:=C g.toList p λj v e=>w.2 j v (by rw[<- Qqr]; exact e);apply Qq;refine wpAny_newList ?_ (by rw[p]; exact i);have l:(h1.push (seqObj "list" g.toList.toArray 0)).get? h1.objs.size=some (seqObj "list" g.toList.toArray 0):=Qqe _ rfl;apply Qq;apply Qo;refine Qs slot_list_sort ⟨_,l,rfl⟩ entry_list_sort (list_sort_tree l hi (by lia) λf c G F D=>⟨_,rfl,?_⟩) (args_list_sort _);obtain⟨e,z⟩:=sortedHeap_at l;refine Qj ⟨_,rfl,h _ _ _ e f c (λb o q=>?_) ?_ z G F D⟩
 ·have u:=Qqa (t b o q);exact(sortedHeap_old (Qq1 u) (by rw[size_push']; exact Qxt u)).trans (Qqz _ (t b o q))
 ·exact Qx5 k
theorem qbl(n:X.A.handled=none):qqq X (.type "list") (rC X.K M.bList):=by
 intro pins s σ H xs j Q I r h;refine h.el λm st ds d st' b k e q=>?_;unfold M.bList at e
 split at e
 ·have q:=q.of e;obtain⟨x,rfl,i⟩:=k.one;obtain⟨p,ys,rfl,f,c⟩:=i.tup;exact qxr pins s σ H _ j Q I r ⟨p,ys,rfl,.inr f,λl a=>q _ (m++[l]) _ (Sub.app m [l]) (Tr.of_same (qzy a)) (b.new a c) b.newLoc⟩
 ·refine qzc e λt g o=>?_;cases o;obtain⟨x,rfl,i⟩:=k.one;rcases orO g with g|g
  ·obtain⟨p,ys,_,rfl,f,c⟩:=b.seq g i;exact qxr pins s σ H _ j Q I r ⟨p,ys,rfl,.inl f,λl a=>q _ (m++[l]) _ (Sub.app m [l]) (Tr.of_same (qzy a)) (b.new a c) b.newLoc⟩
  ·obtain⟨p,ys,rfl,f,c⟩:=b.dkeys g i;exact qj5 n pins s σ H _ j Q I r ⟨p,ys,rfl,f,λl a=>q _ (m++[l]) _ (Sub.app m [l]) (Tr.of_same (qzy a)) (b.new a c) b.newLoc⟩
 ·exact nn e
theorem qk7{K:Qqq}{m:List Addr}{H:Hp}:∀{ds:List D}{f:List V}{a:List Value}{bs:List Bool},M.asBools ds=some bs->IsDs K m H ds f->Vals f a->LSm.BoolsAre a bs
 |[],_,_,_,e,c,r=>by
  rw[c.nil]at r;cases r;cases e;exact .nil
 |d::ds,_,_,_,e,c,r=>by
  obtain⟨x,l,rfl,q,t⟩:=c.cons
  cases d with
  |bl b=>
   simp only[M.asBools]at e;refine qzc e λk j i=>?_;subst i;cases q.bl
   cases r with
   |cons h g=>
    cases h;exact .cons b (qk7 j t g)
  |_=>simp[M.asBools]at e
theorem ints_of{K:Qqq}{m:List Addr}{H:Hp}:∀{ds:List D}{c:List V}{ns:List Int},M.asInts ds=some ns->IsDs K m H ds c->c=ns.map V.int/\ds=ns.map D.int
 |[],_,_,e,a=>by
  cases e;exact⟨a.nil,rfl⟩
 |d::ds,_,_,e,a=>by
  obtain⟨x,i,rfl,q,t⟩:=a.cons
  cases d with
  |int b=>
   simp only[M.asInts]at e;refine qzc e λh g f=>?_;subst f;cases q.int;obtain⟨h1,h2⟩:=ints_of g t;rw[h1,h2];exact⟨rfl,rfl⟩
  |_=>simp[M.asInts]at e
theorem qeu(C:X.calm=true):qqq X (.builtin "all") (rC X.K M.bAll):=by
 intro pins s σ H xs K Q I r h;refine h.el λm st ds d st' k w e q=>?_;unfold M.bAll at e
 split at e
 ·refine qzj e λG F e=>qzc e λbs E D=>?_;cases D;obtain⟨x,rfl,i⟩:=w.one;obtain⟨p,ys,_,rfl,y,t⟩:=k.seq F i;obtain⟨u,rfl,n⟩:=vals1 r;cases n;obtain⟨a,l,o,_⟩:=I.list y;have g:=qk7 E t l;have f:=o.isList;have c:p<s.heap.objs.size:=by obtain⟨_,e,_⟩:=id f; exact Qqa e
  refine call_all_walk (Ze f ?_)
  refine⟨s.heap.objs.size,[s.heap.objs.size,p],[s.heap.objs.size],a.toArray.size,_,_,λi=>(bs[i]?).getD true,rfl,Walks.list (A:=X.A.in1) (I.ok.hd C) _ p (Qq1 c) a.toArray,
   ⟨⟨_,Qqe _ rfl,rfl,rfl⟩,f.push _⟩,λi v s' N P hP j=>?_,λh' tk z=>?_⟩
  ·obtain⟨b,e,rfl⟩:=g.get i v (by simpa using hP);simp only[e]at j;exact Qe j
  ·have e:((List.range a.toArray.size).all λi=>(bs[i]?).getD true)=bs.all id:=by
    rw[Qqy,g.length]; exact LSm.range_all bs
   rw[e];exact⟨.bl _,H,I.kept (LSm.kept_iter z),rfl,q.here k (mkBl _)⟩
 ·exact nn e
theorem range_any(bs:List Bool):((List.range bs.length).any λi=>(bs[i]?).getD false)=bs.any id:=by
 rw[Qj0,Qx2,Qx2];constructor
 ·rintro⟨i,hi,h⟩;have hi:=Qza.mp hi;rw[Qqx hi]at h;exact⟨bs[i],Qxm hi,h⟩
 ·rintro⟨b,a,h⟩;obtain⟨i,hi,rfl⟩:=Qz0 a;exact⟨i,Qza.mpr hi,by rw[Qqx hi]; exact h⟩
theorem qet(C:X.calm=true):qqq X (.builtin "any") (rC X.K M.bAny):=by
 intro pins s σ H xs K Q I r h;refine h.el λm st ds d st' k w e q=>?_;unfold M.bAny at e
 split at e
 ·refine qzj e λG F e=>qzc e λbs E D=>?_;cases D;obtain⟨x,rfl,i⟩:=w.one;obtain⟨p,ys,_,rfl,y,t⟩:=k.seq F i;obtain⟨u,rfl,n⟩:=vals1 r;cases n;obtain⟨a,l,o,_⟩:=I.list y;have g:=qk7 E t l;have f:=o.isList;have c:p<s.heap.objs.size:=by obtain⟨_,e,_⟩:=id f; exact Qqa e
  refine call_any_walk (Ze f ?_)
  refine⟨s.heap.objs.size,[s.heap.objs.size,p],[s.heap.objs.size],a.toArray.size,_,_,λi=>(bs[i]?).getD false,rfl,Walks.list (A:=X.A.in1) (I.ok.hd C) _ p (Qq1 c) a.toArray,
   ⟨⟨_,Qqe _ rfl,rfl,rfl⟩,f.push _⟩,λi v s' N P hP j=>?_,λh' tk z=>?_⟩
  ·obtain⟨b,e,rfl⟩:=g.get i v (by simpa using hP);simp only[e]at j;exact Qe j
  ·have e:((List.range a.toArray.size).any λi=>(bs[i]?).getD false)=bs.any id:=by
    rw[Qqy,g.length]; exact range_any bs
   rw[e];exact⟨.bl _,H,I.kept (LSm.kept_iter z),rfl,q.here k (mkBl _)⟩
 ·exact nn e
theorem qq2(x:Int):∀l:List Int,(M.insInt x l).Perm (x::l)
 |[]=>.refl _
 |y::r=>by
  unfold M.insInt
  split
  ·exact .refl _
  ·exact((qq2 x r).cons y).trans (.swap x y r)
theorem qz0:∀l:List Int,(M.sortInt l).Perm l
 |[]=>.refl _
 |x::r=>by
  unfold M.sortInt;exact(qq2 x _).trans ((qz0 r).cons x)
theorem qxw(x:Int):∀l:List Int,l.Pairwise (· <= ·)->(M.insInt x l).Pairwise (· <= ·)
 |[],_=>by unfold M.insInt; simp
 |y::r,h=>by
  unfold M.insInt
  split
  ·rename_i b;refine List.Pairwise.cons (λz a=>?_) h;rcases Qqb.mp a with e|e
   ·rw[e]; exact b
   ·exact Int.le_trans b ((Qz8.mp h).1 z e)
  ·rename_i b;have h':=Qz8.mp h;refine List.Pairwise.cons (λz a=>?_) (qxw x r h'.2);rcases Qqb.mp ((qq2 x r).mem_iff.mp a) with e|e
   ·rw[e]; lia
   ·exact h'.1 z e
theorem qqx:∀l:List Int,(M.sortInt l).Pairwise (· <= ·)
 |[]=>by unfold M.sortInt; simp
 |x::r=>by
  unfold M.sortInt;exact qxw x _ (qqx r)
theorem qxv{K:Qqq}{m:List Addr}{H:Hp}:∀(ns:List Int),IsDs K m H (ns.map D.int) (ns.map V.int)
 |[]=>qqz
 |n::r=>qzi (mkInt n) (qxv r)
theorem qwy(hh:X.A.handled=none):qqq X (.builtin "sorted") (rC X.K M.bSorted):=by
 intro pins s σ H xs us Q I r h;refine h.el λm st ds d st' g ix e q=>?_;unfold M.bSorted at e
 split at e
 ·refine qzj e λF k e=>qzc e λns l e3=>?_;cases e3
  split at l
  ·exact nn l
  ·rename_i a0;obtain⟨x,rfl,i⟩:=ix.one;rcases orO k with k|k
   case inr=>
    obtain⟨p,ys,rfl,A,j⟩:=g.dkeys k i;obtain⟨u,rfl,n⟩:=vals1 r;cases n;obtain⟨vs,U,S,da,lo,hn⟩:=qej I A;obtain⟨E,W⟩:=ints_of l j;have y:=j.length;rw[Qqj]at y;have l5:=S.length;refine qa5 (ns:=ns) (PySem.W.kdl_dict lo) hh da (by lia) (λLq hl hv=>?_) λa h1 tk c f t hk T C N K G=>?_
    ·have R:=qje S hl hv;rw[E]at R;exact intsAre_of R
    ·have D:=PySem.W.ksm_same (K.trans (qz0 ns).symm) G (qqx ns);subst D;have w:=(qz0 ns).length_eq;have v:=qqw;have l6:ns.length=F.length:=by
      have:=congrArg List.length W;rw[Qqj]at this;exact this.symm
     have fr:=I.hok.fresh T;refine⟨.ref a,upd H a (.lst ((M.sortInt ns).map V.int)),I.laid hk T ⟨?_,f.toList,c,qq6 N,?_⟩,rfl,?_⟩
     ·rw[Qqj,w,v];unfold M.lim
      lia
     ·rw[C]
     ·exact q _ (m++[_]) _ (Sub.app m _) (Tr.of_same (qzy fr)) (g.new fr (qxv _)) g.newLoc
   obtain⟨p,ys,_,rfl,A,j⟩:=g.seq k i;obtain⟨u,rfl,n⟩:=vals1 r;cases n;obtain⟨z,P,pl,_⟩:=I.list A;obtain⟨E,W⟩:=ints_of l j;have y:=j.length;have l2:=P.length;subst E;have hI:=intsAre_of P;refine sorted_ints pl.isList hI (by lia) λf t N K G=>?_;have D:=PySem.W.ksm_same (K.trans (qz0 ns).symm) G (qqx ns);subst D;obtain⟨U,C⟩:=sortedAll_at s.heap z f;have fr:=I.hok.fresh (Qjv _);have w:=(qz0 ns).length_eq;have v:=qqw;rw[Qqj]at y;refine⟨.ref (s.heap.objs.size+1),upd H (s.heap.objs.size+1) (.lst ((M.sortInt ns).map V.int)),I.laid (λb o e=>sortedAll_old e) (Qjv _) ?_,rfl,?_⟩
   ·refine⟨?_,f.toList,U,qq6 N,?_⟩
    ·rw[Qqj,w,v];unfold M.lim
     lia
    ·rw[C]
   ·exact q _ (m++[_]) _ (Sub.app m _) (Tr.of_same (qzy fr)) (g.new fr (qxv _)) g.newLoc
 ·exact nn e
theorem qdi(K:Qqq)(n t:M.Ty)(a:t≠.non):PySem.W.kitOne K (.type n.name) (.type t.name)=some (M.tyIs t n):=by
 cases n<;>cases t<;>first
  |exact absurd rfl a
  |rfl
  |decide +kernel
theorem qdl(K:Qqq)(n:M.Ty):∀a:List M.Ty,(∀t∈a,t≠.non)->PySem.W.kitAny K (.type n.name) (a.map λt=>Value.type t.name)=some (a.any λt=>M.tyIs t n)
 |[],_=>rfl
 |t::a,h=>by
  rw[Qq3,Qz7];unfold PySem.W.kitAny;rw[qdi K n t (h t Qql)]
  cases M.tyIs t n with
  |true=>rfl
  |false=>exact qdl K n a λb c=>h b (Qqf _ c)
theorem qhl{c:List (Addr×Obj)}{w:L2.St}{H:Hp}{s:Qz}{m:List Addr}{st:Store}{d:D}{x:V}{u:Value}{n:M.Ty}(I:Inv X c w H s)(q:Rel X.K m st H)(h:IsD X.K m H d x)(r:RelV x u)(e:M.tyName st d=some n):
  ∃v:Heap->Prop,PySem.W.KitX X.K u (.type n.name) v/\v s.heap/\u≠.builtin "__main__.__loader__#opaque":=by
 cases d with
 |non=>cases h.non; cases r; cases e; exact⟨_,PySem.W.kitx_none,True.intro,λz=>nomatch z⟩
 |bl b=>cases h.bl; cases r; cases e; exact⟨_,PySem.W.kitx_bool,True.intro,λz=>nomatch z⟩
 |int b=>cases h.int; obtain⟨t,rfl⟩:=r; cases e; exact⟨_,PySem.W.kitx_int,True.intro,λz=>nomatch z⟩
 |str b=>cases h.str; obtain⟨t,rfl⟩:=r; cases e; exact⟨_,PySem.W.kitx_str,True.intro,λz=>nomatch z⟩
 |tup ds=>
  obtain⟨a,xs,f,rfl,g,p,C,A⟩:=qz8 I h;cases r;cases e;obtain⟨o,h1,h2,_⟩:=A;exact⟨_,PySem.W.kitx_tuple,⟨o,h1,h2⟩,λz=>nomatch z⟩
 |loc l=>
  simp only[M.tyName]at e;refine qzc e λds k j=>?_;subst j;obtain⟨a,xs,_,rfl,g,p⟩:=q.seq k h;cases r;obtain⟨f,y,i,_⟩:=I.list g;obtain⟨o,h1,h2,_⟩:=i.isList;exact⟨_,PySem.W.kitx_list,⟨o,h1,h2⟩,λz=>nomatch z⟩
 |lst l=>
  simp only[M.tyName]at e;refine qzc e λds k j=>?_;subst j;obtain⟨a,xs,_,rfl,g,p⟩:=q.seq k h;cases r;obtain⟨f,y,i,_⟩:=I.list g;obtain⟨o,h1,h2,_⟩:=i.isList;exact⟨_,PySem.W.kitx_list,⟨o,h1,h2⟩,λz=>nomatch z⟩
def rIsi1(K:Qqq)(t:M.Ty):List V->Hp->VK->Prop:=λxs H Q=>∃m st d n x,xs=[x,.ty t.name]/\Rel K m st H/\IsD K m H d x/\M.tyName st d=some n/\Q (.bl (M.tyIs t n)) H
theorem qer(t:M.Ty)(f:t≠.non):qqq X (.builtin "isinstance") (rIsi1 X.K t):=by
 intro pins s σ H xs k Q I r h;obtain⟨m,st,d,n,x,rfl,j,i,e,q⟩:=h;obtain⟨u,w,rfl,b,a⟩:=vals2 r;cases a;obtain⟨l,g,p,c⟩:=qhl I j i b e;exact PySem.W.kia_one g I.kIn p (qdi X.K n t f) c λtk=>⟨.bl _,H,I.tok tk,rfl,q⟩
def rIsiN(K:Qqq)(ts:List M.Ty):List V->Hp->VK->Prop:=λxs H Q=>∃m st d n x p,xs=[x,.ref p]/\H p=some (.tup (ts.map λt=>V.ty t.name))/\Rel K m st H/\IsD K m H d x/\M.tyName st d=some n/\Q (.bl (ts.any λt=>M.tyIs t n)) H
theorem qyb:∀{a:List M.Ty}{us:List Value},Vals (a.map λt=>V.ty t.name) us->us=a.map λt=>Value.type t.name
 |[],_,.nil=>rfl
 |t::a,_,.cons r q=>by
  cases r;rw[qyb q]
  rfl
theorem qep(a:List M.Ty)(v:∀t∈a,t≠.non):qqq X (.builtin "isinstance") (rIsiN X.K a):=by
 intro pins s σ H xs D Q I r h;obtain⟨m,st,d,n,x,p,rfl,y,C,i,e,q⟩:=h;obtain⟨u,w,rfl,j,b⟩:=vals2 r;cases b;obtain⟨F,A,k,o⟩:=qhl I C i j e;obtain⟨_,l,g,⟨cls,E,f,sl⟩,h1,h2,nn,c⟩:=I.hok p _ y;have z:=qyb g;subst z;simp only at h2 c;subst h2 c;exact PySem.W.kia_tup A I.kIn k h1 (qdl X.K n a v) o λtk=>⟨.bl _,H,I.tok tk,rfl,q⟩
end
end MS
end
namespace MS
open PySem PySem.Spec PyProof.Rows L2
theorem qww:∀(names:List (Str×Qd)) (n:Nat) (acc:List (Str×Addr)),cellsFrom n names acc=cellsFrom n names []++acc
 |[],_,_=>rfl
 |(x,k)::r,n,acc=>by
  unfold cellsFrom
  split
  ·rw[qww r (n+1) ((x,n)::acc),qww r (n+1) [(x,n)],Qq4]; rfl
  ·exact qww r n acc
theorem qam{x:Str}{c:Addr}:∀{names:List (Str×Qd)}{n:Nat}{acc:List (Str×Addr)},(x,c)∈cellsFrom n names acc->(x,c)∈acc\/((x,NameKind.cell)∈names/\n<=c)
 |[],_,_,h=>.inl h
 |(y,k)::r,n,acc,h=>by
  unfold cellsFrom at h
  split at h
  ·rename_i b;have b:k=.cell:=eq_of_beq b;subst b;rcases qam h with h|⟨h,a⟩
   ·rcases Qqb.mp h with h|h
    ·cases h; exact .inr ⟨Qql,Qqw _⟩
    ·exact .inl h
   ·exact .inr ⟨Qqf _ h,Qxg a⟩
  ·rcases qam h with h|⟨h,a⟩
   ·exact .inl h
   ·exact .inr ⟨Qqf _ h,a⟩
theorem qan{x:Str}:∀{names:List (Str×Qd)}{n:Nat}{acc:List (Str×Addr)},((x,NameKind.cell)∈names\/∃c,(x,c)∈acc)->∃c,(x,c)∈cellsFrom n names acc
 |[],_,_,h=>by
  rcases h with h|h
  ·cases h
  ·exact h
 |(y,k)::r,n,acc,h=>by
  unfold cellsFrom
  split
  ·refine qan ?_;rcases h with h|⟨c,h⟩
   ·rcases Qqb.mp h with h|h
    ·cases h; exact .inr ⟨n,Qql⟩
    ·exact .inl h
   ·exact .inr ⟨c,Qqf _ h⟩
  ·rename_i a;refine qan ?_;rcases h with h|h
   ·rcases Qqb.mp h with h|h
    ·cases h; exact absurd rfl a
    ·exact .inl h
   ·exact .inr h
theorem qjc{x:Str}{c:Addr}:∀{l:List (Str×Addr)},(x,c)∈l->∃d,l.lookup x=some d
 |(y,d)::r,h=>by
  rw[Qqt]
  cases e:x==y with
  |true=>exact⟨d,rfl⟩
  |false=>
   rcases Qqb.mp h with h|h
   ·cases h; rw[beq_self_eq_true]at e; cases e
   ·exact qjc h
theorem qde{x:Str}:∀{l:List (Str×Addr)},(∀c,(x,c) ∉ l)->l.lookup x=none
 |[],_=>rfl
 |(y,d)::r,h=>by
  rw[Qqt]
  cases e:x==y with
  |true=>rw[eq_of_beq e]at h; exact absurd Qql (h d)
  |false=>exact qde λc a=>h c (Qqf _ a)
theorem nfe{M:Model}{A:Qv}{E:Value->Qz->Prop}{s:Qz}{scope:Scope}{globals:Addr}{a:List (Str×Addr)}{qual:Str}{outer:Env}{Q:Env->Qz->Prop}
  (c:Q { scope:=scope,locals:=s.heap.objs.size,globals:=globals,cells:=cellsFrom (s.heap.objs.size+1) scope.names a,qual:=qual,func:=none,code:=outer.code,frame:=outer.frame,builtins:=outer.builtins } { s with heap:=pushCells (s.heap.push { cls:=.type "dict",data:=.dict #[] }) scope.names }) :
  wpAny M A (newFunctionEnv scope globals a [] qual none .none (some outer)) Q E s:=by
 simp only[newFunctionEnv,Qja,if_true];refine Qq (wpAny_alloc ?_);refine Qq (wpAny_layCells _ (λname kind cells=>by cases b:kind==NameKind.cell<;>simp[b]) _ _ _ _ ?_);rw[show({ s with heap:=s.heap.push { cls:=.type "dict",data:=.dict #[] } }:Qz).heap.objs.size=s.heap.objs.size+1 from Qzp ..];rw[Qj7];exact Qq (Qj (Qj c))
end MS
section
namespace MS
open PySem PySem.Spec PyProof.Rows L2
noncomputable def qxg(cells:List (Str×Addr)):List (Str×Qd)->List (Str×Addr)->List (Str×Addr)
 |[],acc=>acc
 |(n,k)::r,acc=>qxg cells r (if k==.free then(match cells.lookup n with|some a=>(n,a)::acc|none=>acc) else acc)
theorem qeb{env:Env}:∀(names:List (Str×Qd)) (acc:List (Str×Addr)),(∀x∈names,x.2=.free->∃c,env.cells.lookup x.1=some c)->
  (forIn names acc λx r=>match x,r with
   |(name,kind),cs=>if (kind==.free)=true then do let a <- cellOf env name; pure (ForInStep.yield ((name,a)::cs)) else pure (ForInStep.yield cs):Sem (List (Str×Addr)))=pure (qxg env.cells names acc):=by
 intro names
 induction names with
 |nil=>intro acc _; rfl
 |cons x r i=>
  intro acc h;obtain⟨n,k⟩:=x;rw[List.forIn_cons];have d:=λacc=>i acc λy j=>h y (Qqf _ j)
  by_cases e:k=.free
  ·subst e;obtain⟨c,f⟩:=h (n,.free) Qql rfl;simp only[ cellOf,f];simp only[pure_bind];refine(d ((n,c)::acc)).trans ?_;have b:=f;simp[qxg,b]
  ·have g:(k==NameKind.free)=false:=by simpa using e
   simp only[g,pure_bind];refine(d acc).trans ?_;simp[qxg,g]
theorem qk6{a:Scope}{env:Env}(h:∀x∈a.names,x.2=.free->∃c,env.cells.lookup x.1=some c):closureFor a env=pure (qxg env.cells a.names []):=by
 unfold closureFor;have:=qeb a.names [] h;simp only[this]
 rfl
theorem qal{a:List (Str×Addr)}{x:Str}{c:Addr}(d:a.lookup x=some c):∀(names:List (Str×Qd)) (acc:List (Str×Addr)),((x,NameKind.free)∈names\/acc.lookup x=some c)->(qxg a names acc).lookup x=some c
 |[],acc,h=>by
  rcases h with h|h
  ·cases h
  ·exact h
 |(n,k)::r,acc,h=>by
  unfold qxg;refine qal d r _ ?_
  by_cases b:k=.free
  ·subst b;simp only[beq_self_eq_true,if_true]
   by_cases hn:n=x
   ·subst hn;rw[d];exact .inr (by simp)
   ·rcases h with h|h
    ·rcases Qqb.mp h with e|e
     ·cases e; exact absurd rfl hn
     ·exact .inl e
    ·refine .inr ?_
     split
     ·have:(x==n)=false:=by simpa using Ne.symm hn
      rw[Qqt,this]; exact h
     ·exact h
  ·have f:(k==NameKind.free)=false:=by simpa using b
   rw[f,Z2 Qqg];rcases h with h|h
   ·rcases Qqb.mp h with e|e
    ·cases e; exact absurd rfl b
    ·exact .inl e
   ·exact .inr h
theorem qwk{b:List (Str×Addr)}:∀(names:List (Str×Qd)) (acc:List (Str×Addr)),(∀x c,acc.lookup x=some c->b.lookup x=some c)->∀x c,(qxg b names acc).lookup x=some c->b.lookup x=some c
 |[],acc,h,x,c,e=>h x c e
 |(n,k)::r,acc,h,x,c,e=>by
  unfold qxg at e;refine qwk r _ ?_ x c e;intro y d q
  by_cases g:(k==NameKind.free)=true
  ·rw[Z3 g]at q
   split at q
   ·rename_i a i
    by_cases f:(y==n)=true
    ·rw[Qqt,f]at q;rw[eq_of_beq f,i]; exact q
    ·have:(y==n)=false:=by simpa using f
     rw[Qqt,this]at q;exact h y d q
   ·exact h y d q
  ·rw[Z2 g]at q;exact h y d q
theorem qqj(env:Env):∀(names:List (Str×Qd)) (x:Str),(names.map λ(n,k)=>if (k==NameKind.free&&env.scope.kind==.function&&env.kindOf n==some .cell) then(n,NameKind.cell) else(n,k)).lookup x =
  (names.lookup x).map λk=>if (k==NameKind.free&&env.scope.kind==.function&&env.kindOf x==some .cell) then NameKind.cell else k
 |[],x=>rfl
 |(n,k)::r,x=>by
  have d:=qqj env r x;rw[Qq3]
  by_cases b:(x==n)=true
  ·have e:=eq_of_beq b;subst e;dsimp only
   split
   ·rename_i c;rw[Qqt,b,Qqt,b];dsimp only[oMs];rw[Z3 c]
   ·rename_i c;rw[Qqt,b,Qqt,b];dsimp only[oMs];rw[Z2 c]
  ·have a:(x==n)=false:=by simpa using b
   dsimp only
   split
   ·rw[Qqt,a,Qqt,a]; exact d
   ·rw[Qqt,a,Qqt,a]; exact d
section
variable {prog:Program}{w:Qk}{A:Qv}{R:Result->Qz->Prop}{s:Qz}
theorem qwj{elt a p:Qx}{ifs:List Qx}{l:Scope}{pos:Pos}{it acc:Value}{env:Env}{o:Value->Qz->Prop}(D:∀e s',o e s'->notedBy (model prog w) A env (λe s'=>R (.error e) s') e s')(I:Nat->Qz->Prop)
  (turn:∀n s,I n s->wpAny (model prog w) A (pyNext it) (λr d=>match r with
   |none=>R (.ok .next) d
   |some v=>wpAny (model prog w) A (Zm a it v) (λ_ s₀=>wpAny (model prog w) A (assign a env v) (λ_ i=>
     wpAny (model prog w) A (forIn ifs true λc r=>if r=true then do let ok <- isTrue c env (Qw c env); pure (ForInStep.yield ok) else pure (ForInStep.yield r)) (λok b=>
      if ok=true then wpAny (model prog w) A (Qw elt env) (λx g=>wpAny (model prog w) A (call (.builtin "list.append") [acc,x]) (λ_ f=>∃m,m<n/\I m f) o g) o b
      else ∃m,m<n/\I m b) o i) o s₀) o d) o s)
  (n:Nat) (h:I n s):Zj (model prog w) A (.compLoop (.ListComp elt [⟨a,p,ifs,0⟩] l pos) 0 it acc env) R s:=by
 refine codeAny_loop rfl I (λn s E=>?_) n h;refine wpAny_noted (Qy ?_ (λ_ _ q=>q) D);rw[compTurn_list];refine Qq (wpAny_standAt (Qq (Qy (turn n s E) (λr d k=>?_) λ_ _ z=>z)))
 cases r with
 |none=>exact Qj k
 |some v=>
  refine Qq (Qy k (λ_ s₀ C=>?_) λ_ _ z=>z);refine Qq (Qy C (λ_ i y=>Qq (Qy y (λok b j=>?_) λ_ _ z=>z)) λ_ _ z=>z)
  cases ok with
  |false=>exact Qj ⟨rfl,j⟩
  |true=>
   exact Qq (Qq (Qy j (λx g u=>Qq (Qy u (λ_ f t=>Qj (Qj ⟨rfl,t⟩)) λ_ _ z=>z)) λ_ _ z=>z))
end
theorem HOk.track{P:Program}{w:Qk}{H:Hp}{h:Heap}{a:Addr}{o:HO}(x:HOk P w H h)(d:H a=none)(new:ObjOk P w (upd H a o) h a o):HOk P w (upd H a o) h:=λb u e=>by
 by_cases f:b=a
 ·subst f; rw[qzw]at e; cases e; exact new
 ·rw[qzx f]at e;exact(x b u e).stay (λc v _ q=>q) (λc q=>by rw[qzx (qze q d)]; exact q) λc xs q=>by rw[qzx (qze q d)]; exact q
theorem Inv.track{X:Cx}{c:List (Addr×Obj)}{g:L2.St}{H:Hp}{s:Qz}{a:Addr}{o:HO}(I:Inv X c g H s)(i:FpOk X c H a)(new:ObjOk X.prog X.w (upd H a o) s.heap a o):Inv X c g (upd H a o) s:=by
 obtain⟨d,p,q,l,k,j⟩:=i;refine I.step (ch:=[a]) (λb f=>?_) (λb o _ _ _ e _=>e) (λb o _ _ _ e _=>⟨o.slots,e⟩) (λb o f e n=>?_) (λb o _ e=>⟨o,e⟩)
  (λb xs e=>by rw[qzx (qze e d)]; exact e) (λb o u e=>by rw[qzx (qze e d)]; exact e) (λb ps e=>⟨#[],by rw[qzx (qze e d),e]; simp⟩) (λm h=>h) (HOk.track I.hok d new) I.bare
 ·have e:b=a:=by simpa using f
  subst e;exact⟨l,p,k,j⟩
 ·rw[qzx (by simpa using f)]; exact n
noncomputable abbrev qxt(X:Cx)(scope:Scope)(C:Addr):List (Str×Addr):=cellsFrom (C+1) scope.names (qxg X.env.cells scope.names [])
noncomputable def qzm(X:Cx)(N:List Str)(scope:Scope)(C:Addr)(fp:List Addr)(s:Qz)(H:Hp):Cx:=
 { X with N:=N,s₀:=s,H₀:=H,env:=compEnvC scope (qxt X scope C) C X.env,outer:=X.stack,ex:=fp,fn:=λx=>scope.names.lookup x==some .cell,pn:=[],xe:=λ_ _=>False }
noncomputable def qqu(src:List (Option Nat))(σ:L2.St):L2.St:=src.map λo=>o.bind λi=>(σ[i]?).bind id
structure CompScope (X:Cx) (N:List Str) (src:List (Option Nat)) (scope:Scope):Prop where
 kind:scope.kind=.function
 own:∀y∈scope.names,scope.names.lookup y.1=some y.2
 free:∀y∈scope.names,y.2=.free->X.env.kindOf y.1=some .cell\/X.env.kindOf y.1=some .free
 loc:∀y∈scope.names,y.2=.local->scope.names.lookup y.1=some .local
 len:src.length=N.length
 src:∀(j i:Nat),src[j]?=some (some i)->∃x,N[j]?=some x/\X.N[i]?=some x/\scope.names.lookup x=some .free
section
variable {X:Cx}{pins:List (Addr×Obj)}{σ:L2.St}{H:Hp}{s:Qz}
theorem mem_lookup{names:List (Str×Qd)}{x:Str}{k:Qd}(h:names.lookup x=some k):(x,k)∈names:=PySem.mem_of_lookup h
theorem qwx{N:List Str}{src:List (Option Nat)}{a:Scope}(S:CompScope X N src a)(I:Inv X pins σ H s):closureFor a X.env=pure (qxg X.env.cells a.names []):=
 qk6 λx b c=>I.ok.has x.1 (S.free x b c)
theorem pw_ne{l:List (Str×Addr)}(h:l.Pairwise λx y=>x.2≠y.2){x y:Str}{c:Addr}(i:(x,c)∈l)(g:(y,c)∈l)(m:¬ x=y):False:=by
 induction l with
 |nil=>cases i
 |cons a r j=>
  obtain⟨f,k⟩:=Qz8.mp h;rcases Qqb.mp i with e|m1
  ·rcases Qqb.mp g with d|b
   ·rw[<- d]at e; cases e; exact m rfl
   ·exact f _ b (by rw[<- e])
  ·rcases Qqb.mp g with d|b
   ·exact f _ m1 (by rw[<- d])
   ·exact j k m1 b
theorem qmn:∀{names:List (Str×Qd)}{n:Nat}{acc:List (Str×Addr)},(∀a∈acc,a.2<n)->(acc.Pairwise λx y=>x.2≠y.2)->(cellsFrom n names acc).Pairwise λx y=>x.2≠y.2
 |[],_,_,_,h=>h
 |(x,k)::r,n,acc,c,h=>by
  unfold cellsFrom
  split
  ·refine qmn (λa b=>?_) (Qz8.mpr ⟨λa b=>Qxh (c a b),h⟩);rcases Qqb.mp b with rfl|b
   ·exact Qzk _
   ·exact Qxt (c a b)
  ·exact qmn c h
theorem qxp{N:List Str}{src:List (Option Nat)}{a:Scope}{C:Addr}(S:CompScope X N src a){x:Str}{c:Addr}(h:(qxt X a C).lookup x=some c):(a.names.lookup x=some .cell/\C+1<=c/\(x,c)∈cellsFrom (C+1) a.names [])\/(a.names.lookup x≠some .cell/\X.env.cells.lookup x=some c):=by
 unfold qxt at h;rw[qww,Qjb]at h
 cases e:(cellsFrom (C+1) a.names []).lookup x with
 |some d=>
  rw[e]at h;cases h;have m:=PySem.mem_of_lookup e;rcases qam m with z|⟨z,l⟩
  ·cases z
  ·exact .inl ⟨S.own _ z,l,m⟩
 |none=>
  rw[e]at h;refine .inr ⟨λz=>?_,qwk _ [] (λ_ _ z=>nomatch z) x c h⟩;obtain⟨d,hd⟩:=qan (n:=C+1) (acc:=[]) (.inl (mem_lookup z));obtain⟨d',b⟩:=qjc hd;rw[e]at b;cases b
theorem cc_own{a:Scope}{C:Addr}{x:Str}(h:a.names.lookup x=some .cell):∃c,(qxt X a C).lookup x=some c:=by
 obtain⟨d,hd⟩:=qan (n:=C+1) (acc:=qxg X.env.cells a.names []) (.inl (mem_lookup h));exact qjc hd
theorem qee{N:List Str}{src:List (Option Nat)}{a:Scope}{C:Addr}(S:CompScope X N src a){x:Str}{c:Addr}(h:a.names.lookup x=some .free)(b:X.env.cells.lookup x=some c):(qxt X a C).lookup x=some c:=by
 unfold qxt;rw[qww,Qjb,qde λd hd=>?_]
 ·exact qal b _ _ (.inl (mem_lookup h))
 ·rcases qam hd with z|⟨z,_⟩
  ·cases z
  ·have:=S.own _ z;rw[h]at this;cases this
theorem qmm{N:List Str}{src:List (Option Nat)}{a:Scope}{C:Addr}{fp:List Addr}(S:CompScope X N src a)(I:Inv X pins σ H s)(m:s.heap.objs.size<=C)(d:∀b∈fp,FpOk X pins H b)(i:∀b∈fp,b<s.heap.objs.size):(qzm X N a C fp s H).Ok where
 mod:=I.ok.mod
 kind:=S.kind
 glob:=I.ok.glob
 blt:=I.ok.blt
 above:=m
 inj:=λx y c h1 h2=>by
  have lt:∀{z:Str},X.env.cells.lookup z=some c->¬ C+1<=c:=λe l=>by
   obtain⟨v,o,p,_⟩:=I.cell _ c e;have:=Qqa p;exact Qzy _ (Qqm this (Qq9 m (Qxg l)))
  rcases qxp S h1 with⟨_,A,m1⟩|⟨_,w⟩
  ·rcases qxp S h2 with⟨_,u,t⟩|⟨_,r⟩
   ·have ok:=qmn (names:=a.names) (n:=C+1) (acc:=[]) (λ_ D=>nomatch D) .nil;exact Classical.byContradiction λhn=>pw_ne ok m1 t hn
   ·exact absurd A (lt r)
  ·rcases qxp S h2 with⟨_,u,t⟩|⟨_,r⟩
   ·exact absurd u (lt w)
   ·exact I.ok.inj x y c w r
 has:=λx h=>by
  have e:(qzm X N a C fp s H).env.kindOf x=(a.names.lookup x).map λk=>if (k==NameKind.free&&X.env.scope.kind==.function&&X.env.kindOf x==some .cell) then NameKind.cell else k:=qqj X.env a.names x
  rw[e]at h
  cases q:a.names.lookup x with
  |none=>rw[q]at h; rcases h with h|h<;>cases h
  |some k=>
   by_cases p:k=.cell
   ·subst p; exact cc_own q
   ·have E:k=.free:=by
     rw[q]at h;simp only[oMs,Option.some.injEq]at h
     by_cases j:(k==NameKind.free&&X.env.scope.kind==.function&&X.env.kindOf x==some .cell)=true
     ·simp only[Qqo]at j;exact eq_of_beq j.1.1
     ·rw[Z2 j]at h;rcases h with h|h
      ·exact absurd h p
      ·exact h
    subst E;obtain⟨c,j⟩:=I.ok.has x (S.free _ (mem_lookup q) rfl);exact⟨c,qee S q j⟩
 cab:=λx c h e=>by
  rcases qxp S e with⟨_,l,_⟩|⟨n,_⟩
  ·exact Qq9 m (Qxg l)
  ·exact absurd (eq_of_beq h) n
 hd:=I.ok.hd
 frames:=I.ok.frames
 stk:=.inl rfl
 exf:=λb g=>⟨Qq1 (Qqm (i b g) m),λx c e=>by
  rcases qxp S e with⟨_,l,_⟩|⟨_,e⟩
  ·exact λz=>by rw[z]at l; exact Qzy _ (Qqm (i b g) (Qq9 m (Qxg l)))
  ·exact(d b g).2.2.2.2.1 x c e⟩
 bs:=I.bs
 bsz:=Qq9 I.ok.bsz I.sz
 noex:=λb o e g=>by
  rcases (d b g).2.2.2.1 with z|z
  ·exact I.ok.noex b o e z
  ·exact absurd (Qqm (Qqa e) (Qq9 I.ok.bsz z)) (Qzy _)
 exfs:=λb g hf=>by
  have f:=d b g;rcases Qqb.mp (I.stkSub b hf) with z|z
  ·exact f.2.1 z
  ·exact f.2.2.1 z
 funs:=I.stack
 frf:=I.stkFree
theorem qbi{N:List Str}{src:List (Option Nat)}{a:Scope}{C:Addr}{fp:List Addr}{h':Heap}{R:Nat}{K:Str->Option Value}(S:CompScope X N src a)(I:Inv X pins σ H s)(F:s.heap.objs.size<=C)(D:∀b∈fp,FpOk X pins H b)(t:∀b∈fp,b<s.heap.objs.size)
  (kp:∀b o,s.heap.get? b=some o->h'.get? b=some o) (ns:h'.Ns C K) (g:∀x c,(x,c)∈cellsFrom (C+1) a.names []->h'.IsCell c none):Inv (qzm X N a C fp s H) [] (qqu src σ) H { s with heap:=h',toks:=R }:=by
 have Oq:=qmm S I F D t;refine⟨Oq,rfl,I.bare,Un.kept kp,⟨K,ns,λj x v E d hv=>?_⟩,λx c e=>?_,I.hok.fresh F,λx c e=>?_,λp U=>absurd (show p∈([]:List (Addr×Obj)) from U) (by simp),I.hok.kept kp,?_⟩
 ·unfold qqu at d;rw[Qqk]at d
  cases q:src[j]? with
  |none=>rw[q]at d; cases d
  |some o=>
   rw[q]at d
   cases o with
   |none=>cases d
   |some i=>
    obtain⟨x',Q,W,G⟩:=S.src j i q;have E:N[j]?=some x:=E;rw[E]at Q;cases Q;have hi:σ[i]?=some (some v):=by
     cases z:σ[i]? with
     |none=>simp[z]at d
     |some w=>
      cases w with
      |none=>simp[z]at d
      |some w=>simpa[z] using d
    obtain⟨m0,V,A⟩:=I.loc;have P:=S.free _ (mem_lookup G) rfl;have n:Vis X.env.scope x:=by
     rcases P with z|z
     ·exact .inr (.inl z)
     ·exact .inr (.inr z)
    obtain⟨u,T,lk⟩:=A i x v W hi n;refine⟨u,T,?_⟩;rcases lk with⟨z,_⟩|⟨_,c,h,f⟩
    ·rcases P with y|y
     ·rw[y]at z; cases z
     ·rw[y]at z; cases z
    ·refine .inr ⟨?_,c,qee S G h,?_⟩
     ·have e:(qzm X N a C fp s H).env.kindOf x=(a.names.lookup x).map λk=>if (k==NameKind.free&&X.env.scope.kind==.function&&X.env.kindOf x==some .cell) then NameKind.cell else k:=qqj X.env a.names x
      rw[e,G];simp only[oMs]
      by_cases h:(NameKind.free==NameKind.free&&X.env.scope.kind==.function&&X.env.kindOf x==some .cell)=true
      ·rw[Z3 h]; exact .inl rfl
      ·rw[Z2 h]; exact .inr rfl
     ·obtain⟨o,r,hd⟩:=f;exact⟨o,kp c o r,hd⟩
 ·rcases qxp S e with⟨_,_,m⟩|⟨_,e'⟩
  ·exact⟨none,g x c m⟩
  ·obtain⟨v,o,r,hd⟩:=I.cell x c e';exact⟨v,o,kp c o r,hd⟩
 ·rcases qxp S e with⟨_,l,_⟩|⟨_,e⟩
  ·exact I.hok.fresh (Qq9 F (Qxg l))
  ·exact I.freeC x c e
 ·unfold qqu;rw[Qqj];exact S.len
end
def qbp(X:Cx)(ifs:List Qx)(tt:TT):Prop:=∀(pins:List (Addr×Obj)) (s:Qz) (σ:L2.St) (H:Hp) (Q:Bool->Hp->Prop),Inv X pins σ H s->tt σ H Q->
 wpAny (model X.prog X.w) X.A (forIn ifs true λc r=>if r=true then do let ok <- isTrue c X.env (Qw c X.env); pure (ForInStep.yield ok) else pure (ForInStep.yield r)) (TP X pins σ Q) X.xe s
theorem qfh{X:Cx}:qbp X [] (λ_ H Q=>Q true H):=λpins s σ H Q I h=>by
 exact Qj ⟨H,I,h⟩
theorem qfg{X:Cx}{c:Qx}{tc:TT}(a:PT X c tc):qbp X [c] tc:=λpins s σ H Q I h=>by
 rw[List.forIn_cons];simp only[if_true];refine Qq (Qq (thn (a pins s σ H Q I h) λb d q=>Qj ?_));exact Qj q
theorem qke{X:Cx}{w:List (Addr×Obj)}{σ:L2.St}{H:Hp}{s:Qz}{elt tg a4:Qx}{ifs:List Qx}{scope:Scope}{pos:Pos}{it:Addr}{fp:List Addr}{tn:Nat->Heap->Prop}{Jq:It}{N:List Str}{src:List (Option Nat)}
  {g:TG}{tt:TT}{te:TE}{E:Value->Qz->Prop}{c7:List V->Hp->Prop}{RR:Value->Addr->Result->Qz->Prop}{Ex:Addr->Addr->Value->Qz->Prop}(hc:X.calm=true) (I:Inv X w σ H s) (T:Turn X.prog X.w X.K tg Jq fp it tn) (a8:tn 0 s.heap) (K:∀b∈fp,FpOk X w H b) (S:CompScope X N src scope)
  (hg:∀C,PG (qzm X N scope C fp s H) tg g) (ht:∀C,qbp (qzm X N scope C fp s H) ifs tt) (he:∀D C,PE ((qzm X N scope C fp s H).wish (Ex D C)) elt te)
  (d2:∀D C,s.heap.objs.size<=C->∀e s',Ex D C e s'->notedBy (model X.prog X.w) X.A (compEnvC scope (qxt X scope C) C X.env) (λe s'=>RR (.ref D) C (.error e) s') e s')
  (W:Nat->Nat->List V->L2.St->Hp->Prop) (w0:∃k,W 0 k [] (qqu src σ) H)
  (step:∀i k f σ H,W i k f σ H->(Jq.stop i H/\f.length<=sizeLine/\c7 f H)\/(Jq.go i H/\f.length<sizeLine/\∀x H',Jq.yld i H x H'->g x σ H' λa2 H2=>tt a2 H2 λb H3=>
   if b=true then te a2 H3 λv H4=>∃k',k'<k/\W (i+1) k' (f++[v]) a2 H4 else ∃k',k'<k/\W (i+1) k' f a2 H3))
  (d1:∀D C s' H' f,c7 f H'->H' D=none->Inv X w σ (upd H' D (.lst f)) s'->FpOk X w (upd H' D (.lst f)) C->(∃m,s'.heap.Ns C m)->RR (.ref D) C (.ok .next) s') :
  wpAny (model X.prog X.w) X.A (newList []) (λf s₃=>wpAny (model X.prog X.w) X.A (newFunctionEnv scope X.env.globals (qxg X.env.cells scope.names []) [] X.env.qual none .none (some X.env)) (λa6 c2=>
   Zj (model X.prog X.w) X.A (.compStart (.ListComp elt [⟨tg,a4,ifs,0⟩] scope pos) 0 (.ref it) f { a6 with scope:=relabel scope X.env }) (RR f a6.locals) c2) E s₃) E s:=by
 have c4:∀b∈fp,b<s.heap.objs.size:=λb j=>by obtain⟨o,e,_⟩:=T.obj 0 _ a8 b j; exact Qqa e
 refine Qn (nfe ?_);generalize b6:s.heap.push { cls:=.type "list",dict:=none,data:=.seq ([]:List Value).toArray }=H2;have hC:H2.objs.size=s.heap.objs.size+1:=by rw[<- b6,Qzp]
 have a1:s.heap.objs.size≠H2.objs.size:=by rw[hC]; exact Qq1 (Qzk _)
 have A:s.heap.objs.size<=H2.objs.size:=by rw[hC]; exact Qjv _
 have b0:∀b o,H2.get? b=some o->(pushCells (H2.push { cls:=.type "dict",data:=.dict #[] }) scope.names).get? b=some o:=λb o e=>pushCells_keeps _ _ b o (Qqz _ e);have a3:=λb o e=>b0 b o (b6▸Qqz _ e);have U:=b0 _ _ (b6▸Qqe _ rfl);have n:=(Heap.Ns.new H2 (.type "dict")).keeps (pushCells_keeps scope.names _);have R:∀x c,(x,c)∈cellsFrom (H2.objs.size+1) scope.names []->(pushCells (H2.push { cls:=.type "dict",data:=.dict #[] }) scope.names).IsCell c none:=λx c m=>by
  have ok:=cellsFrom_ok scope.names (H2.push { cls:=.type "dict",data:=.dict #[] }) 0 [] ⟨λ_ _ hm=>(nomatch hm),List.Pairwise.nil⟩ (Qzc _);rw[Qzp]at ok;exact(ok.empty x c m).1
 show Zj _ _ _ _ _;generalize pushCells (H2.push { cls:=.type "dict",data:=.dict #[] }) scope.names=a5 at b0 a3 U n R ⊢;generalize a0:s.heap.objs.size=Dd at a1 A U;generalize d9:H2.objs.size=Cc at a1 A n R hC ⊢;have b7:=Nat.le_of_eq a0;have b8:s.heap.objs.size<=Cc:=by rw[a0]; exact A
 have fD:=I.hok.fresh b7;have I1:Inv (qzm X N scope Cc fp s H) [] (qqu src σ) H { s with heap:=a5 }:=qbi S I b8 K c4 a3 n R;have c3:∀b∈fp,b≠Dd:=λb j=>by rw[<- a0]; exact Qq1 (c4 b j)
 have b9:∀x c,(qzm X N scope Cc fp s H).env.cells.lookup x=some c->c≠Dd:=λx c e z=>by
  rcases qxp S e with⟨_,l,_⟩|⟨_,e'⟩
  ·rw[z]at l; exact Qzy _ (Qqm (Nat.lt_succ_of_le A) l)
  ·obtain⟨v,o,ho,_⟩:=I.cell x c e';rw[z,<- a0]at ho;exact Qzy _ (Qqa ho)
 have d3:Dd ∉ (qzm X N scope Cc fp s H).fs:=λz=>by
  obtain⟨_,o,ho,_⟩:=I1.ok.funs.mem z;rw[<- a0]at ho;exact Qzy _ (Qqa ho)
 have Q:∀{pl:List (Addr×Obj)}{H':Hp},(∀p∈pl,p.1=Dd)->(∀b∈fp,H' b=none)->∀b∈fp,FpOk (qzm X N scope Cc fp s H) pl H' b:=λ{pl H'} c8 hn b j=>
  ⟨hn b j,(I1.ok.exf b j).1,I1.ok.exfs b j,.inl j,(I1.ok.exf b j).2,λp t=>by
   have c9:=t
   rw[c8 p c9]; exact(c3 b j).symm⟩
 obtain⟨k0,w0⟩:=w0;have loop:∀s₃:Qz,s₃={ s with heap:=a5 }->
   Zj (model X.prog X.w) X.A (.compLoop (.ListComp elt [⟨tg,a4,ifs,0⟩] scope pos) 0 (.ref it) (.ref Dd) (compEnvC scope (qxt X scope Cc) Cc X.env)) (RR (.ref Dd) Cc) s₃:=by
  rintro s₃ rfl;refine qwj (d2 Dd Cc b8) (λk s'=>∃i f h nn c1 H',Inv (qzm X N scope Cc fp s H) [] c1 H' s'/\tn i s'.heap/\(∀b∈fp,H' b=none)/\W i k f c1 H'/\Vals f h/\s'.heap.get? Dd=some { cls:=.type "list",data:=.seq h.toArray nn }/\H' Dd=none) ?_ k0
   ⟨0,[],[],0,qqu src σ,H,I1,T.keep _ _ _ a8 λb _ o e=>a3 b o e,λb j=>(K b j).1,w0,.nil,U,fD⟩
  rintro k s3 ⟨i,f,h,nn,P,H3,I3,t3,c5,w3,rv,d0,a9⟩;have c6:Inv (qzm X N scope Cc fp s H) [(Dd,{ cls:=.type "list",data:=.seq h.toArray nn })] P H3 s3:=I3.pins_of λp t=>by
   have e:p=(Dd,{ cls:=.type "list",data:=.seq h.toArray nn }):=by simpa using t
   subst e
   exact⟨d0,a9,a1,d3,λv z=>by
    have z':=z
    cases z'⟩
  rcases step i k f P H3 w3 with⟨stop,hz,d6⟩|⟨go,hz,next⟩
  ·refine thn (T.done (qzm X N scope Cc fp s H) rfl rfl rfl hc i _ s3 P H3 (Ex Dd Cc) c6 (Q (λp t=>by rw[Qqs.mp t]) c5) t3 stop) λr s4 ⟨hr,I4⟩=>?_;subst hr;have p4:=I4.pin (Dd,{ cls:=.type "list",data:=.seq h.toArray nn }) (Qqu _ (by simp));have I5:=I.call' I4.os I4.base I4.hok I4.bare λb j=>⟨(K b j).2.2.2.1,(K b j).2.1,(K b j).2.2.2.2.1,(K b j).2.2.2.2.2⟩
   have d5:=I.fpOk b7 a9;refine d1 Dd Cc s4 H3 f d6 a9 (Inv.track I5 d5 ⟨hz,h,nn,rv,p4.1⟩) (I.fpOk b8 (by rw[qzx (Ne.symm a1)]; exact I4.free)) ?_;obtain⟨m4,n4,_⟩:=I4.loc;exact⟨m4,n4⟩
  ·refine thn (T.item (qzm X N scope Cc fp s H) rfl rfl rfl hc i _ s3 P H3 (Ex Dd Cc) c6 (Q (λp t=>by rw[Qqs.mp t]) c5) t3 go) λr s4 ⟨u,hr,h4⟩=>?_;subst hr;refine thn h4 λ_ s5 ⟨x,H5,I5,r5,y5,t5,d4⟩=>?_;have d7:=I5.pinned (Q (λp t=>by rw[Qqs.mp t]) d4) (T.obj _ _ t5);refine Qy (hg Cc _ s5 P H5 x u _ d7 r5 (next x H5 y5)) (λ_ s6 ⟨G,H6,I6,q6⟩=>?_) λ_ _ z=>z.elim;refine Qy (ht Cc _ s6 G H6 _ I6 q6) (λb s7 ⟨H7,I7,q7⟩=>?_) λ_ _ z=>z.elim;have a7:∀{c0:L2.St}{H8:Hp}{s8:Qz},Inv (qzm X N scope Cc fp s H) ([(Dd,{ cls:=.type "list",data:=.seq h.toArray nn })]++qvf fp s5.heap) c0 H8 s8->
     tn (i+1) s8.heap/\(∀b∈fp,H8 b=none)/\s8.heap.get? Dd=some { cls:=.type "list",data:=.seq h.toArray nn }/\H8 Dd=none:=λ{c0 H8 s8} I8=>by
    refine⟨T.keep _ _ _ t5 λb j o e=>(I8.pin (b,o) (Qqu _ (Qqu _ (qqr j e)))).1,λb j=>?_,?_,?_⟩
    ·obtain⟨o,e,d⟩:=T.obj _ _ t5 b j;exact(I8.pin (b,o) (Qqu _ (Qqu _ (qqr j e)))).2.1
    ·exact(I8.pin (Dd,_) (Qqu _ (Qzf _ (by simp)))).1
    ·exact(I8.pin (Dd,{ cls:=.type "list",data:=.seq h.toArray nn }) (Qqu _ (Qzf _ (by simp)))).2.1
   cases b with
   |false=>
    simp only[Qze]at q7 ⊢;obtain⟨k',hk,w7⟩:=q7;obtain⟨b1,b2,b3,b4⟩:=a7 I7;exact⟨k',hk,i+1,f,h,nn,G,H7,I7.pins_of λp t=>absurd t (by simp),b1,b2,w7,rv,b3,b4⟩
   |true=>
    simp only[if_true]at q7 ⊢;refine thn (he Dd Cc _ s7 G H7 _ (I7.wish _) q7) λy s8 ⟨v8,H8,I8,r8,k',hk,w8⟩=>?_;have I8:=I8.unwish;obtain⟨b1,b2,b3,b4⟩:=a7 I8;have l1:=rv.length;refine Qr F.slot_list_append ⟨_,b3,rfl⟩ F.entry_list_append (F.args_list_append_2 _ _) (PySem.list_append Dd h.toArray nn y (by rw[Qqy]; lia)) ⟨b3,?_⟩;have q:=PySem.IsL.update b3 (λa=>a.push y);have b5:h.toArray.push y=(h++[y]).toArray:=by simp
    rw[b5]at q;have I9:Inv (qzm X N scope Cc fp s H) [] G H8 s8:=I8.pins_of λp t=>absurd t (by simp);have d8:Inv (qzm X N scope Cc fp s H) [] G H8 { s8 with heap:=s8.heap.update Dd (Obj.mapSeq (·.push y)) }:=
     I9.turned (λb o j e=>(Qz1 s8.heap _ (Ne.symm j)).trans e) b4 a1 (.inr b7) b9 λp t=>absurd (show p∈([]:List (Addr×Obj)) from t) (by simp)
    exact⟨k',hk,i+1,f++[v8],h++[y],_,G,H8,d8,T.keep _ _ _ b1 λb j o e=>(Qz1 s8.heap _ (Ne.symm (c3 b j))).trans e,b2,w8,rv.append (.cons r8 .nil),q,b4⟩
 exact codeAny_compStart_list (loop _ rfl) (T.self _ 0 _ _ _ (T.keep _ _ _ a8 λb _ o e=>a3 b o e) (loop _ rfl))
noncomputable def qii(src:List (Option Nat))(wi:TI)(g:TG)(tt:TT)(te:TE):TE:=λσ H Q=>wi σ H λJq H1=>∃W:Nat->Nat->List V->L2.St->Hp->Prop,(∃k,W 0 k [] (qqu src σ) H1)/\
 ∀i k acc σ' H',W i k acc σ' H'->(Jq.stop i H'/\acc.length<=sizeLine/\∀p,H' p=none->Q (.ref p) (upd H' p (.lst acc)))\/(Jq.go i H'/\acc.length<sizeLine/\∀x H2,Jq.yld i H' x H2->g x σ' H2 λσ2 H3=>tt σ2 H3 λb H4=>
  if b=true then te σ2 H4 λv H5=>∃k',k'<k/\W (i+1) k' (acc++[v]) σ2 H5 else ∃k',k'<k/\W (i+1) k' acc σ2 H4)
theorem qlh{X:Cx}{elt d c:Qx}{ifs:List Qx}{a:Scope}{pos:Pos}{N:List Str}{src:List (Option Nat)}{l:TI}{g:TG}{m:TT}{n:TE}(G:X.calm=true)(S:CompScope X N src a)(A:PI X d c l)
  (E:∀C fp s H,PG (qzm X N a C fp s H) d g) (u:∀C fp s H,qbp (qzm X N a C fp s H) ifs m) (F:∀C fp s H,PE (qzm X N a C fp s H) elt n)
  (w:∀x,foldedSetIterable c X.env x=pure x):PE X (.ListComp elt [⟨d,c,ifs,0⟩] a pos) (qii src l g m n):=by
 intro pins s σ H Q I h;rw[eval_ListComp];refine wpAny_comprehension_free rfl w (qwx S I) S.kind S.loc (thn (A pins s σ H _ I h) λv s1 h1=>thn h1 λt i h2=>?_);obtain⟨it,fp,tn,Jq,H2,e,U,T,f,R,W,p,turn⟩:=h2;subst e;refine qke G U T f R S (λC=>E C fp i H2) (λC=>u C fp i H2) (λ_ C=>F C fp i H2) (λ_ _ _ _ _ z=>z.elim) W p turn ?_;intro D C s' H' k j r V P y;obtain⟨m',hn⟩:=y;refine⟨m',hn,λh' q=>⟨.ref D,upd H' D (.lst k),?_,rfl,j D r⟩⟩;obtain⟨c0,c1,c2,c3,c4,c5⟩:=P;exact V.turned (λb o K e=>(q.2 b K).trans e) c0 c1 c3 c4 c5
end MS
end
section
namespace MS
open PySem PySem.Spec PyProof.Rows L2
theorem Inv.turnedL{X:Cx}{a:List (Addr×Obj)}{h:L2.St}{H:Hp}{s:Qz}{h':Heap}{t':Nat}{ch:List Addr}(I:Inv X a h H s)(k:∀b o,b ∉ ch->s.heap.get? b=some o->h'.get? b=some o)(g:∀b∈ch,FpOk X a H b):Inv X a h H { s with heap:=h',toks:=t' }:=by
 have f:∀b u,H b=some u->b ∉ ch:=λb u e z=>by rw[(g b z).1]at e; cases e
 refine I.step (λb l=>?_) (λb o _ _ d e _=>k b o d e) (λb o _ _ d e _=>⟨o.slots,k b o d e⟩) (λ_ _ _ _ n=>n) (λb o d e=>⟨o,k b o d e⟩) (λ_ _ e=>e) (λ_ _ _ e=>e) (λb ps e=>⟨#[],by rw[e]; simp⟩) (λm j=>?_) (λb u e=>?_) I.bare
 ·obtain⟨C,x,A,w,t,p⟩:=g b l;exact⟨w,x,t,p⟩
 ·obtain⟨o,es,y,i,r⟩:=j;exact⟨o,es,y,k _ o (λz=>(g _ z).2.1 rfl) i,r⟩
 ·refine(I.hok b u e).stay (λc v d q=>k c v ?_ q) (λ_ q=>q) λ_ _ q=>q;rcases d with z|z
  ·rw[z]; exact f b u e
  ·exact f c _ z
inductive RK where
 |lst|tup
noncomputable def RK.It:RK->Heap->Addr->Addr->Nat->Prop
 |.lst,h,it,a,i=>h.IsListIter it a i
 |.tup,h,it,a,i=>h.IsTupleIter it a i
noncomputable def RK.Sq:RK->Heap->Addr->Array Value->Prop
 |.lst,h,a,xs=>h.IsList a xs
 |.tup,h,a,xs=>h.IsTuple a xs
theorem RK.It.on{k:RK}{h h':Heap}{it a:Addr}{i:Nat}(x:k.It h it a i)(e:∀o,h.get? it=some o->h'.get? it=some o):k.It h' it a i:=by
 cases k with
 |lst=>exact Heap.IsListIter.at x e
 |tup=>obtain⟨o,b,r⟩:=x; exact⟨o,e o b,r⟩
theorem RK.Sq.on{k:RK}{h h':Heap}{a:Addr}{xs:Array Value}(x:k.Sq h a xs)(e:∀o,h.get? a=some o->h'.get? a=some o):k.Sq h' a xs:=by
 cases k with
 |lst=>exact Heap.IsList.at x e
 |tup=>obtain⟨o,b,r⟩:=x; exact⟨o,e o b,r⟩
theorem RK.It.obj{k:RK}{h:Heap}{it a:Addr}{i:Nat}(x:k.It h it a i):∃o,h.get? it=some o/\∀v,o.data≠.cell v:=by
 cases k with
 |lst=>obtain⟨o,b,_,d⟩:=x; exact⟨o,b,λv z=>by rw[d]at z; cases z⟩
 |tup=>obtain⟨o,b,_,d⟩:=x; exact⟨o,b,λv z=>by rw[d]at z; cases z⟩
section
variable {prog:Program}{w:Qk}{A:Qv}{E:Value->Qz->Prop}{s:Qz}
theorem qjn{k:RK}{it a:Addr}{i:Nat}{f:Array Value}{x:Value}{Q:Value->Qz->Prop}(d:k.It s.heap it a i)(h:k.Sq s.heap a f)(g:f[i]?=some x)
  (j:∀h',k.It h' it a (i+1)->(∀b o,b≠it->s.heap.get? b=some o->h'.get? b=some o)->h'.objs.size=s.heap.objs.size->Q x { s with heap:=h' }):wpAny (model prog w) A (Builtin.SmallTypes.nextOf (.ref it)) Q E s:=by
 cases k with
 |lst=>exact wpAny_nextOf_list_item d h g λh' t l=>j h' t l.extBut l.1
 |tup=>
  obtain⟨o,e,r,c⟩:=id d;obtain⟨q,p,_,m,n⟩:=h;unfold Builtin.SmallTypes.nextOf;refine Qq (Qm (Heap.IsTupleIter.typeIs d) F.slot_tuple_iterator_next (Qs F.slot_tuple_iterator_next (Heap.IsTupleIter.typeIs d) F.entry_tuple_iterator_next ?_ (F.args_tuple_iterator_next_1 _)));show wpAny _ _ (field (.ref it) 0 >>= _) _ _ _;refine Qq (Qc e c rfl ?_);rw[Z2 (λz=>nomatch z)];refine Qq (Qc e c rfl ?_);refine Qq (Ql p n ?_);simp only[Int.toNat_natCast,g];refine Qq (Zs e c (by simp) (Qj ⟨x,rfl,Qj (j _ ?_ (Heap.SameBut.update ..).extBut (Heap.SameBut.update ..).1)⟩));exact⟨_,Qxz _ e (Obj.isFreed_of_fields (Obj.data_mapFields c _)),(Obj.cls_mapFields ..).trans r,by rw[Obj.data_mapFields c]; simp[rawInt]⟩
theorem qv9{k:RK}{it a:Addr}{i:Nat}{h:Array Value}{Q:Value->Qz->Prop}(d:A.handled=none)(c:k.It s.heap it a i)(l:k.Sq s.heap a h)(j:h[i]?=none)
  (n:∀h' e,(∀b o,b≠it->s.heap.get? b=some o->h'.get? b=some o)->(∃o,h'.get? e=some o/\o.cls=.type "StopIteration")->E (.ref e) { s with heap:=h' }):wpAny (model prog w) A (Builtin.SmallTypes.nextOf (.ref it)) Q E s:=by
 cases k with
 |lst=>exact wpAny_nextOf_list_end d c l j λh' e u t=>n h' e u t
 |tup=>
  obtain⟨o,g,v,f⟩:=id c;obtain⟨q,r,_,m,p⟩:=l;unfold Builtin.SmallTypes.nextOf;refine Qq (Qm (Heap.IsTupleIter.typeIs c) F.slot_tuple_iterator_next (Qs F.slot_tuple_iterator_next (Heap.IsTupleIter.typeIs c) F.entry_tuple_iterator_next ?_ (F.args_tuple_iterator_next_1 _)));show wpAny _ _ (field (.ref it) 0 >>= _) _ _ _;refine Qq (Qc g f rfl ?_);rw[Z2 (λz=>nomatch z)];refine Qq (Qc g f rfl ?_);refine Qq (Ql r p ?_);simp only[Int.toNat_natCast,j];refine Qq (Zn (Qq (Zs g f (by simp) ?_))); show wpAny _ _ (newExc (.type "StopIteration") [] >>= _) _ _ _;refine Qq ?_; simp only[newExc];refine Qq (Qn ?_ (by size_fits)); refine Qq (wpAny_of_eq (by first|rfl|(simp only[firstArgMember]; rfl)) ?_);refine Qn ?_ (by size_fits); simp only[raiseNew];refine Qq (wpAny_handled ?_)
  first|rw[show A.in1.handled=none from d]|(rw[d])
  refine Qq (Qj (wpAny_throw ?_));exact n _ _ (((Heap.SameBut.update ..).extBut.push _).push _) ⟨_,Qqe _ rfl,by rfl⟩
end
section
variable {prog:Program}{w:Qk}{A:Qv}{E:Value->Qz->Prop}{s:Qz}
theorem qks{T:Addr}{a b x:Value}{j:Nat}{Q:Unit->Qz->Prop}(e:IsPair s.heap T a b)
  (h:∀h',h'.get? T=some { cls:=.type "tuple",data:=.seq ((#[a,b]:Array Value).setIfInBounds j x) }->(∀c o,c≠T->s.heap.get? c=some o->h'.get? c=some o)->h'.objs.size=s.heap.objs.size->Q () { s with heap:=h' }) :
  wpAny (model prog w) A (updateSeq T (·.setIfInBounds j x)) Q E s:=
 wpAny_updateSeq_pair e λh' f d=>h h' f d.extBut d.1
theorem zip_get{n r q:Nat}{k1 k2:RK}{i:Nat}{G ys:Array Value}{x y a b:Value}{Q:Option Value->Qz->Prop}(n1:r<n)(n2:q<n)
  (f:IsZip s.heap (n+4) (n+2) (n+3) .none) (S:IsPair s.heap (n+2) (.ref n) (.ref (n+1))) (hO:IsPair s.heap (n+3) a b) (h1:k1.It s.heap n r i) (h2:k2.It s.heap (n+1) q i) (X:k1.Sq s.heap r G) (W:k2.Sq s.heap q ys) (hx:G[i]?=some x) (hy:ys[i]?=some y)
  (hQ:∀h',IsZip h' (n+4) (n+2) (n+3) (rawInt s.heap.objs.size)->IsPair h' (n+2) (.ref n) (.ref (n+1))->IsPair h' (n+3) x y->k1.It h' n r (i+1)->k2.It h' (n+1) q (i+1)->IsPair h' s.heap.objs.size x y->
   (∀c o,c≠n+4->c≠n+3->c≠n->c≠n+1->s.heap.get? c=some o->h'.get? c=some o)->Q (some (.ref s.heap.objs.size)) { s with heap:=h' }) :
  wpAny (model prog w) A (pyNext (.ref (n+4))) Q E s:=by
 have R:s.TypeIs (.ref (n+4)) "zip":=⟨_,f,rfl⟩
 unfold pyNext;refine Qq (wpAny_attempt (Qm R F.slot_zip_next (Qs F.slot_zip_next R F.entry_zip_next ?_ (F.args_zip_next_1 _))));show wpAny _ _ (field (.ref (n+4)) 2 >>= _) _ _ _;refine Qq (Qc f rfl rfl ?_);refine Qq (Qc f rfl rfl ?_);refine Qq (Ql S rfl ?_);refine Qq ?_;unfold Builtin.SmallTypes.ownedTupleIsFree;refine Qq (Qc f rfl rfl (Qj ?_));simp only[if_true];refine Qq (Zn ?_);refine Qq (Qc f rfl rfl ?_);refine Qq (Qt f (by simp) λg1 v K=>?_)
 replace v:IsZip g1 (n+4) (n+2) (n+3) .ellipsis:=v
 have d:=K.extBut;refine Qq ?_;simp only[List.zipIdx_cons,Qj7];refine Qq (Qq (Zt ?_)); show wpAny _ _ (Builtin.SmallTypes.nextOf (.ref n) >>= _) _ _ _;refine Qq (qjn (h1.on λo e=>d _ o (by show @Ne Nat _ _; lia) e) (X.on λo e=>d _ o (by show @Ne Nat _ _; lia) e) hx λg2 i2 j c2=>Qj ?_);have U:=j _ _ (by show @Ne Nat _ _; lia) (d _ _ (by show @Ne Nat _ _; lia) hO);refine Qq (Ql U rfl ?_);refine Qq (qks U λg3 C h c3=>?_)
 replace C:IsPair g3 (n+3) x b:=C
 refine Qq (wpAny_letGo (Qj ?_));refine Qq (Qq (Zt ?_)); show wpAny _ _ (Builtin.SmallTypes.nextOf (.ref (n+1)) >>= _) _ _ _;refine Qq (qjn (h2.on λo e=>h _ o (by show @Ne Nat _ _; lia) (j _ o (by show @Ne Nat _ _; lia) (d _ o (by show @Ne Nat _ _; lia) e))) (W.on λo e=>h _ o (by show @Ne Nat _ _; lia) (j _ o (by show @Ne Nat _ _; lia) (d _ o (by show @Ne Nat _ _; lia) e))) hy λg4 i4 p c4=>Qj ?_);have T:=p _ _ (by show @Ne Nat _ _; lia) C;refine Qq (Ql T rfl ?_);refine Qq (qks T λg t m c5=>?_)
 replace t:IsPair g (n+3) x y:=t
 refine Qq (wpAny_letGo (Qj (Qj ?_)));refine Qq (Ql t rfl ?_);refine Qq (wpAny_newTuple ?_);have sz:=c5.trans (c4.trans (c3.trans (c2.trans K.1)));have D:=m _ _ (by show @Ne Nat _ _; lia) (p _ _ (by show @Ne Nat _ _; lia) (h _ _ (by show @Ne Nat _ _; lia) (j _ _ (by show @Ne Nat _ _; lia) v)));have k:∀c o,c≠n+4->c≠n+3->c≠n->c≠n+1->s.heap.get? c=some o->g.get? c=some o:=λc o c1 c2 c3 c4 e=>m _ _ c2 (p _ _ c4 (h _ _ c2 (j _ _ c3 (d _ _ c1 e))));have j1:=i2.on λo e=>m _ o (by show @Ne Nat _ _; lia) (p _ o (by show @Ne Nat _ _; lia) (h _ o (by show @Ne Nat _ _; lia) e));have j2:=i4.on λo e=>m _ o (by show @Ne Nat _ _; lia) e;have P:=Qqa D;refine Qq ?_;unfold Builtin.SmallTypes.ownedTupleHandOut;have V:IsZip (g.push { cls:=.type "tuple",data:=.seq #[x,y] }) (n+4) (n+2) (n+3) .ellipsis:=Qqz _ D;refine Qq (Qt V (by simp) λg7 u I=>?_)
 replace u:IsZip g7 (n+4) (n+2) (n+3) (rawInt g.objs.size):=u
 refine Qt u (by simp) λz l H=>?_
 replace l:IsZip z (n+4) (n+2) (n+3) (rawInt g.objs.size):=l
 have up:∀c o,c≠n+4->g.get? c=some o->z.get? c=some o:=λc o c1 e=>H.extBut _ _ c1 (I.extBut _ _ c1 (Qqz _ e));have N:=H.extBut _ _ (Qxh P) (I.extBut _ _ (Qxh P) (Qqe _ rfl));rw[sz]at l N;refine Qj ⟨_,rfl,Qj ?_⟩;rw[sz];exact hQ z l (up _ _ (by lia) (k _ _ (by lia) (by lia) (by lia) (by lia) S)) (up _ _ (by lia) t) (j1.on λo e=>up _ o (by lia) e) (j2.on λo e=>up _ o (by lia) e) N λc o c1 c2 c3 c4 e=>up c o c1 (k c o c1 c2 c3 c4 e)
theorem qfx{n z y:Nat}{k1 k2:RK}{i:Nat}{u ys:Array Value}{a b:Value}{Q:Option Value->Qz->Prop}(R:A.handled=none)(n1:z<n)(n2:y<n)
  (k:IsZip s.heap (n+4) (n+2) (n+3) .none) (hI:IsPair s.heap (n+2) (.ref n) (.ref (n+1))) (hO:IsPair s.heap (n+3) a b) (T:k1.It s.heap n z i) (h2:k2.It s.heap (n+1) y i) (P:k1.Sq s.heap z u) (X:k2.Sq s.heap y ys) (l:u[i]?=none\/ys[i]?=none)
  (hQ:∀h',(∀c o,c≠n+4->c≠n+3->c≠n->c≠n+1->s.heap.get? c=some o->h'.get? c=some o)->Q none { s with heap:=h' }) :
  wpAny (model prog w) A (pyNext (.ref (n+4))) Q E s:=by
 have S:s.TypeIs (.ref (n+4)) "zip":=⟨_,k,rfl⟩
 have p:∀(h':Heap) (e:Addr),(∀c o,c≠n+4->c≠n+3->c≠n->c≠n+1->s.heap.get? c=some o->h'.get? c=some o)->(∃o,h'.get? e=some o/\o.cls=.type "StopIteration")->
   wpAny (model prog w) A (do if (<- isInstance (.ref e) (.type "StopIteration")) then pure none else(throw (Value.ref e):Sem (Option Value))) Q E { s with heap:=h' }:=λh' e hk m=>by
  obtain⟨o,f,j⟩:=m;refine Qq (wpAny_isInstance ⟨o,f,j⟩ isSubtype_stop ?_);exact Qj (hQ _ hk)
 unfold pyNext;refine Qq (wpAny_attempt (Qm S F.slot_zip_next (Qs F.slot_zip_next S F.entry_zip_next ?_ (F.args_zip_next_1 _))));show wpAny _ _ (field (.ref (n+4)) 2 >>= _) _ _ _;refine Qq (Qc k rfl rfl ?_);refine Qq (Qc k rfl rfl ?_);refine Qq (Ql hI rfl ?_);refine Qq ?_;unfold Builtin.SmallTypes.ownedTupleIsFree;refine Qq (Qc k rfl rfl (Qj ?_));simp only[if_true];refine Qq (Zn ?_);refine Qq (Qc k rfl rfl ?_);refine Qq (Qt k (by simp) λg1 r W=>?_)
 replace r:IsZip g1 (n+4) (n+2) (n+3) .ellipsis:=r
 have d:=W.extBut;refine Qq ?_;simp only[List.zipIdx_cons,Qj7];refine Qq (Qq (Zt ?_)); show wpAny _ _ (Builtin.SmallTypes.nextOf (.ref n) >>= _) _ _ _
 cases C:u[i]? with
 |none=>
  refine Qq (qv9 R (T.on λo e=>d _ o (by show @Ne Nat _ _; lia) e) (P.on λo e=>d _ o (by show @Ne Nat _ _; lia) e) C λg2 e g m=>?_);obtain⟨v,f,j⟩:=m;have H:=g _ _ (by show @Ne Nat _ _; lia) r;have D:e≠n+4:=λq=>by subst q; rw[H]at f; cases f; simp at j
  exact Qt H (by simp) λU _ N=>p U e (λc o c1 _ c3 _ q=>N.extBut _ _ c1 (g _ _ c3 (d _ _ c1 q))) ⟨v,N.extBut _ _ D f,j⟩
 |some x=>
  have hy:ys[i]?=none:=by
   rcases l with h|h
   ·rw[C]at h; cases h
   ·exact h
  refine Qq (qjn (T.on λo e=>d _ o (by show @Ne Nat _ _; lia) e) (P.on λo e=>d _ o (by show @Ne Nat _ _; lia) e) C λg2 i2 g c2=>Qj ?_);have V:=g _ _ (by show @Ne Nat _ _; lia) (d _ _ (by show @Ne Nat _ _; lia) hO);refine Qq (Ql V rfl ?_);refine Qq (qks V λU O3 t c3=>Qq (wpAny_letGo (Qj ?_)));refine Qq (Qq (Zt ?_)); show wpAny _ _ (Builtin.SmallTypes.nextOf (.ref (n+1)) >>= _) _ _ _;refine Qq (qv9 R (h2.on λo e=>t _ o (by show @Ne Nat _ _; lia) (g _ o (by show @Ne Nat _ _; lia) (d _ o (by show @Ne Nat _ _; lia) e))) (X.on λo e=>t _ o (by show @Ne Nat _ _; lia) (g _ o (by show @Ne Nat _ _; lia) (d _ o (by show @Ne Nat _ _; lia) e))) hy λg4 e I m=>?_);obtain⟨v,f,j⟩:=m;have G:=I _ _ (by show @Ne Nat _ _; lia) (t _ _ (by show @Ne Nat _ _; lia) (g _ _ (by show @Ne Nat _ _; lia) r));have D:e≠n+4:=λq=>by subst q; rw[G]at f; cases f; simp at j
  exact Qt G (by simp) λg5 _ K=>p g5 e (λc o c1 c2 c3 c4 q=>K.extBut _ _ c1 (I _ _ c4 (t _ _ c2 (g _ _ c3 (d _ _ c1 q))))) ⟨v,K.extBut _ _ D f,j⟩
end
noncomputable def RK.itO(k:RK)(a:Addr):Obj:=match k with
 |.lst=>{ cls:=.type "list_iterator",data:=.fields #[.ref a,.int 0 0] }
 |.tup=>{ cls:=.type "tuple_iterator",data:=.fields #[.ref a,.int 0 0] }
theorem qyr{prog:Program}{w:Qk}{A:Qv}{E:Value->Qz->Prop}{s:Qz}{k:RK}{a:Addr}{d:Array Value}{Q:Value->Qz->Prop}(b:k.Sq s.heap a d)(c:Q (.ref s.heap.objs.size) { s with heap:=s.heap.push (k.itO a) }):wpAny (model prog w) A (pyIter (.ref a)) Q E s:=by
 cases k with
 |lst=>exact Ze b c
 |tup=>exact wpAny_pyIter_tuple b c
theorem row_new{h:Heap}{k:RK}{a:Addr}:k.It (h.push (k.itO a)) h.objs.size a 0:=by
 cases k with
 |lst=>exact⟨_,Qqe _ rfl,rfl,rfl⟩
 |tup=>exact⟨_,Qqe _ rfl,rfl,rfl⟩
noncomputable abbrev zh1(k1:RK)(h:Heap)(l1:Addr):Heap:=h.push (k1.itO l1)
noncomputable abbrev zh2(k1 k2:RK)(h:Heap)(l1 l2:Addr):Heap:=(zh1 k1 h l1).push (k2.itO l2)
noncomputable abbrev zh3(k1 k2:RK)(h:Heap)(l1 l2:Addr):Heap:=(zh2 k1 k2 h l1 l2).push { cls:=.type "tuple",data:=.seq #[.ref h.objs.size,.ref (zh1 k1 h l1).objs.size] }
noncomputable abbrev zh4(k1 k2:RK)(h:Heap)(l1 l2:Addr):Heap:=(zh3 k1 k2 h l1 l2).push { cls:=.type "tuple",data:=.seq #[.none,.none] }
noncomputable abbrev zh5(k1 k2:RK)(h:Heap)(l1 l2:Addr):Heap:=(zh4 k1 k2 h l1 l2).push { cls:=.type "zip",data:=.fields #[.none,.bool false,.bool false,.ref (zh2 k1 k2 h l1 l2).objs.size,.ref (zh3 k1 k2 h l1 l2).objs.size] }
theorem qfj(k1 k2:RK)(b a:Addr)(f ys:Array Value):Meets (Zd.«zip.__new__» ⟨[.type "zip",.ref b,.ref a],[]⟩) (λ_ R s=>k1.Sq s.heap b f/\k2.Sq s.heap a ys/\R (.ok (.ret (.ref (zh4 k1 k2 s.heap b a).objs.size))) { s with heap:=zh5 k1 k2 s.heap b a }):=
 .of_wp λprog w A R s h=>by
  obtain⟨k,g,d,tk,os⟩:=s;obtain⟨j,i,h⟩:=h;have c:=sub_zip;have l:=j;have L2:k2.Sq (Shared.heap ⟨k.push (k1.itO b),g,d,tk,os⟩) a ys:=i.on λo e=>Qqz _ e
  wp_walk using qyr l,qyr L2
  exact⟨_,rfl,h⟩
def ZipAt(k1 k2:RK)(n l1 l2:Nat)(i:Nat)(h:Heap):Prop:=
 l1<n/\l2<n/\IsZip h (n+4) (n+2) (n+3) .none/\IsPair h (n+2) (.ref n) (.ref (n+1))/\(∃a b,IsPair h (n+3) a b)/\k1.It h n l1 i/\k2.It h (n+1) l2 i
theorem qef{prog:Program}{w:Qk}{A:Qv}{E:Value->Qz->Prop}{s:Qz}{k1 k2:RK}{a b:Nat}{k ys:Array Value}{Q:Value->Qz->Prop}(q:k1.Sq s.heap a k)(p:k2.Sq s.heap b ys)(b1:a<s.heap.objs.size)(b2:b<s.heap.objs.size)
  (h:∀h',ZipAt k1 k2 s.heap.objs.size a b 0 h'->(∀c o,s.heap.get? c=some o->h'.get? c=some o)->Q (.ref (s.heap.objs.size+4)) { s with heap:=h' }):wpAny (model prog w) A (call (.type "zip") [.ref a,.ref b]) Q E s:=by
 refine callType_new F.called_zip (by decide) (F.typeCall_zip_2 _ _) (F.newCall_zip_2 _ _) (λobj=>F.args_object_init_3 obj _ _) F.entry_zip_new (qfj k1 k2 a b k ys) ⟨q,p,?_⟩;have g:(zh1 k1 s.heap a).objs.size=s.heap.objs.size+1:=Qzp ..;have f:(zh2 k1 k2 s.heap a b).objs.size=s.heap.objs.size+2:=by rw[Qzp,g]
 have d:(zh3 k1 k2 s.heap a b).objs.size=s.heap.objs.size+3:=by rw[Qzp,f]
 have j:(zh4 k1 k2 s.heap a b).objs.size=s.heap.objs.size+4:=by rw[Qzp,d]
 have i:(zh5 k1 k2 s.heap a b).get? (zh4 k1 k2 s.heap a b).objs.size=some _:=Qqe _ rfl;have l:(zh5 k1 k2 s.heap a b).get? (zh3 k1 k2 s.heap a b).objs.size=some _:=Qqz _ (Qqe _ rfl);have m:(zh5 k1 k2 s.heap a b).get? (zh2 k1 k2 s.heap a b).objs.size=some _:=Qqz _ (Qqz _ (Qqe _ rfl));have n:k2.It (zh5 k1 k2 s.heap a b) (zh1 k1 s.heap a).objs.size b 0:=row_new.on λo e=>Qqz _ (Qqz _ (Qqz _ e));have r:k1.It (zh5 k1 k2 s.heap a b) s.heap.objs.size a 0:=row_new.on λo e=>Qqz _ (Qqz _ (Qqz _ (Qqz _ e)));rw[f,d,j]at i;rw[g,f]at m;rw[d]at l;rw[g]at n;rw[j];exact⟨⟨_,i,rfl⟩,h _ ⟨b1,b2,i,m,⟨_,_,l⟩,r,n⟩ λc o x=>Qqz _ (Qqz _ (Qqz _ (Qqz _ (Qqz _ x))))⟩
def RK.sq(k:RK)(K:Qqq)(H:Hp)(a:Addr)(xs:List V):Prop:=match k with
 |.lst=>SqL K H a xs
 |.tup=>SqT K H a xs
noncomputable def Itz(K:Qqq)(k1 k2:RK)(a b:Addr):It:=
 ⟨λi H=>∃xs ys x y,k1.sq K H a xs/\k2.sq K H b ys/\xs[i]?=some x/\ys[i]?=some y,
  λi H v H'=>∃p x y,v=.ref p/\H p=none/\H'=upd H p (.tup [x,y])/\(∀xs,k1.sq K H a xs->xs[i]?=some x)/\∀ys,k2.sq K H b ys->ys[i]?=some y,
  λi H=>∃xs ys,k1.sq K H a xs/\k2.sq K H b ys/\(xs.length<=i\/ys.length<=i)⟩
section
variable {X:Cx}{pins:List (Addr×Obj)}{σ:L2.St}{H:Hp}{s:Qz}
theorem qkq{k:RK}{a:Addr}{d:List V}(I:Inv X pins σ H s)(q:k.sq X.K H a d):∃b,Vals d b/\k.Sq s.heap a b.toArray:=by
 cases k with
 |lst=>obtain⟨b,c,p,e⟩:=I.list q; exact⟨b,c,p.isList⟩
 |tup=>obtain⟨b,c,p,e⟩:=I.tuple q; exact⟨b,c,show s.heap.IsTuple a b.toArray from p⟩
theorem qcr{k:RK}{a:Addr}{b ys:List V}(I:Inv X pins σ H s)(q:k.sq X.K H a b)(c:k.sq X.K H a ys):b=ys:=by
 cases k with
 |lst=>exact I.list_inj q c
 |tup=>exact I.tuple_inj q c
end
noncomputable def fpZ(n:Nat):List Addr:=[n+4,n+2,n+3,n,n+1]
theorem qfv{P:Program}{w:Qk}{K:Qqq}{r:List Qx}{c:Nat}{pos:Pos}(k1 k2:RK)(n a b:Nat):Turn P w K (.Tuple r c pos) (Itz K k1 k2 a b) (fpZ n) (n+4) (ZipAt k1 k2 n a b) where
 mem:=by simp[fpZ]
 obj:=λi h st e V=>by
  obtain⟨b1,b2,g,l,⟨x,y,j⟩,h1,h2⟩:=st;simp only[fpZ,Qqb,Qz2,or_false]at V;rcases V with rfl|rfl|rfl|rfl|rfl
  ·exact⟨_,g,λv z=>nomatch z⟩
  ·exact⟨_,l,λv z=>nomatch z⟩
  ·exact⟨_,j,λv z=>nomatch z⟩
  ·exact h1.obj
  ·exact h2.obj
 keep:=λi h h' st k=>by
  obtain⟨b1,b2,g,l,⟨x,y,j⟩,h1,h2⟩:=st;exact⟨b1,b2,k _ (by simp[fpZ]) _ g,k _ (by simp[fpZ]) _ l,⟨x,y,k _ (by simp[fpZ]) _ j⟩,h1.on λo e=>k _ (by simp[fpZ]) o e,h2.on λo e=>k _ (by simp[fpZ]) o e⟩
 item:=by
  intro X hP Q U W i pins s σ H E I hf st T;subst hP Q U;obtain⟨xs,ys,x,y,u,t,ex,ey⟩:=T;obtain⟨b1,b2,g,l,⟨ua,ub,j⟩,h1,h2⟩:=st;obtain⟨vx,F,C⟩:=qkq I u;obtain⟨vy,D,A⟩:=qkq I t;obtain⟨u1,S,N⟩:=F.get ex;obtain⟨u2,R,G⟩:=D.get ey;refine zip_get b1 b2 g l j h1 h2 C A (by simpa using S) (by simpa using R) λh' a1 a2 a3 a4 a5 a6 kp=>⟨_,rfl,?_⟩
  refine wpAny_letOwnedTupleGo_zip a1 λh9 c1 c2=>?_;have f:=c2.extBut;have lt:∀b∈fpZ n,b≠s.heap.objs.size:=λb d z=>by
   have q:b<s.heap.objs.size:=by
    simp only[fpZ,Qqb,Qz2,or_false]at d;rcases d with rfl|rfl|rfl|rfl|rfl
    ·exact Qqa g
    ·exact Qqa l
    ·exact Qqa j
    ·obtain⟨o,e,_⟩:=h1.obj; exact Qqa e
    ·obtain⟨o,e,_⟩:=h2.obj; exact Qqa e
   rw[z]at q;exact Qzy _ q
  have nz:s.heap.objs.size≠n+4:=λz=>lt (n+4) (by simp[fpZ]) z.symm;have I1:Inv X pins σ H { s with heap:=h9,toks:=s.toks }:=Inv.turnedL I (λb o d e=>f _ _ (λz=>d (by simp[fpZ,z])) (kp b o (λz=>d (by simp[fpZ,z])) (λz=>d (by simp[fpZ,z])) (λz=>d (by simp[fpZ,z])) (λz=>d (by simp[fpZ,z])) e)) hf;have fr:=I.hok.fresh (Qqw _);have I2:Inv X pins σ (upd H s.heap.objs.size (.tup [x,y])) { s with heap:=h9,toks:=s.toks }:=Inv.track I1 (I.fpOk (Qqw _) fr) ⟨by show 2<=sizeLine; decide,[u1,u2],.cons N (.cons G .nil),⟨_,f _ _ nz a6,rfl,_,rfl⟩⟩;refine⟨.ref s.heap.objs.size,upd H s.heap.objs.size (.tup [x,y]),I2,rfl,⟨_,x,y,rfl,fr,rfl,λzs m=>?_,λzs m=>?_⟩,⟨b1,b2,c1,f _ _ (by show @Ne Nat _ _; lia) a2,⟨_,_,f _ _ (by show @Ne Nat _ _; lia) a3⟩,a4.on λo e=>f _ o (by show @Ne Nat _ _; lia) e,a5.on λo e=>f _ o (by show @Ne Nat _ _; lia) e⟩,λb d=>?_⟩
  ·rw[qcr I m u]; exact ex
  ·rw[qcr I m t]; exact ey
  ·rw[qzx (lt b d)]; exact(hf b d).1
 done:=by
  intro X hP Q U W i pins s σ H E I hf st T;subst hP Q U;obtain⟨xs,ys,u,t,p⟩:=T;obtain⟨b1,b2,g,l,⟨ua,ub,j⟩,h1,h2⟩:=st;obtain⟨vx,F,C⟩:=qkq I u;obtain⟨vy,D,A⟩:=qkq I t;have lx:=F.length;have ly:=D.length;refine qfx (I.ok.hd W) b1 b2 g l j h1 h2 C A ?_ λh' kp=>⟨rfl,Inv.turnedL I (λb o d e=>kp b o (λz=>d (by simp[fpZ,z])) (λz=>d (by simp[fpZ,z])) (λz=>d (by simp[fpZ,z])) (λz=>d (by simp[fpZ,z])) e) hf⟩
  rcases p with h|h
  ·exact .inl (by simp; lia)
  ·exact .inr (by simp; lia)
 self:=λ_ _ _ _ _ st h=>wpAny_pyIter_zip st.2.2.1 h
noncomputable def iZip(K:Qqq)(ta:TA):TI:=λσ H R=>ta σ H λvs H1=>∃(k1 k2:RK) (a b:Addr),vs=[.ref a,.ref b]/\(∃xs,k1.sq K H1 a xs)/\(∃ys,k2.sq K H1 b ys)/\R (Itz K k1 k2 a b) H1
theorem pi_zip{X:Cx}{a b:Qx}{m:TA}{p pos:Pos}{j:List Qx}{c:Nat}{f:Pos}(G:Gl X "zip")(F:X.mg "zip" = none)(K:PA X [a,b] m)(E:starEach [a,b] X.env=[(false,Qw a X.env),(false,Qw b X.env)]:=by rfl)(i:starEach [b] X.env=[(false,Qw b X.env)]:=by rfl):
  PI X (.Tuple j c f) (.Call (.Name "zip" p) [a,b] [] pos) (iZip X.K m):=by
 intro pins s σ H R I h;refine Call_ (qv0 I G F boot_zip (PyProof.Rows.callWith_type1 (thn (K pos pins s σ H _ I h) λQ g ⟨vs,H1,k,x,A⟩=>?_) (by rw[E,i]) (by rw[i]; rfl)));obtain⟨w,v,a,b,e,⟨xs,z⟩,⟨ys,y⟩,q⟩:=A;subst e
 cases x with
 |cons r l=>
  cases l with
  |cons r' l=>
   cases l;cases r;cases r';obtain⟨P,T,t⟩:=qkq k z;obtain⟨N,S,n⟩:=qkq k y;have D:a<g.heap.objs.size:=by
    cases w<;>(obtain⟨o,e,_⟩:=t; exact Qqa e)
   have C:b<g.heap.objs.size:=by
    cases v<;>(obtain⟨o,e,_⟩:=n; exact Qqa e)
   refine qef t n D C λh' st kp=>wpAny_pyIter_zip st.2.2.1 ?_;refine⟨g.heap.objs.size+4,fpZ g.heap.objs.size,_,_,H1,rfl,k.kept kp,qfv w v _ a b,st,λd hd=>?_,q⟩;have u:g.heap.objs.size<=d:=by
    simp only[fpZ,Qqb,Qz2,or_false]at hd;rcases hd with rfl|rfl|rfl|rfl|rfl<;>(show @LE.le Nat _ _ _; lia)
   exact k.fpOk u (k.hok.fresh u)
end MS
end
section
namespace MS
open PySem PySem.Spec PyProof.Rows L2
section
variable {X:Cx}
end
end MS
end
section
namespace MS
open PySem PySem.Spec PyProof.Rows L2
inductive EntOk (prm:Qp):List Q5->List Str->List Value->Prop
 |nil:EntOk prm [] [] []
 |cons {k:Str}{t:Tok}{u:Value}{es:List Q5}{ks:List Str}{us:List Value}(h:EntOk prm es ks us):EntOk prm (⟨PyData.keyHash prm k,.str k t,u⟩::es) (k::ks) (u::us)
structure FDict (prm:Qp) (K:Qqq) (a:Addr) (ks:List Str) (ds:List M.D):Prop where
 ex:∃(us:List Value) (vs:List V) (es:Array Q5) (ep:Nat),K.lookup a=some { cls:=.type "dict",data:=.dict es ep }/\EntOk prm es.toList ks us/\Vals vs us/\∀m H,IsDs K m H ds vs
 nd:ks.Nodup
 ne:(a==Qi)=false
noncomputable def kzip{α:Type}(ks:List Str)(us:List α):List (Key×α):=(ks.map λk=>(Sum.inr k:Key)).zip us
theorem qae{P:Program}{w:Qk}:∀{es:List Q5}{a:List Str}{us:List Value},EntOk w.params es a us->(∀e∈es,∃k,(mixKind P w).is k e.key=true/\e.hash=(mixKind P w).hash k)/\PySem.Pairs (mixKind P w) es (kzip a us)/\(kzip a us).map (·.1)=a.map λk=>(Sum.inr k:Key)
 |_,_,_,.nil=>⟨(λe h=>nomatch h),.nil,rfl⟩
 |_,_,_,.cons (k:=k) (t:=t) h=>by
  obtain⟨h1,h2,c⟩:=qae h;refine⟨λe b=>?_,?_,?_⟩
  ·rcases Qqb.mp b with q|q
   ·subst q;exact⟨.inr k,qq0 P w k t,rfl⟩
   ·exact h1 e q
  ·exact .cons (qq0 P w k t) rfl h2
  ·exact congrArg (List.cons (Sum.inr k:Key)) c
theorem qd8{X:Cx}{c:List (Addr×Obj)}{g:L2.St}{H:Hp}{s:Qz}{a:Addr}{b:List Str}{ds:List M.D}(I:Inv X c g H s)(h:FDict X.w.params X.K a b ds):
  ∃(us:List Value) (vs:List V),s.heap.DictOf (mixKind X.prog X.w) a (kzip b us)/\Vals vs us/\(∀m H,IsDs X.K m H ds vs)/\b.length=us.length:=by
 obtain⟨us,vs,es,n,r,f,p,o⟩:=h.ex;obtain⟨h1,h2,l⟩:=qae f;refine⟨us,vs,⟨_,es,n,I.kIn a _ r,⟨rfl,rfl,rfl⟩,rfl,λe k=>h1 e (by simpa using k),h2,?_⟩,p,o,?_⟩
 ·rw[l];exact(List.pairwise_map.mpr (h.nd.imp λd j=>d (Sum.inr.inj j)))
 ·have:∀{es:List Q5}{b:List Str}{us:List Value},EntOk X.w.params es b us->b.length=us.length:=by
   intro es b us q
   induction q with
   |nil=>rfl
   |cons _ i=>rw[Qqh,Qqh,i]
  exact this f
theorem ql8{α:Type}(z:Str):∀(a:List Str) (us:List α),((kzip a us).find? λp=>decide (p.1=Sum.inr z)).map (·.2)=((a.zip us).find? λq=>q.1==z).map (·.2)
 |[],us=>rfl
 |k::a,[]=>rfl
 |k::a,u::us=>by
  have b:=ql8 z a us;show((((Sum.inr k:Key),u)::kzip a us).find? λp=>decide (p.1=Sum.inr z)).map (·.2)=(((k,u)::a.zip us).find? λq=>q.1==z).map (·.2);rw[Qzd,Qzd]
  by_cases h:k=z
  ·have h1:decide ((Sum.inr k:Key)=Sum.inr z)=true:=by rw[h]; simp
   have h2:(k==z)=true:=by rw[h]; simp
   simp only[h1,h2]
   rfl
  ·have h1:decide ((Sum.inr k:Key)=Sum.inr z)=false:=Z1 λq=>h (Sum.inr.inj q);have h2:(k==z)=false:=by simpa using h
   simp only[h1,h2];exact b
theorem qd3{K:Qqq}(z:Str):∀{a:List Str}{ds:List M.D}{vs:List V}{us:List Value},(∀m H,IsDs K m H ds vs)->Vals vs us->a.length=us.length->
  (((a.zip ds).find? λq=>q.1==z)=none/\((a.zip us).find? λq=>q.1==z)=none/\a.contains z=false)\/∃k d v u,((a.zip ds).find? λq=>q.1==z)=some (k,d)/\((a.zip us).find? λq=>q.1==z)=some (k,u)/\(∀m H,MS.IsD K m H d v)/\RelV v u/\a.contains z=true
 |[],ds,vs,us,i,r,h=>.inl ⟨rfl,rfl,rfl⟩
 |k::a,[],vs,us,i,r,h=>by
  rw[(i [] λ_=>none).nil]at r;cases r;cases h
 |k::a,d::ds,vs,us,i,r,h=>by
  obtain⟨v,vr,e,_,_⟩:=(i [] λ_=>none).cons;subst e;have o:∀m H,MS.IsD K m H d v:=λm H=>by
   obtain⟨f,b,e,q,_⟩:=(i m H).cons;cases e;exact q
  have n:∀m H,IsDs K m H ds vr:=λm H=>by
   obtain⟨f,b,e,_,q⟩:=(i m H).cons;cases e;exact q
  cases r with
  |cons j g=>
   rename_i u us
   by_cases c:k=z
   ·subst c;refine .inr ⟨k,d,v,u,by simp,by simp,o,j,by simp⟩
   ·have h2:(k==z)=false:=by simpa using c
    have p:(z==k)=false:=by simpa using Ne.symm c
    have l:=qd3 z n g (by simpa using h);rw[List.zip_cons_cons,List.zip_cons_cons,Qzd,Qzd,List.contains_cons];simp only[h2,p];exact l
section
variable {X:Cx}{b:Qx}{tb:TE}{pos p0:Pos}{x:Str}
theorem qle{a:Addr}{e:List Str}{ds:List M.D}(F:Gl X x)(D:X.mg x=some (.ref a))(N:FDict X.w.params X.K a e ds)(hd:(x==("__debug__" : Str))=false)(G:PE X b tb)(C:NoSl b):
  PE X (.Subscript (.Name x p0) b pos) (λσ H Q=>tb σ H λy H2=>∃z d,y=.str z/\(∃k,((e.zip ds).find? λq=>q.1==z)=some (k,d))/\∀v,(∀m,MS.IsD X.K m H2 d v)->Q v H2):=by
 intro pins s σ H Q I h;refine qcy PySem.F.slot_dict_getitem.lookup C (thn (qwu F D (show RelV (.ref a) (.ref a) from rfl) hd pins s σ H (λx H1=>x=.ref a/\tb σ H1 _) I ⟨rfl,h⟩) λu l ⟨W,H1,V,o,ex,t⟩=>?_);subst ex;cases o;refine thn (G pins l σ H1 _ V t) λiv s2 ⟨y,H2,i,n,z,d,U,⟨k,c⟩,r⟩=>?_;subst U;obtain⟨j,vs,g,p,K,E⟩:=qd8 i N;refine⟨g.typeIs,?_⟩;rcases qd3 z K p E with⟨w,_,_⟩|⟨k',d',f,u',T,S,R,P,_⟩
 ·rw[w]at c; cases c
 ·rw[T]at c;cases c;have A:valueAt (kzip e j) (Sum.inr z)=some u':=by
   unfold valueAt;rw[ql8,S]
   rfl
  exact wpAny_getItem_of (qj3 (k:=.inr z) n) g.mapOf A ⟨f,H2,i.tok _,P,r f λm=>R m H2⟩
theorem gd_has{X:Cx}{c:List (Addr×Obj)}{f:L2.St}{H:Hp}{s:Qz}{a:Addr}{e:List Str}{ds:List M.D}(I:Inv X c f H s)(l:FDict X.w.params X.K a e ds)(z:Str):
  ∃d,s.heap.DictOf (mixKind X.prog X.w) a (kzip e d)/\(valueAt (kzip e d) (Sum.inr z)).isSome=e.contains z:=by
 obtain⟨d,vs,o,g,k,j⟩:=qd8 I l;refine⟨d,o,?_⟩;unfold valueAt;rw[ql8];rcases qd3 z k g j with⟨_,i,h⟩|⟨r,d',p,q,v,n,u,t,m⟩
 ·rw[i,h]; rfl
 ·rw[n,m]; rfl
theorem pc_gin{a:Addr}{c:List Str}{ds:List M.D}(neg:Bool)(p:Gl X x)(o:X.mg x=some (.ref a))(d:FDict X.w.params X.K a c ds)(hd:(x==("__debug__" : Str))=false)(q:PE X b tb):
  PC X (if neg then .NotIn else .In) b (.Name x p0) (λσ H Q=>tb σ H λy H2=>∃z,y=.str z/\Q (.bl (c.contains z != neg)) H2):=by
 intro pins s σ H Q I h;refine thn (q pins s σ H _ I h) λC l ⟨y,H1,t,f,z,r,n⟩=>?_;subst r;refine thn (qwu p o (show RelV (.ref a) (.ref a) from rfl) hd pins l σ H1 (λx H2=>x=.ref a/\Q (.bl (c.contains z != neg)) H2) t ⟨rfl,n⟩) λu A ⟨v,H2,e,m,ex,g⟩=>?_;subst ex;cases m;obtain⟨w,j,i⟩:=gd_has e d z
 cases neg with
 |false=>
  refine wpAny_in_of (qj3 (k:=.inr z) f) d.ne j.mapOf ?_;rw[i];refine⟨.bl _,H2,e.tok _,rfl,?_⟩;simpa using g
 |true=>
  refine wpAny_notIn_of (qj3 (k:=.inr z) f) d.ne j.mapOf ?_;rw[i];refine⟨.bl _,H2,e.tok _,rfl,?_⟩;simpa using g
open M (D Cell Store Sl)
theorem qc7{a:Addr}{c:List Str}{ds:List D}{f:Sl->Store->Option (D×Store)}(neg:Bool)(k:Gl X x)(j:X.mg x=some (.ref a))(n:FDict X.w.params X.K a c ds)(hd:(x==("__debug__" : Str))=false)(l:PE X b (tD X.K f)):
  PC X (if neg then .NotIn else .In) b (.Name x p0) (tD X.K λτ st=>(f τ st).bind λp=>match p.1 with
   |.str z=>some (.bl (c.contains z != neg),p.2)
   |_=>none):=by
 intro pins s σ H Q I h;refine pc_gin neg k j n hd l pins s σ H Q I ?_;refine h.el λm st τ d st' v t e q=>qzk e λr w o e=>rsI v t o λy m1 H1 b1 g u i=>?_
 cases r with
 |str z=>
  have q:=q.of e;exact⟨z,i.str,q _ m1 H1 b1 g u (mkBl _)⟩
 |_=>exact nn e
theorem qgq{a:Addr}{c:List Str}{ds:List D}{f:Sl->Store->Option (D×Store)}(n:Gl X x)(l:X.mg x=some (.ref a))(r:FDict X.w.params X.K a c ds)(hd:(x==("__debug__" : Str))=false)(o:PE X b (tD X.K f))(k:NoSl b):
  PE X (.Subscript (.Name x p0) b pos) (tD X.K λτ st=>(f τ st).bind λp=>match p.1 with
   |.str z=>((c.zip ds).find? λq=>q.1==z).map λq=>(q.2,p.2)
   |_=>none):=by
 refine(qle n l r hd o k).imp λσ H Q h=>h.el λm st τ d st' F C e q=>qzk e λA G u e=>rsI F C u λy m1 H1 b1 g E i=>?_
 cases A with
 |str z=>
  refine qzc e λw t s=>?_;cases s;exact⟨z,w.2,i.str,⟨w.1,t⟩,λv j=>q _ m1 H1 b1 g E (j m1)⟩
 |_=>exact nn e
theorem qyx{K:Qqq}{m:List Addr}{H:Hp}{kvs:List (D×D)}{e:List (Key×V)}{f:D}{y:V}{a:Addr}(j:M.isKey f=true)(g:IsKV K m H kvs e)(l:Rd H a (.dK e))(h:MS.IsD K m H f y):
  ∃o,DGet H a y o/\((M.dget kvs f=none/\o=none)\/∃d v,M.dget kvs f=some d/\o=some v/\MS.IsD K m H d v):=by
 obtain⟨k,c⟩:=qqt j;have i:=ql9 c h;subst i;refine⟨valV e k,.inl ⟨e,k,l,rfl,rfl⟩,?_⟩;rcases g.get c with⟨h1,h2⟩|⟨d,v,h1,h2,n⟩
 ·exact .inl ⟨h1,h2⟩
 ·exact .inr ⟨d,v,h1,h2,n⟩
theorem qc9{a:Qx}{i f:Sl->Store->Option (D×Store)}(r:X.A.units+1<cLine)(neg:Bool)(u:PE X a (tD X.K i))(t:PE X b (tD X.K f)):
  PC X (if neg then .NotIn else .In) a b (tD X.K λτ st=>(i τ st).bind λp=>(f τ p.2).bind λq=>match q.1 with
   |.loc l=>(M.dicAt q.2 l).bind λkvs=>if M.isKey p.1 then some (.bl ((M.dget kvs p.1).isSome != neg),q.2) else none
   |_=>none):=by
 have c:∀{σ:L2.St}{H:Hp}{Q:VK},tD X.K (λτ st=>(i τ st).bind λp=>(f τ p.2).bind λq=>match q.1 with
   |.loc l=>(M.dicAt q.2 l).bind λkvs=>if M.isKey p.1 then some (.bl ((M.dget kvs p.1).isSome != neg),q.2) else none
   |_=>none) σ H Q->tD X.K i σ H λy H1=>tD X.K f σ H1 λx H2=>∃a o,x=.ref a/\DGet H2 a y o/\Q (.bl (o.isSome != neg)) H2:=by
  intro σ H Q h;refine h.el λm st τ d st' R0 w e q=>qzk e λU s1 S e=>qzk e λT s2 R e=>rsI R0 w S λy m1 H1 b1 n W E=>rsI W (w.mono b1 n) R λz A H2 b2 k R2 C=>?_
  cases T with
  |loc l=>
   refine qzj e λkvs P e=>?_
   split at e
   ·rename_i F;have q:=q.of e;obtain⟨V,xs,_,rfl,K,j⟩:=R2.dict P C;obtain⟨o,g,G⟩:=qyx F j K (qzv b2 k _ _ E);refine⟨V,o,rfl,g,?_⟩;have N:o.isSome=(M.dget kvs U).isSome:=by
     rcases G with⟨h1,h2⟩|⟨d,v,h1,h2,_⟩
     ·rw[h1,h2]; rfl
     ·rw[h1,h2]; rfl
    rw[N];exact q _ A H2 (b1.trans b2) (n.trans k) R2 (mkBl _)
   ·exact nn e
  |_=>exact nn e
 cases neg with
 |false=>
  intro pins s σ H Q I h;refine pc_din r u t pins s σ H Q I ?_;have:=c h;simpa only[tDIn,Bool.bne_false] using this
 |true=>
  intro pins s σ H Q I h;refine qc8 r u t pins s σ H Q I ?_;have:=c h;simpa only[qcv,Bool.bne_true] using this
theorem qgx{a:Qx}{n k:Sl->Store->Option (D×Store)}(A:X.A.units+1<cLine)(I:PE X a (tD X.K n))(G:PE X b (tD X.K k))(C:NoSl b):
  PE X (.Subscript a b pos) (tD X.K λτ st=>(n τ st).bind λp=>(k τ p.2).bind λq=>match p.1 with
   |.loc l=>(M.dicAt q.2 l).bind λkvs=>if M.isKey q.1 then(M.dget kvs q.1).map λd=>(d,q.2) else none
   |_=>none):=by
 refine(qc5 A I G C).imp λσ H Q h=>h.el λm st τ d st' R0 r e q=>qzk e λU s1 T e=>qzk e λd2 s2 S e=>rsI R0 r T λy m1 H1 b1 j W u=>rsI W (r.mono b1 j) S λz s H2 b2 i R2 t=>?_
 cases U with
 |loc l=>
  refine qzj e λkvs R e=>?_
  split at e
  ·rename_i E;refine qzc e λw c P=>?_;cases P;obtain⟨V,xs,_,rfl,K,f⟩:=R2.dict R (qzv b2 i _ _ u);obtain⟨o,g,F⟩:=qyx E f K t;rcases F with⟨h1,h2⟩|⟨d,v,h1,h2,N⟩
   ·rw[h1]at c; cases c
   ·rw[h1]at c;cases c;subst h2;exact⟨V,v,rfl,g,q _ s H2 (b1.trans b2) (j.trans i) R2 N⟩
  ·exact nn e
 |_=>exact nn e
theorem qlg{a:Qx}{f c:Pos}{u t:Sl->Store->Option (D×Store)}(G:X.A.units+1<cLine)(S:PE X a (tD X.K u))(P:PE X b (tD X.K t))(I:M1 X a "get" f b c):
  PE X (.Call (.Attribute a "get" f) [b] [] c) (tD X.K λτ st=>(u τ st).bind λp=>match p.1 with
   |.loc l=>(M.dicAt p.2 l).bind λ_=>(t τ p.2).bind λq=>(M.dicAt q.2 l).bind λkvs=>if M.isKey q.1 then some ((M.dget kvs q.1).getD .non,q.2) else none
   |_=>none):=by
 refine(qgj G S P I).imp λσ H Q h=>h.el λm st τ d st' R0 w e q=>qzk e λd1 s1 e1 e=>rsI R0 w e1 λy m1 H1 b1 j A s=>?_
 cases d1 with
 |loc l=>
  refine qzj e λE e0 e=>qzk e λd2 s2 W e=>qzj e λkvs V e=>?_
  split at e
  ·rename_i K;have q:=q.of e;obtain⟨a0,C,R,rfl,n,_⟩:=A.dict e0 s;refine⟨a0,rfl,.inl ⟨_,n⟩,rsI A (w.mono b1 j) W λz r H2 b2 i R2 F=>?_⟩;obtain⟨a',xs,_,ea,T,k⟩:=R2.dict V (qzv b2 i _ _ s);cases ea;obtain⟨o,g,N⟩:=qyx K k T F;refine⟨o,g,?_⟩;rcases N with⟨h1,h2⟩|⟨d,v,h1,h2,U⟩
   ·rw[h1]at q;subst h2;exact q _ r H2 (b1.trans b2) (j.trans i) R2 qku
   ·rw[h1]at q;subst h2;exact q _ r H2 (b1.trans b2) (j.trans i) R2 U
  ·exact nn e
 |_=>exact nn e
end
end MS
end
section
namespace MS
open PySem PySem.Spec PyProof.Rows L2
section
variable {prog:Program}{w:Qk}{A:Qv}{E:Value->Qz->Prop}{s:Qz}{x:Str}{t:Tok}{Q:Value->Qz->Prop}
end
section
variable {X:Cx}
open M (D Cell Store Sl)
end
end MS
end
section
namespace MS
open PySem PySem.Spec PyProof.Rows L2
open M (D Cell Store Sl)
section
variable {K:Qqq}{m m1:List Addr}{H H1:Hp}
mutual
theorem qdt:∀(d:D) (v:V),M.noLoc d=true->MS.IsD K m1 H1 d v->MS.IsD K m H1 d v
 |.non,_,_,h=>by rw[h.non]; exact qku
 |.bl _,_,_,h=>by rw[h.bl]; exact mkBl _
 |.int _,_,_,h=>by rw[h.int]; exact mkInt _
 |.str _,_,_,h=>by rw[h.str]; exact mkStr _
 |.tup ds,_,n,h=>by
  obtain⟨a,xs,rfl,q,r⟩:=h.tup;unfold M.noLoc at n;exact qxz q (qji ds xs n r)
 |.lst ds,_,n,h=>by
  obtain⟨a,xs,rfl,q,r⟩:=h.lst;unfold M.noLoc at n;exact qby q (qji ds xs n r)
 |.loc l,_,n,h=>by unfold M.noLoc at n; cases n
theorem qji:∀(ds:List D) (a:List V),M.noLocs ds=true->IsDs K m1 H1 ds a->IsDs K m H1 ds a
 |[],_,_,h=>by rw[h.nil]; exact qqz
 |d::ds,_,n,h=>by
  obtain⟨x,r,rfl,q,t⟩:=h.cons;unfold M.noLocs at n;rw[Qqo]at n;exact qzi (qdt d x n.1 q) (qji ds r n.2 t)
end
mutual
theorem qx4(s:Sub m m1):∀(d:D) (v g:V),MS.IsD K m H d v->MS.IsD K m1 H1 d g->MS.IsD K m H1 d g
 |.non,_,_,_,h=>by rw[h.non]; exact qku
 |.bl _,_,_,_,h=>by rw[h.bl]; exact mkBl _
 |.int _,_,_,_,h=>by rw[h.int]; exact mkInt _
 |.str _,_,_,_,h=>by rw[h.str]; exact mkStr _
 |.tup ds,_,_,h0,h=>by
  obtain⟨a,xs,rfl,q,r⟩:=h.tup;obtain⟨f,b,_,_,c⟩:=h0.tup;exact qxz q (qqp s ds b xs c r)
 |.lst ds,_,_,h0,h=>by
  obtain⟨a,xs,rfl,q,r⟩:=h.lst;obtain⟨f,b,_,_,c⟩:=h0.lst;exact qby q (qqp s ds b xs c r)
 |.loc l,_,_,h0,h=>by
  obtain⟨f,i,_⟩:=h0.loc;obtain⟨a,e,rfl⟩:=h.loc;have:=s l f i;rw[e]at this;cases this;exact qgc i
theorem qqp(s:Sub m m1):∀(ds:List D) (b a:List V),IsDs K m H ds b->IsDs K m1 H1 ds a->IsDs K m H1 ds a
 |[],_,_,_,h=>by rw[h.nil]; exact qqz
 |d::ds,_,_,h0,h=>by
  obtain⟨x,r,rfl,q,t⟩:=h.cons;obtain⟨x0,e,rfl,f,c⟩:=h0.cons;exact qzi (qx4 s d x0 x f q) (qqp s ds e r c t)
end
theorem qjh(s:Sub m m1):∀(kvs:List (D×D)) (d a:List (Key×V)),IsKV K m H kvs d->IsKV K m1 H1 kvs a->IsKV K m H1 kvs a
 |[],_,_,_,h=>h
 |p::r,_,_,⟨k0,v0,f,o,l,b,c⟩,⟨k,v,g,e,n,i,j⟩=>⟨k,v,g,e,n,qx4 s _ _ _ b i,qjh s r _ _ c j⟩
theorem qv3(s:Sub m m1):∀(fs:List (Str×D)) (ys a:List (Str×V)),IsFs K m H fs ys->IsFs K m1 H1 fs a->IsFs K m H1 fs a
 |[],_,_,_,h=>h
 |p::r,_,_,⟨v0,d,j,b,c⟩,⟨v,f,e,g,i⟩=>⟨v,f,e,qx4 s _ _ _ b g,qv3 s r _ _ c i⟩
theorem qgg(s:Sub m m1){c:Cell}{a:Addr}(f:IsC K m H c a)(h:IsC K m1 H1 c a):IsC K m H1 c a:=by
 cases c with
 |lst w ds=>
  cases w with
  |true=>
   obtain⟨xs,e,q⟩:=h;obtain⟨d,_,b⟩:=f;exact⟨xs,e,qqp s _ _ _ b q⟩
  |false=>
   obtain⟨xs,e,q⟩:=h;obtain⟨d,_,b⟩:=f;exact⟨xs,e,qqp s _ _ _ b q⟩
 |dic w kvs=>
  cases w with
  |true=>
   obtain⟨xs,e,q⟩:=h;obtain⟨d,_,b⟩:=f;exact⟨xs,e,qjh s _ _ _ b q⟩
  |false=>
   obtain⟨o,xs,e,q⟩:=h;obtain⟨_,d,_,b⟩:=f;exact⟨o,xs,e,qjh s _ _ _ b q⟩
 |obj C fs=>
  obtain⟨dx,ys,e,q⟩:=h;obtain⟨_,g,_,b⟩:=f;exact⟨dx,ys,e,qv3 s _ _ _ b q⟩
theorem pre_at{st a:Store}(h:a.take st.length=st){l:Nat}{c:Cell}(e:st[l]?=some c):a[l]?=some c:=by
 have b:=(Qqv.mp e).1;rw[<- h,List.getElem?_take,Z3 b]at e;exact e
theorem Rel.cutBack{st b:Store}(d:Rel K m st H)(g:Rel K m1 b H1)(s:Sub m m1)(h:b.take st.length=st){H2:Hp}(t:Tr H1 H2)(f:∀(l:Nat) (c:Cell) (a:Addr),st[l]?=some c->m[l]?=some a->Wr c=true->H2 a=H1 a):Rel K m st H2:=
 ⟨d.len,d.nd,λl c a e ea=>qx5 (Sub.refl m) t (qgg s (d.cell l c a e ea) (g.cell l c a (pre_at h e) (s l a ea))) λw=>f l c a e ea w⟩
mutual
theorem qw6(s:Sub m m1):∀(d:D) (v:V),M.lt m.length d=true->IsD K m1 H d v->IsD K m H d v
 |.non,_,_,h=>h
 |.bl _,_,_,h=>h
 |.int _,_,_,h=>h
 |.str _,_,_,h=>h
 |.tup ds,_,b,h=>by
  unfold M.lt at b;obtain⟨a,xs,rfl,q,r⟩:=h.tup;exact qxz q (qxk s ds xs b r)
 |.lst ds,_,b,h=>by
  unfold M.lt at b;obtain⟨a,xs,rfl,q,r⟩:=h.lst;exact qby q (qxk s ds xs b r)
 |.loc l,_,b,h=>by
  unfold M.lt at b;obtain⟨a,e,rfl⟩:=h.loc;have b:l<m.length:=by simpa[Nat.blt_eq] using b
  have f:m[l]?=some m[l]:=by simp
  have c:=s l _ f;rw[e]at c;cases c;exact qgc f
theorem qxk(s:Sub m m1):∀(ds:List D) (b:List V),M.lts m.length ds=true->IsDs K m1 H ds b->IsDs K m H ds b
 |[],_,_,h=>h
 |d::ds,_,a,h=>by
  unfold M.lts at a;rw[Qqo]at a;obtain⟨x,r,rfl,q,t⟩:=h.cons;exact qzi (qw6 s d x a.1 q) (qxk s ds r a.2 t)
end
theorem qk2(s:Sub m m1):∀(kvs:List (D×D)) (b:List (Key×V)),(kvs.all λp=>M.lt m.length p.2)=true->IsKV K m1 H kvs b->IsKV K m H kvs b
 |[],_,_,h=>h
 |p::r,_,a,⟨k,v,c,e,g,d,f⟩=>by
  rw[Qzo,Qqo]at a;exact⟨k,v,c,e,g,qw6 s _ _ a.1 d,qk2 s r c a.2 f⟩
theorem qaa(s:Sub m m1):∀(fs:List (Str×D)) (ys:List (Str×V)),(fs.all λp=>M.lt m.length p.2)=true->IsFs K m1 H fs ys->IsFs K m H fs ys
 |[],_,_,h=>h
 |p::r,_,a,⟨v,b,e,c,d⟩=>by
  rw[Qzo,Qqo]at a;exact⟨v,b,e,qw6 s _ _ a.1 c,qaa s r b a.2 d⟩
theorem qmy(s:Sub m m1){c:Cell}{a:Addr}(b:M.ltC m.length c=true)(h:IsC K m1 H c a):IsC K m H c a:=by
 cases c with
 |lst w ds=>
  cases w with
  |true=>obtain⟨xs,e,q⟩:=h; exact⟨xs,e,qxk s _ _ b q⟩
  |false=>obtain⟨xs,e,q⟩:=h; exact⟨xs,e,qxk s _ _ b q⟩
 |dic w kvs=>
  cases w with
  |true=>obtain⟨xs,e,q⟩:=h; exact⟨xs,e,qk2 s _ _ b q⟩
  |false=>obtain⟨o,xs,e,q⟩:=h; exact⟨o,xs,e,qk2 s _ _ b q⟩
 |obj C fs=>obtain⟨dx,ys,e,q⟩:=h; exact⟨dx,ys,e,qaa s _ _ b q⟩
def GcOk(st st0:Store):Prop:=(st0.take st.length).all (M.ltC st.length)=true\/st0.take st.length=st
theorem gc_el{st:Store}{p q:D×Store}(e:M.gcD st p=q):p=q\/(GcOk st p.2/\M.gcX st.length p=q):=by
 unfold M.gcD at e
 split at e
 ·rename_i h; exact .inr ⟨.inl h,e⟩
 ·split at e
  ·rename_i h; exact .inr ⟨.inr h,e⟩
  ·exact .inl e
theorem qjz{a:Store}{n l:Nat}{c:Cell}(e:(a.take n)[l]?=some c):l<n/\a[l]?=some c:=by
 rw[List.getElem?_take]at e
 split at e
 ·rename_i h; exact⟨h,e⟩
 ·exact nn e
theorem Rel.cut{st b:Store}(i:Rel K m st H)(d:Rel K m1 b H1)(s:Sub m m1)(h:GcOk st b){H2:Hp}(t:Tr H1 H2)(g:∀(l:Nat) (c:Cell) (a:Addr),(b.take st.length)[l]?=some c->m[l]?=some a->Wr c=true->H2 a=H1 a):Rel K m (b.take st.length) H2:=by
 rcases h with h|h
 ·have n:=i.len;have o:m.length<=m1.length:=by
   rcases Qzn m1.length m.length with z|z
   ·have f:m[m1.length]?=some (m[m1.length]'z):=by simp
    have:=(Qqv.mp (s _ _ f)).1
    lia
   ·exact z
  have h1:=d.len;refine⟨by rw[Qzm]; lia,λl k a c u r f q p w j=>d.nd l k a c u (s _ _ r) (s _ _ f) (qjz q).2 (qjz p).2 w j,λl c a e ea=>?_⟩;refine qx5 (Sub.refl m) t (qmy s ?_ (d.cell l c a (qjz e).2 (s l a ea))) λw=>g l c a e ea w;have:=Qq7.mp h c (Qqd e);rw[n]; exact this
 ·rw[h];exact i.cutBack d s h t λl c a e ea w=>g l c a (by rw[h]; exact e) ea w
end
section
variable {X:Cx}
theorem qky{d:List (Addr×Obj)}{s:Qz}{g:L2.St}{H:Hp}{a:Addr}{i:List V}(I:Inv X d g H s)(h:H a=some (.lst i)):∃o,Inv X d g (upd H a (.frz o (.lst i))) s:=by
 obtain⟨z,f,n,r,e⟩:=id (I.hok a _ h);refine⟨{ cls:=.type "list",data:=.seq f.toArray n },I.un ⟨λb o q _ _ _=>q,λb o q _ _ _=>⟨o.slots,q⟩,λb o q hn _=>?_,λb o q _=>⟨o,q⟩,λb ys q=>?_,λb o u q=>?_,λb ps q=>⟨#[],?_⟩⟩ ?_⟩
 ·rw[qzx (λz=>by subst z; rw[h]at hn; cases hn)];exact hn
 ·rw[qzx (qzr q h (by intro z; cases z))]; exact q
 ·rw[qzx (qzr q h (by intro z; cases z))]; exact q
 ·rw[qzx (qzr q h (by intro z; cases z)),q]; simp
 ·intro b u q
  by_cases j:b=a
  ·subst j;rw[qzw]at q;cases q;exact⟨e,z,f,n,r,e⟩
  ·rw[qzx j]at q;refine(I.hok b u q).stay (λc v _ w=>w) (λc w=>?_) λc ys w=>?_
   ·rw[qzx (qzr w h (by intro z; cases z))]; exact w
   ·rw[qzx (qzr w h (by intro z; cases z))]; exact w
inductive Di:HO->Prop
 |k (xs:List (Key×V)):Di (.dK xs)
 |t (xs:List (List Key×V)):Di (.dT xs)
theorem Di.ne{u:HO}(h:Di u):(∀ys,HO.tup ys≠u)/\(∀o v,HO.frz o v≠u)/\(∀p,HO.own p≠u)/\∀ps,HO.tbl ps≠u:=by
 cases h<;>exact⟨λ_ z=>(by cases z),λ_ _ z=>(by cases z),λ_ z=>(by cases z),λ_ z=>(by cases z)⟩
theorem qma{d:List (Addr×Obj)}{s:Qz}{f:L2.St}{H:Hp}{a:Addr}{u:HO}(i:Di u)(I:Inv X d f H s)(h:H a=some u):∃o,s.heap.get? a=some o/\Inv X d f (upd H a (.frz o u)) s:=by
 obtain⟨g,n,m,l⟩:=i.ne;have ok:=I.hok a _ h;obtain⟨o,e⟩:∃o,s.heap.get? a=some o:=by
  cases i<;>(obtain⟨_,_,vs,_,o,es,p,e,_⟩:=ok; exact⟨o,e⟩)
 have st:∀{b:Addr}{v:HO},ObjOk X.prog X.w H s.heap b v->ObjOk X.prog X.w (upd H a (.frz o u)) s.heap b v:=λk=>k.stay (λc v _ w=>w) (λc w=>by rw[qzx (qzr w h (m _))]; exact w) λc ys w=>by rw[qzx (qzr w h (g _))]; exact w
 refine⟨o,e,I.un ⟨λb o q _ _ _=>q,λb o q _ _ _=>⟨o.slots,q⟩,λb o q hn _=>?_,λb o q _=>⟨o,q⟩,λb ys q=>?_,λb o u q=>?_,λb ps q=>⟨#[],?_⟩⟩ ?_⟩
 ·rw[qzx (λz=>by subst z; rw[h]at hn; cases hn)];exact hn
 ·rw[qzx (qzr q h (g _))]; exact q
 ·rw[qzx (qzr q h (n _ _))]; exact q
 ·rw[qzx (qzr q h (l _)),q]; simp
 ·intro b u q
  by_cases j:b=a
  ·subst j;rw[qzw]at q;cases q;exact⟨e,st ok⟩
  ·rw[qzx j]at q;exact st (I.hok b u q)
def NoFz(X:Cx)(a:Addr):Prop:=∀o u,X.H₀ a≠some (.frz o u)
theorem ql1{b:List (Addr×Obj)}{s:Qz}{c:L2.St}{H:Hp}{a:Addr}{u:HO}(d:Di u)(I:Inv X b c H s)(h:H a=some u):NoFz X a:=λo v z=>by
 have:=I.base.frzs a o v z;rw[h]at this;exact absurd (Option.some.inj this).symm (d.ne.2.1 o v)
theorem qab{e:List (Addr×Obj)}{s:Qz}{g:L2.St}{H:Hp}{a:Addr}{o:Obj}{u:HO}(I:Inv X e g H s)(l:NoFz X a)(h:H a=some (.frz o u)):Inv X e g (upd H a u) s:=by
 have ok:=I.hok a _ h;have d:∀{b:Addr},H b=none->(upd H a u) b=none:=λ{b} q=>by
  rw[qzx (λz=>by subst z; rw[h]at q; cases q)];exact q
 have st:∀{b:Addr}{v:HO},ObjOk X.prog X.w H s.heap b v->ObjOk X.prog X.w (upd H a u) s.heap b v:=λk=>k.stay (λc v _ w=>w) (λc w=>by rw[qzx (qzr w h (by intro z; cases z))]; exact w) λc ys w=>by rw[qzx (qzr w h (by intro z; cases z))]; exact w
 refine⟨I.ok,I.os,I.bare,⟨I.base.keep,I.base.slot,λb o q hn m=>d (I.base.free b o q hn m),I.base.there,λb ys q=>?_,λb o u q=>?_,λb ps q=>?_⟩,I.loc,I.cell,d I.free,λx c q=>d (I.freeC x c q),λp n=>?_,?_,I.len⟩
 ·have:=I.base.tups b ys q;rw[qzx (qzr this h (by intro z; cases z))]; exact this
 ·have:=I.base.frzs b o u q
  by_cases f:b=a
  ·subst f; exact absurd q (l o u)
  ·rw[qzx f]; exact this
 ·obtain⟨more,this⟩:=I.base.tbls b ps q;exact⟨more,by rw[qzx (qzr this h (by intro z; cases z))]; exact this⟩
 ·obtain⟨j,p2,i⟩:=I.pin p n;exact⟨j,d p2,i⟩
 ·intro b u q
  by_cases f:b=a
  ·subst f;rw[qzw]at q;cases q;exact st ok.2
  ·rw[qzx f]at q;exact st (I.hok b u q)
theorem Tr.lay{H:Hp}{a:Addr}{o:Obj}{c:List V}(d:H a=some (.lst c)):Tr H (upd H a (.frz o (.lst c))):=
 ⟨λb zs e=>by rw[qzx (qzr e d (by intro z; cases z))]; exact e,λb o u e=>by rw[qzx (qzr e d (by intro z; cases z))]; exact e⟩
theorem pe_gc{p:Qx}{f:Sl->Store->Option (D×Store)}(K:PE X p (tD X.K f)):PE X p (tD X.K λτ st=>(f τ st).map λq=>M.gcD st q):=by
 intro pins s σ H Q I h;refine h.el λm st τ d st' r S e q=>?_;obtain⟨⟨E,i⟩,R,P⟩:=mapD e;refine thn (K pins s σ H (λv H1=>∃m1,Sub m m1/\Tr H H1/\Rel X.K m1 i H1/\MS.IsD X.K m1 H1 E v) I (rsI r S R λv m1 H1 b1 g b j=>⟨m1,b1,g,b,j⟩)) λv s1 ⟨x,H1,t,n,m1,b1,g,b,j⟩=>?_;have plain:(E,i)=(d,st')->EP X pins σ Q v s1:=λz=>by
  cases z;exact⟨x,H1,t,n,q x m1 H1 b1 g b j⟩
 rcases gc_el P with z|⟨ok,z⟩
 ·exact plain z
 ·unfold M.gcX at z
  split at z
  ·rename_i hn;cases z;exact⟨x,H1,t,n,q x m H1 (Sub.refl m) g (r.cut b b1 ok (Tr.refl H1) λ_ _ _ _ _ _=>rfl) (qdt _ _ hn j)⟩
  ·split at z
   ·rename_i l hd;simp only at hd
    split at z
    ·rename_i U
     split at z
     ·rename_i ds A
      split at z
      ·rename_i hn;cases z;subst hd;obtain⟨a,C,rfl⟩:=j.loc;obtain⟨xs,y,G⟩:=b.cell l _ a A C;obtain⟨o,T⟩:=qky t y;have k:=Tr.lay (o:=o) y;refine⟨.ref a,_,T,n,q _ m _ (Sub.refl m) (g.trans k) (r.cut b b1 ok k λu c F e ea w=>?_) ?_⟩
       ·refine qzx λz=>?_;subst z;have N:=qjz e;have:=b.nd u l F c _ (b1 u F ea) C N.2 A w rfl
        lia
       ·exact qby (.inl ⟨o,qzw⟩) (qji _ _ hn (qza (Sub.refl m1) k _ _ G))
      ·exact plain z
     ·exact plain z
    ·exact plain z
   ·exact plain z
end
end MS
end
section
namespace MS
open PySem PySem.Spec PyProof.Rows L2
open M (D Cell Store Sl)
theorem qvs(l:Addr)(a:Array Value)(n:Nat)(b:Addr)(items2:Array Value)(j:Nat)(f:Option Addr)(c:Array (Option Value))(o:¬(!a.isEmpty&&Builtin.List.listTooLong (a.size+items2.size))=true)(m:a.size<=sizeLine)(e:a.size+items2.size<=sizeLine+1):
  Meets (Zd.«list.extend» ⟨[.ref l,.ref b],[]⟩) (λ_ R s=>s.heap.get? l=some { cls:=.type "list",dict:=none,data:=.seq a n,slots:=#[] }/\s.heap.get? b=some { cls:=.type "list",dict:=f,data:=.seq items2 j,slots:=c }/\R (.ok (.ret Value.none)) { s with heap:=s.heap.update l (Obj.mapSeq λx=>x++items2),toks:=s.toks }):=
 .of_wp λprog w A R s h=>by
  obtain⟨q,g,d,tk,os⟩:=s; obtain⟨i,p,h⟩:=h; have y:=AutoSeq1.idx_int; have v:=AutoSeq1.sub_tuple_tuple; have u:=AutoSeq1.sub_list_list; have t:=AutoSeq1.sub_tuple_list; have r:=AutoSeq1.sub_list_tuple;have k:(a++items2).size<=sizeLine+1:=by rw[Qjg]; exact e
  wp_walk using (wpAny_updateSeq i rfl),Zw i,Zw p; exact⟨_,rfl,h⟩
theorem qvt(l:Addr)(a:Array Value)(n:Nat)(b:Addr)(items2:Array Value)(j:Nat)(f:Option Addr)(c:Array (Option Value))(o:¬(!a.isEmpty&&Builtin.List.listTooLong (a.size+items2.size))=true)(m:a.size<=sizeLine)(e:a.size+items2.size<=sizeLine+1):
  Meets (Zd.«list.extend» ⟨[.ref l,.ref b],[]⟩) (λ_ R s=>s.heap.get? l=some { cls:=.type "list",dict:=none,data:=.seq a n,slots:=#[] }/\s.heap.get? b=some { cls:=.type "tuple",dict:=f,data:=.seq items2 j,slots:=c }/\R (.ok (.ret Value.none)) { s with heap:=s.heap.update l (Obj.mapSeq λx=>x++items2),toks:=s.toks }):=
 .of_wp λprog w A R s h=>by
  obtain⟨q,g,d,tk,os⟩:=s; obtain⟨i,p,h⟩:=h; have y:=AutoSeq1.idx_int; have v:=AutoSeq1.sub_tuple_tuple; have u:=AutoSeq1.sub_list_list; have t:=AutoSeq1.sub_tuple_list; have r:=AutoSeq1.sub_list_tuple;have k:(a++items2).size<=sizeLine+1:=by rw[Qjg]; exact e
  wp_walk using (wpAny_updateSeq i rfl),Zw i,Zw p; exact⟨_,rfl,h⟩
section
variable {X:Cx}
theorem qbv:MtM X "list.extend" (λx xs H Q=>∃m st a ds d st',Rel X.K m st H/\MS.IsD X.K m H a x/\IsDs X.K m H ds xs/\M.mExtend st a ds=some (d,st')/\Post X.K m H d st' Q):=by
 intro pins s σ H x xs v us Q I U V h;obtain⟨m,st,a,ds,d,st',D,i1,i2,e,q⟩:=h;unfold M.mExtend at e
 split at e
 ·refine qzj e λa1 e1 e=>qzj e λes N e=>?_
  split at e
  ·rename_i hl;have q:=q.of e;obtain⟨p,ys,T,rfl,j,G,S⟩:=D.wlist e1 i1;obtain⟨y,rfl,R⟩:=i2.one;have l1:=G.length;have l2:=qqw;cases U;obtain⟨u,rfl,P⟩:=V.one;obtain⟨z,c,n,r,a0,o⟩:=I.lstM j
   split at N
   ·rename_i ts;cases N;obtain⟨b,zs,rfl,K,w⟩:=R.tup;cases P;obtain⟨its2,t,⟨⟨C,k,l,g⟩,h1,h2,E,A⟩,_⟩:=I.tuple K;simp only at h2 A;subst h2 A;have l3:=w.length;have W:=t.length;have i:c.toArray.size+its2.toArray.size<=sizeLine:=by rw[Qqy,Qqy]; lia
    have f:¬ (!c.toArray.isEmpty&&Builtin.List.listTooLong (c.toArray.size+its2.toArray.size))=true:=by
     rw[qkt i,Bool.and_false];exact Qqg
    refine Qr F.slot_list_extend ⟨_,o,rfl⟩ F.entry_list_extend (F.args_list_extend_2 _ _) (qvt p c.toArray n b its2.toArray E k g f (by rw[Qqy]; lia) (by lia)) ⟨o,h1,?_⟩;refine⟨.non,_,I.lset j o (by simp) (r.append t) ?_,rfl,?_⟩
    ·rw[Qqn]; lia
    ·exact q _ m _ (Sub.refl m) (Tr.put j) (D.put S T j (G.append w)) qku
   ·obtain⟨b,zs,_,rfl,K,w⟩:=D.seq N R;cases P;obtain⟨its2,t,⟨⟨C,k,l,g⟩,E,h1,h2,h4,A⟩,_⟩:=I.list K;simp only at h2 A;subst h2 A;have l3:=w.length;have W:=t.length;have i:c.toArray.size+its2.toArray.size<=sizeLine:=by rw[Qqy,Qqy]; lia
    have f:¬ (!c.toArray.isEmpty&&Builtin.List.listTooLong (c.toArray.size+its2.toArray.size))=true:=by
     rw[qkt i,Bool.and_false];exact Qqg
    refine Qr F.slot_list_extend ⟨_,o,rfl⟩ F.entry_list_extend (F.args_list_extend_2 _ _) (qvs p c.toArray n b its2.toArray E k g f (by rw[Qqy]; lia) (by lia)) ⟨o,h1,?_⟩;refine⟨.non,_,I.lset j o (by simp) (r.append t) ?_,rfl,?_⟩
    ·rw[Qqn]; lia
    ·exact q _ m _ (Sub.refl m) (Tr.put j) (D.put S T j (G.append w)) qku
  ·exact nn e
 ·exact nn e
theorem qdw(hu:X.A.units+64<cLine):MtM X "list.index" (λx xs H Q=>∃m st a ds d st',Rel X.K m st H/\MS.IsD X.K m H a x/\IsDs X.K m H ds xs/\M.mIndex st a ds=some (d,st')/\Post X.K m H d st' Q):=by
 intro pins s σ H x xs v us Q I K P h;obtain⟨m,st,a,ds,d,st',E,i1,W,e,q⟩:=h;unfold M.mIndex at e
 split at e
 ·rename_i x0;refine qzj e λf e1 e=>?_
  split at e
  ·rename_i hf;rw[Qqo]at hf;refine qzc e λj e2 e3=>?_;cases e3;obtain⟨y,rfl,V⟩:=W.one;obtain⟨u,rfl,N⟩:=P.one;obtain⟨b,zs,_,rfl,hq,g⟩:=E.seq e1 i1;cases K;obtain⟨c,r,⟨⟨cls,dd,D,sl⟩,n,h1,h2,h4,z⟩,hz⟩:=I.list hq;simp only at h2 z;subst h2 z;have l3:=g.length;have l4:=r.length;obtain⟨hj,l,o⟩:=List.findIdx?_eq_some_iff_getElem.mp e2;have a0:(sizeLine:Nat)<2 ^ 40:=by decide
   have i:X.A.in1.units+9<cLine:=by have hz:X.A.in1.units=X.A.units+1:=rfl; lia
   obtain⟨C,w⟩:=qe9 I X.A.in1 i hf.1 V N;obtain⟨U,k2⟩:=w f zs c hf.2 g r;have at_:∀k (t:k<c.length),C c[k]=M.eqT f[k] x0:=λk t=>by
    have A:f[k]?=some f[k]:=by simp
    obtain⟨G,w1,S⟩:=g.get A;obtain⟨u1,w2,R⟩:=r.get w1;have e5:c[k]=u1:=by
     have:c[k]?=some c[k]:=by simp
     rw[w2]at this;exact(Option.some.inj this).symm
    rw[e5];obtain⟨_,T⟩:=w [f[k]] [G] [u1] (by simp[Qq7.mp hf.2 _ (Qqd A)]) (qzi S qqz) (.cons R .nil);simpa using T
   refine Qr F.slot_list_index ⟨_,h1,rfl⟩ F.entry_list_index (F.args_list_index_2 _ _) (SeqAt.list_indexAt b c.toArray n dd sl u C j (by rw[Qqy]; lia) (by lia) ?_ ?_) ⟨h1,λy hy=>U y (by simpa using hy),?_⟩
   ·rw[Qx7,at_ j (by lia)];exact l
   ·intro k t p;rw[Qx7,at_ k (by simpa using t)];simpa using o k p
   ·exact⟨.int j,H,I.tok _,⟨_,rfl⟩,q.here E (mkInt _)⟩
  ·exact nn e
 ·exact nn e
theorem qbk:MtM X "list.insert" (λx xs H Q=>∃m st a ds d st',Rel X.K m st H/\MS.IsD X.K m H a x/\IsDs X.K m H ds xs/\M.mInsert st a ds=some (d,st')/\Post X.K m H d st' Q):=by
 intro pins s σ H x xs v us Q I A C h;obtain⟨m,st,a,ds,d,st',y,E,D,e,q⟩:=h;unfold M.mInsert at e
 split at e
 ·rename_i l i d0;refine qzj e λV U e=>?_
  split at e
  ·rename_i R;have q:=q.of e;obtain⟨p,ys,N,rfl,f,u,K⟩:=y.wlist U E;obtain⟨y1,W,rfl,o,k⟩:=D.two;cases o.int;have l1:=u.length;have l2:=qqw;cases A;obtain⟨u1,u2,rfl,j,g⟩:=C.two;obtain⟨t,rfl⟩:=j;obtain⟨z,b,n,r,P,w⟩:=I.lstM f;have G:(sizeLine:Nat)<2 ^ 40:=by decide
   have c:¬ (!Builtin.List.listFitsIndex i)=true:=by
    have h1:=R.1;have h2:i<2 ^ 62:=by lia
    simp only[Builtin.List.listFitsIndex,Bool.not_eq_true',Bool.not_eq_false];have:i<9223372036854775808:=by lia
    have:(-9223372036854775808:Int)<=i:=by lia
    simp[*]
   refine Qr F.slot_list_insert ⟨_,w,rfl⟩ F.entry_list_insert (F.args_list_insert_3 _ _ _) (AutoSeq1.list_insert_list_int_val_1 p b.toArray n i t u2 c (by rw[Qqy]; lia)) ⟨w,?_⟩;refine⟨.non,_,I.lset (its':=b.take i.toNat++u2::b.drop i.toNat) f w ?_ ((r.take _).append (.cons g (r.drop _))) ?_,rfl,?_⟩
   ·have T:¬ i<0:=by lia
    have S:min i.toNat b.length=i.toNat:=by lia
    rw[Z2 T,Qqy,S];apply Array.ext';simp;exact Qzv (by rw[Qx1]; lia)
   ·rw[Qqn,Qqh,Qzm,Qx1]; lia
   ·exact q _ m _ (Sub.refl m) (Tr.put f) (y.put K N f ((u.take _).append (qzi k (u.drop _)))) qku
  ·exact nn e
 ·exact nn e
end
end MS
end
section
namespace MS
open PySem PySem.Spec PyProof.Rows L2
open M (D Cell Store Sl)
section
variable {X:Cx}
noncomputable def Itd(a:Addr)(o:Obj)(xs:List (Key×V)):It:=
 ⟨λi H=>H a=some (.frz o (.dK xs))/\i<xs.length,λi H x H'=>H'=H/\∃p,xs[i]?=some p/\x=kV p.1,λi H=>H a=some (.frz o (.dK xs))/\xs.length<=i⟩
theorem qad{b:List (Addr×Obj)}{e:L2.St}{H:Hp}{s:Qz}{a:Addr}{o:Obj}{es:Array Q5}{ep:Nat}{c:List (Key×V)}(I:Inv X b e H s)(h:H a=some (.frz o (.dK c)))(hd:o.data=.dict es ep):∃vs,KV c vs/\s.heap.DictAt (mixKind X.prog X.w) a vs ep:=by
 obtain⟨h1,_,_,vs,f,o',i,j,h2,g,d,r⟩:=I.hok a _ h;rw[h1]at h2;cases h2;rw[hd]at d;cases d;exact⟨vs,f,o,es,h1,g,hd,r⟩
theorem qb0{P:Program}{w:Qk}{K:Qqq}{tg:Qx}{es:Array Q5}{ep:Nat}(a it:Addr)(o:Obj)(f:List (Key×V))(hd:o.data=.dict es ep):Turn P w K tg (Itd a o f) [it] it (λi h=>h.IsKeyIter it a i f.length ep) where
 mem:=by simp
 obj:=λi h st b g=>by
  have e:b=it:=by simpa using g
  subst e;obtain⟨o,e,c,d⟩:=st;exact⟨o,e,λv z=>by rw[d]at z; cases z⟩
 keep:=λi h h' st k=>st.at λo e=>k it (by simp) o e
 item:=by
  intro X hP y C hc i pins s σ H E I hf st A;subst hP y C;obtain⟨D,hi⟩:=A;obtain⟨vs,p,T⟩:=qad I D hd;obtain⟨R,Q,f2,N,G,F⟩:=hf it (by simp);have r:=p.length;obtain⟨⟨k,u⟩,U⟩:∃q,vs[i]?=some q:=⟨vs[i]'(by lia),by simp⟩
  have W:f[i]?=some f[i]:=by simp
  have hk:f[i].1=k:=by
   have m:=congrArg (λl:List Key=>l[i]?) p.keys;simp only[Qqk,U,W,oMs,Option.some.injEq]at m;exact m
  rw[r]at st;refine wpAny_pyNext_dict_item st T U λx h' n st' sb=>?_;have I1:=I.turned (t':=s.toks) (λb o g e=>(sb.2 b g).trans e) R Q N G F;obtain⟨o1,e,c,d⟩:=id st';rw[<- r]at st';refine⟨x,rfl,qgm e c d (by decide) ⟨kV f[i].1,H,I1,?_,⟨rfl,f[i],W,rfl⟩,st',λb g=>(hf b g).1⟩⟩;rw[hk];rcases qzd n with⟨j,t,m,S⟩|⟨z,t,m,S⟩
  ·subst m S; exact⟨t,rfl⟩
  ·subst m S; exact⟨t,rfl⟩
 done:=by
  intro X hP y C hc i pins s σ H E I hf st A;subst hP y C;obtain⟨D,hi⟩:=A;obtain⟨vs,p,T⟩:=qad I D hd;obtain⟨R,Q,f2,N,G,F⟩:=hf it (by simp);have r:=p.length;rw[r]at st;exact wpAny_pyNext_dict_end (I.ok.hd hc) st T (Qzl.mpr (by lia)) λh' eb=>⟨rfl,I.turned (λb o g e=>eb b o g e) R Q N G F⟩
 self:=λ_ _ _ _ _ st h=>wpAny_pyIter_keyiter st h
noncomputable def iDict(X:Cx)(tl:TE):TI:=λσ H R=>tl σ H λx H1=>∃a xs,x=.ref a/\H1 a=some (.dK xs)/\∀o,NoFz X a->R (Itd a o xs) (upd H1 a (.frz o (.dK xs)))
theorem qla{j l:Qx}{tl:TE}(n:PE X l tl):PI X j l (iDict X tl):=by
 intro pins s σ H R I h;refine thn (n pins s σ H _ I h) λv c ⟨x,H1,g,k,a,xs,e,d,q⟩=>?_;subst e;cases k;obtain⟨o,i,f⟩:=qma (.k _) g d;obtain⟨_,lo,vs,m,o',es,u,h2,t,hd,r⟩:=g.hok a _ d;rw[i]at h2;cases h2;have hn:=m.length;refine wpAny_pyIter_dict lo ⟨o,es,i,t,hd,r⟩ ?_;refine⟨c.heap.objs.size,[c.heap.objs.size],_,_,_,rfl,f.kept λb o e=>Qqz _ e,qb0 a _ o xs hd,⟨_,Qqe _ rfl,rfl,by rw[hn]; rfl⟩,λb p=>?_,q o (ql1 (.k _) g d)⟩;have e:b=c.heap.objs.size:=by simpa using p
 subst e;exact f.fpOk (Qqw _) (f.hok.fresh (Qqw _))
noncomputable def thawE(X:Cx)(Dn:Ends):Ends:=
 ⟨λσ H=>∃a o xs,NoFz X a/\H a=some (.frz o (.dK xs))/\Dn.nx σ (upd H a (.dK xs)),λv H=>∃a o xs,NoFz X a/\H a=some (.frz o (.dK xs))/\Dn.rt v (upd H a (.dK xs)),λ_ _=>False,λ_ _=>False⟩
theorem qlq{i l:Qx}{body:List Stmt}{tl:TE}{g:TG}{tb:TS}{pos:Pos}(k:PassesOwn (model X.prog X.w) X.A X.env X.xe)(p:X.calm=true)(m:PE X l tl)(n:PG X i g)(t:PSs X body tb)(j:∀x,foldedSetIterable l X.env x=pure x):
  PS X (.For i l body [] pos) (λf σ H=>tFor (iDict X tl) g tb (thawE X f) σ H):=by
 intro pins s σ H f I h;refine thn (qha k p (qla m) n t j pins s σ H (thawE X f) I h) λw y q=>?_
 cases w with
 |next=>
  obtain⟨b,H1,d,a,o,xs,c,e,q⟩:=q;exact⟨b,_,qab d c e,q⟩
 |ret u=>
  obtain⟨v,b,H1,d,r,a,o,xs,c,e,q⟩:=q;exact⟨v,b,_,qab d c e,r,q⟩
 |brk=>obtain⟨_,_,_,z⟩:=q; exact z.elim
 |cont=>obtain⟨_,_,_,z⟩:=q; exact z.elim
end
end MS
end
section
namespace ST
open PySem SetTable
noncomputable def adv(m:Nat)(p:Probe):Probe:=
 if p.more > 0 then { p with j:=p.j+1,more:=p.more - 1 } else
 { p with j:=(leap m p.i p.perturb).1,more:=runEnd m (leap m p.i p.perturb).1 - (leap m p.i p.perturb).1,i:=(leap m p.i p.perturb).1,perturb:=(leap m p.i p.perturb).2 }
noncomputable def qzn(m:Nat)(h:Int):Probe:={ j:=bits h % (m+1),more:=runEnd m (bits h % (m+1)) - bits h % (m+1),i:=bits h % (m+1),perturb:=bits h,dummy:=none }
noncomputable def stp(m:Nat):Nat->Probe->Probe
 |0,p=>p
 |n+1,p=>stp m n (adv m p)
theorem qqe(m:Nat):∀(a b:Nat) (p:Probe),stp m (a+b) p=stp m b (stp m a p)
 |0,b,p=>by rw[Qx8]; rfl
 |a+1,b,p=>by rw[Nat.add_right_comm]; exact qqe m a b (adv m p)
theorem qfm(m n:Nat)(p:Probe):stp m (n+1) p=adv m (stp m n p):=by rw[qqe]; rfl
noncomputable def runP(m i pt:Nat)(d:Option Nat):Probe:={ j:=i,more:=runEnd m i - i,i:=i,perturb:=pt,dummy:=d }
theorem qkz(m:Nat):∀(k:Nat) (p:Probe),p.more=k->stp m (k+1) p=runP m (leap m p.i p.perturb).1 (leap m p.i p.perturb).2 p.dummy
 |0,p,h=>by
  show adv m p=_;unfold adv;rw[Z2 (by lia)]; rfl
 |k+1,p,h=>by
  show stp m (k+1) (adv m p)=_;have e:adv m p={ p with j:=p.j+1,more:=p.more - 1 }:=by unfold adv; rw[Z3 (by lia)]
  rw[e,qkz m k _ (by show p.more - 1=k; lia)]
noncomputable def lp(m:Nat):Nat->Nat×Nat->Nat×Nat
 |0,q=>q
 |n+1,q=>lp m n (leap m q.1 q.2)
theorem more_le(m i:Nat):runEnd m i - i<=9:=by unfold runEnd; split<;>lia
theorem qyo(m:Nat)(d:Option Nat):∀(n i pt:Nat),∃N,N<=10*n/\stp m N (runP m i pt d)=runP m (lp m n (i,pt)).1 (lp m n (i,pt)).2 d
 |0,i,pt=>⟨0,Qqw _,rfl⟩
 |n+1,i,pt=>by
  obtain⟨N,a,e⟩:=qyo m d n (leap m i pt).1 (leap m i pt).2;refine⟨(runP m i pt d).more+1+N,?_,?_⟩
  ·have:=more_le m i;show runEnd m i - i+1+N<=_
   lia
  ·rw[qqe,qkz m _ _ rfl];exact e
theorem lp_pt(m:Nat):∀(n i pt:Nat),(lp m n (i,pt)).2=pt / 32 ^ n
 |0,i,pt=>by simp[lp]
 |n+1,i,pt=>by
  show(lp m n (leap m i pt)).2=_;have:leap m i pt=((leap m i pt).1,pt / 32):=rfl;rw[this,lp_pt m n,Nat.div_div_eq_div_mul,Nat.pow_succ,Qjo]
theorem qhi(m:Nat):∀(a b:Nat) (q:Nat×Nat),lp m (a+b) q=lp m b (lp m a q)
 |0,b,q=>by rw[Qx8]; rfl
 |a+1,b,q=>by rw[Nat.add_right_comm]; exact qhi m a b _
theorem lp_le(m:Nat):∀(n i pt:Nat),i<=m->(lp m n (i,pt)).1<=m
 |0,i,pt,h=>h
 |n+1,i,pt,h=>by
  exact lp_le m n _ _ (Qz6 (Qx9 _ (Qxr _)))
noncomputable def lcg(m:Nat):Nat->Nat->Nat
 |0,i=>i
 |n+1,i=>lcg m n ((i*5+1) % (m+1))
theorem qdb(m:Nat):∀(n i:Nat),(lp m n (i,0)).1=lcg m n i
 |0,i=>rfl
 |n+1,i=>by
  show(lp m n (leap m i 0)).1=_;have:leap m i 0=((i*5+1) % (m+1),0):=by simp[leap]
  rw[this,qdb m n]; rfl
theorem onto7:∀i,i<8->∀e,e<8->∃r,r<8/\lcg 7 r i=e:=by decide +kernel
theorem onto31:∀i,i<32->∀e,e<32->∃r,r<32/\lcg 31 r i=e:=by decide +kernel
theorem onto{m:Nat}(a:m=7\/m=31){i e:Nat}(b:i<=m)(c:e<=m):∃r,r<=m/\lcg m r i=e:=by
 rcases a with rfl|rfl
 ·obtain⟨r,h,q⟩:=onto7 i (by lia) e (by lia); exact⟨r,by lia,q⟩
 ·obtain⟨r,h,q⟩:=onto31 i (by lia) e (by lia); exact⟨r,by lia,q⟩
theorem qyp{m:Nat}(g:m=7\/m=31){i pt e:Nat}(d:Option Nat)(h:i<=m)(f:pt<2 ^ 64)(j:e<=m):∃n N,n<=m+13/\N<=10*n/\stp m N (runP m i pt d)=runP m e (lp m n (i,pt)).2 d/\(lp m n (i,pt)).1=e:=by
 have c:(lp m 13 (i,pt)).2=0:=by
  rw[lp_pt]; exact Nat.div_eq_of_lt (Qqm f (by decide))
 obtain⟨r,o,l⟩:=onto g (lp_le m 13 i pt h) j;have b:(lp m (13+r) (i,pt)).1=e:=by
  rw[qhi];have:lp m 13 (i,pt)=((lp m 13 (i,pt)).1,0):=by rw[<- c]
  rw[this,qdb]; exact l
 obtain⟨N,k,a⟩:=qyo m d (13+r) i pt;rw[b]at a;exact⟨13+r,N,by lia,k,a,b⟩
structure Okp (m:Nat) (p:Probe):Prop where
 i:p.i<=m
 pt:p.perturb<2 ^ 64
 more:p.more<=9
 dm:p.dummy=none
theorem Okp.start{m:Nat}(h:Int):Okp m (qzn m h):=by
 refine⟨Qz6 (Qx9 _ (Qxr _)),?_,more_le _ _,rfl⟩;show bits h<2 ^ 64;unfold bits
 lia
theorem Okp.next{m:Nat}{p:Probe}(h:Okp m p):Okp m (adv m p):=by
 unfold adv
 split
 ·exact⟨h.i,h.pt,by have:=h.more; show p.more - 1<=9; lia,h.dm⟩
 ·refine⟨by unfold leap; exact Qz6 (Qx9 _ (Qxr _)),?_,more_le _ _,h.dm⟩;exact Qjy (Nat.div_le_self _ _) h.pt
theorem Okp.stp{m:Nat}:∀(n:Nat){p:Probe},Okp m p->Okp m (stp m n p)
 |0,_,h=>h
 |n+1,_,h=>Okp.stp n h.next
theorem hits{m:Nat}(a:m=7\/m=31){p:Probe}(h:Okp m p){e:Nat}(b:e<=m):∃N,N<10*turns m/\(stp m N p).j=e:=by
 have h1:=(h.stp (p.more+1))
 rw[qkz m _ p rfl]at h1;obtain⟨n,N,hn,d,c,_⟩:=qyp a p.dummy h1.i h1.pt b;refine⟨p.more+1+N,?_,?_⟩
 ·have:=h.more;unfold turns; lia
 ·rw[qqe,qkz m _ p rfl];exact congrArg Probe.j c
end ST
end
section
namespace ST
open PySem SetTable
def Up(xs:Array Nat):Prop:=∀(i k a b:Nat),i<k->xs[i]?=some a->xs[k]?=some b->a<b
theorem qk8{d:Array Nat}{j:Nat}(k:Up d):∀(b c hi:Nat),hi<=d.size->c<=hi->hi - c<=b->(∀(i a:Nat),i<c->d[i]?=some a->a<j)->(∀(i a:Nat),hi<=i->d[i]?=some a->j<=a)->
  (∀(i a:Nat),i<below.go d j b c hi->d[i]?=some a->a<j)/\(∀(i a:Nat),below.go d j b c hi<=i->d[i]?=some a->j<=a)/\below.go d j b c hi<=d.size
 |0,c,hi,h1,h2,q,m,l=>by
  have:c=hi:=by lia
  subst this;exact⟨m,l,h1⟩
 |b+1,c,hi,h1,h2,q,m,l=>by
  unfold below.go
  by_cases g:c<hi
  ·rw[Z3 g];have p:(c+hi) / 2<d.size:=by lia
   have e:=Qq2 p;have r:d.getD ((c+hi) / 2) j=d[(c+hi) / 2]:=by rw[Qzt,e]; rfl
   simp only[r]
   split
   ·rename_i o;refine qk8 k b _ _ h1 (by lia) (by lia) (λi a n f=>?_) l;rcases Qzn i ((c+hi) / 2) with h|h
    ·exact Nat.lt_trans (k i _ a _ h f e) o
    ·have:i=(c+hi) / 2:=by lia
     subst this;rw[e]at f; cases f; exact o
   ·rename_i o;refine qk8 k b _ _ (by lia) (by lia) (by lia) m (λi a n f=>?_);rcases Qzn ((c+hi) / 2) i with h|h
    ·have:=k _ i _ a h e f; lia
    ·have:i=(c+hi) / 2:=by lia
     subst this;rw[e]at f; cases f; lia
  ·rw[Z2 g];have:c=hi:=by lia
   subst this;exact⟨m,l,h1⟩
theorem qxh{b:Array Nat}{j:Nat}(c:Up b):(∀(i a:Nat),i<below b j->b[i]?=some a->a<j)/\(∀(i a:Nat),below b j<=i->b[i]?=some a->j<=a)/\below b j<=b.size:=
 qk8 c b.size 0 b.size (Qqw _) (Qzc _) (by lia) (λi a h=>by lia) λi a h e=>by
  have:=(Qq6.mp e).1; lia
theorem below_at{a:Array Nat}{i j:Nat}(b:Up a)(h:a[i]?=some j):below a j=i:=by
 obtain⟨b1,b2,b3⟩:=qxh b;rcases Qjh (below a j) i with h1|h1|h1
 ·have c:=Nat.lt_trans h1 (Qq6.mp h).1;have e:=Qq2 c;have:=b2 _ _ (Qqw _) e;have:=b _ _ _ _ h1 e h
  lia
 ·exact h1
 ·have:=b1 _ _ h1 h; lia
structure Tb (t:Qa):Prop where
 mask:t.mask=7\/t.mask=31
 dum:t.dummies=#[]
 up:Up t.place
 le:∀(i j:Nat),t.place[i]?=some j->j<=t.mask
 few:t.place.size<=t.mask
def Occ(t:Qa)(j:Nat):Prop:=∃i:Nat,t.place[i]?=some j
theorem qjv{t:Qa}(T:Tb t){i j:Nat}(h:t.place[i]?=some j):t.slot j=.live i:=by
 unfold slot;simp only[below_at T.up h,h,beq_self_eq_true,if_true]
theorem qa6{t:Qa}(T:Tb t){j:Nat}(h:¬ Occ t j):t.slot j=.empty:=by
 unfold slot;have:(t.place[below t.place j]?==some j)=false:=by
  cases e:t.place[below t.place j]?==some j with
  |false=>rfl
  |true=>exact absurd ⟨_,beq_iff_eq.mp e⟩ h
 have hd:has t.dummies j=false:=by rw[T.dum]; unfold has; simp
 simp[this,hd]
theorem qka{m:Nat}:∀(l:List Nat) (lo:Nat),l.Pairwise (· < ·)->(∀a∈l,lo<=a)->(∀e,lo<=e->e<=m->e∈l)->lo<=m+1->m+1<=lo+l.length
 |[],lo,_,_,c,i=>by
  rcases Qzn m lo with h|h
  ·simp; lia
  ·exact absurd (c lo (Qqw _) h) (by simp)
 |a::l,lo,h1,h2,c,i=>by
  rcases Qzn m lo with h|h
  ·lia
  ·obtain⟨d,p2⟩:=Qz8.mp h1;have g:a=lo:=by
    rcases Qqb.mp (c lo (Qqw _) h) with e|e
    ·exact e.symm
    ·have:=d lo e;have:=h2 a Qql
     lia
   subst g
   have:=qka l (a+1) p2 (λb f=>d b f) (λe k j=>by
    rcases Qqb.mp (c e (by lia) j) with q|q
    ·lia
    ·exact q) (by lia)
   simp only[Qqh]
   lia
theorem Up.pairwise{b:Array Nat}(h:Up b):b.toList.Pairwise (· < ·):=by
 rw[Qz3];intro i j hi c a;exact h i j _ _ a (by rw[<- Qqr,Qqx hi]) (by rw[<- Qqr,Qqx c])
theorem some_free{t:Qa}(T:Tb t):∃e,e<=t.mask/\¬ Occ t e:=by
 apply Classical.byContradiction;intro hn;have all:=λe b=>Classical.byContradiction λc=>hn ⟨e,b,c⟩
 have:=qka t.place.toList 0 T.up.pairwise (λa _=>Qzc _) (λe _ b=>by
  obtain⟨i,hi⟩:=all e b
  exact Qqd (by rw[Qqr]; exact hi)) (Qzc _)
 have:=T.few;rw[Qzh]at *
 lia
theorem qd4{t:Qa}(T:Tb t){a:Nat->Int}{h:Int}:∀(b:Nat) (p:Probe) (N:Nat),p.dummy=none->N<b->¬ Occ t (stp t.mask N p).j->
  ∃n,(∀m,m<n->∃i:Nat,t.place[i]?=some (stp t.mask m p).j/\a i≠h)/\
   ((¬ Occ t (stp t.mask n p).j/\probe.go t a h b p=some (.empty (stp t.mask n p).j none))\/
    (∃i:Nat,t.place[i]?=some (stp t.mask n p).j/\a i=h/\probe.go t a h b p=some (.candidate (stp t.mask n p).j i (stp t.mask (n+1) p))))
 |0,p,N,_,l,_=>by lia
 |b+1,p,N,hd,l,g=>by
  by_cases d:Occ t p.j
  ·obtain⟨i,hi⟩:=d
   by_cases c:a i=h
   ·refine⟨0,λm f=>by lia,.inr ⟨i,hi,c,?_⟩⟩;unfold probe.go;rw[qjv T hi];simp only[c,beq_self_eq_true]
    rfl
   ·cases N with
    |zero=>exact absurd ⟨i,hi⟩ g
    |succ N=>
     have e:(adv t.mask p).dummy=none:=by unfold adv; split<;>exact hd
     obtain⟨n,k,j⟩:=qd4 T b (adv t.mask p) N e (by lia) g;have o:probe.go t a h (b+1) p=probe.go t a h b (adv t.mask p):=by
      conv=>lhs; unfold probe.go
      rw[qjv T hi];have:(a i==h)=false:=by simpa using c
      simp only[this,if_false]
      rfl
     refine⟨n+1,λm f=>?_,?_⟩
     ·cases m with
      |zero=>exact⟨i,hi,c⟩
      |succ m=>exact k m (by lia)
     ·rw[o];exact j
  ·refine⟨0,λm f=>by lia,.inl ⟨d,?_⟩⟩;unfold probe.go;rw[qa6 T d];rw[hd]; rfl
theorem qbx{t:Qa}(T:Tb t){a:Nat->Int}{h:Int}{p:Probe}(b:Okp t.mask p):
  ∃n,(∀m,m<n->∃i:Nat,t.place[i]?=some (stp t.mask m p).j/\a i≠h)/\
   ((¬ Occ t (stp t.mask n p).j/\t.probe a h p=some (.empty (stp t.mask n p).j none))\/
    (∃i:Nat,t.place[i]?=some (stp t.mask n p).j/\a i=h/\t.probe a h p=some (.candidate (stp t.mask n p).j i (stp t.mask (n+1) p)))):=by
 obtain⟨e,c,hf⟩:=some_free T;obtain⟨N,d,f⟩:=hits T.mask b c;exact qd4 T _ p N b.dm d (by rw[f]; exact hf)
end ST
end
section
namespace ST
open PySem SetTable
section
variable {α:Type}
theorem qqv(a:Array α)(p:Nat)(x:α)(c:p<=a.size)(i:Nat):(insertAt a p x)[i]?=if i<p then a[i]? else if i=p then some x else a[i - 1]?:=by
 unfold insertAt;rw[Array.getElem?_append,Array.getElem?_push,Qj2,Qj2];simp only[Array.size_push,Array.size_extract];have e:min p a.size=p:=by lia
 simp only[e,Nat.sub_zero,Qx8]
 by_cases h1:i<p
 ·rw[Z3 (by lia),Z2 (by lia),Z3 h1,Z3 h1]
 ·by_cases h2:i=p
  ·subst h2;rw[Z3 (by lia),Z3 rfl,Z2 h1,Z3 rfl]
  ·rw[Z2 (by lia),Z2 h1,Z2 h2]
   by_cases b:i - (p+1)<min a.size a.size - p
   ·rw[Z3 b]; congr 1; lia
   ·rw[Z2 b];exact(Qj3 (by lia)).symm
theorem qx6(a:Array α)(p:Nat)(x:α)(b:p<=a.size):(insertAt a p x).size=a.size+1:=by
 unfold insertAt;simp only[Qjg,Array.size_push,Array.size_extract]
 lia
theorem qmc{xs:Array α}{p:Nat}{x y:α}(b:p<=xs.size):y∈(insertAt xs p x).toList↔y∈xs.toList\/y=x:=by
 unfold insertAt;simp only[Array.toList_append,Array.toList_push,Array.toList_extract,Qq8,Qqs,List.extract_eq_drop_take,Nat.sub_zero,Qj6];have e:xs.toList.take p++xs.toList.drop p=xs.toList:=List.take_append_drop p _;have a:(xs.toList.drop p).take (xs.size - p)=xs.toList.drop p:=Qzv (by simp);rw[a]
 conv=>rhs; rw[<- e,Qq8]
 constructor
 ·rintro ((h|h)|h)
  ·exact .inl (.inl h)
  ·exact .inr h
  ·exact .inl (.inr h)
 ·rintro ((h|h)|h)
  ·exact .inl (.inl h)
  ·exact .inr h
  ·exact .inl (.inr h)
end
def Reach(t:Qa)(h:Int)(j:Nat):Prop:=∃n,(stp t.mask n (qzn t.mask h)).j=j/\∀m,m<n->Occ t (stp t.mask m (qzn t.mask h)).j
structure SI {α:Type}(t:Qa) (es:Array (Int×α)):Prop where
 tb:Tb t
 sz:t.place.size=es.size
 reach:∀(i j:Nat) (e:Int×α),t.place[i]?=some j->es[i]?=some e->Reach t e.1 j
theorem qcs{t:Qa}(T:Tb t)(j:Nat):t.put j=({ t with place:=insertAt t.place (below t.place j) j },below t.place j):=by
 unfold put;have hd:has t.dummies j=false:=by rw[T.dum]; unfold has; simp
 simp only[hd,Qze,if_false]
theorem put_ok{α:Type}{t:Qa}{es:Array (Int×α)}(I:SI t es){j:Nat}{h:Int}{x:α}(A:j<=t.mask)(C:¬ Occ t j)(w:Reach t h j)(v:es.size+1<=t.mask):
  SI (t.put j).1 (insertAt es (t.put j).2 (h,x)):=by
 obtain⟨b1,b2,b3⟩:=qxh I.tb.up;have o:below t.place j<=es.size:=by rw[<- I.sz]; exact b3
 rw[qcs I.tb];have u:∀j',Occ t j'->Occ { t with place:=insertAt t.place (below t.place j) j } j':=λj' ⟨i,hi⟩=>by
  by_cases h1:i<below t.place j
  ·exact⟨i,by rw[qqv _ _ _ b3,Z3 h1]; exact hi⟩
  ·exact⟨i+1,by rw[qqv _ _ _ b3,Z2 (by lia),Z2 (by lia)]; exact hi⟩
 have p:∀h' j',Reach t h' j'->Reach { t with place:=insertAt t.place (below t.place j) j } h' j':=λh' j' ⟨n,e,q⟩=>⟨n,e,λm y=>u _ (q m y)⟩
 refine⟨⟨I.tb.mask,I.tb.dum,?_,?_,?_⟩,?_,?_⟩
 ·intro i k a b s f d;have f:=f;have d:=d;rw[qqv _ _ _ b3]at f d;have ne:∀(r c:Nat),t.place[r]?=some c->c≠j:=λr c e z=>C ⟨r,by rw[<- z]; exact e⟩
  split at f
  ·split at d
   ·exact I.tb.up _ _ _ _ s f d
   ·split at d
    ·cases d; exact b1 _ _ (by assumption) f
    ·exact I.tb.up _ _ _ _ (by lia) f d
  ·split at f
   ·cases f;rw[Z2 (by lia),Z2 (by lia)]at d;have:=b2 _ _ (by lia) d;have:=ne _ _ d
    lia
   ·rw[Z2 (by lia),Z2 (by lia)]at d;exact I.tb.up _ _ _ _ (by lia) f d
 ·intro i j' e;have e:=e;rw[qqv _ _ _ b3]at e
  split at e
  ·exact I.tb.le _ _ e
  ·split at e
   ·cases e; exact A
   ·exact I.tb.le _ _ e
 ·rw[qx6 _ _ _ b3,I.sz]; exact v
 ·rw[qx6 _ _ _ b3,qx6 _ _ _ o,I.sz]
 ·intro i j' e l g;have l:=l;have g:=g;rw[qqv _ _ _ b3]at l;rw[qqv _ _ _ o]at g
  split at l
  ·rename_i h1;rw[Z3 h1]at g;exact p _ _ (I.reach _ _ _ l g)
  ·rename_i h1;rw[Z2 h1]at g
   split at l
   ·rename_i h2;rw[Z3 h2]at g;cases l; cases g;exact p _ _ w
   ·rename_i h2;rw[Z2 h2]at g;exact p _ _ (I.reach _ _ _ l g)
theorem qfz{α:Type}{t:Qa}{es:Array (Int×α)}(I:SI t es){h:Int}{n:Nat}{bad:Nat->Prop}(p:∀m,m<n->∃i:Nat,t.place[i]?=some (stp t.mask m (qzn t.mask h)).j/\bad i)(g:¬ Occ t (stp t.mask n (qzn t.mask h)).j):
  ∀(i:Nat) (e:Int×α),es[i]?=some e->e.1=h->bad i:=λi e j o=>by
 have hi:i<t.place.size:=by rw[I.sz]; exact(Qq6.mp j).1
 have c:=Qq2 hi;obtain⟨f,a,d⟩:=I.reach _ _ _ c j;rw[o]at a d;rcases Qjh n f with h1|h1|h1
 ·exact absurd (d n h1) g
 ·subst h1; exact absurd ⟨i,by rw[a]; exact c⟩ g
 ·obtain⟨l,k,b⟩:=p f h1;rw[a]at k;have:l=i:=(below_at I.tb.up k).symm.trans (below_at I.tb.up c);rw[<- this]; exact b
theorem qgr{α:Type}(c:Bool):SI (α:=α) (PySem.SetTable.fresh 0 0 c) #[]:=
 ⟨⟨.inl rfl,rfl,λi k a b _ h=>by simp[PySem.SetTable.fresh]at h,λi j h=>by simp[PySem.SetTable.fresh]at h,by simp[PySem.SetTable.fresh]⟩,rfl,λi j e h=>by simp[PySem.SetTable.fresh]at h⟩
end ST
end
section
namespace ST
open PySem SetTable
def OcO(ow:Array (Option Nat))(j:Nat):Prop:=∃k,ow[j]?=some (some k)
theorem getD_none{a:Array (Option Nat)}{j:Nat}(b:j<a.size):(a.getD j (some 0)).isNone=true↔¬ OcO a j:=by
 have e:=Qq2 b;rw[Qzt,e]
 cases h:a[j] with
 |none=>simp[OcO,e,h]
 |some k=>simp[OcO,e,h]
theorem qkp(m i pt:Nat)(d:Option Nat):∀k,k<=runEnd m i - i->(stp m k (runP m i pt d)).j=i+k/\(stp m k (runP m i pt d)).more=runEnd m i - i - k
 |0,_=>⟨rfl,rfl⟩
 |k+1,h=>by
  obtain⟨h1,h2⟩:=qkp m i pt d k (by lia);rw[qfm];have e:adv m (stp m k (runP m i pt d))={ stp m k (runP m i pt d) with j:=(stp m k (runP m i pt d)).j+1,more:=(stp m k (runP m i pt d)).more - 1 }:=by
   conv=>lhs; unfold adv
   rw[Z3 (by lia)]
  rw[e];exact⟨by show(stp m k (runP m i pt d)).j+1=_; lia,by show(stp m k (runP m i pt d)).more - 1=_; lia⟩
theorem qjw{m i:Nat}(h:i<=m):i<=runEnd m i/\runEnd m i<=m:=by unfold runEnd; split<;>lia
theorem qbh{p:Nat->Bool}{n k:Nat}(h:(List.range n).find? p=some k):k<n/\p k=true/\∀a,a<k->p a=false:=by
 have h1:=List.find?_some h;have h2:=Qji h;refine⟨Qza.mp h2,h1,λa b=>?_⟩;rw[List.find?_range_eq_some]at h;have:=h.2.2 a b;simpa using this
theorem qd5{m:Nat}{c:Array (Option Nat)}(s:c.size=m+1):∀(a i pt b:Nat),i<=m->b<a->¬ OcO c (lp m b (i,pt)).1->
  ∃n j,layClean.free m c a i pt=some j/\(stp m n (runP m i pt none)).j=j/\j<=m/\¬ OcO c j/\∀k,k<n->OcO c (stp m k (runP m i pt none)).j
 |0,i,pt,b,_,hn,_=>by lia
 |a+1,i,pt,b,hi,hn,he=>by
  unfold layClean.free;obtain⟨x,w⟩:=qjw hi
  cases hf:(List.range (runEnd m i+1 - i)).find? λk=>(c.getD (i+k) (some 0)).isNone with
  |some k=>
   obtain⟨y,v,u⟩:=qbh hf;refine⟨k,i+k,rfl,(qkp m i pt none k (by lia)).1,by lia,(getD_none (by lia)).mp v,λg d=>?_⟩;rw[(qkp m i pt none g (by lia)).1];have:=u g d;apply Classical.byContradiction;intro f;rw[(getD_none (by lia)).mpr f]at this;cases this
  |none=>
   have all:=λk d=>by
    have:=Qjc.mp hf k (Qza.mpr d);apply Classical.byContradiction;intro f;exact this ((getD_none (by lia)).mpr f)
   cases b with
   |zero=>exact absurd (all 0 (by lia)) he
   |succ b=>
    have t:(leap m i pt).1<=m:=Qz6 (Qx9 _ (Qxr _));obtain⟨n,j,r,q,p,o,l⟩:=qd5 s a (leap m i pt).1 (leap m i pt).2 b t (by lia) he;refine⟨(runEnd m i - i)+1+n,j,r,?_,p,o,λk d=>?_⟩
    ·rw[qqe,qkz m (runEnd m i - i) (runP m i pt none) rfl]; exact q
    ·rcases Qzn k (runEnd m i - i+1) with h|h
     ·rw[(qkp m i pt none k (by lia)).1]; exact all k (by lia)
     ·have e:k=(runEnd m i - i)+1+(k - (runEnd m i - i+1)):=by lia
      rw[e,qqe,qkz m (runEnd m i - i) (runP m i pt none) rfl];exact l _ (by lia)
structure FI (m:Nat) (ow:Array (Option Nat)) (hs:List Int):Prop where
 size:ow.size=m+1
 val:∀(j k:Nat),ow[j]?=some (some k)->k<hs.length
 sur:∀k,k<hs.length->∃j:Nat,ow[j]?=some (some k)
 reach:∀(j k:Nat) (h:Int),ow[j]?=some (some k)->hs[k]?=some h->∃n,(stp m n (qzn m h)).j=j/\∀q,q<n->OcO ow (stp m q (qzn m h)).j
 cnt:ow.toList.countP Option.isSome=hs.length
theorem FI.zero(m:Nat):FI m (Array.replicate (m+1) none) [] where
 size:=by simp
 val:=λj k h=>by
  rw[Qjr]at h
  split at h<;>simp at h
 sur:=λk h=>by simp at h
 reach:=λj k x h=>by
  rw[Qjr]at h
  split at h<;>simp at h
 cnt:=by rw[Array.toList_replicate]; simp
theorem FI.some_free{m:Nat}{a:Array (Option Nat)}{c:List Int}(I:FI m a c)(h:c.length<=m):∃e,e<=m/\¬ OcO a e:=by
 apply Classical.byContradiction;intro hn;have all:∀x∈a.toList,Option.isSome x=true:=λx f=>by
  obtain⟨j,g,e⟩:=Qz0 f;have b:j<a.size:=by simpa using g
  have:OcO a j:=Classical.byContradiction λi=>hn ⟨j,by have:=I.size; lia,i⟩;obtain⟨k,d⟩:=this;rw[Qq2 b]at d;rw[Array.getElem_toList]at e;rw[<- e,Option.some.inj d]; rfl
 have:=List.countP_eq_length.mpr all;have n:=I.cnt;have l:=(Qzh).trans I.size
 lia
theorem FI.more{m:Nat}(D:m=7\/m=31){b:Array (Option Nat)}{c:List Int}(I:FI m b c)(E:c.length<=m)(h:Int):
  ∃j,layClean.free m b (turns m) (bits h % (m+1)) (bits h)=some j/\FI m (b.setIfInBounds j (some c.length)) (c++[h]):=by
 obtain⟨e,F,hf⟩:=I.some_free E;have ok:=Okp.start (m:=m) h;obtain⟨v,_,C,_,_,s⟩:=qyp D none ok.i ok.pt F;have s:(lp m v (bits h % (m+1),bits h)).1=e:=s;obtain⟨n,j,y,x,K,t,w⟩:=qd5 I.size (turns m) (bits h % (m+1)) (bits h) v ok.i (by unfold turns; lia) (by rw[s]; exact hf);refine⟨j,y,?_⟩;have g:j<b.size:=by rw[I.size]; lia
 have i:∀j',(b.setIfInBounds j (some c.length))[j']?=if j=j' then some (some c.length) else b[j']?:=λj'=>by
  rw[Array.getElem?_setIfInBounds]
  by_cases h:j=j'
  ·subst h; rw[Z3 rfl,Z3 g,Z3 rfl]
  ·rw[Z2 h,Z2 h]
 have u:∀j',OcO b j'->OcO (b.setIfInBounds j (some c.length)) j':=λj' ⟨k,a⟩=>by
  unfold OcO;rw[i]
  by_cases h:j=j'
  ·exact⟨_,Z3 h⟩
  ·rw[Z2 h]; exact⟨k,a⟩
 refine⟨by rw[Array.size_setIfInBounds]; exact I.size,λj' k a=>?_,λk a=>?_,λj' k h' a l=>?_,?_⟩
 ·rw[i]at a;rw[Qqn,Qxx]
  split at a
  ·cases a; lia
  ·have:=I.val _ _ a; lia
 ·rw[Qqn,Qxx]at a;rcases Qzn k c.length with h1|h1
  ·obtain⟨j',f⟩:=I.sur k h1;refine⟨j',?_⟩;rw[i,Z2 (λz=>t (by rw[z]; exact⟨k,f⟩))]; exact f
  ·have:k=c.length:=by lia
   subst this;exact⟨j,by rw[i,Z3 rfl]⟩
 ·rw[i]at a
  split at a
  ·rename_i r;cases a;rw[Qqi (Qqw _),Qjq]at l;cases l;exact⟨n,by rw[<- r]; exact x,λq o=>u _ (w q o)⟩
  ·have p:=I.val _ _ a;rw[Qqp p]at l;obtain⟨A,H,G⟩:=I.reach _ _ _ a l;exact⟨A,H,λq o=>u _ (G q o)⟩
 ·rw[Array.toList_setIfInBounds,List.countP_set (by simpa using g)];have d:(b.toList[j]'(by simpa using g)).isSome=false:=by
   cases e:b.toList[j]'(by simpa using g) with
   |none=>rfl
   |some k=>exact absurd ⟨k,by rw[<- Qqr,Qqx (by simpa using g),e]⟩ t
  simp only[d,I.cnt];simp
theorem qaj{m:Nat}(g:m=7\/m=31):∀(l:List Int) (c:Array (Option Nat)) (a:List Int),FI m c a->a.length+l.length<=m+1->
  ∃b,l.foldl (λd h=>do let (owner,k) <- d; let j <- layClean.free m owner (turns m) (bits h % (m+1)) (bits h); pure (owner.setIfInBounds j (some k),k+1)) (some (c,a.length))=some (b,a.length+l.length)/\FI m b (a++l)
 |[],c,a,I,_=>⟨c,rfl,by rw[Qzi]; exact I⟩
 |h::l,c,a,I,i=>by
  simp only[Qqh]at i;obtain⟨j,e,o⟩:=I.more g (by lia) h;obtain⟨b,n,f⟩:=qaj g l _ _ o (by simp; lia);refine⟨b,?_,by simpa using f⟩;rw[Qx6];have:(do let (owner,k) <- (some (c,a.length):Option (Array (Option Nat)×Nat)); let j <- layClean.free m owner (turns m) (bits h % (m+1)) (bits h); pure (owner.setIfInBounds j (some k),k+1))=some (c.setIfInBounds j (some a.length),a.length+1):=by
   show(layClean.free m c (turns m) (bits h % (m+1)) (bits h)).bind _=_;rw[e]; rfl
  rw[this];have el:a.length+1=(a++[h]).length:=by simp
  rw[el,n];simp; lia
theorem lay_ok{m:Nat}(c:m=7\/m=31)(b:Array Int)(d:b.size<=m+1):∃a,layClean m b=some a/\FI m a b.toList:=by
 obtain⟨a,e,I⟩:=qaj c b.toList _ [] (FI.zero m) (by simpa using d);refine⟨a,?_,by simpa using I⟩;unfold layClean;rw[<- Array.foldl_toList];exact congrArg (Option.map (·.1)) e
end ST
end
section
namespace ST
open PySem SetTable
noncomputable def qz1(m:Nat)(ow:Array (Option Nat)):List (Nat×Nat):=(List.range (m+1)).filterMap λj=>(ow.getD j none).map (j,·)
theorem qxq{m:Nat}{a:Array (Option Nat)}{d:List Int}(I:FI m a d){q:Nat×Nat}:q∈qz1 m a↔a[q.1]?=some (some q.2):=by
 unfold qz1;rw[Qxd];constructor
 ·rintro⟨j,c,e⟩;have b:j<a.size:=by rw[I.size]; exact Qza.mp c
  rw[Qzt,Qq2 b]at e
  cases h:a[j] with
  |none=>rw[h]at e; cases e
  |some k=>
   rw[h]at e;cases e;rw[Qq2 b,h]
 ·intro e;have c:=(Qq6.mp e).1;refine⟨q.1,Qza.mpr (by rw[<- I.size]; exact c),?_⟩;rw[Qzt,e]
  rfl
theorem ql4(m:Nat)(f:Array (Option Nat)):(qz1 m f).Pairwise λa b=>a.1<b.1:=by
 unfold qz1;refine List.Pairwise.filterMap _ (λa i h b d l c=>?_) (List.pairwise_lt_range)
 cases e:f.getD a none with
 |none=>rw[e]at d; cases d
 |some k=>
  cases g:f.getD i none with
  |none=>rw[g]at c; cases c
  |some j=>
   rw[e]at d; rw[g]at c;cases d; cases c;exact h
theorem qk0{m:Nat}{a:Array (Option Nat)}{b:List Int}(I:FI m a b):(qz1 m a).length=b.length:=by
 unfold qz1;rw[List.length_filterMap_eq_countP,<- I.cnt];have e:a.toList=(List.range (m+1)).map λj=>a.getD j none:=by
  apply Qxu;intro j;rw[Qqr,Qqk];rcases Qzn j (m+1) with h|h
  ·rw[Qzu h];have c:j<a.size:=by rw[I.size]; exact h
   rw[Qq2 c];show _=some (a.getD j none);rw[Qzt,Qq2 c]; rfl
  ·rw[Qj3 (by rw[I.size]; exact h),Qq0 (by simpa using h)]; rfl
 rw[e,List.countP_map];refine List.countP_congr λj _=>?_;simp
theorem qyu{α:Type}(es:Array α):∀(l:List Nat),(∀k∈l,k<es.size)->(l.filterMap λk=>es[k]?).length=l.length/\∀i:Nat,(l.filterMap λk=>es[k]?)[i]?=l[i]?.bind λk=>es[k]?
 |[],_=>⟨rfl,λi=>by simp⟩
 |k::l,h=>by
  obtain⟨h1,h2⟩:=qyu es l λb a=>h b (Qqf _ a);have a:=h k Qql;have e:=Qq2 a;rw[Qxw,e];refine⟨by simp[h1],λi=>?_⟩
  cases i with
  |zero=>simp[e]
  |succ i=>simp only[Qxb]; exact h2 i
theorem ql7{α:Type}{m f mv:Nat}{led plain:Bool}(v:m=7\/m=31)(es:Array (Int×α))(K:es.size<=m):
  ∃t c,laid m f mv led plain (es.map (·.1))=some (t,c)/\SI t (c.filterMap (es[·]?))/\(c.filterMap (es[·]?)).size=es.size/\(∀e,e∈(c.filterMap (es[·]?)).toList↔e∈es.toList)/\t.mask=m:=by
 obtain⟨g,e,I⟩:=lay_ok v (es.map (·.1)) (by rw[Array.size_map]; lia);have d:(es.map (·.1)).toList.length=es.size:=by simp
 have E:∀k∈(qz1 m g).map (·.2),k<es.size:=λk l=>by
  obtain⟨q,r,rfl⟩:=Qzb.mp l;rw[<- d];exact I.val _ _ ((qxq I).mp r)
 obtain⟨C,p2⟩:=qyu es _ E;have tl:(((qz1 m g).map (·.2)).toArray.filterMap (es[·]?)).toList=((qz1 m g).map (·.2)).filterMap λk=>es[k]?:=by simp
 have at_:∀i:Nat,(((qz1 m g).map (·.2)).toArray.filterMap (es[·]?))[i]?=((qz1 m g)[i]?.map (·.2)).bind λk=>es[k]?:=λi=>by
  rw[<- Qqr,tl,p2,Qqk]
 have p:∀i:Nat,((qz1 m g).map (·.1)).toArray[i]?=(qz1 m g)[i]?.map (·.1):=λi=>by simp
 have D:∀j,OcO g j->Occ { mask:=m,place:=((qz1 m g).map (·.1)).toArray,dummies:=#[],finger:=f,led:=led,moves:=mv,plain:=plain } j:=λj ⟨k,l⟩=>by
  obtain⟨i,hi,e⟩:=Qz0 ((qxq I (q:=(j,k))).mpr l);refine⟨i,?_⟩;rw[p,Qqx hi,e]; rfl
 have ns:(((qz1 m g).map (·.2)).toArray.filterMap (es[·]?)).size=es.size:=by
  rw[<- Qzh,tl,C,Qqj,qk0 I,d]
 refine⟨{ mask:=m,place:=((qz1 m g).map (·.1)).toArray,dummies:=#[],finger:=f,led:=led,moves:=mv,plain:=plain },((qz1 m g).map (·.2)).toArray,?_,⟨⟨v,rfl,?_,?_,?_⟩,?_,?_⟩,ns,?_,rfl⟩
 ·unfold laid;rw[e]; rfl
 ·intro i k a b u A w;rw[p]at A w;obtain⟨x,h,rfl⟩:=Qqc.mp A;obtain⟨y,G,rfl⟩:=Qqc.mp w;obtain⟨h1,P⟩:=Qqv.mp h;obtain⟨h2,N⟩:=Qqv.mp G;have:=Qz3.mp (ql4 m g) i k h1 h2 u;rw[P,N]at this;exact this
 ·intro i j o;rw[p]at o;obtain⟨x,h,rfl⟩:=Qqc.mp o;have:=(qxq I).mp (Qqd h);have:=(Qq6.mp this).1;rw[I.size]at this;show x.1<=m
  lia
 ·rw[Qqy,Qqj,qk0 I,d]; exact K
 ·rw[Qqy,Qqj,qk0 I,d,ns]
 ·intro i j x o h;rw[p]at o;rw[at_]at h;obtain⟨q,r,rfl⟩:=Qqc.mp o;rw[r]at h;have h:es[q.2]?=some x:=h;have H:=(qxq I).mp (Qqd r);obtain⟨n,S,R⟩:=I.reach q.1 q.2 x.1 H (by rw[Qqr,Array.getElem?_map,h]; rfl);exact⟨n,S,λz F=>D _ (R z F)⟩
 ·intro x;rw[tl,Qxd];constructor
  ·rintro⟨k,_,l⟩;exact Qqd (by rw[Qqr]; exact l)
  ·intro h;obtain⟨k,l,Q⟩:=Qz0 h;have s:k<(es.map (·.1)).toList.length:=by rw[d]; simpa using l
   obtain⟨j,o⟩:=I.sur k s;refine⟨k,Qzb.mpr ⟨(j,k),(qxq I).mpr o,rfl⟩,?_⟩;rw[<- Qqr,Qqx l,Q]
end ST
end
section
namespace ST
open PySem SetTable
theorem qc0{t:Qa}(T:Tb t){a:Nat->Int}{h:Int}{p:Probe}(b:Okp t.mask p){met:Option Met}(c:t.probe a h p=met):
  ∃n,(∀m,m<n->∃i:Nat,t.place[i]?=some (stp t.mask m p).j/\a i≠h)/\
   ((¬ Occ t (stp t.mask n p).j/\met=some (.empty (stp t.mask n p).j none))\/
    (∃i:Nat,t.place[i]?=some (stp t.mask n p).j/\a i=h/\met=some (.candidate (stp t.mask n p).j i (stp t.mask (n+1) p)))):=by
 subst c;exact qbx T b
theorem SI.fits{α:Type}{t:Qa}{es:Array (Int×α)}(I:SI t es):t.fits es.size=true:=by
 unfold SetTable.fits SetTable.fill;rw[I.tb.dum];have:=I.tb.few;simp[I.sz];rw[<- I.sz]; exact this
theorem Tb.stays{t:Qa}(T:Tb t):t.gaveWay=false:=by
 unfold SetTable.gaveWay;rcases T.mask with h|h<;>rw[h]<;>rfl
section
variable {prog:Program}{w:Qk}{A:Qv}{E:Value->Qz->Prop}{s:Qz}{K:Type} [DecidableEq K]{knd:KeyKind prog w K}
theorem qj2(n:Nat){v:Value}(h:carriedByValue v=true):Zf n v=pure false:=by
 cases v with
 |ref a=>simp[carriedByValue]at h
 |_=>unfold Zf; rfl
theorem qj7{g:List K}{b:Addr}{Q:Bool->Qz->Prop}(f:IsTupleKey knd s.heap g b)(h:Q false s):wpAny (model prog w) A (Zf 8 (.ref b)) Q E s:=by
 have j:=f.typeIs;obtain⟨o,c,n,i,m,hd,hi⟩:=f;unfold Zf;refine Qq (wpAny_typeOf j ?_);refine Qq ?_;refine Qj ?_;simp only[ if_false];refine Qq (Ql i hd ?_);refine Qq ?_;rw[<- Array.forIn_toList];refine wpAny_forIn_list _ (λrest r s'=>r.1=none/\s'=s/\∀v∈rest,carriedByValue v=true) _ ?_ ?_ _ _ ⟨rfl,rfl,hi.byValue⟩
 ·rintro v rest r s' ⟨e,rfl,a⟩;rw[qj2 _ (a v Qql)];refine Qq (Qj ?_);simp only[Qze];exact Qj ⟨rfl,rfl,λu d=>a u (Qqf _ d)⟩
 ·rintro⟨l,k⟩ s' ⟨e,rfl,_⟩;simp only at e;subst e;exact Qj h
theorem qh7{x:Addr}{i:List K}{l:List Value}{Q:Bool->Qz->Prop}(e:IsTupleKey knd s.heap i x)(j:∀y∈l,∃b k,y=.ref b/\IsTupleKey knd s.heap k b)(h:Q false s):
  wpAny (model prog w) A (searchCouldBeSeen (.ref x) l) Q E s:=by
 unfold searchCouldBeSeen;refine Qq ?_;refine wpAny_forIn_list _ (λrest r s'=>r.1=none/\s'=s/\∀y∈rest,∃b k,y=.ref b/\IsTupleKey knd s.heap k b) _ ?_ ?_ _ _ ⟨rfl,rfl,j⟩
 ·rintro y rest r s' ⟨d,rfl,a⟩;obtain⟨b,k,rfl,g⟩:=a y Qql;have m:(carriedByValue (Value.ref x)&&carriedByValue (Value.ref b))=false:=rfl;simp only[m,Bool.or_false]
  by_cases f:(x==b)=true
  ·rw[Z3 f];exact Qj ⟨rfl,rfl,λu c=>a u (Qqf _ c)⟩
  ·rw[Z2 f];refine Qq (wpAny_eqIsQuiet_tuple e ?_);simp only[Qj9,if_false];refine Qq (wpAny_eqIsQuiet_tuple g ?_);simp only[Qj9,if_false];refine Qq (qj7 e ?_);simp only[Qze];refine Qq (qj7 g ?_);simp only[Qze];exact Qj ⟨rfl,rfl,λu c=>a u (Qqf _ c)⟩
 ·rintro⟨o,n⟩ s' ⟨d,rfl,_⟩;simp only at d;subst d;exact Qj h
end
section
variable {prog:Program}{w:Qk}{A:Qv}{E:Value->Qz->Prop}{s:Qz}
theorem ints_of{b:List Int}{vs:List Value}(h:ItemsAre (intKind prog w) b vs):∀v∈vs,∃i t,v=.int i t:=by
 induction h with
 |nil=>intro v a; simp at a
 |@cons k d b vs h1 _ c=>
  intro v a;rcases Qqb.mp a with rfl|a
  ·obtain⟨t,e⟩:=Value.isInt_shape (h1);exact⟨k,t,e⟩
  ·exact c v a
theorem qau{j:List Int}{b:Addr}{Q:Bool->Qz->Prop}(g:IsTupleKey (intKind prog w) s.heap j b)(h:Q true s):wpAny (model prog w) A (hashByValue 8 (.ref b)) Q E s:=by
 have l:=g.typeIs;obtain⟨o,c,n,k,q,hd,hi⟩:=g;unfold hashByValue;refine Qq (wpAny_specialOf l F.slot_tuple_hash.lookup ?_);refine Qq (Ql k hd ?_);refine Qq ?_;show wpAny _ _ (forIn c _ _) _ _ s;rw[<- Array.forIn_toList];refine wpAny_forIn_list _ (λrest r s'=>r.1=none/\s'=s/\∀v∈rest,∃i t,v=.int i t) _ ?_ ?_ _ _ ⟨rfl,rfl,ints_of hi⟩
 ·rintro v rest r s' ⟨f,rfl,a⟩;obtain⟨i,t,rfl⟩:=a v Qql;have e:hashByValue 7 (.int i t)=pure true:=by simp[hashByValue]
  rw[e];refine Qq (Qj ?_);simp only[ if_false];exact Qj ⟨rfl,rfl,λu d=>a u (Qqf _ d)⟩
 ·rintro⟨p,m⟩ s' ⟨f,rfl,_⟩;simp only at f;subst f;exact Qj h
def Els(prog:Program)(w:Qk)(h:Heap)(es:Array (Int×Value)):Prop:=∀(i:Nat) (e:Int×Value),es[i]?=some e->∃b k,e=(tupleKeyHash (intKind prog w) k,.ref b)/\IsTupleKey (intKind prog w) h k b
def Bad(prog:Program)(w:Qk)(h:Heap)(es:Array (Int×Value))(k:List Int)(i:Nat):Prop:=∀(e:Int×Value) (b:Addr) (k':List Int),es[i]?=some e->e.2=.ref b->IsTupleKey (intKind prog w) h k' b->k'≠k
theorem qva{a:Addr}{o:Obj}{es:Array (Int×Value)}{ep:Nat}{t:Qa}{x:Addr}{k:List Int}{Q:SetFound->Qz->Prop}(hu:A.units<cLine)(X:s.heap.get? a=some o)(hd:o.data=.set es ep t)(I:SI t es)(r:Els prog w s.heap es)
  (V:IsTupleKey (intKind prog w) s.heap k x)
  (hf:∀n,(∀m,m<n->∃i:Nat,t.place[i]?=some (stp t.mask m (qzn t.mask (tupleKeyHash (intKind prog w) k))).j/\Bad prog w s.heap es k i)->¬ Occ t (stp t.mask n (qzn t.mask (tupleKeyHash (intKind prog w) k))).j->
   Q (.free (stp t.mask n (qzn t.mask (tupleKeyHash (intKind prog w) k))).j false) s)
  (ht:(∃(i:Nat) (b:Addr) (g:Int),es[i]?=some (g,.ref b)/\IsTupleKey (intKind prog w) s.heap k b)->Q (.there none) s)
  (N:Nat) (hN:¬ Occ t (stp t.mask N (qzn t.mask (tupleKeyHash (intKind prog w) k))).j) :
  ∀(d c:Nat) (f:Option Probe),f.getD (t.probeStart (tupleKeyHash (intKind prog w) k))=stp t.mask c (qzn t.mask (tupleKeyHash (intKind prog w) k))->c<=N->N - c<d->
   (∀m,m<c->∃i:Nat,t.place[i]?=some (stp t.mask m (qzn t.mask (tupleKeyHash (intKind prog w) k))).j/\Bad prog w s.heap es k i)->
   wpAny (model prog w) A (Zu a (.ref x) (tupleKeyHash (intKind prog w) k) true d f) Q E s
 |0,c,_,_,_,a0,_=>by lia
 |d+1,c,f,W,hle,a0,P=>by
  unfold Zu;refine Qq (Zq X hd I.fits ?_);dsimp only;rw[I.tb.stays];simp only[Qze];rw[W];generalize hm:SetTable.probe t _ _ _=met;have T:Okp t.mask (stp t.mask c (qzn t.mask (tupleKeyHash (intKind prog w) k))):=(Okp.start _).stp c;obtain⟨n,p1,p2⟩:=qc0 I.tb T hm;have R:∀m,m<n->∃i:Nat,t.place[i]?=some (stp t.mask (c+m) (qzn t.mask (tupleKeyHash (intKind prog w) k))).j/\Bad prog w s.heap es k i:=λm C=>by
   obtain⟨i,F,U⟩:=p1 m C;refine⟨i,by rw[qqe]; exact F,λe b k' p G a2 z=>U ?_⟩;obtain⟨b',a6,S,q⟩:=r i e p;have:(es[i]?.map (·.1)).getD 0=tupleKeyHash (intKind prog w) k:=by
    rw[p,S];rw[S]at G;cases G;rw[q.inj a2,z]; rfl
   exact this
  have l:∀m,m<c+n->∃i:Nat,t.place[i]?=some (stp t.mask m (qzn t.mask (tupleKeyHash (intKind prog w) k))).j/\Bad prog w s.heap es k i:=λm C=>by
   rcases Qzn m c with h|h
   ·exact P m h
   ·obtain⟨i,F,U⟩:=R (m - c) (by lia);rw[show c+(m - c)=m by lia]at F;exact⟨i,F,U⟩
  rw[<- qqe]at p2;rcases p2 with⟨D,rfl⟩|⟨i,D,q2,rfl⟩
  ·dsimp only;exact Qj (hf _ l D)
  ·dsimp only;have hi:i<es.size:=by rw[<- I.sz]; exact(Qq6.mp D).1
   have p:=Qq2 hi;obtain⟨b,k',S,G⟩:=r i _ p;rw[S]at p;have a7:c+n<N:=by
    rcases Qjh (c+n) N with h|h|h
    ·exact h
    ·exact absurd ⟨i,by rw[<- h]; exact D⟩ hN
    ·obtain⟨u,F,_⟩:=l N h;exact absurd ⟨u,F⟩ hN
   have rest:wpAny (model prog w) A (do
     let j <- Qu [Value.ref b] (eqBool (.ref b) (.ref x))
     let (a5,_,t') <- setState a
     if true&&j then return .there none
     let some same:=t'.sameMemory t.moves t.mask|unsupported "set.changed-during-lookup:is-the-new-block-at-the-old-address"
     let v <- match (if same then t'.slot (stp t.mask (c+n) (qzn t.mask (tupleKeyHash (intKind prog w) k))).j else .empty) with
      |.live u=>match a5[u]? with
       |some (_,y')=>do pure (if <- isSame y' (.ref b) then some u else none)
       |none=>pure none
      |_=>pure none
     match v with
     |none=>rule "set.search.anew"; Zu a (.ref x) (tupleKeyHash (intKind prog w) k) true d none
     |some u=>if j then return .there (some u) else Zu a (.ref x) (tupleKeyHash (intKind prog w) k) true d (some (stp t.mask (n+1) (stp t.mask c (qzn t.mask (tupleKeyHash (intKind prog w) k)))))) Q E s:=by
    refine Qq (Qo (wpAny_eqBool_tuple hu G V ?_));refine Qq (Zq X hd I.fits ?_)
    by_cases hk:k'=k
    ·subst hk;simp only[ if_true];exact Qj (ht ⟨i,b,_,p,G⟩)
    ·have ek:=Z1 hk;simp only[ek,if_false];have em:t.sameMemory t.moves t.mask=some true:=by unfold SetTable.sameMemory; simp
     rw[em];simp only[if_true];rw[qjv I.tb D];dsimp only;rw[p];refine Qq (wpAny_isSame_ref_self ?_);simp only[if_true];refine Qq (Qj ?_);refine qva hu X hd I r V hf ht N hN d (c+n+1) _ ?_ (by lia) (by lia) λm C=>?_
     ·rw[<- qqe]; rfl
     ·rcases Qzn m (c+n) with h|h
      ·exact l m h
      ·have:m=c+n:=by lia
       subst this;refine⟨i,D,λe b1 k1 K a4 a1 z=>hk ?_⟩;rw[p]at K;cases K;cases a4;rw[G.inj a1,z]
   have H:∀y∈(es.filter (·.1==tupleKeyHash (intKind prog w) k)).toList.map (·.2),∃b k,y=.ref b/\IsTupleKey (intKind prog w) s.heap k b:=λy hy=>by
    obtain⟨e,h1,rfl⟩:=Qzb.mp hy;have h2:e∈es.toList:=by
     rw[Array.toList_filter]at h1;exact(Qxp.mp h1).1
    obtain⟨u,a3,e1⟩:=Qz0 h2;obtain⟨b',k1,e2,q⟩:=r u e (by rw[<- Qqr,Qqx a3,e1]);exact⟨b',k1,by rw[e2],q⟩
   cases hl:t.led with
   |true=>
    simp only[Qj9,if_false];rw[p];exact rest
   |false=>
    simp only[Bool.not_false];refine Qq (qh7 V H ?_);simp only[Qze];rw[p];exact rest
end
end ST
end
section
namespace ST
open PySem SetTable
section
variable {prog:Program}{w:Qk}{A:Qv}{E:Value->Qz->Prop}{s:Qz}
def TS(prog:Program)(w:Qk)(h:Heap)(a:Addr)(S:List (List Int)):Prop:=∃o es ep t,h.get? a=some o/\o.ExactSet/\o.data=.set es ep t/\SI t es/\Els prog w h es/\es.size=S.length/\
 (∀k,k∈S↔∃g b,(g,Value.ref b)∈es.toList/\IsTupleKey (intKind prog w) h k b)/\(t.mask=7->es.size<=4)
theorem qdn{h h':Heap}{a b:Addr}{k:List Int}{o:Obj}{es:Array (Int×Value)}{l:Nat}{t:Qa}(i:h.get? a=some o)(hd:o.data=.set es l t)(g:Heap.SameBut a h h')(x:IsTupleKey (intKind prog w) h k b):IsTupleKey (intKind prog w) h' k b:=by
 obtain⟨o',c,n,e,j,d,hi⟩:=x;have f:b≠a:=by
  rintro rfl;obtain rfl:o'=o:=Option.some.inj (e.symm.trans i);rw[hd]at d; exact nomatch d
 exact⟨o',c,n,(g.2 b f).trans e,j,d,hi⟩
theorem qdh:SetTable.sizeAbove (SetTable.grown 5)=32:=by decide
theorem qft{a:Addr}{o:Obj}{es:Array (Int×Value)}{g:Nat}{t:Qa}{Q:Unit->Qz->Prop}(f:s.heap.get? a=some o)(hd:o.data=.set es g t)(I:SI t es)(k:es.size=5)
  (h:∀h' o' c d,Heap.SameBut a s.heap h'->h'.get? a=some o'->(o.ExactSet->o'.ExactSet)->o'.data=.set c (g+1) d->SI d c->c.size=es.size->(∀e,e∈c.toList↔e∈es.toList)->d.mask=31->Q () { s with heap:=h' }) :
  wpAny (model prog w) A (setRelay a (SetTable.grown 5)) Q E s:=by
 unfold setRelay;refine Qq (Zq f hd I.fits ?_);dsimp only;rw[Z2 (by rw[qdh]; decide)];obtain⟨d,b,i,n,z,mem,mk⟩:=ql7 (mv:=t.movedTo (SetTable.sizeAbove (SetTable.grown 5) - 1)) (.inr rfl) es (by lia);have m:t.relaid (es.map (·.1)) (SetTable.grown 5)=some (d,b):=by
  unfold SetTable.relaid;rw[qdh]at i ⊢;exact i
 rw[m];refine Qq ?_
 change wpAny _ _ (do
  let some (t,b):=(some (d,b):Option (Qa×Array Nat))|unsupported "internal:set-table-without-room"
  let c:=b.filterMap (es[·]?)
  if c.size != es.size then unsupported "internal:set-table-lost-an-element"
  pure (c,t)) _ _ _
 dsimp only;have l:((b.filterMap (es[·]?)).size != es.size)=false:=by rw[z]; simp
 rw[l];simp only[Qze];refine Qj ?_;refine wpAny_storeSet_of f hd ?_ (by rw[z,k,Q4]; decide);have j:(s.heap.update a (Obj.putSet (b.filterMap (es[·]?)) d)).get? a=some { o with data:=.set (b.filterMap (es[·]?)) (g+1) d }:=by
  have:=Qxz (Obj.putSet (b.filterMap (es[·]?)) d) f (by rw[putSet_of _ _ hd]; rfl);rw[putSet_of _ _ hd]at this; exact this
 exact h _ _ _ _ (Heap.SameBut.update _ a _) j (λq=>q) rfl n z mem mk
theorem qmq{m:Nat}(h:Int):(qzn m h).j+(qzn m h).more<=m:=by
 have hi:bits h % (m+1)<=m:=Qz6 (Qx9 _ (Qxr _));obtain⟨b,a⟩:=qjw hi;show bits h % (m+1)+(runEnd m (bits h % (m+1)) - bits h % (m+1))<=m
 lia
theorem j_next{m:Nat}{p:Probe}(h:p.j+p.more<=m):(adv m p).j+(adv m p).more<=m:=by
 unfold adv
 split
 ·show p.j+1+(p.more - 1)<=m; lia
 ·have hi:(leap m p.i p.perturb).1<=m:=Qz6 (Qx9 _ (Qxr _));obtain⟨b,a⟩:=qjw hi;show(leap m p.i p.perturb).1+(runEnd m (leap m p.i p.perturb).1 - (leap m p.i p.perturb).1)<=m
  lia
theorem j_stp{m:Nat}:∀(n:Nat){p:Probe},p.j+p.more<=m->(stp m n p).j+(stp m n p).more<=m
 |0,_,h=>h
 |n+1,_,h=>j_stp n (j_next h)
theorem add_ok{a x:Addr}{S:List (List Int)}{k:List Int}{Q:Bool->Qz->Prop}(hu:A.units<cLine)(hT:TS prog w s.heap a S)(V:IsTupleKey (intKind prog w) s.heap k x)(hl:S.length<=15)
  (h:∀b h',Heap.SameBut a s.heap h'->TS prog w h' a (if k∈S then S else S++[k])->Q b { s with heap:=h' }) :
  wpAny (model prog w) A (setAddHashed a (.ref x) (tupleKeyHash (intKind prog w) k)) Q E s:=by
 have b7:=hT;obtain⟨o,es,ep,t,K,a4,hd,I,y,W,f,h4⟩:=hT;have G:∀{e:Int×Value},e∈es.toList->∃i:Nat,es[i]?=some e:=λ{e} he=>by
  obtain⟨i,hi,e1⟩:=Qz0 he;exact⟨i,by rw[<- Qqr,Qqx hi,e1]⟩
 unfold setAddHashed setAddHashedIn;refine Qo (Qq (Zq K hd I.fits ?_));dsimp only;have eb:byScan (.ref x) es=false:=rfl;rw[eb];simp only[Qze];obtain⟨fr,b3,b4⟩:=some_free I.tb;obtain⟨N,hN,eN⟩:=hits I.tb.mask (Okp.start (tupleKeyHash (intKind prog w) k)) b3;refine Qq ?_;unfold setSearch;refine qva hu K hd I y V (λn F u=>?_) (λa9=>?_) N (by rw[eN]; exact b4) 100000 0 none rfl (Qzc _) ?_ (λm v=>by lia)
 ·-- c0 element is new
  have a0:k ∉ S:=λhk=>by
   obtain⟨g,b,v,z⟩:=(f k).mp hk;obtain⟨i,hi⟩:=G v;obtain⟨b',p,P,b6⟩:=y i _ hi;have e1:=congrArg Prod.fst P;have e2:=Value.ref.inj (congrArg Prod.snd P);subst e2;obtain rfl:=z.inj b6;exact qfz I F u i _ hi e1 _ b k hi rfl z rfl
  have b1:es.size+1<=t.mask:=by
   rcases I.tb.mask with q|q
   ·have:=h4 q; lia
   ·lia
  have a1:(stp t.mask n (qzn t.mask (tupleKeyHash (intKind prog w) k))).j<=t.mask:=Qq9 (Qjs _ _) (j_stp n (qmq _));generalize hj:(stp t.mask n (qzn t.mask (tupleKeyHash (intKind prog w) k))).j=j at *;have I1:SI (t.put j).1 (insertAt es (t.put j).2 (tupleKeyHash (intKind prog w) k,Value.ref x)):=put_ok I a1 u ⟨n,hj,λm v=>by obtain⟨i,hi,_⟩:=F m v; exact⟨i,hi⟩⟩ b1;refine Qq (Zq K hd I.fits ?_);have X:(t.put j).2<=es.size:=by rw[qcs I.tb,<- I.sz]; exact(qxh I.tb.up).2.2
  have r:(t.put j).1.mask=t.mask:=by rw[qcs I.tb]
  have c:(insertAt es (t.put j).2 (tupleKeyHash (intKind prog w) k,Value.ref x)).size=es.size+1:=qx6 _ _ _ X;have C:∀e,e∈(insertAt es (t.put j).2 (tupleKeyHash (intKind prog w) k,Value.ref x)).toList↔e∈es.toList\/e=(tupleKeyHash (intKind prog w) k,Value.ref x):=λe=>qmc X;have a6:∀(h':Heap) (d:Array (Int×Value)),Heap.SameBut a s.heap h'->(∀e,e∈d.toList↔e∈es.toList\/e=(tupleKeyHash (intKind prog w) k,Value.ref x))->
    Els prog w h' d/\∀p,p∈S++[k]↔∃g b,(g,Value.ref b)∈d.toList/\IsTupleKey (intKind prog w) h' p b:=λh' d T v=>by
   have kp:∀{b:Addr}{p:List Int},IsTupleKey (intKind prog w) s.heap p b->IsTupleKey (intKind prog w) h' p b:=λq=>qdn K hd T q;refine⟨λi e he=>?_,λp=>?_⟩
   ·rcases (v e).mp (Qqd (by rw[Qqr]; exact he)) with q|q
    ·obtain⟨i',H⟩:=G q;obtain⟨b,p,P,z⟩:=y i' _ H;exact⟨b,p,P,kp z⟩
    ·exact⟨x,k,q,kp V⟩
   ·constructor
    ·intro hk;rcases Qq8.mp hk with q|q
     ·obtain⟨g,b,q1,q2⟩:=(f p).mp q;exact⟨g,b,(v _).mpr (.inl q1),kp q2⟩
     ·rw[Qqs]at q;subst q;exact⟨_,x,(v _).mpr (.inr rfl),kp V⟩
    ·rintro⟨g,b,q1,q2⟩;rcases (v _).mp q1 with q|q
     ·obtain⟨i',H⟩:=G q;obtain⟨b',c1,P,z⟩:=y i' _ H;have e2:=Value.ref.inj (congrArg Prod.snd P);subst e2;obtain rfl:=q2.inj (kp z);exact Qzf _ ((f p).mpr ⟨g,b,q,z⟩)
     ·have e2:=Value.ref.inj (congrArg Prod.snd q);subst e2;obtain rfl:=q2.inj (kp V);exact Qqu _ (by simp)
  have D:∀(b:Bool) (l:Qa),SI l (insertAt es (t.put j).2 (tupleKeyHash (intKind prog w) k,Value.ref x))->l.mask=t.mask->
    wpAny (model prog w) A (do
     storeSet a (insertAt es (t.put j).2 (tupleKeyHash (intKind prog w) k,Value.ref x)) l
     if (!false&&l.tooFull)=true then do
      setRelay a (SetTable.grown (es.size+1))
      pure true
     else pure true) Q E s:=λb l I2 b2=>by
   refine Qq (wpAny_storeSet_of K hd ?_ (by rw[c,Q4]; lia));have hg:(s.heap.update a (Obj.putSet (insertAt es (t.put j).2 (tupleKeyHash (intKind prog w) k,Value.ref x)) l)).get? a=some { o with data:=.set (insertAt es (t.put j).2 (tupleKeyHash (intKind prog w) k,Value.ref x)) (ep+1) l }:=by
    have:=Qxz (Obj.putSet (insertAt es (t.put j).2 (tupleKeyHash (intKind prog w) k,Value.ref x)) l) K (by rw[putSet_of _ _ hd]; rfl);rw[putSet_of _ _ hd]at this; exact this
   have T:=Heap.SameBut.update s.heap a (Obj.putSet (insertAt es (t.put j).2 (tupleKeyHash (intKind prog w) k,Value.ref x)) l);obtain⟨fe,fm⟩:=a6 _ _ T C;have a5:l.tooFull=decide ((es.size+1)*5 >= t.mask*3):=by
    unfold SetTable.tooFull SetTable.fill;rw[I2.tb.dum,I2.sz,c,b2]; rfl
   rw[a5]
   by_cases a2:(es.size+1)*5 >= t.mask*3
   ·have m7:t.mask=7:=by
     rcases I.tb.mask with q|q
     ·exact q
     ·lia
    have e5:es.size+1=5:=by have:=h4 m7; lia
    simp only[Z0 a2,if_true];rw[e5];refine Qq (qft hg rfl I2 (by rw[c,e5]) λh' o' d t' a7 b0 a3 b5 I' z' U a8=>Qj ?_);have R:=T.trans a7;obtain⟨b9,b8⟩:=a6 h' d R λe=>(U e).trans (C e);refine h true h' R ?_;rw[Z2 a0];exact⟨o',d,_,t',b0,a3 a4,b5,I',b9,by rw[z',c,W]; simp,b8,λq=>by rw[a8]at q; cases q⟩
   ·simp only[Z1 a2,if_false];refine Qj (h true _ T ?_);rw[Z2 a0];exact⟨_,_,_,l,hg,a4,rfl,I2,fe,by rw[c,W]; simp,fm,λq=>by rw[c]; lia⟩
  cases c2:(t.put j).1.plain with
  |true=>
   simp only[if_true];refine Qq (qau V ?_);simp only[if_true];exact D true _ I1 r
  |false=>
   simp only[ if_false];refine Qq (Qj ?_);simp only[if_true];exact D true _ I1 r
 ·-- it is there
  refine Qj ?_;obtain⟨i,b,g,hi,z⟩:=a9;have hk:=(f k).mpr ⟨g,b,Qqd (by rw[Qqr]; exact hi),z⟩;have e:s={ s with heap:=s.heap }:=by cases s; rfl
  rw[e];exact h false s.heap (Heap.SameBut.refl a s.heap) (by rw[Z3 hk]; exact b7)
 ·have:t.mask<=31:=by rcases I.tb.mask with q|q<;>lia
  unfold SetTable.turns at hN
  lia
end
end ST
end
section
namespace ST
open PySem SetTable PyProof.Rows
noncomputable def addK(S:List (List Int))(k:List Int):List (List Int):=if k∈S then S else S++[k]
noncomputable def distinct(ks:List (List Int)):List (List Int):=ks.foldl addK []
theorem qm0(S:List (List Int))(k:List Int):(addK S k).length<=S.length+1:=by unfold addK; split<;>simp
theorem foldK_le:∀(l S:List (List Int)),(l.foldl addK S).length<=S.length+l.length
 |[],S=>by simp
 |k::l,S=>by
  have:=foldK_le l (addK S k);have:=qm0 S k;rw[Qx6,Qqh]; lia
section
variable {prog:Program}{w:Qk}{A:Qv}{R:Result->Qz->Prop}{I:Addr}{fp wr:List Addr}{G:Array GenState->Array GenState->Prop}{n:Nat}{P:Nat->Value->Prop}{St:Nat->Qz->Prop}
theorem TS.keeps{h h':Heap}{a:Addr}{S:List (List Int)}(x:TS prog w h a S)(y:∀b o,(b=a\/∃k,IsTupleKey (intKind prog w) h k b)->h.get? b=some o->h'.get? b=some o):TS prog w h' a S:=by
 obtain⟨o,es,E,t,z,u,hd,I,j,p,f,D⟩:=x;have kp:∀{b:Addr}{d:List Int},IsTupleKey (intKind prog w) h d b->IsTupleKey (intKind prog w) h' d b:=λ{b d} q=>by
  obtain⟨o',c,n,s,r⟩:=id q;exact⟨o',c,n,y b o' (.inr ⟨d,q⟩) s,r⟩
 refine⟨o,es,E,t,y a o (.inl rfl) z,u,hd,I,λi e C=>?_,p,λk=>?_,D⟩
 ·obtain⟨b,k,v,q⟩:=j i e C;exact⟨b,k,v,kp q⟩
 ·rw[f k];constructor
  ·rintro⟨g,b,l,m⟩; exact⟨g,b,l,kp m⟩
  ·rintro⟨g,b,l,m⟩;obtain⟨i,hi,H⟩:=Qz0 l;obtain⟨K,d,v,q⟩:=j i (g,.ref b) (by rw[<- Qqr,Qqx hi,H]);have F:=Value.ref.inj (congrArg Prod.snd v);subst F;obtain rfl:=m.inj (kp q);exact⟨g,b,l,q⟩
theorem ql3(hu:A.in1.units<cLine)(W:WalksS prog w A.in1 I fp wr G n P St)(S:Addr)(V:S ∉ fp)(y:∀b∈wr,∀s i,St i s->¬ ∃k,IsTupleKey (intKind prog w) s.heap k b)
  (d:List (List Int)) (hn:d.length=n) (b2:n<=16) (C:∀i v,P i v->∃b,v=.ref b) (Kp:Qz->Prop) (a6:∀s i b,Kp s->P i (.ref b)->∃k,d[i]?=some k/\IsTupleKey (intKind prog w) s.heap k b)
  (Q:∀s s',Kp s->(∀b o,(∃k,IsTupleKey (intKind prog w) s.heap k b)->s.heap.get? b=some o->s'.heap.get? b=some o)->Kp s') :
  ∀(k i:Nat) (s:Qz),n - i=k->i<=n->St i s->Kp s->TS prog w s.heap S ((d.take i).foldl addK [])->
   (∀s',Moved (S::wr) G s s'->TS prog w s'.heap S (distinct d)->R (.ok (.ret .none)) s')->
   Zj (model prog w) A (.builtin "set.update.loop" ⟨[.ref S,.ref I],[]⟩) R s:=by
 have a9:=λh=>V (W.sub _ h);have g:∀b∈wr,b∈S::wr:=λb a=>Qqf _ a
 have u:∀{s s':Qz}{i:Nat}{Lq:List (List Int)},St i s->Moved wr G s s'->TS prog w s.heap S Lq->TS prog w s'.heap S Lq:=λ{s s' i Lq} st j x=>x.keeps λb o a E=>j.heap b o (λhw=>by
  rcases a with rfl|a
  ·exact a9 hw
  ·exact y b hw s i st a) E
 intro k
 induction k with
 |zero=>
  intro i s hk hi c a1 hS hR;have a7:i=n:=by lia
  subst a7;refine Zy F.entry_set_update_loop ?_;rw[Around.under_plainId F.plain_set_update_loop _];refine Qq (W.done s _ _ c λs' j=>Qj (hR s' (j.mono g) (u c j ?_)));rw[<- hn,Qxn]at hS;exact hS
 |succ k ih=>
  intro i s hk hi c a1 hS hR;have K:i<n:=by lia
  refine Zy F.entry_set_update_loop ?_;rw[Around.under_plainId F.plain_set_update_loop _];refine Qq (W.item i s _ _ K c λv s' hP D j=>?_);obtain⟨b,rfl⟩:=C i v hP;have l:=Q s s' a1 λp o a E=>j.heap p o (λhw=>y p hw s i c a) E;obtain⟨key,T,a⟩:=a6 s' i b l hP;have a0:=u c j hS;refine Qq (Qo ?_);unfold setAdd;refine Qo ?_;refine Qq (wpAny_pyHash_tuple hu a ?_);have N:((d.take i).foldl addK []).length<=15:=by
   have:=foldK_le (d.take i) [];rw[Qzm]at this;simp at this
   lia
  have a5:(d.take (i+1)).foldl addK []=addK ((d.take i).foldl addK []) key:=by
   rw[List.take_succ,T,List.foldl_append]; rfl
  refine add_ok hu a0 a N λ_ h' r b1=>?_;have b0:TS prog w h' S ((d.take (i+1)).foldl addK []):=by rw[a5]; exact b1
  have a3:∀{p:Addr},(∃k,IsTupleKey (intKind prog w) s'.heap k p)->p≠S:=λ{p} ⟨k',q⟩ z=>by
   obtain⟨o,es,ep,t,E,_,hd,_⟩:=a0;obtain⟨o',a4,m,f,_,U,_⟩:=q;rw[z]at f;obtain rfl:o'=o:=Option.some.inj (f.symm.trans E);rw[hd]at U; exact nomatch U
  refine Qj ⟨plainId_quiet F.plain_set_update_loop _,ih (i+1) _ (by lia) K (W.frame _ s' _ _ D (Qjs _ _) λb a o e=>?_) (Q s' _ l λp o a8 f=>(r.2 p (a3 a8)).trans f) b0 λa2 H X=>?_⟩
  ·rw[r.2 b (λh:b=S=>V (by rw[<- h]; exact a))]; exact e
  ·refine hR a2 (Moved.trans W.gtrans ((j.mono g).then_heap (Qjs _ _) λb o a e=>?_) H) X;rw[r.2 b (λh:b=S=>a (by rw[h]; exact Qql))]; exact e
end
end ST
end
section
namespace ST
open PySem SetTable
theorem qfw:isSubtype (.type "tuple") (.type "set")=pure false:=by rw[isSubtype_type]; kernel_rfl
theorem qwn:isSubtype (.type "tuple") (.type "frozenset")=pure false:=by rw[isSubtype_type]; kernel_rfl
noncomputable abbrev bare(led:Bool):Obj:={ cls:=.type "set",dict:=none,data:=.set #[] 0 (.fresh 0 0 led) }
def Cells(prog:Program)(w:Qk)(h:Heap)(items:Array Value)(ks:List (List Int)):Prop:=∀(i:Nat) (v:Value),items[i]?=some v->∃b k,v=.ref b/\ks[i]?=some k/\IsTupleKey (intKind prog w) h k b
section
variable {prog:Program}{w:Qk}{E:Value->Qz->Prop}
theorem qgi{Bq:Qv}{c:Heap}{a:Bool}{l:Addr}{items:Array Value}{u:List (List Int)}{s:Qz}{N:Fin->Qz->Prop}(calm:Bq.handled=none)(room:Bq.units+4<cLine)(tup:c.IsTuple l items)(d:Cells prog w c items u)
  (n1:u.length=items.size) (X:items.size<=16) (hs:s.heap=c.push (bare a))
  (done:∀h1 k1,TS prog w h1 c.objs.size (distinct u)->(∀b o,b<c.objs.size->c.get? b=some o->h1.get? b=some o)->N (.done (.ret .none)) { s with heap:=h1,toks:=k1 }) :
  wpAny (model prog w) Bq (Zd.«set.__init__» ⟨[.ref c.objs.size,.ref l],[]⟩) N E s:=by
 obtain⟨K,gs,dr,tk,os⟩:=s;subst hs;obtain⟨⟨tc,td,H,R⟩,I,T,nl,S⟩:=id tup;subst T S;have x:(c.push (bare a)).get? c.objs.size=some (bare a):=Qqe _ rfl;have F:=Qqz (bare a) I;have a1:=qfw;have a2:=qwn;have a3:(Value.type "tuple" == Value.type "dict")=false:=by decide
 have a0:Shared.TypeIs ⟨c.push (bare a),gs,dr,tk,os⟩ (.ref c.objs.size) "set":=⟨_,x,rfl⟩
 have g:(c.push (bare a)).IsTuple l items:=⟨_,F,rfl,nl,rfl⟩
 unfold Zd.«set.__init__» noKeywords Builtin.Frozenset.updateFrom;generalize ei:pyIter=walk
 wp_walk
 subst ei;refine wpAny_pyIter_tuple g (Qq (wpAny_runValue ?_));have t:=Qqa I;have sz:(c.push (bare a)).objs.size=c.objs.size+1:=Qzp ..;have W:l≠(c.push (bare a)).objs.size:=by rw[sz]; exact Qq1 (Qxt t)
 have V:c.objs.size ∉ [(c.push (bare a)).objs.size,l]:=by
  rw[sz];simp only[Qqb,Qz2,or_false,not_or];exact⟨Qq1 (Qzk _),Qxh t⟩
 refine ql3 (by show Bq.units+1<cLine; lia) ((Walks.tuple (by simp[calm]) _ l W items).toS) c.objs.size V ?f u n1 X (λi v hv=>?isRef)
  (λz=>∀(i:Nat) (b:Addr),items[i]?=some (.ref b)->∃k,u[i]?=some k/\IsTupleKey (intKind prog w) z.heap k b) (λz i b q K=>q i b K) ?stay items.size 0 _ rfl (Qzc _) ⟨⟨_,Qqe _ rfl,rfl,rfl⟩,?n⟩ ?keys ?empty ?fin
 case isRef=>obtain⟨b,_,e,_⟩:=d i v hv; exact⟨b,e⟩
 case n=>obtain⟨ob,e1,e2⟩:=g; exact⟨ob,Qqz _ e1,e2⟩
 case f=>
  rintro b h z i ⟨⟨ob,Q,_,P⟩,_⟩ ⟨_,p,_,_,j,_,G,_⟩;rw[Qqs.mp h,Q]at j;cases j;rw[P]at G;cases G
 case stay=>
  intro z1 z2 q keep i b h;obtain⟨k,e,y⟩:=q i b h;obtain⟨p,it,m,j,r⟩:=id y;exact⟨k,e,p,it,m,keep b p ⟨k,y⟩ j,r⟩
 case keys=>
  intro i b h;obtain⟨b',k,e,ek,p,it,m,j,r⟩:=d i _ h;cases e;exact⟨k,ek,p,it,m,Qqz _ (Qqz _ j),r⟩
 case empty=>exact⟨_,#[],0,_,Qqz _ x,⟨rfl,rfl,rfl⟩,rfl,qgr a,λi e he=>by simp at he,rfl,λk=>by simp,λ_=>by simp⟩
 case fin=>
  intro z mv q;obtain⟨h1,a4,a5,A,U⟩:=z;obtain⟨m1,rfl,rfl,rfl,_⟩:=mv;refine Qj (Qj (done h1 A q λb o h e=>m1 b o ?_ (Qqz _ (Qqz _ e))));have D:=Qq1 h;have C:b≠(c.push (bare a)).objs.size:=by rw[sz]; exact Qq1 (Qxt h)
  simp only[Qqb,Qz2,or_false,not_or];exact⟨D,C⟩
end
end ST
end
section
namespace ST
open PySem SetTable
section
variable {prog:Program}{w:Qk}{A:Qv}{E:Value->Qz->Prop}{s:Qz}
theorem TS.size{h:Heap}{a:Addr}{S:List (List Int)}(x:TS prog w h a S)(f:S.length<=16):∃o es c t,h.get? a=some o/\o.ExactSet/\o.data=.set es c t/\t.fits es.size=true/\(es.size:Int)<2 ^ 63/\es.size=S.length:=by
 obtain⟨o,es,c,t,e,b,hd,I,_,d,_⟩:=x;exact⟨o,es,c,t,e,b,hd,I.fits,by omega,d⟩
theorem set_call{l:Addr}{c:Array Value}{i:List (List Int)}{Q:Value->Qz->Prop}(calm:A.handled=none)(room:A.units+12<cLine)(tup:s.heap.IsTuple l c)(h:Cells prog w s.heap c i)(p:i.length=c.size)(n:c.size<=16)
  (k:∀h1 g,TS prog w h1 s.heap.objs.size (distinct i)->(∀b o,b<s.heap.objs.size->s.heap.get? b=some o->h1.get? b=some o)->Q (.ref s.heap.objs.size) { s with heap:=h1,toks:=g }) :
  wpAny (model prog w) A (call (.type "set") [.ref l]) Q E s:=by
 have f:=F.called_set;obtain⟨_,_,H⟩:=f.mro;have G:=f.made;have D:=f.sub;have C:=f.notType;have y:=f.canCreate;have x:=F.typeCall_set_1 (.ref l);refine wpAny_call (codeAny_of_tree (Qj ⟨Code.quiet_builtin _ (by decide +kernel),Zy F.entry_type_call ?_⟩));rw[Around.under_plain (weight_type_call_type "set" [.ref l] []) rfl]
 repeat (any_goals (first|assumption|wp_step))
 refine Q6 (code_set_new_1 (.ref l) (E:=E) (Q₁:=λob z=>∃d,ob=.ref s.heap.objs.size/\z={ s with heap:=s.heap.push (bare d) }) λd=>⟨d,rfl,rfl⟩) λr z e=>?_
 match r,e with
 |.error _,e=>exact e
 |.ok .next,e=>exact e.elim
 |.ok .brk,e=>exact e.elim
 |.ok .cont,e=>exact e.elim
 |.ok (.ret ob),e=>
  obtain⟨d,rfl,rfl⟩:=e;have j:Shared.TypeIs { s with heap:=s.heap.push (bare d) } (.ref s.heap.objs.size) "set":=⟨_,Qqe _ rfl,rfl⟩
  have v:=f.init.lookup;have u:=f.init.bind (.ref s.heap.objs.size)
  repeat (any_goals (first|assumption|wp_step))
  refine Q6 (codeAny_call_builtin (R:=wants (λr z=>r=.none/\∃h1 g,z={ s with heap:=h1,toks:=g }/\TS prog w h1 s.heap.objs.size (distinct i)/\∀b o,b<s.heap.objs.size->s.heap.get? b=some o->h1.get? b=some o) E) f.init.plain F.entry_set_init (check_set_init_1 j ?_)) λm t a=>?_
  ·exact qgi (by simp[calm]) (by show A.units+1+1+4<cLine; omega) tup h p n rfl λh1 g q keep=>⟨rfl,h1,g,rfl,q,keep⟩
  ·match m,a with
   |.error _,a=>exact a
   |.ok .next,a=>exact a.elim
   |.ok .brk,a=>exact a.elim
   |.ok .cont,a=>exact a.elim
   |.ok (.ret _),a=>
    obtain⟨rfl,h1,g,rfl,q,keep⟩:=a
    repeat (any_goals (first|assumption|wp_step))
    exact k h1 g q keep
end
end ST
end
section
namespace MS
open PySem PySem.Spec PyProof.Rows L2
noncomputable def setO(a:Addr)(n:Nat):HO:=.ext λh=>∃o es ep t,h.get? a=some o/\o.ExactSet/\o.data=.set es ep t/\t.fits es.size=true/\(es.size:Int)<2 ^ 63/\es.size=n
def qm2(K:Qqq)(H:Hp):List V->List (List Int)->Prop:=Paired λy k=>∃q,y=.ref q/\SqT K H q (k.map V.int)
theorem items_int{prog:Program}{w:Qk}:∀{k:List Int}{a:List Value},Vals (k.map V.int) a->ItemsAre (intKind prog w) k a
 |[],_,h=>by cases h; exact .nil
 |i::k,_,h=>by
  cases h with
  |cons r t=>
   obtain⟨b,rfl⟩:=r;exact .cons (intKind_is _ _ _ _) (items_int t)
section
variable {X:Cx}
theorem qie{a:List (Addr×Obj)}{c:L2.St}{H:Hp}{s:Qz}(I:Inv X a c H s){q:Addr}{k:List Int}(h:SqT X.K H q (k.map V.int)):IsTupleKey (intKind X.prog X.w) s.heap k q:=by
 obtain⟨b,r,⟨o,d,e,n,hd⟩,_⟩:=I.tuple h;exact⟨o,b.toArray,n,d,e,hd,items_int r⟩
theorem qao{a:List (Addr×Obj)}{f:L2.St}{H:Hp}{s:Qz}(I:Inv X a f H s):∀{ys:List V}{d:List (List Int)}{c:List Value},qm2 X.K H ys d->Vals ys c->
  ∀(i:Nat) (v:Value),c[i]?=some v->∃b k,v=.ref b/\d[i]?=some k/\IsTupleKey (intKind X.prog X.w) s.heap k b
 |_,_,_,.nil,r,i,v,e=>by cases r; simp at e
 |_,_,_,.cons (b:=k) h t,r,i,v,e=>by
  cases r with
  |cons j g=>
   obtain⟨q,rfl,l⟩:=h
   cases i with
   |zero=>
    simp at e;subst e;cases j;exact⟨q,k,rfl,rfl,qie I l⟩
   |succ i=>
    simp only[Qxb]at e ⊢;exact qao I t g i v e
theorem qeg(calm:X.A.handled=none)(room:X.A.units+64<cLine):qqq X (.type "set") (λxs H Q=>∃p ys ks,xs=[.ref p]/\SqT X.K H p ys/\qm2 X.K H ys ks/\ys.length<=16/\∀l,H l=none->Q (.ref l) (upd H l (setO l (ST.distinct ks).length))):=by
 intro pins s σ H xs K Q I r h;obtain⟨p,ys,ks,rfl,y,j,U,q⟩:=h;obtain⟨u,rfl,w⟩:=vals1 r;cases w;obtain⟨x,r',⟨o,z,a,n,hd⟩,S⟩:=I.tuple y;have P:=r'.length;have N:=Paired.length j;refine ST.set_call calm (by lia) ⟨o,z,a,n,hd⟩ (λi v e=>qao I j r' i v (by simpa using e)) (by simp; lia) (by simp; lia) λh1 R T keep=>?_;have le:=ST.foldK_le ks []
 obtain⟨g,es,A,t,k,G,F,E,D,C⟩:=T.size (by
  show(ks.foldl ST.addK []).length<=16
  simp at le; lia)
 refine⟨.ref s.heap.objs.size,_,I.laid (λb o e=>keep b o (Qqa e) e) (Qqw _) ?_,rfl,q _ (I.hok.fresh (Qqw _))⟩;exact⟨⟨g,es,A,t,k,G,F,E,D,C⟩,⟨g,k⟩,λh2 V ⟨f,c,d,m,b1,b2⟩ kp=>⟨f,c,d,m,kp f b1,b2⟩⟩
theorem qen:qqq X (.builtin "len") (λxs H Q=>∃p n,xs=[.ref p]/\H p=some (setO p n)/\Q (.int n) H):=by
 intro pins s σ H xs l Q I r h;obtain⟨p,n,rfl,c,q⟩:=h;obtain⟨u,rfl,a⟩:=vals1 r;cases a;obtain⟨⟨o,es,m,t,k,j,i,g,f,d⟩,_⟩:=(I.hok p _ c)
 refine call_len_set k j i g f ?_;exact⟨.int n,H,I.kept (λb o e=>e),⟨_,by rw[d]⟩,q⟩
end
end MS
end
section
namespace MS
open PySem PySem.Spec PyProof.Rows L2
open M (D Store)
section
variable {X:Cx}
theorem qak{K:Qqq}{m:List Addr}{H:Hp}:∀{ds:List D}{a:List V}{k:List Int},IsDs K m H ds a->(ds.mapM λd=>match d with|.int i=>some i|_=>none)=some k->a=k.map V.int
 |[],a,k,h,e=>by
  simp at e;subst e;exact Qzr.mp h.length.symm
 |d::ds,a,k,h,e=>by
  rw[Qj8]at e
  cases d with
  |int i=>
   obtain⟨x,r,rfl,h1,h2⟩:=h.cons
   cases b:(ds.mapM λd=>match d with|M.D.int i=>some i|_=>none) with
   |none=>rw[b]at e; cases e
   |some c=>
    rw[b]at e;cases e;rw[h1.int,qak h2 b]; rfl
  |_=>exact nn e
theorem qdm{K:Qqq}{m:List Addr}{H:Hp}:∀{ds:List D}{a:List V}{b:List (List Int)},IsDs K m H ds a->ds.mapM M.keyD=some b->qm2 K H a b
 |[],a,b,h,e=>by
  simp at e;subst e;rw[Qzr.mp h.length.symm];exact .nil
 |d::ds,a,b,h,e=>by
  rw[Qj8]at e
  cases d with
  |tup cs=>
   obtain⟨x,r,rfl,h1,h2⟩:=h.cons
   cases c:M.keyD (.tup cs) with
   |none=>rw[c]at e; cases e
   |some k=>
    cases f:ds.mapM M.keyD with
    |none=>rw[c,f]at e; cases e
    |some i=>
     rw[c,f]at e;cases e;obtain⟨g,ys,rfl,l,j⟩:=h1.tup;refine .cons ⟨g,rfl,?_⟩ (qdm h2 f);rw[<- qak j c]; exact l
  |_=>exact nn e
end
end MS
end
section
namespace MS
open PySem PySem.Spec PyProof.Rows L2
open M (D Cell Store Sl E S T Src Fn Out R)
theorem qbq{X:Cx}{elt k d:Qx}{ifs:List Qx}{c:Scope}{pos f j:Pos}{N:List Str}{src:List (Option Nat)}{A:TI}{g:TG}{E:TT}{F:TE}{i:Nat}{x:Str}(hc:X.calm=true)(S:CompScope X N src c)(hi:PI X k d A)
  (hg:∀C fp s H,PG (qzm X N c C fp s H) k g) (V:∀C fp s H,qbp (qzm X N c C fp s H) ifs E) (he:∀C fp s H,PE (qzm X N c C fp s H) elt F)
  (hs:∀x,foldedSetIterable d X.env x=pure x) (hN:X.N.Nodup) (U:X.N[i]?=some x) (hl:Loc X.env.scope x) (hf:X.fn x=true\/X.env.scope.names.lookup x=some .local)
  (p:swapsWith (.ListComp elt [⟨k,d,ifs,0⟩] c j) (some (.Name x f)) pos.line X.env=pure true) :
  PS X (.Assign [.Name x f] (.ListComp elt [⟨k,d,ifs,0⟩] c j) pos) (tAsg (qii src A g E F) (qw7 i)):=by
 intro pins s σ H D I h;rw[exec_Assign_Name_used _ _ _ _ p];refine Qq (wpAny_standAt (Qq ?_));refine Qq (Qy (wpAny_comprehension_free rfl hs (qwx S I) S.kind S.loc (thn (hi pins s σ H _ I h) λv s1 h1=>thn h1 λR n h2=>?_)) (λ_ s' hq=>Qj (Qj hq)) λ_ _ e=>e);obtain⟨it,fp,tn,Jq,H2,e,I2,T,l,f2,W,G,turn⟩:=h2;subst e;refine qke hc I2 T l f2 S (λC=>hg C fp n H2) (λC=>V C fp n H2) (λ_ C=>he C fp n H2) (λ_ _ _ _ _ z=>z.elim) W G turn ?_;intro y C s' H' a0 u Q I' fC hm;obtain⟨m',hn⟩:=hm;obtain⟨c0,c1,c2,c3,c4,c5⟩:=fC;refine wpAny_assign_Name (qvq I' hN U hl (show RelV (.ref y) (.ref y) from rfl) (λP w r=>?_) hf);obtain⟨a,K,ha⟩:=r;have t:C≠a:=by
  rcases ha with z|z
  ·rw[z]; exact c1
  ·exact λq=>c4 x a z q.symm
 exact⟨m',hn.sameBut K t,λh' m=>⟨_,_,w.turned (λb o hb e=>(m.2 b hb).trans e) c0 c1 c3 c4 c5,u y Q⟩⟩
noncomputable def iSeq(K:Qqq)(tl:TE):TI:=λσ H R=>tl σ H λx H1=>(∃a,x=.ref a/\(((∃xs,SqL K H1 a xs)/\R (Itl K a) H1)\/((∃xs,SqT K H1 a xs)/\R (Itt K a) H1)))
theorem pi_seq{X:Cx}{j l:Qx}{tl:TE}(t:PE X l tl):PI X j l (iSeq X.K tl):=by
 intro pins s σ H R I h;refine thn (t pins s σ H _ I h) λv d ⟨x,H1,c,m,n⟩=>?_;obtain⟨a,e,q⟩:=n;subst e;cases m;rcases q with⟨⟨xs,g⟩,q⟩|⟨⟨xs,g⟩,q⟩
 ·obtain⟨f,k,p,r⟩:=c.list g;refine Ze p.isList ?_;refine⟨d.heap.objs.size,[d.heap.objs.size],_,_,H1,rfl,c.kept λb o e=>Qqz _ e,qbt a _,⟨_,Qqe _ rfl,rfl,rfl⟩,λb i=>?_,q⟩;have e:b=d.heap.objs.size:=by simpa using i
  subst e;exact c.fpOk (Qqw _) (c.hok.fresh (Qqw _))
 ·obtain⟨f,k,p,r⟩:=c.tuple g;refine wpAny_pyIter_tuple (p) ?_;refine⟨d.heap.objs.size,[d.heap.objs.size],_,_,H1,rfl,c.kept λb o e=>Qqz _ e,qa0 a _,⟨_,Qqe _ rfl,rfl,rfl⟩,λb i=>?_,q⟩;have e:b=d.heap.objs.size:=by simpa using i
  subst e;exact c.fpOk (Qqw _) (c.hok.fresh (Qqw _))
structure Glo where
 cs:List (Str×D)
 ds:List (Str×List Str×List D)
 /-- a method's place among the functions,its class,its name -/
 ms:List (Nat×Addr×Str)
 /-- the classes -/
 cl:List (Str×Addr)
 /-- attributes of instances -/
 ats:List (Addr×Str)
structure Ctx where
 N:List Str
 sc:Scope
 fns:List Str
 glo:Glo
noncomputable def qms:M.Bq->String
 |.len=>"len"
 |.min=>"min"
 |.tuple=>"tuple"
 |.list=>"list"
 |.all=>"all"
 |.sorted=>"sorted"
 |.any=>"any"
 |.max=>"max"
 |.int=>"int"
noncomputable def bOk:M.Bq->Bool
 |.len=>true
 |.min=>true
 |.tuple=>true
 |.list=>true
 |.all=>true
 |.sorted=>true
 |.any=>true
 |.max=>true
 |.int=>true
noncomputable def qbz(scope sc:Scope):Scope:={ scope with names:=scope.names.map λ(n,k)=>if (k==NameKind.free&&sc.kind==.function&&sc.names.lookup n==some .cell) then(n,NameKind.cell) else(n,k) }
noncomputable def tlOk(N:List Str)(own sc:Scope)(t:T):Bool:=t.slots.all λi=>match N[i]? with
 |some x=>own.names.lookup x==some .cell||sc.names.lookup x==some .local
 |none=>false
theorem qcq{N:List Str}{own sc:Scope}{t:T}(h:tlOk N own sc t=true):∀i∈t.slots,∀x,N[i]?=some x->(own.names.lookup x==some .cell)=true\/sc.names.lookup x=some .local:=by
 intro i hi x a;unfold tlOk at h;have:=Qq7.mp h i hi;rw[a]at this;simpa using this
noncomputable def qga(x:Str):Bool:=!x.cps.toList.contains 46
def MTree(pa:Qx)(m:Str)(apos:Pos)(ps:List Qx)(pos:Pos):Prop:=∀env,∃pl:Sem Bool,Qw (.Call (.Attribute pa m apos) ps [] pos) env=(do
 let ov <- Qw pa env
 Zx apos.atName
 let (f,first) <- Qu [ov] (Zb ov m pl)
 callWith pos f first (backTo pos (starEach ps env)) (backToKw pos (keywordEach [] env)))
def Star(p:Qx):Prop:=∀es env,starEach (p::es) env=(false,Qw p env)::starEach es env
inductive CkTys (c:Ctx):List M.Ty->List Qx->Prop
 |nil:CkTys c [] []
 |cons {t ts ps pos} (ht:t≠.non) (hg:c.sc.names.lookup (Str.ofString t.name)=some .globalImplicit) (h:CkTys c ts ps):CkTys c (t::ts) (.Name (Str.ofString t.name) pos::ps)
inductive CkTs (c:Ctx):List Nat->List Qx->Prop
 |nil:CkTs c [] []
 |cons {i x pos is es} (hN:c.N[i]?=some x) (hl:c.sc.names.lookup x=some .local\/c.sc.names.lookup x=some .cell) (h:CkTs c is es):CkTs c (i::is) (.Name x pos::es)
inductive CkT (c:Ctx):T->Qx->Prop
 |tup {is es k pos} (h:CkTs c is es):CkT c (.tup is) (.Tuple es k pos)
 |var {i x pos} (hN:c.N[i]?=some x) (hl:c.sc.names.lookup x=some .local\/c.sc.names.lookup x=some .cell):CkT c (.var i) (.Name x pos)
noncomputable def gcOk:Qx->Bool
 |.Call _ _ _ _=>true
 |.ListComp _ _ _ _=>true
 |.List _ _=>true
 |.BinOp _ _ _ _=>true
 |.Subscript _ _ _=>true
 |_=>false
inductive CkL (R:E->Qx->Prop):List E->List Qx->Prop
 |nil:CkL R [] []
 |cons {e es p ps} (h:R e p) (t:CkL R es ps):CkL R (e::es) (p::ps)
inductive CkP (R:E->Qx->Prop):List E->List (Option Qx)->List Qx->Prop
 |nil:CkP R [] [] []
 |cons {k v es pk pv ks vs} (hk:R k pk) (hv:R v pv) (t:CkP R es ks vs):CkP R (k::v::es) (some pk::ks) (pv::vs)
inductive CkO (R:E->Qx->Prop):Option E->Option Qx->Prop
 |none:CkO R none none
 |some {e p} (h:R e p):CkO R (some e) (some p)
inductive CkI (R:E->Qx->Prop):Ctx->Qx->E->Qx->Prop
 |rng1 {c tg a pa p0 pos} (hg:c.sc.names.lookup ("range" : Str)=some .globalImplicit) (ha:R a pa):CkI R c tg (.rng1 a) (.Call (.Name "range" p0) [pa] [] pos)
 |zip {c es k tp a b pa pb p0 pos} (hg:c.sc.names.lookup ("zip" : Str)=some .globalImplicit) (ha:R a pa) (hb:R b pb):CkI R c (.Tuple es k tp) (.zip a b) (.Call (.Name "zip" p0) [pa,pb] [] pos)
 |seq {c tg e p} (h:R e p):CkI R c tg e p
noncomputable abbrev inOp(neg:Bool):CmpOp:=if neg then .NotIn else .In
noncomputable abbrev Ctx.inn(c:Ctx)(N:List Str)(sc:Scope):Ctx:=⟨N,qbz sc c.sc,c.fns,c.glo⟩
structure CpOk (c:Ctx) (sc:Scope) (sr:List (Option Nat)) (N:List Str) (iter:Qx) (t:T):Prop where
 kind:sc.kind=.function
 own:∀y∈sc.names,sc.names.lookup y.1=some y.2
 free:∀y∈sc.names,y.2=.free->c.sc.names.lookup y.1=some .cell\/c.sc.names.lookup y.1=some .free
 loc:∀y∈sc.names,y.2=.local->sc.names.lookup y.1=some .local
 len:sr.length=N.length
 src:∀(j i:Nat),sr[j]?=some (some i)->∃x,N[j]?=some x/\c.N[i]?=some x/\sc.names.lookup x=some .free
 nd:N.Nodup
 fs:∀env x,foldedSetIterable iter env x=pure x
 tl:tlOk N sc (qbz sc c.sc) t=true
noncomputable def boT(op:BoolOp)(pos:Pos):List Qx->Qx
 |[p]=>p
 |ps=>.BoolOp op ps pos
noncomputable def mName:M.Mt->Str
 |.append=>"append"
 |.extend=>"extend"
 |.index=>"index"
 |.insert=>"insert"
noncomputable def shOk:Qx->Bool
 |.Starred ..=>false
 |.Slice ..=>false
 |.Set ..=>false
 |.SetComp ..=>false
 |.DictComp ..=>false
 |.Call (.Name _ _) [] _ _=>false
 |_=>true
noncomputable def qve:E->Bool
 |.rng1 _=>false
 |.zip _ _=>false
 |_=>true
inductive CkV:Ctx->E->Str->Prop
 |var {c i x} (hN:c.N[i]?=some x) (hv:Vis c.sc x) (hd:(x==("__debug__" : Str))=false) (hcd:(x==("__classdict__" : Str))=false):CkV c (.var i) x
 |glo {c x d} (hg:c.sc.names.lookup x=some .globalImplicit) (hm:(x,d)∈c.glo.cs) (hd:(x==("__debug__" : Str))=false):CkV c (.glo x d) x
inductive CkG (R:Ctx->E->Qx->Prop):Ctx->E->Qx->Prop
 |nm {c a x pos} (h:CkV c a x):CkG R c a (.Name x pos)
 |int {c i j pos}:CkG R c (.lit (.int i)) (.Constant (.int i) j pos)
 |bl {c i j pos}:CkG R c (.lit (.bl i)) (.Constant (.bool i) j pos)
 |non {c j pos}:CkG R c (.lit .non) (.Constant .none j pos)
 |str {c i j pos}:CkG R c (.lit (.str i)) (.Constant (.str i) j pos)
 |bin {c op a b pa pb pos} (ha:R c a pa) (hb:R c b pb):CkG R c (.bin op a b) (.BinOp pa op pb pos)
 |lenset {c a pa p0 p1 pos1 pos} (hg:c.sc.names.lookup ("len" : Str)=some .globalImplicit) (hs:c.sc.names.lookup ("set" : Str)=some .globalImplicit) (ha:R c a pa):CkG R c (.lenset a) (.Call (.Name "len" p0) [.Call (.Name "set" p1) [pa] [] pos1] [] pos)
 |neg {c a pa pos} (ha:R c a pa):CkG R c (.neg a) (.UnaryOp .USub pa pos)
 |not {c a pa pos} (ha:R c a pa):CkG R c (.not a) (.UnaryOp .Not pa pos)
 |cmp {c op a b pa pb pos} (ha:R c a pa) (hb:R c b pb):CkG R c (.cmp op a b) (.Compare pa [op] [pb] pos)
 |cmp2 {c op op' a b d pa pb pd pos} (ha:R c a pa) (hb:R c b pb) (hd:R c d pd):CkG R c (.cmp2 op op' a b d) (.Compare pa [op,op'] [pb,pd] pos)
 |tup {c es ps k pos} (h:CkL (R c) es ps):CkG R c (.tup es) (.Tuple ps k pos)
 |lst {c es ps pos} (h:CkL (R c) es ps):CkG R c (.lst es) (.List ps pos)
 |idx {c a b pa pb pos} (ha:R c a pa) (hb:R c b pb):CkG R c (.idx a b) (.Subscript pa pb pos)
 |call {c f x es p ps p0 pos} (hg:c.sc.names.lookup x=some .globalImplicit) (hf:c.fns[f]?=some x) (hd:(x==("__debug__" : Str))=false) (hn:qga x=true) (h:CkL (R c) es (p::ps)):CkG R c (.call f es) (.Call (.Name x p0) (p::ps) [] pos)
 |bcall {c b es p ps p0 pos} (hg:c.sc.names.lookup (Str.ofString (qms b))=some .globalImplicit) (hb:bOk b=true) (h:CkL (R c) es (p::ps)):CkG R c (.bcall b es) (.Call (.Name (Str.ofString (qms b)) p0) (p::ps) [] pos)
 |isi1 {c t a pa p0 p1 pos} (hg:c.sc.names.lookup ("isinstance" : Str)=some .globalImplicit) (ht:t≠.non) (hgt:c.sc.names.lookup (Str.ofString t.name)=some .globalImplicit) (ha:R c a pa):CkG R c (.isi a [t] false) (.Call (.Name "isinstance" p0) [pa,.Name (Str.ofString t.name) p1] [] pos)
 |isiN {c ts a pa p0 ps k p1 pos} (hl:ts.length<=1000) (hg:c.sc.names.lookup ("isinstance" : Str)=some .globalImplicit) (ht:CkTys c ts ps) (ha:R c a pa):CkG R c (.isi a ts true) (.Call (.Name "isinstance" p0) [pa,.Tuple ps k p1] [] pos)
 |dgt {c a b pa pb apos cpos} (ha:R c a pa) (hb:R c b pb) (hl:(apos.endLine==cpos.line)=true):CkG R c (.dgt a b) (.Call (.Attribute pa "get" apos) [pb] [] cpos)
 |dic0 {c pos}:CkG R c (.dic []) (.Dict [] [] pos)
 |dic {c es k v ks vs pos} (h:CkP (R c) es (k::ks) (v::vs)) (h15:(k::ks).length<=15):CkG R c (.dic es) (.Dict (k::ks) (v::vs) pos)
 |didx {c a b pa pb pos} (ha:R c a pa) (hb:R c b pb):CkG R c (.didx a b) (.Subscript pa pb pos)
 |gidx {c x ks ds b pb p0 pos} (hg:c.sc.names.lookup x=some .globalImplicit) (hm:(x,ks,ds)∈c.glo.ds) (hd:(x==("__debug__" : Str))=false) (hb:R c b pb):CkG R c (.gidx x ks ds b) (.Subscript (.Name x p0) pb pos)
 |sli {c a lo hi pa pl ph p2 pos} (ha:R c a pa) (hl:CkO (R c) lo pl) (hh:CkO (R c) hi ph):CkG R c (.sli a lo hi) (.Subscript pa (.Slice pl ph none p2) pos)
 |attr {c C a f pa pos} (ha:R c a pa) (hc:(C,f)∈c.glo.ats):CkG R c (.attr C a f) (.Attribute pa f pos)
 |mcall {c C f m x cn a es pa ps apos pos} (ha:R c a pa) (hf:c.fns[f]?=some x) (hm:(f,C,m)∈c.glo.ms) (hc:(cn,C)∈c.glo.cl) (h:CkL (R c) es ps) (hn:ps.length<30) (hl:(apos.endLine==pos.line)=true):CkG R c (.mcall C f m a es) (.Call (.Attribute pa m apos) ps [] pos)
 |new {c C f x cn es p ps p0 pos} (hg:c.sc.names.lookup cn=some .globalImplicit) (hf:c.fns[f]?=some x) (hm:(f,C,("__init__" : Str))∈c.glo.ms) (hc:(cn,C)∈c.glo.cl) (hd:(cn==("__debug__" : Str))=false) (h:CkL (R c) es (p::ps)):CkG R c (.new C f es) (.Call (.Name cn p0) (p::ps) [] pos)
 |and {c a b pa pb r pos} (ha:R c a pa) (hb:R c b (boT .And pos (pb::r))):CkG R c (.and a b) (.BoolOp .And (pa::pb::r) pos)
 |or {c a b pa pb r pos} (ha:R c a pa) (hb:R c b (boT .Or pos (pb::r))):CkG R c (.or a b) (.BoolOp .Or (pa::pb::r) pos)
 |meth {c a k es pa p ps apos cpos} (ha:R c a pa) (h:CkL (R c) es (p::ps)) (hn:(p::ps).length<30) (hl:(apos.endLine==cpos.line)=true):CkG R c (.meth a k es) (.Call (.Attribute pa (mName k) apos) (p::ps) [] cpos)
 |comp {c t it q elt sr tg iter pq pelt scope pos N} (ok:CpOk c scope sr N iter t) (hi:CkI (R c) c tg it iter) (ht:CkT (c.inn N scope) t tg) (hq:CkO (R (c.inn N scope)) q pq) (he:R (c.inn N scope) elt pelt):CkG R c (.comp t it q elt sr) (.ListComp pelt [⟨tg,iter,pq.toList,0⟩] scope pos)
 |din {c neg a b pa pb pos} (ha:R c a pa) (hb:R c b pb):CkG R c (.din neg a b) (.Compare pa [inOp neg] [pb] pos)
 |gin {c neg x ks ds b pb p0 pos} (hg:c.sc.names.lookup x=some .globalImplicit) (hm:(x,ks,ds)∈c.glo.ds) (hd:(x==("__debug__" : Str))=false) (hb:R c b pb):CkG R c (.gin neg x ks b) (.Compare pb [inOp neg] [.Name x p0] pos)
inductive CkF (R:Ctx->E->Qx->Prop):Ctx->E->Qx->Prop
 |of {c e p} (hs:shOk p=true) (hq:qve e=true) (h:CkG R c e p):CkF R c e p
 |gc {c a p} (hs:shOk p=true) (hq:qve a=true) (hp:gcOk p=true) (hg:∀b,a≠.gc b) (h:CkG R c a p):CkF R c (.gc a) p
noncomputable def CkN:Nat->Ctx->E->Qx->Prop
 |0=>λ_ _ _=>False
 |j+1=>CkF (CkN j)
abbrev CkE:=CkN 30
mutual
inductive CkS:Ctx->S->Stmt->Prop
 |set {c i e x p pos pos'} (hN:c.N[i]?=some x) (hl:c.sc.names.lookup x=some .local\/c.sc.names.lookup x=some .cell) (h:CkE c e p) (hs:∀env,swapsWith p (some (.Name x pos')) pos.line env=pure false):CkS c (.set (.var i) e) (.Assign [.Name x pos'] p pos)
 |setC {c i e x p pos pos'} (hN:c.N[i]?=some x) (hl:c.sc.names.lookup x=some .local\/c.sc.names.lookup x=some .cell) (h:CkE c e p) (hc:∃elt gs sc q,p=.ListComp elt gs sc q) (hs:∀env:Env,env.scope=c.sc->(swapsWith p (some (.Name x pos')) pos.line env=pure false\/swapsWith p (some (.Name x pos')) pos.line env=pure true)):CkS c (.set (.var i) e) (.Assign [.Name x pos'] p pos)
 |dset {c a i e pa pi pe tpos pos} (ha:CkE c a pa) (hi:CkE c i pi) (he:CkE c e pe):CkS c (.dset a i e) (.Assign [.Subscript pa pi tpos] pe pos)
 |expr {c e p pos} (h:CkE c e p) (hs:∀env,swapsWith p none pos.line env=pure false):CkS c (.expr e) (.Expr p pos)
 |ret {c e p pos} (h:CkE c e p):CkS c (.ret e) (.Return (some p) pos)
 |ite {c q a b pq pa pb pos} (hq:CkE c q pq) (ha:CkSs c a pa) (hb:CkSs c b pb):CkS c (.ite q a b) (.If pq pa pb pos)
 |forr {c t it body tg iter pb pos} (ht:CkT c t tg) (hi:CkI (CkE c) c tg it iter) (hs:∀env x,foldedSetIterable iter env x=pure x) (hb:CkSs c body pb):CkS c (.forr t it body) (.For tg iter pb [] pos)
 |setA {c C a f e pa pe tpos pos} (ha:CkE c a pa) (he:CkE c e pe) (hc:(C,f)∈c.glo.ats):CkS c (.setA C a f e) (.Assign [.Attribute pa f tpos] pe pos)
 |ford {c t a body tg pa pb pos} (ht:CkT c t tg) (ha:CkE c a pa) (hb:CkSs c body pb):CkS c (.ford t a body) (.For tg pa pb [] pos)
 |bad {c p}:CkS c .bad p
 |rais {c x np msg j p1 cpos pos} (hg:c.sc.names.lookup x=some .globalImplicit):CkS c (.rais x) (.Raise (some (.Call (.Name x np) [.Constant (.str msg) j p1] [] cpos)) none pos)
 |whil {c q body pq pb pos} (hq:CkE c q pq) (hb:CkSs c body pb):CkS c (.whil q body) (.While pq pb [] pos)
 |brk {c pos}:CkS c .brk (.Break pos)
 |setT {c is e es k p pos tpos} (ht:CkTs c is es) (h:CkE c e p) (hw:∀env,swappedStores [.Tuple es k tpos] p env=pure none):CkS c (.set (.tup is) e) (.Assign [.Tuple es k tpos] p pos)
 |six {c a i e pa pi pe tpos pos} (ha:CkE c a pa) (hi:CkE c i pi) (he:CkE c e pe):CkS c (.six a i e) (.Assign [.Subscript pa pi tpos] pe pos)
inductive CkSs:Ctx->List S->List Stmt->Prop
 |nil {c}:CkSs c [] []
 |cons {c s ss p ps} (h:CkS c s p) (t:CkSs c ss ps):CkSs c (s::ss) (p::ps)
 |doc {c ss x j pos pos' ps} (t:CkSs c ss ps):CkSs c ss (.Expr (.Constant (.str x) j pos) pos'::ps)
end
theorem qit{p:Qx}(h:shOk p=true):Star p:=λes env=>by cases p<;>first|rfl|cases h
theorem CkN.sh{j:Nat}{c:Ctx}{e:E}{p:Qx}(h:CkN j c e p):shOk p=true:=by
 cases j with
 |zero=>cases h
 |succ j=>
  cases h with
  |of a=>exact a
  |gc a=>exact a
theorem CkN.star{j:Nat}{c:Ctx}{e:E}{p:Qx}(h:CkN j c e p):Star p:=qit h.sh
theorem sh_sw{p:Qx}(h:shOk p=true){a i:Qx}{tp:Pos}(l:Nat)(env:Env):swapsWith p (some (.Subscript a i tp)) l env=pure false:=by
 cases p<;>first|rfl|cases h
theorem sh_swT{p:Qx}(h:shOk p=true){es:List Qx}{k:Nat}{tp:Pos}(l:Nat)(env:Env):swapsWith p (some (.Tuple es k tp)) l env=pure false:=by
 cases p<;>first|rfl|cases h
theorem sh_swA{p:Qx}(h:shOk p=true){a:Qx}{f:Str}{tp:Pos}(l:Nat)(env:Env):swapsWith p (some (.Attribute a f tp)) l env=pure false:=by
 cases p<;>first|rfl|cases h
theorem qcg{p:Qx}(h:shOk p=true)(o i:Value):subscripted p false o i=operate [o,i] (Zk o i):=by
 cases p<;>first|rfl|cases h
theorem qa7{p:Qx}(h:shOk p=true)(a:CmpOp):Zg a p=false:=by
 cases p<;>first|rfl|cases h
theorem qiu{p:Qx}(h:shOk p=true)(env:Env)(x:Value):foldedSetIterable p env x=pure x:=by
 cases p<;>first|rfl|cases h
theorem qkn{p:Qx}(h:shOk p=true)(a:Str)(env:Env)(w:Sem Value):Zz p a env w=w:=by
 cases p with
 |Call f ps ks pos=>
  cases f with
  |Name x q=>
   cases ps with
   |nil=>cases h
   |cons _ _=>rfl
  |_=>rfl
 |_=>rfl
theorem qhj{env:Env}{pos:Pos}:∀{ps:List Qx},ps.all shOk=true->(backTo pos (starEach ps env)).all (λx=>!x.1)=true
 |[],_=>rfl
 |p::r,h=>by
  rw[Qzo,Qqo]at h;have e:backTo pos (starEach (p::r) env)=(false,Qw p env)::backTo pos (starEach r env):=by
   cases p<;>first|rfl|cases h.1
  rw[e,Qzo,qhj h.2]
  rfl
theorem sh_mt{b:Qx}(h:shOk b=true){m:Str}{a:Pos}{ps:List Qx}{pos:Pos}(d:ps.all shOk=true)(i:ps.length<30)(g:(a.endLine==pos.line)=true):MTree b m a ps pos:=by
 intro env;refine⟨(do return (<- importBound b env).getD true),?_⟩
 have e:Qw (.Call (.Attribute b m a) ps [] pos) env=(do
  let c <- Zz b m env (Qw b env)
  Zx a.atName
  methodCall b m a pos env c (ps.length+0) (backTo pos (starEach ps env)) (backToKw pos (keywordEach [] env))):=rfl
 have f:methodCallForm (ps.length+0) (backTo pos (starEach ps env)) (backToKw pos (keywordEach [] env))=true:=by
  unfold methodCallForm;rw[qhj d];simpa[keywordEach,backToKw] using i
 rw[e,qkn h];unfold methodCall calleeOf methodCallPos;rw[f,g]
 rfl
theorem CkL.sh{j:Nat}{c:Ctx}{es:List E}{ps:List Qx}(h:CkL (CkN j c) es ps):ps.all shOk=true:=by
 induction h with
 |nil=>rfl
 |cons h _ t=>rw[Qzo,h.sh,t]; rfl
noncomputable def spN(K:Qqq)(fns:List Fn)(n f:Nat):Sp:=λvs H Q _=>∃m st ds d st',Rel K m st H/\IsDs K m H ds vs/\M.callD fns n f ds st=some (d,st')/\Post K m H d st' Q
def Lc(K:Qqq)(mg:Str->Option Value)(glo:Glo)(f:Nat)(x:Str)(fa:Addr):Prop:=(qga x=true->mg x=some (.ref fa))/\∀C m,(f,C,m)∈glo.ms->Meth K C m fa
def FTab(P:Program)(w:Qk)(K:Qqq)(mg:Str->Option Value)(base:Heap)(glo:Glo)(fns:List Fn)(names:List Str)(n:Nat):Prop:=∀(f:Nat) (x:Str),names[f]?=some x->∃(fa:Addr) (fd:Qh) (ps:List Str),
 Lc K mg glo f x fa/\FnOk P w K mg base CX0 (2*n) fa fd ps (spN K fns n f)/\Qzx K (.ref fa)=true/\Binds K fd ps []
noncomputable abbrev bNm:List Str:=["len","min","max","tuple","list","all","sorted","isinstance","range","int","bool","str","zip","any","set"]
structure Mo (K:Qqq) (mg:Str->Option Value) (glo:Glo) (prm:Qp):Prop where
 cls:∀cn C,(cn,C)∈glo.cl->mg cn=some (.ref C)/\Cls K C/\PySem.W.makesIn K C=true/\Qzx K (.ref C)=true
 ats:∀C f,(C,f)∈glo.ats->Cls K C/\NoAttr K C f
 gds:∀x ks ds,(x,ks,ds)∈glo.ds->∃a,mg x=some (.ref a)/\FDict prm K a ks ds
 glo:∀x d,(x,d)∈glo.cs->∃u v,mg x=some u/\RelV v u/\∀m H,IsD K m H d v
 no:∀x∈bNm,mg x=none
structure Good (fns:List Fn) (dl:Nat) (c:Ctx) (X:Cx):Prop where
 room:Room (2*dl+1) X.A
 calm:X.calm=true
 N:X.N=c.N
 sc:X.env.scope=c.sc
 nd:c.N.Nodup
 kind:c.sc.kind=.function
 tab:FTab X.prog X.w X.K X.mg X.base c.glo fns c.fns dl
 mo:Mo X.K X.mg c.glo X.w.params
 xe:X.xe=λ_ _=>False
theorem Good.no{fns:List Fn}{a:Nat}{c:Ctx}{X:Cx}(G:Good fns a c X){x:Str}(h:bNm.contains x=true):X.mg x=none:=G.mo.no x (List.contains_iff_mem.mp h)
end MS
end
section
namespace MS
open PySem PySem.Spec PyProof.Rows L2
open M (D Cell Store Sl E S T Src Fn Out R)
theorem qz7{j:Nat}{c:Ctx}:∀{es:List E}{ps:List Qx},CkL (CkN j c) es ps->∀(pos:Pos) (env:Env),(backTo pos (starEach ps env)).any (·.1)=false
 |_,_,.nil,_,_=>rfl
 |_,_,.cons h t,pos,env=>by
  rw[h.star];show(false||(backTo pos (starEach _ env)).any (·.1))=false;rw[qz7 t pos env]
  rfl
theorem Good.gl{fns:List Fn}{a:Nat}{c:Ctx}{X:Cx}(G:Good fns a c X){x:Str}(h:c.sc.names.lookup x=some .globalImplicit):Gl X x:=by
 show X.env.scope.names.lookup x=_;rw[G.sc]; exact h
theorem qa9{a sc:Scope}{env:Env}(h:env.scope=sc):relabel a env=qbz a sc:=by
 unfold relabel qbz Env.kindOf;rw[h]
theorem Good.inner{fns:List Fn}{d:Nat}{c:Ctx}{X:Cx}(G:Good fns d c X){N:List Str}{a:Scope}{C:Addr}{fp:List Addr}{s:Qz}{H:Hp}(e:a.kind=.function)(b:N.Nodup):Good fns d ⟨N,qbz a c.sc,c.fns,c.glo⟩ (qzm X N a C fp s H):=
 ⟨G.room,G.calm,rfl,qa9 G.sc,b,e,G.tab,G.mo,rfl⟩
noncomputable def IsRow(K:Qqq)(m:List Addr)(H:Hp)(k:RK)(a:Addr):D->Prop
 |.tup ds=>k=.tup/\∃xs,SqT K H a xs/\IsDs K m H ds xs
 |.loc l=>k=.lst/\m[l]?=some a
 |.lst ds=>k=.lst/\∃xs,SqF K H a xs/\IsDs K m H ds xs
 |_=>False
theorem IsRow.mono{K:Qqq}{m c:List Addr}{H H':Hp}{k:RK}{a:Addr}{d:D}(h:IsRow K m H k a d)(b:Sub m c)(t:Tr H H'):IsRow K c H' k a d:=by
 cases d with
 |tup ds=>obtain⟨e,xs,q,r⟩:=h; exact⟨e,xs,t.sqT q,qza b t ds xs r⟩
 |loc l=>exact⟨h.1,b l a h.2⟩
 |lst ds=>obtain⟨e,xs,q,r⟩:=h; exact⟨e,xs,t.sqF q,qza b t ds xs r⟩
 |_=>exact h.elim
theorem IsRow.sq{K:Qqq}{m:List Addr}{st:Store}{H:Hp}{k:RK}{a:Addr}{d:D}{ds:List D}(h:IsRow K m H k a d)(f:Rel K m st H)(e:M.rowAt st d=some ds):∃xs,k.sq K H a xs/\IsDs K m H ds xs:=by
 cases d with
 |tup es=>
  cases e;obtain⟨rfl,xs,q,r⟩:=h;exact⟨xs,q,r⟩
 |loc l=>
  obtain⟨rfl,c⟩:=h;obtain⟨g,xs,b,z,q,r⟩:=f.list e (qgc c);cases z;exact⟨xs,q,r⟩
 |lst es=>
  cases e;obtain⟨rfl,xs,q,r⟩:=h;exact⟨xs,q.sq,r⟩
 |_=>exact h.elim
theorem qav{K:Qqq}{m:List Addr}{st:Store}{H:Hp}{d:D}{v:V}{ds:List D}(b:MS.IsD K m H d v)(f:Rel K m st H)(e:M.rowAt st d=some ds):∃k a,v=.ref a/\IsRow K m H k a d/\∃xs,k.sq K H a xs:=by
 cases d with
 |tup es=>
  obtain⟨a,xs,rfl,q,r⟩:=b.tup;exact⟨.tup,a,rfl,⟨rfl,xs,q,r⟩,xs,q⟩
 |loc l=>
  obtain⟨a,xs,c,rfl,q,r⟩:=f.list e b;exact⟨.lst,a,rfl,⟨rfl,c⟩,xs,q⟩
 |lst es=>
  obtain⟨a,xs,rfl,q,r⟩:=b.lst;exact⟨.lst,a,rfl,⟨rfl,xs,q,r⟩,xs,q.sq⟩
 |_=>exact nn e
theorem IsRow.sq'{K:Qqq}{m:List Addr}{st:Store}{H:Hp}{a:Addr}{d:D}{ds:List D}(h:IsRow K m H .lst a d)(b:Rel K m st H)(e:M.seqAt st d=some ds):∃xs,SqL K H a xs/\IsDs K m H ds xs:=by
 cases d with
 |loc l=>exact h.sq b e
 |lst l=>exact h.sq b e
 |_=>exact nn e
theorem qv2{K:Qqq}{m:List Addr}{st:Store}{H:Hp}{d:D}{v:V}{ds:List D}(b:MS.IsD K m H d v)(f:Rel K m st H)(e:M.seqAt st d=some ds):∃a,v=.ref a/\IsRow K m H .lst a d/\∃xs,SqL K H a xs:=by
 cases d with
 |loc l=>
  obtain⟨a,xs,c,rfl,q,r⟩:=f.list e b;exact⟨a,rfl,⟨rfl,c⟩,xs,q⟩
 |lst l=>
  obtain⟨a,xs,rfl,q,r⟩:=b.lst;exact⟨a,rfl,⟨rfl,xs,q,r⟩,xs,q.sq⟩
 |_=>exact nn e
noncomputable def IsSrc(K:Qqq)(m:List Addr)(H:Hp):Src->It->Prop
 |.rng lo n,Jq=>Jq=Itr lo n
 |.tup ds,Jq=>∃a xs,Jq=Itt K a/\SqT K H a xs/\IsDs K m H ds xs
 |.lst d,Jq=>∃a,IsRow K m H .lst a d/\Jq=Itl K a
 |.zip x y,Jq=>∃(k1 k2:RK) (a b:Addr),Jq=Itz K k1 k2 a b/\IsRow K m H k1 a x/\IsRow K m H k2 b y
theorem IsSrc.mono{K:Qqq}{m c:List Addr}{H H':Hp}{s:Src}{Jq:It}(h:IsSrc K m H s Jq)(b:Sub m c)(t:Tr H H'):IsSrc K c H' s Jq:=by
 cases s with
 |rng lo n=>exact h
 |tup ds=>obtain⟨a,xs,e,q,r⟩:=h; exact⟨a,xs,e,t.sqT q,qza b t ds xs r⟩
 |lst l=>obtain⟨a,e,q⟩:=h; exact⟨a,e.mono b t,q⟩
 |zip x y=>obtain⟨f,d,a,g,e,h1,h2⟩:=h; exact⟨f,d,a,g,e,h1.mono b t,h2.mono b t⟩
theorem IsSrc.done{K:Qqq}{m:List Addr}{st:Store}{H:Hp}{s:Src}{o:It}{i:Nat}(h:IsSrc K m H s o)(g:Rel K m st H)(e:s.at st i=some none):o.stop i H:=by
 cases s with
 |rng lo n=>
  cases h;simp only[Src.at]at e
  split at e
  ·cases e
  ·rename_i q;exact Nat.not_lt.mp q
 |tup ds=>
  obtain⟨a,xs,rfl,q,r⟩:=h;simp only[Src.at,Option.some.injEq]at e;exact⟨xs,q,by rw[<- r.length]; exact Qzl.mp e⟩
 |lst l=>
  obtain⟨a,w,rfl⟩:=h;simp only[Src.at]at e;refine qzc e λds f d=>?_;obtain⟨xs,q,r⟩:=w.sq' g f;exact⟨xs,q,by rw[<- r.length]; exact Qzl.mp d⟩
 |zip x y=>
  obtain⟨A,z,a,b,rfl,h1,h2⟩:=h;simp only[Src.at]at e;refine qzj e λds f e=>qzc e λes d c=>?_;obtain⟨xs,v,t⟩:=h1.sq g f;obtain⟨ys,u,p⟩:=h2.sq g d;refine⟨xs,ys,v,u,?_⟩;unfold M.pairAt at c;rw[<- t.length,<- p.length]
  cases k:ds[i]? with
  |none=>exact .inl (Qzl.mp k)
  |some D=>
   cases j:es[i]? with
   |none=>exact .inr (Qzl.mp j)
   |some C=>rw[k,j]at c; cases c
theorem IsSrc.next{K:Qqq}{m:List Addr}{st:Store}{H:Hp}{s:Src}{C:It}{i:Nat}{d:D}(h:IsSrc K m H s C)(A:Rel K m st H)(e:s.at st i=some (some d)):C.go i H/\∀x H',C.yld i H x H'->Same H H'/\MS.IsD K m H' d x:=by
 cases s with
 |rng lo n=>
  cases h;simp only[Src.at]at e
  split at e
  ·rename_i q;cases e;refine⟨q,?_⟩;rintro x H' ⟨rfl,rfl⟩;exact⟨λ_ _ z=>z,mkInt _⟩
  ·cases e
 |tup ds=>
  obtain⟨a,xs,rfl,q,r⟩:=h;simp only[Src.at,Option.some.injEq]at e;obtain⟨x,ex,f⟩:=r.get e;refine⟨⟨xs,x,q,ex⟩,?_⟩;rintro y H' ⟨rfl,z⟩;have:=z xs q;rw[ex]at this;cases this;exact⟨λ_ _ z=>z,f⟩
 |lst l=>
  obtain⟨a,U,rfl⟩:=h;simp only[Src.at]at e;refine qzc e λds t k=>?_;obtain⟨xs,q,r⟩:=U.sq' A t;obtain⟨x,ex,f⟩:=r.get k;refine⟨⟨xs,x,q,ex⟩,?_⟩;rintro y H' ⟨rfl,z⟩;have:=z xs q;rw[ex]at this;cases this;exact⟨λ_ _ z=>z,f⟩
 |zip u v=>
  obtain⟨k1,k2,a,b,rfl,h1,h2⟩:=h;simp only[Src.at]at e;refine qzj e λds t e=>qzc e λes k c=>?_;obtain⟨xs,G,R⟩:=h1.sq A t;obtain⟨ys,F,Q⟩:=h2.sq A k;unfold M.pairAt at c
  cases g:ds[i]? with
  |none=>rw[g]at c; cases c
  |some d1=>
   cases j:es[i]? with
   |none=>rw[g,j]at c; cases c
   |some d2=>
    rw[g,j]at c;cases c;obtain⟨x,ex,f⟩:=R.get g;obtain⟨y,P,S⟩:=Q.get j;refine⟨⟨xs,ys,x,y,G,F,ex,P⟩,?_⟩;rintro w H' ⟨p,x',X,rfl,T,rfl,W,V⟩;have N:=W xs G;rw[ex]at N;cases N;have I:=V ys F;rw[P]at I;cases I;have E:=qzy (o:=.tup [x,y]) T;exact⟨E,qxz (SqT.of qzw) (qza (Sub.refl _) (Tr.of_same E) _ _ (qzi f (qzi S qqz)))⟩
noncomputable def tI(K:Qqq)(f:Sl->Store->Option (Src×Store)):TI:=λσ H R=>∃m st τ s st',Rel K m st H/\SlotOk K m H τ σ/\f τ st=some (s,st')/\∀m' H' Jq,Sub m m'->Tr H H'->Rel K m' st' H'->IsSrc K m' H' s Jq->R Jq H'
theorem tI.el{K:Qqq}{f:Sl->Store->Option (Src×Store)}{g:L2.St}{H:Hp}{Q:It->Hp->Prop}{P:Prop}(h:tI K f g H Q)(k:∀m st τ s st',Rel K m st H->SlotOk K m H τ g->f τ st=some (s,st')->(∀m' H' i,Sub m m'->Tr H H'->Rel K m' st' H'->IsSrc K m' H' s i->Q i H')->P):P:=by
 rcases h with⟨m,st,τ,d,st',a,b,c,e⟩
 exact k m st τ d st' a b c e
theorem _root_.L2.PI.imp{X:Cx}{a e:Qx}{t t':TI}(h:PI X a e t)(f:∀σ H R,t' σ H R->t σ H R):PI X a e t':=λpins s σ H Q I q=>h pins s σ H Q I (f σ H Q q)
def PostO(K:Qqq)(m:List Addr)(H:Hp)(o:Out)(st':Store)(Dn:Ends):Prop:=∀m' H',Sub m m'->Tr H H'->Rel K m' st' H'->match o with
 |.nx τ=>∀σ',SlotOk K m' H' τ σ'->Dn.nx σ' H'
 |.rt d=>∀v,IsD K m' H' d v->Dn.rt v H'
 |.bk τ=>∀σ',SlotOk K m' H' τ σ'->Dn.bk σ' H'
 |.ct τ=>∀σ',SlotOk K m' H' τ σ'->Dn.ct σ' H'
theorem PostO.mono{K:Qqq}{m a:List Addr}{H b:Hp}{o:Out}{st':Store}{Dn:Ends}(p:PostO K m H o st' Dn)(s:Sub m a)(t:Tr H b):PostO K a b o st' Dn:=λm' H' s' c r=>p m' H' (s.trans s') (t.trans c) r
noncomputable def tS(K:Qqq)(f:Sl->Store->Option (Out×Store)):TS:=λDn σ H=>∃m st τ o st',Rel K m st H/\SlotOk K m H τ σ/\f τ st=some (o,st')/\PostO K m H o st' Dn
theorem PostO.of{K:Qqq}{m:List Addr}{H:Hp}{d d':Out}{s s':Store}{Q:Ends}(q:PostO K m H d s Q)(e:some (d',s')=some (d,s)):PostO K m H d' s' Q:=by cases e; exact q
theorem tS.el{K:Qqq}{f:Sl->Store->Option (Out×Store)}{g:L2.St}{H:Hp}{i:Ends}{P:Prop}(h:tS K f i g H)(k:∀m st τ o st',Rel K m st H->SlotOk K m H τ g->f τ st=some (o,st')->PostO K m H o st' i->P):P:=by
 rcases h with⟨m,st,τ,d,st',a,b,c,e⟩
 exact k m st τ d st' a b c e
structure AllOk (fns:List Fn) (dl n:Nat):Prop where
 e:∀c X,Good fns dl c X->∀{j} e p,CkN j c e p->PE X p (tD X.K λτ st=>(M.rn fns dl n).ev τ st e)
 t:∀c X,Good fns dl c X->∀{j} e p,CkN j c e p->PT X p (tTs X.K λτ st=>(M.rn fns dl n).tst τ st e)
 w:∀c X,Good fns dl c X->∀{j} e op ps pos,CkN j c e (.BoolOp op ps pos)->PW X (.BoolOp op ps pos) (tTs X.K λτ st=>(M.rn fns dl n).tst τ st e)
 s:∀c X,Good fns dl c X->(∀x,X.fn x=true)->∀ss ps,CkSs c ss ps->PSs X ps (tS X.K λτ st=>(M.rn fns dl n).ex τ st ss)
theorem qbn(fns:List Fn)(a:Nat):AllOk fns a 0 where
 e:=λc X G j e p h pins s σ H Q I q=>by obtain⟨m,st,τ,d,st',_,_,z,_⟩:=q; cases z
 t:=λc X G j e p h pins s σ H Q I q=>by obtain⟨m,st,τ,d,st',_,_,z,_⟩:=q; cases z
 w:=λc X G j e f ps pos h b pins s σ H Q I q=>by obtain⟨m,st,τ,d,st',_,_,z,_⟩:=q; cases z
 s:=λc X G hf ss ps h pins s σ H Q I q=>by obtain⟨m,st,τ,d,st',_,_,z,_⟩:=q; cases z
section
variable {fns:List Fn}{dl n j:Nat}{c:Ctx}{X:Cx}
theorem qzo(A:AllOk fns dl n)(G:Good fns dl c X):∀{es:List E}{ps:List Qx},CkL (CkN j c) es ps->PA X ps (tL X.K λτ st=>M.evs ((M.rn fns dl n).ev τ) es st)
 |_,_,.nil=>pa_nil.imp λ_ _ _ h=>tL_nil h
 |_,_,.cons h t=>(qz6 (A.e c X G _ _ h) (qzo A G t) (h.star _ _)).imp λ_ _ _ q=>
   qig q
theorem CkN.plain{j:Nat}{c:Ctx}{e:E}{p:Qx}(h:CkN j c e p):qve e=true:=by
 cases j with
 |zero=>cases h
 |succ j=>
  cases h with
  |of _ a=>exact a
  |gc=>rfl
theorem qce{e:E}(h:qve e=true)(r:R)(τ:Sl)(st:Store):M.src r τ st e=(r.ev τ st e).bind λp=>match p.1 with
   |.tup ds=>some (.tup ds,p.2)
   |d=>(M.seqAt p.2 d).map λ_=>(.lst d,p.2):=by
 cases e with
 |rng1 _=>cases h
 |zip _ _=>cases h
 |_=>rfl
theorem qw4(A:AllOk fns dl n)(G:Good fns dl c X){it:E}{Q o:Qx}(h:CkI (CkN j c) c Q it o):PI X Q o (tI X.K λτ st=>M.src (M.rn fns dl n) τ st it):=by
 have seq:∀{e p},CkN j c e p->(∀τ st,M.src (M.rn fns dl n) τ st e=((M.rn fns dl n).ev τ st e).bind λp=>match p.1 with
   |.tup ds=>some (.tup ds,p.2)
   |d=>(M.seqAt p.2 d).map λ_=>(.lst d,p.2))->PI X Q p (tI X.K λτ st=>M.src (M.rn fns dl n) τ st e):=by
  intro e p P z;refine(pi_seq (A.e c X G e p P)).imp λσ H R q=>q.el λm st τ s st' N K f q=>?_;have f:=(z τ st).symm.trans f;refine qzk f λd S I f=>rsI N K I λx m1 H1 b1 r g t=>?_
  cases d with
  |tup ds=>
   cases f;obtain⟨a,xs,rfl,u,w⟩:=t.tup;exact⟨a,rfl,.inr ⟨⟨xs,u⟩,q m1 H1 _ b1 r g ⟨a,xs,rfl,u,w⟩⟩⟩
  |loc l=>
   refine qzc f λds F C=>?_;cases C;obtain⟨a,rfl,i,xs,u⟩:=qv2 t g F;exact⟨a,rfl,.inl ⟨⟨xs,u⟩,q m1 H1 _ b1 r g ⟨a,i,rfl⟩⟩⟩
  |lst l=>
   refine qzc f λds F C=>?_;cases C;obtain⟨a,rfl,i,xs,u⟩:=qv2 t g F;exact⟨a,rfl,.inl ⟨⟨xs,u⟩,q m1 H1 _ b1 r g ⟨a,i,rfl⟩⟩⟩
  |_=>exact nn f
 cases h with
 |@rng1 _ a pa p0 pos T i=>
  refine(qc2 (G.gl T) (G.no rfl) (qzo A G (.cons i .nil)) (by rw[i.star]; rfl)).imp λσ H R q=>?_;refine q.el λm st τ s st' N K f q=>qzk f λd S I f=>?_
  cases d with
  |int k=>
   dsimp only at f
   split at f
   ·exact nn f
   ·rename_i v;cases f;unfold M.big at v;simp only[Qxj,decide_eq_true_eq]at v;refine rsI (d:=[.int k]) (st':=st') N K ?_ λxs m1 H1 b1 r g t=>?_
    ·show(((M.rn fns dl n).ev τ st a).bind λp=>(some (([]:List D),p.2)).bind λq=>some (p.1::q.1,q.2))=_;rw[I]; rfl
    ·obtain⟨x,rfl,w⟩:=t.one;cases w.int;exact⟨k,rfl,by omega,by omega,q m1 H1 _ b1 r g rfl⟩
  |_=>exact nn f
 |@zip ts k tp a b pa pb p0 pos T i v=>
  refine(pi_zip (G.gl T) (G.no rfl) (qzo A G (.cons i (.cons v .nil))) (by rw[i.star,v.star]; rfl) (by rw[v.star]; rfl)).imp λσ H R q=>?_;obtain⟨m,st,τ,s,st',N,K,f,q⟩:=q;refine qzk f λd S I f=>qzk f λd' s2 F f=>qzj f λds C f=>qzc f λes e5 e6=>?_;cases e6;refine rsI (d:=[d,d']) (st':=s2) N K ?_ λxs m1 H1 b1 r g t=>?_
  ·show(((M.rn fns dl n).ev τ st a).bind λp=>(((M.rn fns dl n).ev τ p.2 b).bind λp=>(some (([]:List D),p.2)).bind λq=>some (p.1::q.1,q.2)).bind λq=>some (p.1::q.1,q.2))=_;rw[I];show(((M.rn fns dl n).ev τ S b).bind λp=>(some (([]:List D),p.2)).bind λq=>some (p.1::q.1,q.2)).bind _=_;rw[F]; rfl
  ·obtain⟨x,y,rfl,w,iy⟩:=t.two;obtain⟨V,a1,rfl,h1,w1⟩:=qav w g C;obtain⟨U,W,rfl,h2,w2⟩:=qav iy g e5;exact⟨V,U,a1,W,rfl,w1,w2,q m1 H1 _ b1 r g ⟨V,U,a1,W,rfl,h1,h2⟩⟩
 |@seq _ e p P=>
  exact seq P (qce (CkN.plain P) _)
theorem po_ok(A:AllOk fns dl n)(G:Good fns dl c X){o:Option E}{p:Option Qx}(h:CkO (CkN j c) o p):PO X p (λσ H Q=>∃m st τ l st',Rel X.K m st H/\SlotOk X.K m H τ σ/\M.part (M.rn fns dl n) τ st o=some (l,st')/\∀m' H',Sub m m'->Tr H H'->Rel X.K m' st' H'->Q l H'):=by
 cases h with
 |none=>
  intro pins s σ H Q I q;obtain⟨m,st,τ,l,st',a,g,e,k⟩:=q;cases e;exact qlv pins s σ H Q I (k m H (Sub.refl m) (Tr.refl H) a)
 |@some e p h=>
  intro pins s σ H Q I q;obtain⟨m,st,τ,l,st',a,g,w,k⟩:=q;refine qzk w λd y u f=>?_
  cases d with
  |int i=>
   cases f;exact qlk (A.e c X G e p h) pins s σ H Q I (rsI a g u λv m' H' b t x r=>⟨i,r.int,k m' H' b t x⟩)
  |_=>exact nn f
noncomputable def gIs:List Nat->TGs
 |[]=>gNil
 |i::is=>gCons (qw7 i) (gIs is)
noncomputable def gT(K:Qqq):T->TG
 |.var i=>qw7 i
 |.tup is=>gTup K is.length (gIs is)
theorem qhr{K:Qqq}{m:List Addr}{H:Hp}{Q:L2.St->Hp->Prop}:∀{is:List Nat}{ds:List D}{g:List V}{τ a:Sl}{f:L2.St},IsDs K m H ds g->SlotOk K m H τ f->M.setIs is ds τ=some a->(∀b,SlotOk K m H a b->Q b H)->gIs is g f H Q
 |[],[],g,τ,a,f,h,S0,e,k=>by
  cases e;exact⟨h.nil,k f S0⟩
 |i::is,d::ds,g,τ,a,f,h,S0,e,k=>by
  obtain⟨x,r,rfl,q,t⟩:=h.cons;unfold M.setIs at e
  split at e
  ·exact⟨x,r,rfl,qhr t (S0.put q) e k⟩
  ·exact nn e
 |[],_::_,_,_,_,_,_,_,e,_=>by cases e
 |_::_,[],_,_,_,_,_,_,e,_=>by cases e
theorem qvy:∀{is:List Nat}{ds:List D}{τ a:Sl},M.setIs is ds τ=some a->is.length=ds.length
 |[],[],_,_,_=>rfl
 |i::is,d::ds,τ,a,e=>by
  unfold M.setIs at e
  split at e
  ·rw[Qqh,Qqh,qvy e]
  ·exact nn e
 |[],_::_,_,_,e=>by cases e
 |_::_,[],_,_,e=>by cases e
theorem qgp{K:Qqq}{m:List Addr}{H:Hp}{Q:L2.St->Hp->Prop}{t:T}{d:D}{v:V}{τ τ':Sl}{f:L2.St}(h:IsD K m H d v)(l:SlotOk K m H τ f)(e:M.setT t d τ=some τ')(k:∀b,SlotOk K m H τ' b->Q b H):gT K t v f H Q:=by
 cases t with
 |var i=>
  have e:(if i<τ.length then some (τ.set i (some d)) else none)=some τ':=e
  split at e
  ·cases e;exact k _ (l.put h)
  ·exact nn e
 |tup p=>
  cases d with
  |tup ds=>
   obtain⟨a,xs,rfl,o,g⟩:=h.tup;exact⟨a,xs,rfl,o,by rw[<- g.length,qvy e],qhr g l e k⟩
  |_=>exact nn e
theorem qx8(G:Good fns dl c X){i:Nat}{x:Str}(h:c.N[i]?=some x):X.N[i]?=some x:=by rw[G.N]; exact h
theorem qe5:Qb ("any" : Str)=some (.builtin "any"):=by decide +kernel
theorem qe6:Qb ("all" : Str)=some (.builtin "all"):=by decide +kernel
theorem qwf:Qb ("int" : Str)=some (.type "int"):=by decide +kernel
theorem qbm:Qb ("bool" : Str)=some (.type "bool"):=by decide +kernel
theorem qe1:Qb ("str" : Str)=some (.type "str"):=by decide +kernel
theorem qwe:Qb ("isinstance" : Str)=some (.builtin "isinstance"):=by decide +kernel
theorem qwc:Qb ("sorted" : Str)=some (.builtin "sorted"):=by decide +kernel
theorem qe2:Qb ("set" : Str)=some (.type "set"):=by decide +kernel
theorem qwd:Qb ("len" : Str)=some (.builtin "len"):=by decide +kernel
theorem qe3:Qb ("min" : Str)=some (.builtin "min"):=by decide +kernel
theorem qe4:Qb ("max" : Str)=some (.builtin "max"):=by decide +kernel
theorem qkg:Qb ("list" : Str)=some (.type "list"):=by decide +kernel
theorem qjs:Qb ("tuple" : Str)=some (.type "tuple"):=by decide +kernel
theorem ty_ok(G:Good fns dl c X){t:M.Ty}{pos:Pos}(b:t≠.non)(a:c.sc.names.lookup (Str.ofString t.name)=some .globalImplicit):PE X (.Name (Str.ofString t.name) pos) (tC (.ty t.name)):=by
 cases t with
 |non=>exact absurd rfl b
 |bl=>exact qjy (G.gl a) (G.no rfl) qbm rfl (by decide) (by decide)
 |int=>exact qjy (G.gl a) (G.no rfl) qwf rfl (by decide) (by decide)
 |str=>exact qjy (G.gl a) (G.no rfl) qe1 rfl (by decide) (by decide)
 |tup=>exact qjy (G.gl a) (G.no rfl) qjs rfl (by decide) (by decide)
 |lst=>exact qjy (G.gl a) (G.no rfl) qkg rfl (by decide) (by decide)
noncomputable def tCs:List V->TA
 |[]=>tNil
 |v::vs=>qih (tC v) (tCs vs)
theorem qcw:∀(vs:List V) (a:L2.St) (H:Hp) (Q:List V->Hp->Prop),Q vs H->tCs vs a H Q
 |[],_,_,_,h=>h
 |v::vs,a,H,Q,h=>qcw vs a H (λxs H2=>Q (v::xs) H2) h
theorem qg3(G:Good fns dl c X):∀{a:List M.Ty}{ps:List Qx},CkTys c a ps->PA X ps (tCs (a.map λt=>V.ty t.name))/\∀t∈a,t≠.non
 |_,_,.nil=>⟨pa_nil,λ_ h=>nomatch h⟩
 |_,_,.cons b e h=>by
  obtain⟨h1,h2⟩:=qg3 G h;refine⟨qz6 (ty_ok G b e) h1 rfl,λt d=>?_⟩;rcases Qqb.mp d with z|z
  ·rw[z]; exact b
  ·exact h2 t z
end
end MS
end
section
namespace MS
open PySem PySem.Spec PyProof.Rows L2
open M (D Cell Store Sl E S T Src Fn Out R)
section
variable {fns:List Fn}{dl n j:Nat}{c:Ctx}{X:Cx}
theorem qh9:UnR X (unaryOp .USub) (rU1 X.K λst d=>match d with|.int i=>some (.int (-i),st)|_=>none):=by
 intro pins s σ H x v Q I b h;refine h.el λm st a d st' g f e q=>?_
 cases a with
 |int i=>
  have q:=q.of e;exact un_neg pins s σ H x v Q I b ⟨i,f.int,q.here g (mkInt _)⟩
 |_=>exact nn e
theorem qkd(G:Good fns dl c X){N:List Str}{sr:List (Option Nat)}{scope:Scope}{e:Qx}{t:T}(h:CpOk c scope sr N e t):CompScope X N sr scope:=
 ⟨h.kind,h.own,λy f hf=>by
  have:=h.free y f hf;show X.env.scope.names.lookup y.1=_\/X.env.scope.names.lookup y.1=_;rw[G.sc]; exact this,h.loc,h.len,λj i q=>by
  obtain⟨x,a,b,d⟩:=h.src j i q
  exact⟨x,a,qx8 G b,d⟩⟩
noncomputable def tOpt(K:Qqq)(r:R):Option E->TT
 |none=>λ_ H Q=>Q true H
 |some c=>tTs K λτ st=>r.tst τ st c
theorem qg5(A:AllOk fns dl n)(G:Good fns dl c X){q:Option E}{a:Option Qx}(h:CkO (CkN j c) q a):qbp X a.toList (tOpt X.K (M.rn fns dl n) q):=by
 cases h with
 |none=>exact qfh
 |some h=>exact qfg (A.t _ _ G _ _ h)
theorem qgh{K:Qqq}{m:List Addr}{H:Hp}{τ:Sl}{f:L2.St}(sr:List (Option Nat))(h:SlotOk K m H τ f):SlotOk K m H (M.inner sr τ) (qqu sr f):=by
 refine⟨by unfold M.inner qqu; rw[Qqj,Qqj],λj d e=>?_⟩;unfold M.inner at e;rw[Qqk]at e;unfold qqu;rw[Qqk]
 cases q:sr[j]? with
 |none=>rw[q]at e; cases e
 |some o=>
  rw[q]at e
  cases o with
  |none=>cases e
  |some i=>
   have hi:τ[i]?=some (some d):=by
    cases z:τ[i]? with
    |none=>simp[z]at e
    |some w=>
     cases w with
     |none=>simp[z]at e
     |some w=>simpa[z] using e
   obtain⟨v,a,b⟩:=h.at_ i d hi;refine⟨v,?_,b⟩;simp[a]
theorem comp_W{K:Qqq}{r:R}{t:T}{elt:E}{q:Option E}{Q:VK}{s:Src}{st1:Store}{G:List Addr}{I:Hp}{Jq:It}{τ1:Sl}{N:L2.St}{k0:Nat}{u:List D×Store}
  (R1:Rel K G st1 I) (hJ:IsSrc K G I s Jq) (S1:SlotOk K G I τ1 N) (e2:M.loopC s (M.turnC r t q elt) k0 0 [] τ1 st1=some u)
  (a2:∀l H' a,Sub G l->Tr I H'->Rel K l u.2 H'->IsDs K l H' u.1 a->∀P,H' P=none->Q (.ref P) (upd H' P (.lst a))) :
  ∃W:Nat->Nat->List V->L2.St->Hp->Prop,(∃k,W 0 k [] N I)/\
 ∀i k a f H',W i k a f H'->(Jq.stop i H'/\a.length<=sizeLine/\∀p,H' p=none->Q (.ref p) (upd H' p (.lst a)))\/(Jq.go i H'/\a.length<sizeLine/\∀x H2,Jq.yld i H' x H2->gT K t x f H2 λm H3=>tOpt K r q m H3 λb H4=>
  if b=true then tD K (λτ st=>r.ev τ st elt) m H4 λv H5=>∃S,S<k/\W (i+1) S (a++[v]) m H5 else ∃S,S<k/\W (i+1) S a m H4):=by
 refine⟨λi' k a f H'=>∃l C A d,Sub G l/\Tr I H'/\Rel K l C H'/\SlotOk K l H' A f/\IsDs K l H' d a/\M.loopC s (M.turnC r t q elt) k i' d A C=some u,
  ⟨_,G,st1,τ1,[],Sub.refl _,Tr.refl _,R1,S1,qqz,e2⟩,?_⟩
 rintro j k a f H' ⟨l,C,A,d,b2,w,R2,S2,F,e⟩
 cases k with
 |zero=>exact nn e
 |succ k=>
  have e:=e;refine qzj e λo e5 e=>?_;have l1:=F.length;have l2:=qqw
  cases o with
  |none=>
   dsimp only at e
   split at e
   ·exact nn e
   ·rename_i hl;cases e;refine .inl ⟨(hJ.mono b2 w).done R2 e5,by lia,λP hp=>?_⟩;exact a2 l H' a b2 w R2 F P hp
  |some d'=>
   dsimp only at e
   split at e
   ·exact nn e
   ·rename_i hl;obtain⟨a1,hy⟩:=(hJ.mono b2 w).next R2 e5;refine .inr ⟨a1,by lia,λx H2 a0=>?_⟩;obtain⟨U,ix⟩:=hy x H2 a0;have w:=w.trans (Tr.of_same U);have R2:=R2.same U;have S2:=S2.mono (Sub.refl _) (Tr.of_same U);have F:=qza (Sub.refl _) (Tr.of_same U) _ _ F;refine qzj e λz h e=>?_;unfold M.turnC at h;refine qzj h λa4 e7 h=>qgp ix S2 e7 λa5 H=>?_
    ·cases q with
     |none=>
      unfold tOpt;dsimp only at h ⊢;refine qzc h λy e8 e9=>?_;cases e9;rw[Z3 rfl];refine rsI R2 H e8 λv m3 H3 b3 g R3 i3=>⟨k,Qzk k,m3,y.2,_,d++[y.1],b2.trans b3,w.trans g,R3,H.mono b3 g,(qza b3 g _ _ F).append (qzi i3 qqz),e⟩
     |some cq=>
      unfold tOpt;refine qzj h λbb e8 h=>rsI R2 H e8 λm3 H3 b3 g R3=>?_
      cases hb:bb.1 with
      |true=>
       rw[hb,Z3 rfl]at h;rw[Z3 rfl];refine qzc h λy e9 a3=>?_;cases a3;refine rsI R3 (H.mono b3 g) e9 λv m4 H4 b4 t4 R4 i4=>⟨k,Qzk k,m4,y.2,_,d++[y.1],b2.trans (b3.trans b4),w.trans (g.trans t4),R4,H.mono (b3.trans b4) (g.trans t4),(qza (b3.trans b4) (g.trans t4) _ _ F).append (qzi i4 qqz),e⟩
      |false=>
       rw[hb,Z2 Qqg]at h;cases h;rw[Z2 Qqg];exact⟨k,Qzk k,m3,bb.2,_,d,b2.trans b3,w.trans g,R3,H.mono b3 g,qza b3 g _ _ F,e⟩
theorem qcj{K:Qqq}{r:R}{t:T}{it elt:E}{q:Option E}{sr:List (Option Nat)}{b:L2.St}{H:Hp}{Q:VK}
  (h:tD K (λτ st=>M.stepEv r τ st (.comp t it q elt sr)) b H Q) :
  qii sr (tI K λτ st=>M.src r τ st it) (gT K t) (tOpt K r q) (tD K λτ st=>r.ev τ st elt) b H Q:=by
 refine h.el λm st τ d st' C i e a=>?_;have e:=e;refine qzj e λp y e=>qzc e λl x w=>rsI C i y λm1 H1 D b1 f A v=>comp_W A v (qgh sr (i.mono b1 f)) x λs H' z b2 k R2 u o g=>?_;cases w;exact a _ (s++[o]) _ (b1.trans (b2.trans (Sub.app _ _))) (f.trans (k.trans (Tr.of_same (qzy g)))) (R2.new g u) R2.newLoc
theorem qj8(G:Good fns dl c X):∀{is:List Nat}{es:List Qx},CkTs c is es->(∀i∈is,∀x,c.N[i]?=some x->X.fn x=true\/c.sc.names.lookup x=some .local)->PGs X es (gIs is)/\(Q2 es X.env).length=is.length/\(Q2 es X.env).findIdx? (·.1)=none
 |_,_,.nil,_=>⟨qlb,rfl,rfl⟩
 |_,_,.cons (i:=i) (x:=x) (pos:=pos) (is:=is) (es:=es) a b h,hf=>by
  obtain⟨h1,h2,f⟩:=qj8 G h λj d=>hf j (Qqf _ d);have e:PG X (.Name x pos) (qw7 i):=qc3 (by rw[G.N]; exact G.nd) (qx8 G a) (by rw[G.sc]; exact b) (by rw[G.sc]; exact hf i Qql x a);refine⟨qf7 e h1 rfl,?_,?_⟩
  ·show(Q2 es X.env).length+1=is.length+1;rw[h2]
  ·show List.findIdx? (·.1) ((false,assign (.Name x pos) X.env)::Q2 es X.env)=none;rw[List.findIdx?_cons,f]
   rfl
theorem qqn(G:Good fns dl c X){t:T}{a:Qx}(h:CkT c t a)(b:∀i∈t.slots,∀x,c.N[i]?=some x->X.fn x=true\/c.sc.names.lookup x=some .local):PG X a (gT X.K t):=by
 cases h with
 |@var i x pos d e=>exact qc3 (by rw[G.N]; exact G.nd) (qx8 G d) (by rw[G.sc]; exact e) (by rw[G.sc]; exact b i (by simp[T.slots]) x d)
 |@tup g es k pos h=>
  obtain⟨h1,h2,f⟩:=qj8 G h b;exact pg_tup G.calm h1 h2 f
noncomputable def qij(r:R)(K:Qqq):List E->List (TE×TE)
 |k::v::es=>(tD K λτ st=>r.ev τ st k,tD K λτ st=>r.ev τ st v)::qij r K es
 |_=>[]
noncomputable def twos:List V->List (V×V)
 |x::y::r=>(x,y)::twos r
 |_=>[]
theorem qvi(A:AllOk fns dl n)(G:Good fns dl c X){pos:Pos}:∀{es:List E}{a:List (Option Qx)}{vs:List Qx},CkP (CkN j c) es a vs->PPs X pos a vs (qij (M.rn fns dl n) X.K es)/\a.all (·.isSome)=true/\a.length=vs.length
 |_,_,_,.nil=>⟨qlj,rfl,rfl⟩
 |_,_,_,.cons d b t=>by
  obtain⟨h1,h2,e⟩:=qvi A G t;refine⟨qf5 (A.e c X G _ _ d) (A.e c X G _ _ b) h1,?_,?_⟩
  ·rw[Qzo,h2]; rfl
  ·rw[Qqh,Qqh,e]
theorem qvh{r:R}{K:Qqq}:∀{es:List E}{k:List (Option Qx)}{vs:List Qx}{c:Ctx}{m:List Addr}{st st':Store}{H:Hp}{τ:Sl}{b:L2.St}{ds:List D}{Q:List (V×V)->Hp->Prop},CkP (CkN j c) es k vs->Rel K m st H->SlotOk K m H τ b->M.evs (r.ev τ) es st=some (ds,st')->
  (∀xs m' H',Sub m m'->Tr H H'->Rel K m' st' H'->IsDs K m' H' ds xs->Q (twos xs) H')->qyf (qij r K es) b H Q
 |_,_,_,c,m,st,st',H,τ,b,ds,Q,.nil,h,S0,e,q=>by
  cases e;exact q [] m H (Sub.refl m) (Tr.refl H) h qqz
 |_,_,_,c,m,st,st',H,τ,b,ds,Q,.cons S P t,h,S0,e,q=>by
  have e:=e;refine qzk e λU I z e=>qzj e λw a e=>qzk a λT G v a=>qzj a λu s a=>?_;cases a;cases e;exact rsI h S0 z λx m1 H1 b1 g C p=>rsI C (S0.mono b1 g) v λy N H2 b2 f R2 o=>qvh t R2 (S0.mono (b1.trans b2) (g.trans f)) s λxs i F b3 d A l=>q (x::y::xs) i F (b1.trans (b2.trans b3)) (g.trans (f.trans d)) A (qzi (qzv (b2.trans b3) (f.trans d) _ _ p) (qzi (qzv b3 d _ _ o) l))
theorem qy0{K:Qqq}{m:List Addr}{H:Hp}:∀{ds:List D}{a:List V}{kvs:List (D×D)},IsDs K m H ds a->M.pairUp ds=some kvs->∃ys:List (Key×V),IsKV K m H kvs ys/\twos a=ys.map λg=>(kV g.1,g.2)
 |[],a,kvs,f,e=>by
  cases e;rw[f.nil];exact⟨[],rfl,rfl⟩
 |[d],a,kvs,f,e=>by cases e
 |d::d'::ds,a,kvs,f,e=>by
  have e:(if M.isKey d then(M.pairUp ds).map ((d,d')::·) else none)=some kvs:=e
  split at e
  ·rename_i r;refine qzc e λv t s=>?_;subst s;obtain⟨x,u,rfl,p,o⟩:=f.cons;obtain⟨y,h,rfl,l,i⟩:=o.cons;obtain⟨k,b⟩:=qqt r;have q:=ql9 b p;subst q;obtain⟨ys,h1,h2⟩:=qy0 i t;refine⟨(k,y)::ys,⟨k,y,ys,rfl,b,l,h1⟩,?_⟩;show(kV k,y)::twos h=_;rw[h2]
   rfl
  ·exact nn e
theorem qki{K:Qqq}{r:R}{a:E}{k:M.Mt}{es:List E}{o:L2.St}{H:Hp}{Q:VK}(h:tD K (λτ st=>M.stepEv r τ st (.meth a k es)) o H Q):
  tBM K "list" (λx xs H Q=>∃m st a ds d st',Rel K m st H/\IsD K m H a x/\IsDs K m H ds xs/\M.mfun st k a ds=some (d,st')/\Post K m H d st' Q) (tD K λτ st=>r.ev τ st a) (tL K λτ st=>M.evs (r.ev τ) es st) o H Q:=by
 refine h.el λm st τ d st' I u b e=>qzk b λi y G b=>?_
 split at b
 ·rename_i f;refine qzj b λq F b=>rsI I u G λv m1 H1 b1 s w t=>⟨?_,rsI w (u.mono b1 s) F λxs z H2 b2 p R2 A=>⟨z,q.2,i,q.1,d,st',R2,qzv b2 p _ _ t,A,b,e.mono (b1.trans b2) (s.trans p)⟩⟩
  have C:∃ds,M.seqAt y i=some ds:=by
   cases i with
   |loc l=>exact Qz4.mp ((Bool.true_and _).symm.trans f)
   |lst l=>exact Qz4.mp ((Bool.true_and _).symm.trans f)
   |_=>cases f
  obtain⟨ds,g⟩:=C;obtain⟨N,xs,_,rfl,D,_⟩:=w.seq g t;exact .inl ⟨rfl,xs,D⟩
 ·exact nn b
theorem e_ok(A:AllOk fns dl n)(G':Good fns dl c X){e:E}{p:Qx}(h:CkN j c e p):PE X p (tD X.K λτ st=>M.stepEv (M.rn fns dl n) τ st e):=by
 have G:=G';have hu:=G'.room.units
 cases j with
 |zero=>cases h
 |succ j=>
 cases h with
 |gc W hq hp hg I=>exact(pe_gc (A.e (j:=j+1) c X G _ _ (.of W hq I))).imp λ_ _ _ h=>h
 |of W hq h=>
 clear W hq
 cases h with
 |nm h=>
  cases h with
  |@var i x hN hv hd c4=>
  refine(pe_var (qx8 G hN) (by rw[G.sc]; exact hv) hd c4).imp λσ H Q h=>?_;refine h.el λm st τ d st' K R e q=>?_;simp only[M.stepEv]at e
  split at e
  ·rename_i d' c3;cases e;obtain⟨v,a,b⟩:=R.at_ i d c3;exact⟨v,a,q.here K b⟩
  ·exact nn e
  |@glo x d hg hm hd=>
  obtain⟨u,v,h1,h2,h3⟩:=G.mo.glo _ _ hm;exact(qwu (G.gl hg) h1 h2 hd).imp λσ H Q h=>h.el λm st τ d st' K R e q=>by cases e; exact q.here K (h3 m H)
 |int=>exact pe_int.imp λσ H Q h=>h.el λm st τ d st' K R e q=>by cases e; exact q.here K (mkInt _)
 |bl=>exact pe_bl.imp λσ H Q h=>h.el λm st τ d st' K R e q=>by cases e; exact q.here K (mkBl _)
 |non=>exact pe_non.imp λσ H Q h=>h.el λm st τ d st' K R e q=>by cases e; exact q.here K qku
 |str=>exact pe_str.imp λσ H Q h=>h.el λm st τ d st' K R e q=>by cases e; exact q.here K (mkStr _)
 |@bin op a b U pb pos I P=>
  exact(pe_op (qlt op) (A.e c X G a U I) (A.e c X G b pb P)).imp λσ H Q h=>qck h
 |@lenset a U p0 p1 c8 pos hg W I=>
  refine(qz2 qen (G.gl hg) (G.no rfl) qwd (qz6 (qq9 (qeg G.room.hd G.room.units) (G.gl W) (G.no rfl) qe2 (qz6 (A.e c X G a U I) pa_nil (I.star _ _)) (by decide) (by decide) (I.star _ _) rfl) pa_nil rfl) (by decide) (by decide) rfl rfl).imp λσ H Q h=>?_;refine h.el λm st τ d st' K R e g=>qzk e λd1 s1 e1 e=>qzc e λd2 e2 e3=>?_;cases e3;refine rsI K R e1 λx m1 H1 b1 S T ix=>?_
  cases d1 with
  |tup ds=>
   obtain⟨ks,k1,k2⟩:=Option.bind_eq_some_iff.mp (e2)
   split at k2
   ·rename_i c6;cases k2;obtain⟨pt,ys,rfl,hq,iy⟩:=ix.tup;refine⟨pt,ys,ks,rfl,hq,qdm iy k1,by rw[<- iy.length]; exact c6,λl hl=>?_⟩;refine⟨l,_,rfl,qzw,?_⟩;have sm:=qzy (o:=setO l (ST.distinct ks).length) hl;exact g _ m1 _ b1 (S.trans (Tr.of_same sm)) (T.same sm) (mkInt _)
   ·exact nn k2
  |_=>exact nn e2
 |@neg a U pos I=>
  exact(pe_un qh9 (A.e c X G a U I)).imp λσ H Q h=>tD_un h
 |@not a U pos I=>
  refine(pe_not (A.e c X G a U I)).imp λσ H Q h=>h.el λm st τ d st' K R e q=>qzk e λd1 s1 e1 e=>rsI K R e1 λv m1 H1 b1 S T i1=>?_
  cases d1 with
  |bl k=>
   have q:=q.of e;exact⟨k,i1.bl,q _ m1 H1 b1 S T (mkBl _)⟩
  |_=>exact nn e
 |@cmp op a b U pb pos I P=>
  exact(qli (qxb hu op) (A.e c X G a U I) (A.e c X G b pb P) (qa7 P.sh _)).imp λσ H Q h=>qck h
 |@cmp2 op b5 a b d U pb pd pos I P hd=>
  refine(qgk (qxb hu op) (qxb hu b5) (A.e c X G a U I) (A.e c X G b pb P) (A.e c X G d pd hd) (qa7 hd.sh _)).imp λσ H Q h=>h.el λm st τ dd st' K R e q=>qzk e λd1 s1 e1 e=>qzk e λd2 s2 e2 e=>qzj e λk e3 e=>rsI K R e1 λx m1 H1 b1 S T i1=>rsI T (R.mono b1 S) e2 λy m2 H2 b2 t2 R2 i2=>
   ⟨m2,s2,d1,d2,.bl k,s2,R2,qzv b2 t2 _ _ i1,i2,by show Option.map _ (M.cmpD s2 op d1 d2)=_; rw[e3]; rfl,λz m3 H3 b3 t3 R3 i3=>⟨k,i3.bl,?_⟩⟩
  cases k with
  |true=>
   rw[Z3 rfl]at e ⊢;exact qzk e λd3 s3 e4 e=>rsI R3 (R.mono (b1.trans (b2.trans b3)) (S.trans (t2.trans t3))) e4 λy' m4 H4 b4 t4 R4 i4=>
    ⟨m4,s3,d2,d3,dd,st',R4,qzv (b3.trans b4) (t3.trans t4) _ _ i2,i4,e,q.mono (b1.trans (b2.trans (b3.trans b4))) (S.trans (t2.trans (t3.trans t4)))⟩
  |false=>
   rw[Z2 Qqg]at e ⊢;have q:=q.of e;exact q _ m3 H3 (b1.trans (b2.trans b3)) (S.trans (t2.trans t3)) R3 (mkBl _)
 |@and a b U pb r pos I P=>
  have P:PE X (.BoolOp .And (pb::r) pos) (tD X.K λτ st=>(M.rn fns dl n).ev τ st b):=by
   cases r with
   |nil=>exact qhd (A.e c X G b pb P)
   |cons=>exact A.e c X G b _ P
  refine(pe_and (A.e c X G a U I) P).imp λσ H Q h=>h.el λm st τ d st' K R e q=>qzk e λd1 s1 e1 e=>rsI K R e1 λv m1 H1 b1 S T i1=>?_
  cases d1 with
  |bl k=>
   cases k with
   |true=>exact⟨true,i1.bl,rsI T (R.mono b1 S) e (q.mono b1 S)⟩
   |false=>cases e; exact⟨false,i1.bl,q _ m1 H1 b1 S T (mkBl _)⟩
  |_=>exact nn e
 |@or a b U pb r pos I P=>
  have P:PE X (.BoolOp .Or (pb::r) pos) (tD X.K λτ st=>(M.rn fns dl n).ev τ st b):=by
   cases r with
   |nil=>exact qhd (A.e c X G b pb P)
   |cons=>exact A.e c X G b _ P
  refine(pe_or (A.e c X G a U I) P).imp λσ H Q h=>h.el λm st τ d st' K R e q=>qzk e λd1 s1 e1 e=>rsI K R e1 λv m1 H1 b1 S T i1=>?_
  cases d1 with
  |bl k=>
   cases k with
   |false=>exact⟨false,i1.bl,rsI T (R.mono b1 S) e (q.mono b1 S)⟩
   |true=>cases e; exact⟨true,i1.bl,q _ m1 H1 b1 S T (mkBl _)⟩
  |_=>exact nn e
 |@tup es ps k pos W=>
  refine(qhc (qzo A G W)).imp λσ H Q h=>h.el λm st τ d st' K R e g=>qzj e λp e1 e=>?_
  split at e
  ·exact nn e
  ·rename_i hl;have g:=g.of e;refine rsI K R e1 λxs m1 H1 b1 S T ix=>?_;have l1:=ix.length;have l2:=qqw;refine⟨by lia,λpp hp=>?_⟩;have sm:=qzy (o:=.tup xs) hp;exact g _ m1 _ b1 (S.trans (Tr.of_same sm)) (T.same sm) (qxz (SqT.of qzw) (qza (Sub.refl _) (Tr.of_same sm) _ _ ix))
 |@lst es ps pos W=>
  refine(pe_lst (qzo A G W)).imp λσ H Q h=>h.el λm st τ d st' K R e g=>qzj e λp e1 e=>?_
  split at e
  ·exact nn e
  ·rename_i hl;have g:=g.of e;refine rsI K R e1 λxs m1 H1 b1 S T ix=>?_;have l1:=ix.length;have l2:=qqw;refine⟨by lia,λpp hp=>?_⟩;exact g _ (m1++[pp]) _ (b1.trans (Sub.app _ _)) (S.trans (Tr.of_same (qzy hp))) (T.new hp ix) T.newLoc
 |@idx a b U pb pos I P=>
  exact(pe_ix ix_D (A.e c X G a U I) (A.e c X G b pb P) (qcg P.sh)).imp λσ H Q h=>qck h
 |@call f x es p ps p0 pos hg hf hd hn W=>
  obtain⟨fa,fd,a0,hm,F,hk,P⟩:=G'.tab f x hf;have hp:Star p:=by cases W with|cons h _=>exact h.star
  have ht:(backTo pos (starEach ps X.env)).any (·.1)=false:=by cases W with|cons _ t=>exact qz7 t pos X.env
  refine(qc6 F (G.room.mono (by lia)) (G.gl hg) (hm.1 hn) hk P .nil qdz (qzo A G W) hd (hp _ _) ht).imp λσ H Q h=>?_;refine h.el λm st τ d st' K R e g=>qzj e λq e1 e=>rsI K R e1 λxs m1 H1 b1 S T ix=>?_;show spN X.K fns dl f (xs++[]) H1 Q E0;have e:=e;rw[M.runK_call]at e;rw[Qzi];exact⟨m1,q.2,q.1,d,st',T,ix,e,g.mono b1 S⟩
 |@bcall b es p ps p0 pos hg d5 W=>
  have hp:Star p:=by cases W with|cons h _=>exact h.star
  have ht:(backTo pos (starEach ps X.env)).any (·.1)=false:=by cases W with|cons _ t=>exact qz7 t pos X.env
  have hA:=qzo A G W
  cases b with
  |len=>exact(qz2 qeo (G.gl hg) (G.no rfl) qwd hA (by decide) (by decide) (hp _ _) ht).imp λσ H Q h=>qqd h
  |min=>exact(qz2 (qeh G.calm) (G.gl hg) (G.no rfl) qe3 hA (by decide) (by decide) (hp _ _) ht).imp λσ H Q h=>qqd h
  |max=>exact(qz2 (qel G.calm) (G.gl hg) (G.no rfl) qe4 hA (by decide) (by decide) (hp _ _) ht).imp λσ H Q h=>qqd h
  |tuple=>exact(qq9 qyw (G.gl hg) (G.no rfl) qjs hA (by decide) (by decide) (hp _ _) ht).imp λσ H Q h=>qqd h
  |list=>exact(qq9 (qbl G.room.hd) (G.gl hg) (G.no rfl) qkg hA (by decide) (by decide) (hp _ _) ht).imp λσ H Q h=>qqd h
  |any=>exact(qz2 (qet G.calm) (G.gl hg) (G.no rfl) qe5 hA (by decide) (by decide) (hp _ _) ht).imp λσ H Q h=>qqd h
  |all=>exact(qz2 (qeu G.calm) (G.gl hg) (G.no rfl) qe6 hA (by decide) (by decide) (hp _ _) ht).imp λσ H Q h=>qqd h
  |sorted=>exact(qz2 (qwy G.room.hd) (G.gl hg) (G.no rfl) qwc hA (by decide) (by decide) (hp _ _) ht).imp λσ H Q h=>qqd h
  |int=>exact(qq9 qes (G.gl hg) (G.no rfl) qwf hA (by decide) (by decide) (hp _ _) ht).imp λσ H Q h=>qqd h
 |@isi1 t a U p0 p1 pos hg ht c1 I=>
  refine(qz2 (qer t ht) (G.gl hg) (G.no rfl) qwe (qz6 (A.e c X G a U I) (qz6 (ty_ok G ht c1) pa_nil rfl) (I.star _ _)) (by decide) (by decide) (I.star _ _) rfl).imp λσ H Q h=>?_;refine h.el λm st τ d st' K R e g=>qzk e λd1 s1 e1 e=>qzc e λnm e2 e3=>?_;cases e3;refine rsI K R e1 λx m1 H1 b1 S T ix=>⟨m1,s1,d1,nm,x,rfl,T,ix,e2,g _ m1 H1 b1 S T ?_⟩
  have:([t].any λt=>M.tyIs t nm)=M.tyIs t nm:=by simp
  rw[this];exact mkBl _
 |@isiN ts a U p0 ps k p1 pos a6 hg ht I=>
  obtain⟨h1,h2⟩:=qg3 G ht;refine(qz2 (qep ts h2) (G.gl hg) (G.no rfl) qwe (qz6 (A.e c X G a U I) (qz6 (qhc h1) pa_nil rfl) (I.star _ _)) (by decide) (by decide) (I.star _ _) rfl).imp λσ H Q h=>?_;refine h.el λm st τ d st' K R e g=>qzk e λd1 s1 e1 e=>qzc e λnm e2 e3=>?_;cases e3;refine rsI K R e1 λx m1 H1 b1 S T ix=>qcw _ σ H1 _ ⟨?_,λpp hp=>?_⟩
  ·rw[Qqj];exact Qx5 (qcf a6)
  ·have sm:=qzy (o:=.tup (ts.map λt=>V.ty t.name)) hp;exact⟨m1,s1,d1,nm,x,pp,rfl,qzw,T.same sm,qzv (Sub.refl _) (Tr.of_same sm) _ _ ix,e2,g _ m1 _ b1 (S.trans (Tr.of_same sm)) (T.same sm) (mkBl _)⟩
 |@meth a k es U p ps apos cpos I W hn hl=>
  have hp:Star p:=by cases W with|cons h _=>exact h.star
  have ht:(backTo cpos (starEach ps X.env)).any (·.1)=false:=by cases W with|cons _ t=>exact qz7 t cpos X.env
  have few:((backTo cpos (starEach (p::ps) X.env)).all (λx=>!x.1)&&(backToKw cpos (keywordEach [] X.env)).all (λx=>x.1.isSome)&&decide ((p::ps).length+([]:List Zo).length+(if ([]:List Zo).isEmpty then 0 else 1)<30))=true:=by
   rw[List.all_eq_not_any_not];simp only[Bool.not_not,qz7 W cpos X.env];exact Z0 hn
  have P:=λx=>qkn I.sh x X.env (Qw U X.env)
  cases k with
  |append=>exact(qgw PySem.F.plainAttrs_list PySem.F.slot_list_append PySem.F.type_list_append qbw (A.e c X G a _ I) (qzo A G W) (P _) few hl (hp _ _) ht).imp λ_ _ _ h=>qki h
  |extend=>exact(qgw PySem.F.plainAttrs_list PySem.F.slot_list_extend PySem.F.type_list_extend qbv (A.e c X G a _ I) (qzo A G W) (P _) few hl (hp _ _) ht).imp λ_ _ _ h=>qki h
  |index=>exact(qgw PySem.F.plainAttrs_list PySem.F.slot_list_index PySem.F.type_list_index (qdw hu) (A.e c X G a _ I) (qzo A G W) (P _) few hl (hp _ _) ht).imp λ_ _ _ h=>qki h
  |insert=>exact(qgw PySem.F.plainAttrs_list PySem.F.slot_list_insert PySem.F.type_list_insert qbk (A.e c X G a _ I) (qzo A G W) (P _) few hl (hp _ _) ht).imp λ_ _ _ h=>qki h
 |@dic0 pos=>
  refine pe_dnewK.imp λσ H Q h=>h.el λm st τ d st' K R e g=>?_;have e0:M.wdicAt (st++[Cell.dic true []]) st.length=some []:=by simp[M.wdicAt]
  have e:(match M.wdicAt (st++[Cell.dic true []]) st.length with
   |some []=>(M.pairUp []).bind λkvs=>if kvs.length<=15 then some (D.loc st.length,(st++[Cell.dic true []]).set st.length (Cell.dic true (M.dall kvs))) else none
   |_=>none)=some (d,st'):=e
  rw[e0]at e;have e2:(st++[Cell.dic true []]).set st.length (.dic true [])=st++[.dic true []]:=by simp
  have e:some (D.loc st.length,(st++[Cell.dic true []]).set st.length (.dic true []))=some (d,st'):=e;rw[e2]at e;have g:=g.of e;intro pp hp;exact g _ (m++[pp]) _ (Sub.app _ _) (Tr.of_same (qzy hp)) (K.newD hp rfl) K.newLoc
 |@dic es k v ks vs pos hP c7=>
  obtain⟨h1,h2,h3⟩:=qvi A G hP;refine(qlf h1 h2 h3 (by simp) c7).imp λσ H Q h=>?_;refine h.el λm st τ d st' K R e g=>?_;have e:=e;refine qzj e λp e1 e=>?_
  split at e
  ·rename_i a9;refine qzj e λkvs e2 e=>?_
   split at e
   ·rename_i hl;have g:=g.of e;intro pp hp;have sm:=qzy (o:=.dK []) hp;refine qvh hP (K.newD (kvs:=[]) hp rfl) (R.mono (Sub.app _ _) (Tr.of_same sm)) e1 λxs m1 H1 b1 S T ix=>?_;obtain⟨ys,a8,b7⟩:=qy0 ix e2;have a1:=qzv b1 (Tr.refl H1) _ _ (K.newLoc);obtain⟨a',d4,c5,ea,hH,a7,b8⟩:=T.wdict a9 a1;cases ea;have b6:=a7;subst b6;have l1:=a8.length;refine⟨hH,ys,b7,by lia,?_⟩;exact g _ m1 _ ((Sub.app _ _).trans b1) ((Tr.of_same sm).trans (S.trans (Tr.putD hH))) (T.putD b8 c5 hH (a8.merge (rfl))) (qzv (Sub.refl _) (Tr.putD hH) _ _ a1)
   ·exact nn e
  ·exact nn e
 |@didx a b U pb pos I P=>exact qgx (by lia) (A.e c X G a U I) (A.e c X G b pb P) (qcg P.sh)
 |@din neg a b U pb pos I P=>exact qhe (qc9 (by lia) neg (A.e c X G a U I) (A.e c X G b pb P)) (qa7 P.sh _)
 |@gidx x ks ds b pb p0 pos hg hm hd P=>
  obtain⟨ad,h1,h2⟩:=G.mo.gds x ks ds hm;exact qgq (G.gl hg) h1 h2 hd (A.e c X G b pb P) (qcg P.sh)
 |@gin neg x ks ds b pb p0 pos hg hm hd P=>
  obtain⟨ad,h1,h2⟩:=G.mo.gds x ks ds hm;exact qhe (qc7 neg (G.gl hg) h1 h2 hd (A.e c X G b pb P)) (by cases neg<;>rfl)
 |@sli a lo hi U pl ph p2 pos I hl hh=>
  refine(qf8 sl_D (A.e c X G a U I) (po_ok A G hl) (po_ok A G hh)).imp λσ H Q h=>h.el λm st τ d st' K R e g=>?_;have e:=e;exact qzk e λd1 s1 e1 e=>qzj e λl e2 e=>qzj e λu e3 e=>rsI K R e1 λx m1 H1 b1 S T i1=>rsI T (R.mono b1 S) e2 λm2 H2 b2 t2 R2=>rsI R2 (R.mono (b1.trans b2) (S.trans t2)) e3 λm3 H3 b3 t3 R3=>
   ⟨m3,u.2,d1,d,st',R3,qzv (b2.trans b3) (t2.trans t3) _ _ i1,e,g.mono (b1.trans (b2.trans b3)) (S.trans (t2.trans t3))⟩
 |@comp t it q elt sr tg c9 pq a3 b0 pos N ok hi ht hq he=>
  have GI:=λ{C fp s H}=>G.inner (C:=C) (fp:=fp) (s:=s) (H:=H) ok.kind ok.nd;exact(qlh G.calm (qkd G ok) (qw4 A G hi) (λC fp s H=>qqn GI ht (qcq ok.tl)) (λC fp s H=>qg5 A GI hq) (λC fp s H=>A.e _ _ GI elt a3 he) (ok.fs X.env)).imp λσ H Q h=>qcj h
 |@dgt a b U pb apos cpos I P hl=>
  exact qlg (by lia) (A.e c X G a U I) (A.e c X G b pb P) ⟨qkn I.sh _ _ _,by rw[P.star]; rfl,hl,by rw[P.star]; rfl⟩
 |@attr C a f U pos I hc=>
  obtain⟨h1,h2⟩:=G.mo.ats C f hc;refine(pe_fld (A.e c X G a U I) (qkn I.sh _ _ _)).imp λσ H Q h=>h.el λm st τ d st' K R e g=>qzk e λd1 s1 e1 e=>qzj e λfs e2 e=>qzc e λd2 e3 e4=>?_;cases e4;refine rsI K R e1 λx m1 H1 b1 S T ix=>?_;obtain⟨l,p,dx,ys,rfl,_,rfl,hH,a2,_⟩:=T.inst e2 ix;rcases a2.get f with⟨z,_⟩|⟨d',v,z1,z2,iv⟩
  ·rw[z]at e3; cases e3
  ·rw[z1]at e3;cases e3;exact⟨p,C,dx,ys,v,rfl,hH,h1,h2,z2,g _ m1 H1 b1 S T iv⟩
 |@mcall C f m' x cn a es U ps apos pos I hf hm hc W hn c0=>
  obtain⟨fa,fd,a0,hl,F,hk,P⟩:=G'.tab f x hf;obtain⟨_,hC,_,_⟩:=G.mo.cls cn C hc;have hM:=hl.2 C m' hm;obtain⟨pl,ht⟩:=sh_mt I.sh W.sh hn c0 X.env;have a4:∀σ H Q,tD X.K (λτ st=>M.stepEv (M.rn fns dl n) τ st (.mcall C f m' a es)) σ H Q->qcx C m' (spN X.K fns dl f) [] E0 (tD X.K λτ st=>(M.rn fns dl n).ev τ st a) (tL X.K λτ st=>M.evs ((M.rn fns dl n).ev τ) es st) σ H Q:=by
   intro σ H Q h;refine h.el λm st τ d st' K R e g=>qzk e λd1 s1 e1 e=>qzj e λfs e2 e=>rsI K R e1 λv m1 H1 b1 S T ix=>?_;obtain⟨l,p,dx,ys,rfl,_,rfl,hH,a2,_⟩:=T.inst e2 ix
   split at e
   ·exact nn e
   ·rename_i a5;refine qzj e λq e3 e=>?_;rcases a2.get m' with⟨_,z⟩|⟨d',v,z1,_,_⟩
    ·refine⟨p,dx,ys,rfl,hH,z,rsI T (R.mono b1 S) e3 λxs m2 H2 b2 t2 R2 i2=>?_⟩;have e:=e;rw[M.runK_call]at e;show spN X.K fns dl f (.ref p::(xs++[])) H2 Q E0;rw[Qzi];exact⟨m2,q.2,_,d,st',R2,qzi (qzv b2 t2 _ _ ix) i2,e,g.mono (b1.trans b2) (S.trans t2)⟩
    ·rw[z1]at a5;exact absurd rfl a5
  have hr:Room (2*dl) X.A:=G.room.mono (by lia)
  cases W with
  |nil=>
   refine(qgz (A.e c X G a U I) hC hM F hr P .nil qdz ht).imp λσ H Q h=>?_
   ·obtain⟨m,st,τ,d1,s1,K,R,e1,k⟩:=a4 σ H Q h;refine rsI K R e1 λv m1 H1 b1 S T ix=>?_;obtain⟨p,dx,ys,rfl,hH,z,m2,s2,d0,ds,s3,R2,S2,e2,k2⟩:=k v m1 H1 b1 S T ix;cases e2;exact⟨p,dx,ys,rfl,hH,z,k2 [] m2 H1 (Sub.refl _) (Tr.refl _) R2 qqz⟩
  |cons h1 h2=>exact(qlc (A.e c X G a U I) hC hM F hr P .nil qdz (qzo A G (.cons h1 h2)) (h1.star _ _) (qz7 h2 pos X.env) ht).imp a4
 |@new C f x cn es p ps p0 pos hg hf hm hc hd W=>
  obtain⟨fa,fd,a0,hl,F,hk,P⟩:=G'.tab f x hf;obtain⟨h1,_,h3,h4⟩:=G.mo.cls cn C hc;have hM:=hl.2 C _ hm;have hp:Star p:=by cases W with|cons h _=>exact h.star
  have ht:(backTo pos (starEach ps X.env)).any (·.1)=false:=by cases W with|cons _ t=>exact qz7 t pos X.env
  refine(qld ⟨h3,hM.at_,hM.fn,h4⟩ F G.room (G.gl hg) h1 P .nil qdz (qzo A G W) hd (hp _ _) ht).imp λσ H Q h=>h.el λm st τ d st' K R e g=>qzj e λq e1 e=>qzj e λw e2 e=>rsI K R e1 λxs m1 H1 b1 S T ix x dx hx c2 b9=>?_;have e2:=e2;rw[M.runK_call]at e2;obtain⟨sm,R2⟩:=T.newI hx c2 b9;have lc:=T.newLoc (p:=x) (H':=upd (upd H1 dx (.own x)) x (.ins C dx []))
  split at e
  ·rename_i hn;have g:=g.of e;rw[Qzi];refine⟨m1++[x],_,_,w.1,w.2,R2,qzi lc (qza (Sub.app m1 [x]) (Tr.of_same sm) _ _ ix),e2,λv m2 H2 b2 t2 R3 iv=>?_⟩;have hw:w.1=.non:=by
    cases hq:w.1 with
    |non=>rfl
    |_=>rw[hq]at hn; cases hn
   rw[hw]at iv;exact⟨iv.non,g _ m2 H2 (b1.trans ((Sub.app m1 [x]).trans b2)) (S.trans ((Tr.of_same sm).trans t2)) R3 (qzv b2 t2 _ _ lc)⟩
  ·exact nn e
end
end MS
end
section
namespace MS
open PySem PySem.Spec PyProof.Rows L2
open M (D Cell Store Sl E S T Src Fn Out R)
section
variable {fns:List Fn}{dl n j:Nat}{c:Ctx}{X:Cx}
theorem tt_val{K:Qqq}{r:R}{e:E}{b:L2.St}{H:Hp}{Q:Bool->Hp->Prop}(l:∀τ st,M.stepTst r τ st e=(r.ev τ st e).bind λp=>(M.truth p.2 p.1).map λk=>(k,p.2))
  (h:tTs K (λτ st=>M.stepTst r τ st e) b H Q):(tD K λτ st=>r.ev τ st e) b H λx H'=>∃k,TruV K x H' k/\Q k H':=by
 refine h.el λm st τ d st' v u a q=>?_;have a:=(l τ st).symm.trans a;refine qzk a λy w t a=>qzc a λk s o=>?_;cases o;exact rsI v u t λx m1 H1 b1 g f i=>⟨_,qix f i s,q m1 H1 b1 g f⟩
theorem tt_bl{K:Qqq}{r:R}{e:E}{f:Sl->Store->Option (D×Store)}{b:L2.St}{H:Hp}{Q:Bool->Hp->Prop}(o:∀τ st,M.stepTst r τ st e=(f τ st).bind λp=>(M.truth p.2 p.1).map λk=>(k,p.2))(s:∀τ st d st',f τ st=some (d,st')->∃k,d=.bl k)
  (h:tTs K (λτ st=>M.stepTst r τ st e) b H Q):tB (tD K f) b H Q:=by
 refine h.el λm st τ d st' v t a q=>?_;have a:=(o τ st).symm.trans a;refine qzk a λy w g a=>?_;obtain⟨k,rfl⟩:=s _ _ _ _ g;have q:=q.of a;exact rsI v t g λx m1 H1 b1 i u l=>⟨_,l.bl,q m1 H1 b1 i u⟩
theorem din_bl{r:R}{τ:Sl}{st st':Store}{neg:Bool}{a b:E}{d:D}(h:M.dinR r τ st neg a b=some (d,st')):∃k,d=.bl k:=by
 unfold M.dinR at h;refine qzk h λp g o h=>qzk h λe f m h=>?_
 cases e with
 |loc l=>
  refine qzj h λkvs i h=>?_
  split at h
  ·cases h; exact⟨_,rfl⟩
  ·exact nn h
 |_=>exact nn h
theorem gin_bl{r:R}{τ:Sl}{st st':Store}{neg:Bool}{a:List Str}{b:E}{d:D}(h:M.ginR r τ st neg a b=some (d,st')):∃k,d=.bl k:=by
 unfold M.ginR at h;refine qzk h λe f g h=>?_
 cases e with
 |str z=>cases h; exact⟨_,rfl⟩
 |_=>exact nn h
theorem tt_and{K:Qqq}{r:R}{a b:E}{g:L2.St}{H:Hp}{Q:Bool->Hp->Prop}(h:tTs K (λτ st=>M.stepTst r τ st (.and a b)) g H Q):tAnd (tTs K λτ st=>r.tst τ st a) (tTs K λτ st=>r.tst τ st b) g H Q:=by
 refine h.el λm st τ d st' u k e q=>?_;have e:=e;refine qzj e λp t e=>rsI u k t λm1 H1 b1 f l=>?_
 cases i:p.1 with
 |true=>
  rw[i,Z3 rfl]at e;rw[Z3 rfl];exact rsI l (k.mono b1 f) e λs H2 b2 o R2=>q s H2 (b1.trans b2) (f.trans o) R2
 |false=>
  rw[i,Z2 Qqg]at e;have q:=q.of e;rw[Z2 Qqg];exact q m1 H1 b1 f l
theorem tt_or{K:Qqq}{r:R}{a b:E}{g:L2.St}{H:Hp}{Q:Bool->Hp->Prop}(h:tTs K (λτ st=>M.stepTst r τ st (.or a b)) g H Q):tOr (tTs K λτ st=>r.tst τ st a) (tTs K λτ st=>r.tst τ st b) g H Q:=by
 refine h.el λm st τ d st' u k e q=>?_;have e:=e;refine qzj e λp t e=>rsI u k t λm1 H1 b1 f l=>?_
 cases i:p.1 with
 |false=>
  rw[i,Z2 Qqg]at e;rw[Z2 Qqg];exact rsI l (k.mono b1 f) e λs H2 b2 o R2=>q s H2 (b1.trans b2) (f.trans o) R2
 |true=>
  rw[i,Z3 rfl]at e;have q:=q.of e;rw[Z3 rfl];exact q m1 H1 b1 f l
theorem qvk{K:Qqq}{m b:List Addr}{H o l:Hp}{τ:Sl}{p σ':L2.St}{i:Nat}{h d:D}(u:SlotOk K m H τ p)(k:SlotOk K b o (τ.set i (some h)) σ')(s:Sub m b)(t:Tr o l)(hd:∀v,MS.IsD K b o h v->MS.IsD K m l d v):SlotOk K m l (τ.set i (some d)) σ':=by
 refine⟨by have:=k.len; rwa [Qz5]at this ⊢,λj e a=>?_⟩
 by_cases f:i=j
 ·subst f;have hi:i<τ.length:=by
   have:=(Qqv.mp a).1;rwa [Qz5]at this
  rw[Qzj hi]at a;cases a;obtain⟨v,g,q⟩:=k.at_ i h (Qzj hi);exact⟨v,g,hd v q⟩
 ·rw[Qzz f]at a;obtain⟨w,_,r⟩:=u.at_ j e a;obtain⟨v,g,q⟩:=k.at_ j e (by rw[Qzz f]; exact a);exact⟨v,g,qzv (Sub.refl m) t _ _ (qx4 s _ _ _ r q)⟩
theorem qf4{p:Stmt}{f:Sl->Store->Option (D×Store)}{i:Nat}(h:PS X p (tS X.K λτ st=>(f τ st).bind λq=>(M.setT (.var i) q.1 τ).map λτ'=>(Out.nx τ',q.2))):
  PS X p (tS X.K λτ st=>((f τ st).map λq=>M.gcD st q).bind λq=>(M.setT (.var i) q.1 τ).map λτ'=>(Out.nx τ',q.2)):=by
 intro pins s σ H Dn I q;refine q.el λm st τ o st' S Q e k=>qzk e λd W e1 e=>?_;obtain⟨⟨F,r⟩,e2,e3⟩:=mapD e1;refine qzc e λτ' A e5=>?_;cases e5;have A:(if i<τ.length then some (τ.set i (some d)) else none)=some τ':=A
 split at A
 case isFalse=>exact nn A
 case isTrue hi=>
  cases A;refine thn (h pins s σ H ⟨λg H1=>∃m1,Sub m m1/\Tr H H1/\Rel X.K m1 r H1/\SlotOk X.K m1 H1 (τ.set i (some F)) g,λ_ _=>False,λ_ _=>False,λ_ _=>False⟩ I (rsI (d:=.nx (τ.set i (some F))) (st':=r) S Q (by show(f τ st).bind _=_; rw[e2]; show Option.map _ (if i<τ.length then some (τ.set i (some F)) else none)=_; rw[Z3 hi]; rfl) λm1 H1 b t R g C=>⟨m1,b,t,R,C⟩)) λfl s2 hf=>?_
  cases fl with
  |next=>
   obtain⟨g,H1,T,m1,b1,G,x,C⟩:=hf;have plain:(F,r)=(d,W)->SP X pins Dn .next s2:=λz=>by
    cases z;exact⟨g,H1,T,k m1 H1 b1 G x g C⟩
   rcases gc_el e3 with z|⟨ok,z⟩
   ·exact plain z
   ·unfold M.gcX at z
    split at z
    ·rename_i hn;cases z;exact⟨g,H1,T,k m H1 (Sub.refl m) G (S.cut x b1 ok (Tr.refl H1) λ_ _ _ _ _ _=>rfl) g (qvk Q C b1 (Tr.refl H1) λv q=>qdt _ _ hn q)⟩
    ·split at z
     ·rename_i l hd;simp only at hd
      split at z
      ·rename_i hl
       split at z
       ·rename_i ds K
        split at z
        ·rename_i hn;cases z;subst hd;obtain⟨a,N⟩:=x.addr K;obtain⟨xs,V,ix⟩:=x.cell l _ a K N;obtain⟨o,I2⟩:=qky T V;have E:=Tr.lay (o:=o) V;refine⟨g,_,I2,k m _ (Sub.refl m) (G.trans E) (S.cut x b1 ok E λU c P e ea w=>?_) g (qvk Q C b1 E λv q=>?_)⟩
         ·refine qzx λz=>?_;subst z;have h3:=qjz e;have:=x.nd U l P c _ (b1 U P ea) N h3.2 K w rfl;omega
         ·obtain⟨P,y,rfl⟩:=q.loc;rw[N]at y;cases y;exact qby (.inl ⟨o,qzw⟩) (qji _ _ hn (qza (Sub.refl m1) E _ _ ix))
        ·exact plain z
       ·exact plain z
      ·exact plain z
     ·exact plain z
  |brk=>obtain⟨_,_,_,z⟩:=hf; exact z.elim
  |cont=>obtain⟨_,_,_,z⟩:=hf; exact z.elim
  |ret u=>obtain⟨_,_,_,_,_,z⟩:=hf; exact z.elim
theorem w_ok(A:AllOk fns dl n)(G:Good fns dl c X){e:E}{k:BoolOp}{ps:List Qx}{pos:Pos}(h:CkN j c e (.BoolOp k ps pos)):PW X (.BoolOp k ps pos) (tTs X.K λτ st=>M.stepTst (M.rn fns dl n) τ st e):=by
 cases j with
 |zero=>cases h
 |succ j=>
 cases h with
 |gc _ _ o=>cases o
 |of l m h=>
 clear l m
 cases h with
 |@and a b g f r pos i d=>
  refine(pw_and (A.t c X G a g i) ?_).imp λσ H Q h=>tt_and h
  cases r with
  |nil=>exact qi9 (A.t c X G b f d)
  |cons=>exact A.w c X G b _ _ _ d
 |@or a b g f r pos i d=>
  refine(pw_or (A.t c X G a g i) ?_).imp λσ H Q h=>tt_or h
  cases r with
  |nil=>exact pw_or1 (A.t c X G b f d)
  |cons=>exact A.w c X G b _ _ _ d
theorem qxn{r:R}{e:E}{p:Qx}(d:PE X p (tD X.K λτ st=>r.ev τ st e))(a:∀w,isTrue p X.env w=(do let v <- w; Zx p.pos; Qu [v] (truthy v)))(b:∀τ st,M.stepTst r τ st e=(r.ev τ st e).bind λp=>(M.truth p.2 p.1).map λk=>(k,p.2)):PT X p (tTs X.K λτ st=>M.stepTst r τ st e):=(qf1 d a).imp λ_ _ _ h=>tt_val b h
theorem t_ok(A:AllOk fns dl n)(G':Good fns dl c X){e:E}{p:Qx}(h:CkN j c e p):PT X p (tTs X.K λτ st=>M.stepTst (M.rn fns dl n) τ st e):=by
 have G:=G';have hu:=G'.room.units;have g:=A.e c X G e p h
 cases j with
 |zero=>cases h
 |succ j=>
 revert g
 cases h with
 |gc hs hq hp hg i=>
  intro g
  cases p with
  |Call=>exact qxn g (λ_=>rfl) λ_ _=>rfl
  |ListComp=>exact qxn g (λ_=>rfl) λ_ _=>rfl
  |List=>exact qxn g (λ_=>rfl) λ_ _=>rfl
  |BinOp=>exact qxn g (λ_=>rfl) λ_ _=>rfl
  |Subscript=>exact qxn g (λ_=>rfl) λ_ _=>rfl
  |_=>cases hp
 |of hs hq h=>
 clear hs hq
 cases h with
 |nm h=>
  cases h with
  |var=>exact λg=>qxn g (λ_=>rfl) λ_ _=>rfl
  |glo=>exact λg=>qxn g (λ_=>rfl) λ_ _=>rfl
 |@not a v pos i=>
  intro _;refine(pt_not (A.t c X G a v i)).imp λσ H Q h=>h.el λm st τ d st' R s D q=>qzc D λp N K=>?_;cases K;exact rsI R s N λm1 H1 b1 o P=>q m1 H1 b1 o P
 |and i f=>exact λ_=>(w_ok A G (j:=j+1) (.of rfl rfl (.and i f))).pt
 |or i f=>exact λ_=>(w_ok A G (j:=j+1) (.of rfl rfl (.or i f))).pt
 |@cmp C a b v u pos i f=>
  intro _;refine(qlz (qxb hu C) (A.e c X G a v i) (A.e c X G b u f) (qa7 f.sh _)).imp λσ H Q h=>h.el λm st τ d st' R s D q=>qzk D λF s1 N D=>qzk D λl r K D=>qzc D λk e3 e4=>?_;cases e4;exact rsI R s N λx m1 H1 b1 o P i1=>rsI P (s.mono b1 o) K λy W H2 b2 t R2 T=>
   ⟨W,r,F,l,.bl d,r,R2,qzv b2 t _ _ i1,T,by show Option.map _ (M.cmpD r C F l)=_; rw[show M.cmpD r C F l=some d from e3]; rfl,λz V H3 b3 I U i3=>⟨d,i3.bl,q V H3 (b1.trans (b2.trans b3)) (o.trans (t.trans I)) U⟩⟩
 |@cmp2 C w a b d v u pd pos i f hd=>
  intro _;refine(qf2 (qxb hu C) (qxb hu w) (A.e c X G a v i) (A.e c X G b u f) (A.e c X G d pd hd) (qa7 hd.sh _)).imp λσ H Q h=>h.el λm st τ dd st' R s e q=>qzk e λF s1 N e=>qzk e λl r K e=>qzj e λk e3 e=>rsI R s N λx m1 H1 b1 o P i1=>rsI P (s.mono b1 o) K λy W H2 b2 t R2 T=>
   ⟨W,r,F,l,.bl k,r,R2,qzv b2 t _ _ i1,T,by show Option.map _ (M.cmpD r C F l)=_; rw[show M.cmpD r C F l=some k from e3]; rfl,λz V H3 b3 I U i3=>⟨k,i3.bl,?_⟩⟩
  cases k with
  |true=>
   rw[Z3 rfl]at e ⊢;refine qzk e λd3 S e4 e=>qzc e λk' e5 e6=>?_;cases e6;exact rsI U (s.mono (b1.trans (b2.trans b3)) (o.trans (t.trans I))) e4 λy' m4 H4 b4 t4 R4 i4=>
    ⟨m4,S,l,d3,.bl dd,S,R4,qzv (b3.trans b4) (I.trans t4) _ _ T,i4,by show Option.map _ (M.cmpD S w l d3)=_; rw[show M.cmpD S w l d3=some dd from e5]; rfl,
     λz m5 H5 b5 t5 R5 i5=>⟨dd,i5.bl,q m5 H5 (b1.trans (b2.trans (b3.trans (b4.trans b5)))) (o.trans (t.trans (I.trans (t4.trans t5)))) R5⟩⟩
  |false=>
   rw[Z2 Qqg]at e ⊢;have q:=q.of e;exact⟨false,rfl,q V H3 (b1.trans (b2.trans b3)) (o.trans (t.trans I)) U⟩
 |@din neg a b v u pos i f=>exact λ_=>(qhw (qc9 (by omega) neg (A.e c X G a v i) (A.e c X G b u f)) (qa7 f.sh _)).imp λσ H Q h=>tt_bl (λ_ _=>rfl) (λ_ _ _ _ z=>din_bl z) h
 |@gin neg x ks ds b u p0 pos hg hm hd f=>
  intro _;obtain⟨ad,h1,h2⟩:=G.mo.gds x ks ds hm;exact(qhw (qc7 neg (G.gl hg) h1 h2 hd (A.e c X G b u f)) (by cases neg<;>rfl)).imp λσ H Q h=>tt_bl (λ_ _=>rfl) (λ_ _ _ _ z=>gin_bl z) h
 |_=>exact λg=>qxn g (λ_=>rfl) λ_ _=>rfl
theorem S_nx{K:Qqq}{m:List Addr}{H:Hp}{τ:Sl}{st':Store}{e:Ends}{d:L2.St}(p:PostO K m H (.nx τ) st' e){a:List Addr}{H':Hp}(b:Sub m a)(t:Tr H H')(g:Rel K a st' H')(f:SlotOk K a H' τ d):e.nx d H':=p a H' b t g d f
theorem qch{K:Qqq}{r:R}{i:Nat}{e:E}{g:TE}{p:Ends}{b:L2.St}{H:Hp}(d:∀Q,(tD K λτ st=>r.ev τ st e) b H Q->g b H Q)(h:tS K (λτ st=>M.stepEx r τ st (.set (.var i) e)) p b H):tAsg g (qw7 i) p b H:=by
 refine h.el λm st τ o st' y l f q=>qzk f λv z u f=>qzc f λτ' a t=>?_;cases t;have a:(if i<τ.length then some (τ.set i (some v)) else none)=some τ':=a
 split at a
 ·cases a;exact d _ (rsI y l u λx m1 H1 b1 k w s=>S_nx q b1 k w ((l.mono b1 k).put s))
 ·exact nn a
theorem qci(U:∀j,j<=n->AllOk fns dl j)(G:Good fns dl c X)(R:∀x,X.fn x=true){i:Nat}{e:E}{x:Str}{p:Qx}{pos b:Pos}(P:c.N[i]?=some x)(K:c.sc.names.lookup x=some .local\/c.sc.names.lookup x=some .cell)(f:CkE c e p)(W:∀a,e≠.gc a)(hc:∃elt T sc q,p=.ListComp elt T sc q)(l:∀env:Env,env.scope=c.sc->(swapsWith p (some (.Name x b)) pos.line env=pure false\/swapsWith p (some (.Name x b)) pos.line env=pure true)):
  PS X (.Assign [.Name x b] p pos) (tS X.K λτ st=>M.stepEx (M.rn fns dl n) τ st (.set (.var i) e)):=by
 have A:=U n (Qqw n);have S:X.N.Nodup:=by rw[G.N]; exact G.nd
 have loc:∀{x:Str},(c.sc.names.lookup x=some .local\/c.sc.names.lookup x=some .cell)->Loc X.env.scope x:=λ{x} h=>by rw[G.sc]; exact h
 rcases l X.env G.sc with z|z
 ·exact(qvd S (qx8 G P) (loc K) (A.e c X G e p f) z (.inl (R x))).imp λD σ H h=>qch (λ_ q=>q) h
 ·cases n with
  |zero=>exact λpins s σ H Dn I q=>by obtain⟨m,st,τ,d,st',_,_,w,_⟩:=q; cases w
  |succ n=>
   have v:=U n (Qjv n);obtain⟨elt,T,sc,q,rfl⟩:=hc
   cases f with
   |gc=>exact(W _ rfl).elim
   |of l o f=>
   clear l o
   cases f with
   |@comp t it q g sr tg F pq y k cpos N ok r V o f=>
    have u:=λ{C fp s H}=>G.inner (C:=C) (fp:=fp) (s:=s) (H:=H) ok.kind ok.nd;exact(qbq G.calm (qkd G ok) (qw4 v G r) (λC fp s H=>qqn u V (qcq ok.tl)) (λC fp s H=>qg5 v u o) (λC fp s H=>v.e _ _ u g _ f) (ok.fs X.env) S (qx8 G P) (loc K) (.inl (R x)) z).imp λD σ H h=>qch (λQ q=>qcj q) h
theorem sh_six{b:Qx}(h:shOk b=true){f:Qx}{a:Pos}(env:Env)(v:Value):assign (.Subscript f b a) env v=(do
    let d <- Qu [v] (Qw f env)
    let e <- Qu [v,d] (Qw b env)
    Zx a
    Qu [v,d,e] (setItem d e v)
    release [v,d,e] []):=by
 cases b<;>first|rfl|cases h
theorem qi1(IH:∀j,j<=n->AllOk fns dl j)(G:Good fns dl c X)(hf:∀x,X.fn x=true){s:S}{p:Stmt}(h:CkS c s p):PS X p (tS X.K λτ st=>M.stepEx (M.rn fns dl n) τ st s):=by
 have A:=IH n (Qqw n);have hN:X.N.Nodup:=by rw[G.N]; exact G.nd
 have loc:∀{x:Str},(c.sc.names.lookup x=some .local\/c.sc.names.lookup x=some .cell)->Loc X.env.scope x:=λ{x} h=>by rw[G.sc]; exact h
 cases h with
 |@set i e x p pos pos' hi hl V hs=>exact(qvd hN (qx8 G hi) (loc hl) (A.e c X G e p V) (hs X.env) (.inl (hf x))).imp λD σ H h=>qch (λ_ q=>q) h
 |@setC i e x p pos pos' hi hl V hc hs=>
  by_cases a9:∃a,e=.gc a
  ·obtain⟨a,rfl⟩:=a9
   cases V with
   |of _ _ V=>
    cases V with
    |nm h=>cases h
   |gc ws wq hp hg ha=>
    cases n with
    |zero=>exact λpins s σ H Dn I q=>by obtain⟨m,st,τ,d,st',_,_,w,_⟩:=q; cases w
    |succ n=>exact(qf4 (qci (λj hj=>IH j (Nat.le_succ_of_le hj)) G hf hi hl (.of ws wq ha) hg hc hs)).imp λ_ _ _ q=>q
  ·exact qci IH G hf hi hl V (λa z=>a9 ⟨a,z⟩) hc hs
 |@dset a i e pa pi pe tpos pos ha hi V=>
  refine(qlx (by have:=G.room.units; omega) (A.e c X G a pa ha) (A.e c X G i pi hi) (A.e c X G e pe V) (sh_sw V.sh _ _)).imp λDn σ H h=>?_;refine h.el λm st τ o st' W P r q=>qzk r λd1 s1 e1 r=>qzk r λd2 s2 e2 r=>qzk r λd3 s3 e3 r=>?_
  cases d2 with
  |loc l=>
   have r:=r;refine qzj r λkvs u r=>?_
   split at r
   ·rename_i hk;have q:=q.of r;rw[Qqo,decide_eq_true_eq]at hk;obtain⟨k,a8⟩:=qqt hk.1;refine rsI W P e1 λx m1 H1 b1 K R1 i1=>rsI R1 (P.mono b1 K) e2 λy m2 H2 b2 E R2 i2=>rsI R2 (P.mono (b1.trans b2) (K.trans E)) e3 λz m3 H3 b3 Q R3 i3=>?_;obtain⟨a',xs,a3,rfl,hH,a6,a5⟩:=R3.wdict u (qzv b3 Q _ _ i2);have hz:=ql9 a8 i3;subst hz;have l1:=a6.length;have l2:=qqw;refine⟨a',_,rfl,DPut.k hH (by omega),?_⟩;have iv:=qzv (b2.trans b3) (E.trans Q) _ _ i1;exact S_nx q (b1.trans (b2.trans b3)) (K.trans (E.trans (Q.trans (Tr.putD hH)))) (R3.putD a5 a3 hH (a6.put a8 iv)) (P.mono (b1.trans (b2.trans b3)) (K.trans (E.trans (Q.trans (Tr.putD hH)))))
   ·exact nn r
  |_=>exact nn r
 |@expr e p pos V hs=>
  refine(qkr (A.e c X G e p V) (hs X.env)).imp λDn σ H h=>h.el λm st τ o st' W P r q=>qzc r λp e1 e2=>?_;cases e2;exact rsI W P e1 λx m1 H1 b1 K R1 i1=>S_nx q b1 K R1 (P.mono b1 K)
 |@ret e p pos V=>
  refine(qhy (A.e c X G e p V)).imp λDn σ H h=>h.el λm st τ o st' W P r q=>qzc r λp e1 e2=>?_;cases e2;exact rsI W P e1 λx m1 H1 b1 K R1 i1=>q m1 H1 b1 K R1 x i1
 |@ite q a b pq pa pb pos hq ha hb=>
  refine(qct (A.t c X G q pq hq) (A.s c X G hf a pa ha) (A.s c X G hf b pb hb)).imp λDn σ H h=>h.el λm st τ o st' W P r g=>qzj r λp e1 r=>rsI W P e1 λm1 H1 b1 K R1=>?_
  cases hp:p.1 with
  |true=>
   rw[hp,Z3 rfl]at r;rw[Z3 rfl];exact rsI R1 (P.mono b1 K) r (g.mono b1 K)
  |false=>
   rw[hp,Z2 Qqg]at r;rw[Z2 Qqg];exact rsI R1 (P.mono b1 K) r (g.mono b1 K)
 |@forr t it body tg b8 pb pos ht hi hs hb=>
   refine(qha (by rw[G.xe]; exact PassesOwn.never) G.calm (qw4 A G hi) (qqn G ht λi _ x _=>.inl (hf x)) (A.s c X G hf body pb hb) (hs X.env)).imp λDn σ H h=>?_
   refine h.el λm st τ o st' W P r g=>qzj r λp e1 r=>rsI W P e1 λm1 H1 Jq b1 K R1 hJ=>⟨λj k a0 H'=>∃m2 T R,Sub m1 m2/\Tr H1 H'/\Rel X.K m2 T H'/\SlotOk X.K m2 H' R a0/\M.loop p.1 (λτ st d=>(M.setT t d τ).bind λF=>(M.rn fns dl n).ex F st body) k j R T=some (o,st'),
    ⟨_,m1,p.2,τ,Sub.refl _,Tr.refl _,R1,P.mono b1 K,r⟩,?_⟩
   rintro j k a0 H' ⟨m2,T,R,b2,E,R2,S2,u⟩
   cases k with
   |zero=>exact nn u
   |succ k=>
    have u:=u;refine qzj u λoo e5 u=>?_
    cases oo with
    |none=>
     have g:=g.of u;exact .inl ⟨(hJ.mono b2 E).done R2 e5,S_nx g (b1.trans b2) (K.trans E) R2 S2⟩
    |some d=>
     obtain⟨b6,hy⟩:=(hJ.mono b2 E).next R2 e5;refine qzj u λz e6 u=>qzj e6 λa1 e7 e6=>.inr ⟨b6,λa2 H3=>∃m3 a4 a1,Sub m1 m3/\Tr H1 H3/\Rel X.K m3 a4 H3/\SlotOk X.K m3 H3 a1 a2/\M.loop p.1 (λτ st d=>(M.setT t d τ).bind λF=>(M.rn fns dl n).ex F st body) k (j+1) a1 a4=some (o,st'),λa2 H3 w3=>⟨k,Qzk k,w3⟩,λx H2 b5=>?_⟩;obtain⟨sm,ix⟩:=hy x H2 b5;have E:=E.trans (Tr.of_same sm);have R2:=R2.same sm;have S2:=S2.mono (Sub.refl _) (Tr.of_same sm);refine qgp ix S2 e7 λa2 S3=>rsI R2 S3 e6 λm3 H3 b3 Q R3=>?_
     cases hz:z.1 with
     |nx N=>
      rw[hz]at u;exact λU S4=>⟨m3,z.2,N,b2.trans b3,E.trans Q,R3,S4,u⟩
     |ct N=>
      rw[hz]at u;exact λU S4=>⟨m3,z.2,N,b2.trans b3,E.trans Q,R3,S4,u⟩
     |bk N=>
      rw[hz]at u;have g:=g.of u;exact λU S4=>S_nx g (b1.trans (b2.trans b3)) (K.trans (E.trans Q)) R3 S4
     |rt v=>
      rw[hz]at u;have g:=g.of u;exact λw iw=>g m3 H3 (b1.trans (b2.trans b3)) (K.trans (E.trans Q)) R3 w iw
 |bad=>exact λpins s σ H Dn I q=>by obtain⟨m,st,τ,d,st',_,_,z,_⟩:=q; cases z
 |rais hg=>exact λpins s σ H Dn I q=>by obtain⟨m,st,τ,d,st',_,_,z,_⟩:=q; cases z
 |brk=>
  refine ps_break.imp λDn σ H h=>h.el λm st τ o st' W P r q=>?_;have q:=q.of r;exact q m H (Sub.refl m) (Tr.refl H) W _ P
 |@whil q body pq pb pos hq hb=>
  refine(qf3 (by rw[G.xe]; exact PassesOwn.never) (A.t c X G q pq hq) (A.s c X G hf body pb hb)).imp λDn σ H h=>h.el λm st τ o st' W P r g=>?_
  refine⟨λk a0 H'=>∃m2 T R,Sub m m2/\Tr H H'/\Rel X.K m2 T H'/\SlotOk X.K m2 H' R a0/\M.loopW (λτ st=>(M.rn fns dl n).tst τ st q) (λτ st=>(M.rn fns dl n).ex τ st body) k R T=some (o,st'),
   ⟨_,m,st,τ,Sub.refl _,Tr.refl _,W,P,r⟩,?_⟩
  rintro k a0 H' ⟨m2,T,R,b2,E,R2,S2,u⟩
  cases k with
  |zero=>exact nn u
  |succ k=>
   have u:=u;refine qzj u λb e5 u=>rsI R2 S2 e5 λm3 H3 b3 Q R3=>?_
   cases hb:b.1 with
   |false=>
    rw[hb,Z2 Qqg]at u;have g:=g.of u;rw[Z2 Qqg];exact S_nx g (b2.trans b3) (E.trans Q) R3 (S2.mono b3 Q)
   |true=>
    rw[hb,Z3 rfl]at u;rw[Z3 rfl];refine qzj u λz e6 u=>⟨λU H4=>∃m4 a7 N,Sub m m4/\Tr H H4/\Rel X.K m4 a7 H4/\SlotOk X.K m4 H4 N U/\M.loopW (λτ st=>(M.rn fns dl n).tst τ st q) (λτ st=>(M.rn fns dl n).ex τ st body) k N a7=some (o,st'),λU H4 w4=>⟨k,Qzk k,w4⟩,rsI R3 (S2.mono b3 Q) e6 λm4 H4 b4 t4 R4=>?_⟩
    cases hz:z.1 with
    |nx N=>
     rw[hz]at u;exact λU S4=>⟨m4,z.2,N,b2.trans (b3.trans b4),E.trans (Q.trans t4),R4,S4,u⟩
    |ct N=>
     rw[hz]at u;exact λU S4=>⟨m4,z.2,N,b2.trans (b3.trans b4),E.trans (Q.trans t4),R4,S4,u⟩
    |bk N=>
     rw[hz]at u;have g:=g.of u;exact λU S4=>S_nx g (b2.trans (b3.trans b4)) (E.trans (Q.trans t4)) R4 S4
    |rt v=>
     rw[hz]at u;have g:=g.of u;exact λw iw=>g m4 H4 (b2.trans (b3.trans b4)) (E.trans (Q.trans t4)) R4 w iw
 |@setT is e es k p pos tpos ht V hw=>
  refine(qhb (A.e c X G e p V) (qqn (t:=.tup is) G (.tup ht) λi _ x _=>.inl (hf x)) (sh_swT (es:=es) (k:=k) (tp:=tpos) V.sh pos.line X.env) (hw X.env) rfl).imp λDn σ H h=>h.el λm st τ o st' W P r q=>qzk r λd1 s1 e1 r=>qzc r λF e2 e3=>?_;cases e3;exact rsI W P e1 λx m1 H1 b1 K R1 i1=>qgp i1 (P.mono b1 K) e2 λa0 S1=>S_nx q b1 K R1 S1
 |@six a i e pa pi pe tpos pos ha hi V=>
  refine(qhb (A.e c X G e pe V) (pg_sub (A.e c X G a pa ha) (A.e c X G i pi hi) six_D (sh_six hi.sh _)) (sh_sw (a:=pa) (i:=pi) (tp:=tpos) V.sh pos.line X.env) rfl rfl).imp λDn σ H h=>h.el λm st τ o st' W P r q=>qzk r λd1 s1 e1 r=>qzk r λd2 s2 e2 r=>qzk r λd3 s3 e3 r=>qzc r λs4 u e5=>?_;cases e5;exact rsI W P e1 λx m1 H1 b1 K R1 i1=>rsI R1 (P.mono b1 K) e2 λy m2 H2 b2 E R2 i2=>rsI R2 (P.mono (b1.trans b2) (K.trans E)) e3 λz m3 H3 b3 Q R3 i3=>
   ⟨m3,s3,d2,d3,d1,_,R3,qzv b3 Q _ _ i2,i3,qzv (b2.trans b3) (E.trans Q) _ _ i1,u,λm4 H4 b4 t4 R4=>S_nx q (b1.trans (b2.trans (b3.trans b4))) (K.trans (E.trans (Q.trans t4))) R4 (P.mono (b1.trans (b2.trans (b3.trans b4))) (K.trans (E.trans (Q.trans t4))))⟩
 |@setA C a f e pa pe tpos pos ha V hc=>
  obtain⟨h1,h2⟩:=G.mo.ats C f hc;refine(ps_fld (A.e c X G a pa ha) (A.e c X G e pe V) (sh_swA V.sh _ _)).imp λDn σ H h=>h.el λm st τ o st' W P r q=>qzk r λd1 s1 e1 r=>qzk r λd2 s2 e2 r=>qzj r λfs e3 r=>rsI W P e1 λx m1 H1 b1 K R1 i1=>rsI R1 (P.mono b1 K) e2 λy m2 H2 b2 E R2 i2=>?_;obtain⟨l,p,dx,ys,rfl,hl,rfl,hH,b0,a5⟩:=R2.inst e3 i2;dsimp only at r
  split at r
  ·rename_i b9;have q:=q.of r;have l1:=b0.length;exact⟨p,C,dx,ys,rfl,hH,h1,h2,by omega,S_nx q (b1.trans b2) (K.trans (E.trans (Tr.putI hH))) (R2.putI a5 hl hH (b0.put (qzv b2 E _ _ i1))) (P.mono (b1.trans b2) (K.trans (E.trans (Tr.putI hH))))⟩
  ·exact nn r
 |@ford t a body tg pa pb pos ht ha hb=>
  refine(qlq (by rw[G.xe]; exact PassesOwn.never) G.calm (A.e c X G a pa ha) (qqn G ht λi _ x _=>.inl (hf x)) (A.s c X G hf body pb hb) (qiu ha.sh X.env)).imp λDn σ H h=>?_;refine h.el λm st τ o st' W P r g=>qzk r λd1 s1 e1 r=>?_
  cases d1 with
  |loc l=>
   have r:=r;refine qzj r λkvs e2 r=>qzj r λw e3 r=>?_
   split at r
   case h_2=>exact nn r
   case h_1 b7 hw=>
   have g:=g.of r;refine rsI W P e1 λx m1 H1 b1 K R1 i1=>?_;obtain⟨a',xs,a3,rfl,hH,a6,a5⟩:=R1.wdict e2 i1;refine⟨a',xs,rfl,hH,λob nf=>?_⟩;have R2:=R1.ice (o:=ob) a5 a3 hH a6;have ti:=Tr.ice (o:=ob) hH;have IK:=a6.keys;have lk:=IK.length;rw[Qqj]at lk;have fz:∀{H':Hp},Tr (upd H1 a' (.frz ob (.dK xs))) H'->H' a'=some (.frz ob (.dK xs)):=λE=>E.frz a' ob _ qzw
   refine⟨λj k a0 H'=>∃m2 T R,Sub m1 m2/\Tr (upd H1 a' (.frz ob (.dK xs))) H'/\Rel X.K m2 T H'/\SlotOk X.K m2 H' R a0/\M.loop (.tup (M.keysOf kvs)) (λτ st d=>(M.setT t d τ).bind λF=>(M.rn fns dl n).ex F st body) k j R T=some w,
    ⟨_,m1,_,τ,Sub.refl _,Tr.refl _,R2,P.mono b1 (K.trans ti),e3⟩,?_⟩
   rintro j k a0 H' ⟨m2,T,R,b2,E,R3,S2,u⟩
   cases k with
   |zero=>exact nn u
   |succ k=>
    have u:(some (M.keysOf kvs)[j]?:Option (Option D)).bind (λo=>match o with
     |none=>some (Out.nx R,T)
     |some d=>((M.setT t d R).bind λF=>(M.rn fns dl n).ex F T body).bind λz=>match z.1 with
      |.nx F=>M.loop (.tup (M.keysOf kvs)) (λτ st d=>(M.setT t d τ).bind λF=>(M.rn fns dl n).ex F st body) k (j+1) F z.2
      |.ct F=>M.loop (.tup (M.keysOf kvs)) (λτ st d=>(M.setT t d τ).bind λF=>(M.rn fns dl n).ex F st body) k (j+1) F z.2
      |.bk F=>some (.nx F,z.2)
      |.rt v=>some (.rt v,z.2))=some w:=u
    rw[oBs]at u
    cases e5:(M.keysOf kvs)[j]? with
    |none=>
     rw[e5]at u;cases u;refine .inl ⟨⟨fz E,by rw[<- lk]; exact Qzl.mp e5⟩,a',ob,xs,nf,fz E,?_⟩;exact S_nx g (b1.trans b2) (K.trans (Tr.thaw hH E)) (R3.thaw hw (b2 l a' a3) (fz E)) (S2.monoW (Sub.refl _) (Tw.thaw (fz E)))
    |some d=>
     rw[e5]at u;have hj:=(Qqv.mp e5).1;refine qzj u λz e6 u=>qzj e6 λa1 e7 e6=>.inr ⟨⟨fz E,by omega⟩,λa2 H3=>∃m3 a4 a1,Sub m1 m3/\Tr (upd H1 a' (.frz ob (.dK xs))) H3/\Rel X.K m3 a4 H3/\SlotOk X.K m3 H3 a1 a2/\M.loop (.tup (M.keysOf kvs)) (λτ st d=>(M.setT t d τ).bind λF=>(M.rn fns dl n).ex F st body) k (j+1) a1 a4=some w,λa2 H3 w3=>⟨k,Qzk k,w3⟩,?_⟩;rintro x H2 ⟨rfl,p,hp,rfl⟩;obtain⟨x',ex,ix⟩:=IK.get e5;rw[Qqk,hp]at ex;cases ex;refine qgp (qzv b2 (ti.trans E) _ _ ix) S2 e7 λa2 S3=>rsI R3 S3 e6 λm3 H3 b3 Q R4=>?_
     cases hz:z.1 with
     |nx N=>
      rw[hz]at u;exact λU S4=>⟨m3,z.2,N,b2.trans b3,E.trans Q,R4,S4,u⟩
     |ct N=>
      rw[hz]at u;exact λU S4=>⟨m3,z.2,N,b2.trans b3,E.trans Q,R4,S4,u⟩
     |bk N=>
      rw[hz]at u;cases u;exact λU S4=>⟨a',ob,xs,nf,fz (E.trans Q),S_nx g (b1.trans (b2.trans b3)) (K.trans (Tr.thaw hH (E.trans Q))) (R4.thaw hw ((b2.trans b3) l a' a3) (fz (E.trans Q))) (S4.monoW (Sub.refl _) (Tw.thaw (fz (E.trans Q))))⟩
     |rt v=>
      rw[hz]at u;cases u;exact λv' iv=>⟨a',ob,xs,nf,fz (E.trans Q),g m3 _ (b1.trans (b2.trans b3)) (K.trans (Tr.thaw hH (E.trans Q))) (R4.thaw hw ((b2.trans b3) l a' a3) (fz (E.trans Q))) v' (qqb (Sub.refl _) (Tw.thaw (fz (E.trans Q))) _ _ iv)⟩
  |_=>exact nn r
theorem qil(l:∀j,j<=n->AllOk fns dl j)(G:Good fns dl c X)(g:∀x,X.fn x=true):∀{ss:List S}{ps:List Stmt},CkSs c ss ps->PSs X ps (tS X.K λτ st=>M.exs (M.stepEx (M.rn fns dl n)) ss τ st)
 |_,_,.nil=>pss_nil.imp λr σ H h=>by
  refine h.el λm st τ o st' k i a q=>?_;have q:=q.of a;exact q m H (Sub.refl m) (Tr.refl H) k _ i
 |_,_,.doc t=>(qzb qcu (qil l G g t)).imp λr σ H h=>h
 |_,_,.cons h t=>(qzb (qi1 l G g h) (qil l G g t)).imp λr σ H v=>by
  refine v.el λm st τ o st' k i a q=>qzj a λp w a=>rsI k i w λm1 H1 b1 b f=>?_
  cases e:p.1 with
  |nx s=>
   rw[e]at a;exact λu y=>rsI f y a (q.mono b1 b)
  |rt d=>
   rw[e]at a;have q:=q.of a;exact q m1 H1 b1 b f
  |bk d=>
   rw[e]at a;have q:=q.of a;exact q m1 H1 b1 b f
  |ct d=>
   rw[e]at a;have q:=q.of a;exact q m1 H1 b1 b f
end
theorem qg2(fns:List Fn)(b:Nat):∀n j,j<=n->AllOk fns b j:=by
 intro n
 induction n with
 |zero=>intro j h; rw[Nat.le_zero.mp h]; exact qbn fns b
 |succ n a=>
  intro j h;rcases Qzn j (n+1) with z|z
  ·exact a j (by omega)
  ·have e:j=n+1:=by omega
   subst e;have A:=a n (Qqw n);exact⟨λc X G _ e p h=>e_ok A G h,λc X G _ e p h=>t_ok A G h,λc X G _ e d ps pos h=>w_ok A G h,λc X G hf ss ps h=>qil a G hf h⟩
structure FText (K:Qqq) (mg:Str->Option Value) (fns:List Fn) (names:List Str) (glo:Glo) (f:Nat) (x:Str):Prop where
 ex:∃(nm:Str) (fa:Addr) (fd:Qh) (st:Stmt) (N ps:List Str) (F:Fn),fns[f]?=some F/\Fun K nm x st fa fd/\Lc K mg glo f x fa/\Binds K fd ps []/\FnScope N ps (qzz st)/\CkSs ⟨N,qzz st,names,glo⟩ F.body (qzl st)/\F.np=ps.length/\F.nl=N.length
theorem qhs{P:Program}{w:Qk}{K:Qqq}{mg:Str->Option Value}{base:Heap}{fns:List Fn}{names:List Str}{glo:Glo}{n f:Nat}{nm x:Str}{R:Addr}{W:Qh}{st:Stmt}{N ps:List Str}{F:Fn}(ih:FTab P w K mg base glo fns names n)(Mg:Mo K mg glo w.params)
  (hF:fns[f]?=some F) (o:Fun K nm x st R W) (c:FnScope N ps (qzz st)) (I:CkSs ⟨N,qzz st,names,glo⟩ F.body (qzl st)) (u:F.np=ps.length) (C:F.nl=N.length):FnOk P w K mg base CX0 (2*(n+1)) R W ps (spN K fns (n+1) f):=by
 have j:∀{ds:List D}{a st':Store}{d:D},M.callD fns (n+1) f ds a=some (d,st')->ds.length=F.np/\((M.Lv fns n).ex (ds.map some++List.replicate (F.nl - ds.length) none) a F.body).bind (λp=>match p.1 with
   |.rt d=>some (d,p.2)
   |.nx _=>some (D.non,p.2)
   |_=>none)=some (d,st'):=λ{ds a st' d} e=>by
  have e:M.stepCall fns (M.Lv fns n) f ds a=some (d,st'):=e;unfold M.stepCall at e;rw[hF]at e;dsimp only at e
  split at e
  ·rename_i V;exact⟨V,e⟩
  ·exact nn e
 refine o.ok c (λvs H Q E h=>?_) (λT A outer s H vs Q E hr h=>?_)
 ·obtain⟨m,a,ds,d,st',_,l,e,_⟩:=h;rw[<- l.length,(j e).1,u]
 ·obtain⟨m,a,ds,d,st',R0,l,e,q⟩:=h;obtain⟨V,e⟩:=j e;refine qzj e λp S b=>?_;obtain⟨k,S⟩:=M.lim1_is S;have G:Good fns n ⟨N,qzz st,names,glo⟩ (cxOf CX0 P w K mg base N x (qzz st) R T A outer s H E).nox:=⟨hr,rfl,rfl,rfl,c.nd,c.kind,ih,Mg,rfl⟩
  refine⟨_,(qg2 fns n k k (Qqw k)).s _ _ G (λ_=>rfl) F.body (qzl st) I,⟨m,a,ds.map some++List.replicate (F.nl - ds.length) none,p.1,p.2,R0,⟨?_,λi d0 hi=>?_⟩,S,λm1 H1 b1 U R1=>?_⟩⟩
  ·unfold L2.start;rw[Qqn,Qqn,Qqj,Qqj,Qxq,Qxq,C,l.length]
  ·unfold L2.start
   by_cases g:i<ds.length
   ·rw[Qqp (by simpa using g),Qqk]at hi;have e3:ds[i]?=some d0:=by
     cases z:ds[i]? with
     |none=>rw[z]at hi; cases hi
     |some y=>rw[z]at hi; cases hi; rfl
    obtain⟨v,e4,t⟩:=l.get e3;refine⟨v,?_,t⟩;rw[Qqp (by rw[Qqj,<- l.length]; exact g),Qqk,e4]
    rfl
   ·rw[Qqi (by simpa using g),Qxa]at hi
    split at hi<;>cases hi
  ·cases r:p.1 with
   |rt X=>
    rw[r]at b;cases b;exact λv t=>q v m1 H1 b1 U R1 t
   |nx a0=>
    rw[r]at b;cases b;exact λa1 S1=>q _ m1 H1 b1 U R1 qku
   |bk X=>rw[r]at b; cases b
   |ct X=>rw[r]at b; cases b
noncomputable def qio(K:Qqq):Sp:=λvs H Q _=>∃(a:Addr) (ns:List Int),vs=[.ref a]/\SqF K H a (ns.map V.int)/\ns.length<=63/\∀H',Q (.bl true) H'
theorem law_sp{K:Qqq}{fns:List Fn}{n f:Nat}(h:∀ns:List Int,ns.length<=63->∃st',M.callD fns n f [.lst (ns.map D.int)] []=some (.bl true,st'))(vs:List V)(H:Hp)(Q:VK)(E:XK)(q:qio K vs H Q E):spN K fns n f vs H Q E:=by
 obtain⟨a,ns,rfl,j,g,k⟩:=q;obtain⟨st',e⟩:=h ns g;refine⟨[],[],[.lst (ns.map D.int)],.bl true,st',⟨rfl,λl r b c t d o m s w p=>?_,λl c b d o=>?_⟩,qzi (qby j (qxv ns)) qqz,e,λv m' H' _ _ _ i=>?_⟩
 ·simp at m
 ·simp at d
 ·rw[i.bl]; exact k H'
theorem qlu{K:Qqq}{H:Hp}{a:Addr}{xs:List V}(b:Only H)(h:SqL K H a xs):SqF K H a xs:=by
 rcases h with (h|⟨o,h⟩)|h
 ·rcases b a with z|⟨ob,ys,z⟩
  ·rw[h]at z; cases z
  ·rw[h]at z; cases z
 ·exact .inl ⟨o,h⟩
 ·exact .inr h
theorem walk_law{l:PySem.W.OpenLaw}{k:Nat}{q:Program}{loose:List Str}{XP:(Str->Option Value)->Heap->Prop}{YP:Qk->Heap->Prop}{d:DefRec}{K:Qp->Qqq}{x:Str}(g:l.most=some 63)(b:d.params.defaults=[])(e:Room k Zr)
  (j:∀(w:Qk) (h:Heap),YP w h->(K w.params).In h)
  (F:∀(w:Qk) (mg:Str->Option Value) (c:Addr) (h:Heap),(K w.params).In h->h.Ns mainGlobals mg->mg d.name=some (.ref c)->
   ∃fd:Qh,(∀(s:Qz) (u:Value),BindsTo s fd ⟨[u],[]⟩ [(x,u)])/\∀base:Heap,(K w.params).In base->base.Ns mainGlobals mg->FnOk l.prog w (K w.params) mg base CX0 k c fd [x] (qio (K w.params))) :
  PySem.W.WalkO q loose XP YP l.row.toRowW d [] (λf vs=>PySem.call f vs):=
 L2.walk_of g (by decide) b e j F (λ_ _ a ns i n m=>⟨a,ns,rfl,qlu n m,i,λ_=>rfl⟩) λ_ _ _ _ _ z=>z
theorem qfl(elt:Qx)(a:List Comprehension)(sc:Scope)(q:Pos)(t:Str)(p:Pos)(line:Nat)(env:Env):swapsWith (.ListComp elt a sc q) (some (.Name t p)) line env=pure false\/swapsWith (.ListComp elt a sc q) (some (.Name t p)) line env=pure true:=by
 have e:swapsWith (.ListComp elt a sc q) (some (.Name t p)) line env=pure (env.blockKind==.function&&env.kindOf t==some .local&&p.line==q.line && !(sc.names.any λ(n,k)=>n==t&&(k==.local||k==.cell))):=rfl;rw[e]
 cases (env.blockKind==.function&&env.kindOf t==some .local&&p.line==q.line && !(sc.names.any λ(n,k)=>n==t&&(k==.local||k==.cell))) with
 |false=>exact .inl rfl
 |true=>exact .inr rfl
inductive ClK (K:Qqq) (cn:Str) (C:Addr):Prop
 |mk (a:Qxi K mainGlobals cn=some (some (.ref C))) (pg:PySem.W.plainGet K C Str.empty=true) (hd:PySem.W.hasDictIn K C=true) (po:PySem.W.plainOver K C=true) (sa:PySem.W.findIn K (.ref C) "__setattr__" = some (some (.builtin "object.__setattr__"))) (mk:PySem.W.makesIn K C=true) (kp:Qzx K (.ref C)=true):ClK K cn C
theorem ClK.cls{K:Qqq}{b:Str}{C:Addr}(h:ClK K b C):Cls K C:=by
 cases h with
 |mk a pg hd po sa mk kp=>exact⟨pg,hd,po,sa⟩
theorem ClK.mo{K:Qqq}{b:Str}{C:Addr}{h:Heap}{mg:Str->Option Value}(q:ClK K b C)(X:K.In h)(G:h.Ns mainGlobals mg):mg b=some (.ref C)/\Cls K C/\PySem.W.makesIn K C=true/\Qzx K (.ref C)=true:=by
 have c:=q.cls
 cases q with
 |mk a pg hd po sa mk kp=>exact⟨Qxc X G a,c,mk,kp⟩
end MS
end
section
namespace MS
open PySem PySem.Spec PyProof.Rows L2
open M (D Cell Store Sl E S T Src Fn Out R)
noncomputable def sq(a b:Str):Bool:=a.cps.toList==b.cps.toList
theorem qqi{a b:Str}(h:sq a b=true):a=b:=by
 obtain⟨⟨a⟩⟩:=a;obtain⟨⟨b⟩⟩:=b;have:a=b:=by simpa[sq] using h
 rw[this]
theorem qwp(a:Str):sq a a=true:=by simp[sq]
theorem qa4{a b:Str}(h:(!sq a b)=true):(a==b)=false:=by
 cases e:a==b with
 |false=>rfl
 |true=>
  rw[beq_iff_eq]at e;rw[e,qwp]at h;cases h
noncomputable def gd{α:Type}(b:Bool)(x:Option α):Option α:=bif b then x else none
theorem gd_iff{α:Type}{b:Bool}{x:Option α}{e:α}:gd b x=some e↔b=true/\x=some e:=by cases b<;>simp[gd]
noncomputable def lk:List (Str×Qd)->Str->Option Qd
 |[],_=>none
 |(y,k)::r,x=>bif sq x y then some k else lk r x
theorem qvr:∀{l:List (Str×Qd)}{x:Str},lk l x=l.lookup x
 |[],_=>rfl
 |(y,k)::r,x=>by
  unfold lk;rw[Qqt]
  cases e:sq x y with
  |true=>rw[qqi e,beq_self_eq_true]; rfl
  |false=>
   have:(x==y)=false:=by
    cases a:x==y with
    |false=>rfl
    |true=>rw[beq_iff_eq]at a; rw[a,qwp]at e; cases e
   rw[this];exact qvr
noncomputable def ixS(x:Str):List Str->Option Nat
 |[]=>none
 |y::r=>bif sq y x then some 0 else(ixS x r).map (· + 1)
theorem ixS_eq{x:Str}:∀{N:List Str}{i:Nat},ixS x N=some i->N[i]?=some x
 |[],_,h=>nomatch h
 |y::r,i,h=>by
  unfold ixS at h
  cases e:sq y x with
  |true=>rw[e]at h; cases h; rw[qqi e]; rfl
  |false=>
   rw[e]at h;obtain⟨j,a,rfl⟩:=Qqc.mp (h);exact(ixS_eq a :)
noncomputable def kG:Option Qd->Bool
 |some .globalImplicit=>true
 |_=>false
noncomputable def kL:Option Qd->Bool
 |some .local=>true
 |some .cell=>true
 |_=>false
noncomputable def kV:Option Qd->Bool
 |some .local=>true
 |some .cell=>true
 |some .free=>true
 |_=>false
theorem kG_eq{o:Option Qd}(h:kG o=true):o=some .globalImplicit:=by
 unfold kG at h; split at h
 ·rfl
 ·cases h
theorem kL_eq{o:Option Qd}(h:kL o=true):o=some .local\/o=some .cell:=by
 unfold kL at h; split at h
 ·exact .inl rfl
 ·exact .inr rfl
 ·cases h
theorem qmz{o:Option Qd}(h:kV o=true):o=some .local\/o=some .cell\/o=some .free:=by
 unfold kV at h; split at h
 ·exact .inl rfl
 ·exact .inr (.inl rfl)
 ·exact .inr (.inr rfl)
 ·cases h
noncomputable def isG(c:Ctx)(x:Str):Bool:=kG (lk c.sc.names x)
noncomputable def isL(c:Ctx)(x:Str):Bool:=kL (lk c.sc.names x)
theorem qqa{c:Ctx}{x:Str}(h:isG c x=true):c.sc.names.lookup x=some .globalImplicit:=qvr▸kG_eq h
theorem qay{c:Ctx}{x:Str}(h:isL c x=true):c.sc.names.lookup x=some .local\/c.sc.names.lookup x=some .cell:=qvr▸kL_eq h
noncomputable def noD(x:Str):Bool:=!sq x ("__debug__" : Str)
noncomputable def swOk:Qx->Bool
 |.ListComp ..=>false
 |.SetComp ..=>false
 |.DictComp ..=>false
 |_=>true
theorem sw_ok{p:Qx}(h:swOk p=true)(t:Option Qx)(l:Nat)(env:Env):swapsWith p t l env=pure false:=by
 cases p<;>first|rfl|cases h
end MS
end
section
namespace MS
open PySem PySem.Spec PyProof.Rows L2
open M (D Cell Store Sl E S T Src Fn Out R)
abbrev TrE:=Ctx->Qx->Option E
noncomputable def qb6(c:Ctx)(x:Str):Option E:=
 bif isG c x then(c.glo.cs.find? λq=>sq q.1 x).bind λq=>gd (noD x) (some (.glo q.1 q.2))
 else(ixS x c.N).bind λi=>gd (kV (lk c.sc.names x)&&noD x && !sq x ("__classdict__" : Str)) (some (.var i))
noncomputable def trL(f:Qx->Option E):List Qx->Option (List E)
 |[]=>some []
 |p::r=>(f p).bind λe=>(trL f r).map (e::·)
noncomputable def trP(f:Qx->Option E):List (Option Qx)->List Qx->Option (List E)
 |[],[]=>some []
 |some k::ks,v::vs=>(f k).bind λa=>(f v).bind λb=>(trP f ks vs).map λr=>a::b::r
 |_,_=>none
noncomputable def trO(f:Qx->Option E):Option Qx->Option (Option E)
 |none=>some none
 |some p=>(f p).map some
noncomputable def qgo(c:Ctx):Qx->Option (Str×List Str×List D)
 |.Name x _=>gd (isG c x&&noD x) (c.glo.ds.find? λq=>sq q.1 x)
 |_=>none
noncomputable def inNeg:CmpOp->Option Bool
 |.In=>some false
 |.NotIn=>some true
 |_=>none
noncomputable def qib(o:Nat)(f:Qx->Option E)(c:Ctx)(a:Qx)(op:CmpOp)(b:Qx):Option E:=
 match inNeg op with
 |some neg=>match qgo c b with
  |some q=>(f a).map λx=>.gin neg q.1 q.2.1 x
  |none=>(f a).bind λx=>(f b).map λy=>bif o==1 then .din neg x y else .cmp op x y
 |none=>(f a).bind λx=>(f b).map λy=>.cmp op x y
noncomputable def qiv(o:Nat)(f:Qx->Option E)(c:Ctx)(a:Qx):Qx->Option E
 |.Slice lo hi none _=>(f a).bind λx=>(trO f lo).bind λl=>(trO f hi).map λh=>.sli x l h
 |b=>match qgo c a with
  |some q=>(f b).map λy=>.gidx q.1 q.2.1 q.2.2 y
  |none=>(f a).bind λx=>(f b).map λy=>bif o==1 then .didx x y else .idx x y
noncomputable def bOf(x:Str):Option M.Bq:=[M.Bq.len,.min,.tuple,.list,.all,.sorted,.any,.int,.max].find? λb=>sq (Str.ofString (qms b)) x
noncomputable def tyOf(x:Str):Option M.Ty:=[M.Ty.bl,.int,.str,.tup,.lst].find? λt=>sq (Str.ofString t.name) x
noncomputable def qfa(c:Ctx):List Qx->Option (List M.Ty)
 |[]=>some []
 |.Name x _::r=>(tyOf x).bind λt=>gd (isG c x) ((qfa c r).map (t::·))
 |_=>none
noncomputable def mOf(x:Str):Option M.Mt:=[M.Mt.append,.extend,.index,.insert].find? λk=>sq (mName k) x
noncomputable def qiy(f:Qx->Option E)(c:Ctx)(a:Qx):Qx->Option E
 |.Name x _=>(tyOf x).bind λt=>gd (isG c x) ((f a).map λe=>.isi e [t] false)
 |.Tuple ps _ _=>(qfa c ps).bind λts=>gd (decide (ts.length<=1000)) ((f a).map λe=>.isi e ts true)
 |_=>none
noncomputable def qia(f:Qx->Option E)(c:Ctx)(x:Str)(p:Qx)(r:List Qx):Option E:=
 match ixS x c.fns with
 |some k=>gd (qga x) ((trL f (p::r)).map (.call k))
 |none=>match c.glo.cl.find? λq=>sq q.1 x with
  |some q=>(c.glo.ms.find? λz=>z.2.1==q.2&&sq z.2.2 ("__init__" : Str)).bind λz=>gd (c.fns[z.1]?).isSome ((trL f (p::r)).map (.new q.2 z.1))
  |none=>match r with
   |[t]=>bif sq x ("isinstance" : Str) then qiy f c p t else(bOf x).bind λb=>gd (bOk b) ((trL f (p::r)).map (.bcall b))
   |_=>(bOf x).bind λb=>gd (bOk b) ((trL f (p::r)).map (.bcall b))
noncomputable def qdg(c:Ctx)(x:Str):List Qx->Option Qx
 |[.Call (.Name y _) [a] [] _]=>gd (sq x ("len" : Str)&&sq y ("set" : Str)&&isG c y) (some a)
 |_=>none
noncomputable def qb8(o:Nat)(f:Qx->Option E)(c:Ctx)(a:Qx)(m:Str)(apos:Pos)(ps:List Qx)(pos:Pos):Option E:=
 gd (apos.endLine==pos.line) (bif Nat.ble 3 o then
  (c.glo.ms.find? λz=>z.2.1==o - 3&&sq z.2.2 m).bind λz=>(c.glo.cl.find? λq=>q.2==o - 3).bind λ_=>
   gd ((c.fns[z.1]?).isSome&&decide (ps.length<30)) ((f a).bind λe=>(trL f ps).map λes=>.mcall z.2.1 z.1 z.2.2 e es)
 else match ps with
  |[]=>none
  |p::r=>bif sq m ("get" : Str) then(f a).bind λe=>(f p).bind λy=>gd r.isEmpty (some (.dgt e y))
   else(mOf m).bind λk=>gd (decide ((p::r).length<30)) ((f a).bind λe=>(trL f (p::r)).map λes=>.meth e k es))
noncomputable def trT(c:Ctx):Qx->Option T
 |.Name x _=>(ixS x c.N).bind λi=>gd (isL c x) (some (.var i))
 |.Tuple es _ _=>(trTs es).map .tup
 |_=>none
where trTs:List Qx->Option (List Nat)
 |[]=>some []
 |.Name x _::r=>(ixS x c.N).bind λi=>gd (isL c x) ((trTs r).map (i::·))
 |_=>none
noncomputable def trI(f:Qx->Option E)(c:Ctx)(tg:Qx):Qx->Option E
 |.Call (.Name x p) ps [] pos=>
  bif isG c x&&sq x ("range" : Str) then match ps with
   |[a]=>(f a).map .rng1
   |_=>none
  else bif isG c x&&sq x ("zip" : Str) then match ps,tg with
   |[a,b],.Tuple _ _ _=>(f a).bind λx=>(f b).map λy=>.zip x y
   |_,_=>none
  else f (.Call (.Name x p) ps [] pos)
 |e=>f e
noncomputable def ndB:List Str->Bool
 |[]=>true
 |x::r=>!(r.any (sq x))&&ndB r
noncomputable def inN(sc:Scope):List Str:=(sc.names.filter λy=>y.2==.local && !sq y.1 (".0" : Str)).map (·.1)++(sc.names.filter λy=>y.2==.cell).map (·.1)++(sc.names.filter λy=>y.2==.free).map (·.1)
noncomputable def inS(sc:Scope)(N:List Str):List (Option Nat):=(inN sc).map λx=>bif kV (lk sc.names x) && !kL (lk sc.names x) then ixS x N else none
noncomputable def compOk(c:Ctx)(sc:Scope):Bool:=sc.kind==.function&&sc.names.all (λy=>y.2 != .free||(kV (lk c.sc.names y.1)&&lk c.sc.names y.1 != some .local))&&sc.names.all (λy=>lk sc.names y.1==some y.2)&&ndB (inN sc)
noncomputable def qye(R:TrE)(c:Ctx)(elt tg iter:Qx)(ifs:Option Qx)(sc:Scope):Option E:=
 gd (compOk c sc&&shOk iter) ((trI (R c) c tg iter).bind λi=>(trT (c.inn (inN sc) sc) tg).bind λt=>gd (tlOk (inN sc) sc (qbz sc c.sc) t)
  ((trO (R (c.inn (inN sc) sc)) ifs).bind λk=>(R (c.inn (inN sc) sc) elt).map λe=>.comp t i k e (inS sc c.N)))
noncomputable def trC:Const->Option E
 |.int i=>some (.lit (.int i))
 |.bool i=>some (.lit (.bl i))
 |.none=>some (.lit .non)
 |.str i=>some (.lit (.str i))
 |_=>none
noncomputable def trU(f:Qx->Option E)(a:Qx):UnaryOp->Option E
 |.USub=>(f a).map .neg
 |.Not=>(f a).map .not
 |_=>none
noncomputable def bo:BoolOp->E->E->E
 |.And=>.and
 |.Or=>.or
noncomputable def trBo(f:Qx->Option E)(op:BoolOp)(pos:Pos):List Qx->Option E
 |[a,b]=>(f a).bind λx=>(f b).map λy=>bo op x y
 |a::b::d::r=>(f a).bind λx=>(f (.BoolOp op (b::d::r) pos)).map λy=>bo op x y
 |_=>none
noncomputable def trCp(o:Nat)(f:Qx->Option E)(c:Ctx)(a:Qx):List CmpOp->List Qx->Option E
 |[op],[b]=>qib o f c a op b
 |[op,op'],[b,d]=>(f a).bind λx=>(f b).bind λy=>(f d).map λz=>.cmp2 op op' x y z
 |_,_=>none
noncomputable def trCl(o:Nat)(f:Qx->Option E)(c:Ctx)(pos:Pos):Qx->List Qx->List Zo->Option E
 |.Name x _,p::r,[]=>gd (isG c x&&noD x) (match qdg c x (p::r) with
  |some a=>(f a).map .lenset
  |none=>qia f c x p r)
 |.Attribute a m apos,ps,[]=>qb8 o f c a m apos ps pos
 |_,_,_=>none
noncomputable def trDi(o:Nat)(f:Qx->Option E):List (Option Qx)->List Qx->Option E
 |[],[]=>some (.dic [])
 |k::ks,v::vs=>gd (decide ((k::ks).length<=15)) ((trP f (k::ks) (v::vs)).map .dic)
 |_,_=>none
noncomputable def trLc(o:Nat)(R:TrE)(c:Ctx)(elt:Qx)(sc:Scope):List Comprehension->Option E
 |[⟨tg,iter,[],k⟩]=>gd (k==0) (qye R c elt tg iter none sc)
 |[⟨tg,iter,[q],k⟩]=>gd (k==0) (qye R c elt tg iter (some q) sc)
 |_=>none
noncomputable def trX(o:Nat)(R:TrE)(c:Ctx):Qx->Option E
 |.Name x _=>qb6 c x
 |.Constant k _ _=>trC k
 |.BinOp a op b _=>(R c a).bind λx=>(R c b).map λy=>.bin op x y
 |.UnaryOp op a _=>trU (R c) a op
 |.BoolOp op ps pos=>trBo (R c) op pos ps
 |.Compare a os bs _=>trCp o (R c) c a os bs
 |.Tuple ps _ _=>(trL (R c) ps).map .tup
 |.List ps _=>(trL (R c) ps).map .lst
 |.Subscript a b _=>qiv o (R c) c a b
 |.Call g ps ks pos=>trCl o (R c) c pos g ps ks
 |.Attribute a f _=>gd (Nat.ble 3 o) ((c.glo.ats.find? λz=>z.1==o - 3&&sq z.2 f).bind λz=>(R c a).map λe=>.attr z.1 e z.2)
 |.Dict ks vs _=>trDi o (R c) ks vs
 |.ListComp elt gs sc _=>trLc o R c elt sc gs
 |_=>none
noncomputable def isGc:E->Bool
 |.gc _=>true
 |_=>false
noncomputable def pk(p:Pos):Nat:=(p.line*1000+p.col)*1000+p.endCol
noncomputable def trF(o:Nat->Nat)(R:TrE):TrE:=λc p=>gd (shOk p) (match o (pk p.pos) with
 |n=>(trX (n / 2) R c p).bind λe=>gd (qve e) (some (bif (n % 2==1)&&gcOk p && !isGc e then .gc e else e)))
noncomputable def trE(o:Nat->Nat):Nat->TrE
 |0=>λ_ _=>none
 |n+1=>trF o (trE o n)
end MS
end
section
namespace MS
open PySem PySem.Spec PyProof.Rows L2
open M (D Cell Store Sl E S T Src Fn Out R)
theorem mD{α c:Type}{o:Option α}{f:α->c}{b:c}(h:o.map f=some b):∃a,o=some a/\f a=b:=Qqc.mp h
theorem aD{a b:Bool}(h:(a&&b)=true):a=true/\b=true:=(Qqo _ _).mp h
theorem bDk{α c:Type}{o:Option α}{f:α->Option c}{b:c}{P:Prop}(h:o.bind f=some b)(k:∀a,o=some a->f a=some b->P):P:=qzj h k
theorem mDk{α c:Type}{o:Option α}{f:α->c}{b:c}{P:Prop}(h:o.map f=some b)(k:∀a,o=some a->f a=b->P):P:=qzc h k
theorem gDk{α:Type}{b:Bool}{x:Option α}{e:α}{P:Prop}(h:gd b x=some e)(k:b=true->x=some e->P):P:=k (gd_iff.mp h).1 (gd_iff.mp h).2
theorem aDk{a b:Bool}{P:Prop}(h:(a&&b)=true)(k:a=true->b=true->P):P:=k ((Qqo _ _).mp h).1 ((Qqo _ _).mp h).2
theorem fD{α:Type}{p:α->Bool}{l:List α}{a:α}(h:l.find? p=some a):a∈l/\p a=true:=⟨Qji h,List.find?_some h⟩
def TrO(Q:Ctx->E->Qx->Prop)(R:TrE):Prop:=∀{c:Ctx}{p:Qx}{e:E},R c p=some e->Q c e p
abbrev Fo(Q:Ctx->E->Qx->Prop)(c:Ctx)(f:Qx->Option E):Prop:=∀{p:Qx}{e:E},f p=some e->Q c e p
theorem qhp{a:CmpOp}{neg:Bool}(h:inNeg a=some neg):a=inOp neg:=by cases a<;>first|(cases h; done)|(cases h; rfl)
theorem qb5{c:Ctx}{x:Str}{e:E}(h:qb6 c x=some e):CkV c e x:=by
 unfold qb6 at h
 cases g:isG c x with
 |true=>
  rw[g]at h;refine bDk h λq b h=>gDk h λhd h=>?_;cases h;obtain⟨d,a⟩:=fD b;cases qqi a;exact .glo (qqa g) d (qa4 hd)
 |false=>
  rw[g]at h;refine bDk h λi hi h=>gDk h λhd h=>?_;cases h;refine aDk hd λhd h2=>aDk hd λhd h1=>?_;rw[qvr]at hd;exact .var (ixS_eq hi) (qmz hd) (qa4 h1) (qa4 h2)
section
variable {Q:Ctx->E->Qx->Prop}{c:Ctx}{f:Qx->Option E}(hf:Fo Q c f)
include hf
theorem qxi:∀{ps:List Qx}{es:List E},trL f ps=some es->CkL (Q c) es ps
 |[],_,h=>by cases h; exact .nil
 |p::r,es,h=>by
  refine bDk h λe b h=>?_;obtain⟨t,a,rfl⟩:=mD h;exact .cons (hf b) (qxi a)
theorem qg7:∀{d:List (Option Qx)}{vs:List Qx}{es:List E},trP f d vs=some es->CkP (Q c) es d vs
 |[],[],_,h=>by cases h; exact .nil
 |some k::d,v::vs,es,h=>by
  refine bDk h λa i h=>bDk h λb g h=>?_;obtain⟨t,e,rfl⟩:=mD h;exact .cons (hf i) (hf g) (qg7 e)
 |none::_,_,_,h=>by unfold trP at h; cases h
 |some _::_,[],_,h=>by unfold trP at h; cases h
 |[],_::_,_,h=>by unfold trP at h; cases h
theorem qb4{p:Option Qx}{e:Option E}(h:trO f p=some e):CkO (Q c) e p:=by
 cases p with
 |none=>cases h; exact .none
 |some p=>
  obtain⟨e,a,rfl⟩:=mD h;exact .some (hf a)
theorem qac{b:Qx}{q:Str×List Str×List D}(h:qgo c b=some q):∃pos,b=.Name q.1 pos/\c.sc.names.lookup q.1=some .globalImplicit/\(q.1,q.2.1,q.2.2)∈c.glo.ds/\(q.1==("__debug__" : Str))=false:=by
 unfold qgo at h
 split at h
 ·rename_i x pos;refine gDk h λh1 h=>aDk h1 λh1 h2=>?_;obtain⟨d,a⟩:=fD h;have:=qqi a;subst this;exact⟨pos,rfl,qqa h1,d,qa4 h2⟩
 ·exact nn h
theorem qfe{o:Nat}{a b:Qx}{d:CmpOp}{pos:Pos}{e:E}(h:qib o f c a d b=some e):CkG Q c e (.Compare a [d] [b] pos):=by
 have plain:∀{d e},((f a).bind λx=>(f b).map λy=>E.cmp d x y)=some e->CkG Q c e (.Compare a [d] [b] pos):=λ{d e} h=>by
  refine bDk h λx g h=>?_;obtain⟨y,i,rfl⟩:=mD h;exact .cmp (hf g) (hf i)
 unfold qib at h
 split at h
 ·rename_i neg hn
  split at h
  ·rename_i q k;obtain⟨p0,rfl,h1,h2,l⟩:=qac hf k;obtain⟨x,g,rfl⟩:=mD h;rw[qhp hn];exact .gin h1 h2 l (hf g)
  ·cases j:o==1 with
   |false=>
    rw[j]at h;exact plain h
   |true=>
    rw[j]at h;refine bDk h λx g h=>?_;obtain⟨y,i,rfl⟩:=mD h;rw[qhp hn];exact .din (hf g) (hf i)
 ·exact plain h
theorem qfb{o:Nat}{a b:Qx}{pos:Pos}{e:E}(h:qiv o f c a b=some e):CkG Q c e (.Subscript a b pos):=by
 unfold qiv at h
 split at h
 ·refine bDk h λx d h=>bDk h λl j h=>?_;obtain⟨k,m,rfl⟩:=mD h;exact .sli (hf d) (qb4 hf j) (qb4 hf m)
 ·split at h
  ·rename_i q i;obtain⟨p0,rfl,h1,h2,n⟩:=qac hf i;obtain⟨x,d,rfl⟩:=mD h;exact .gidx h1 h2 n (hf d)
  ·refine bDk h λx d h=>?_;obtain⟨y,g,rfl⟩:=mD h
   cases p:o==1 with
   |false=>exact .idx (hf d) (hf g)
   |true=>exact .didx (hf d) (hf g)
omit hf in
theorem qbs{x:Str}{t:M.Ty}(h:tyOf x=some t):t≠.non/\Str.ofString t.name=x:=by
 obtain⟨h1,h2⟩:=fD h;refine⟨?_,qqi h2⟩;rintro rfl;simp at h1
omit hf in
theorem qyd:∀{ps:List Qx}{b:List M.Ty},qfa c ps=some b->CkTys c b ps
 |[],_,h=>by cases h; exact .nil
 |p::r,b,h=>by
  unfold qfa at h
  split at h
  ·rename_i a; cases a
  ·rename_i a;cases a;refine bDk h λt e h=>gDk h λg h=>?_;obtain⟨b,d,rfl⟩:=mD h;obtain⟨h1,rfl⟩:=qbs e;exact .cons h1 (qqa g) (qyd d)
  ·exact nn h
theorem qfc{a t:Qx}{p0 pos:Pos}{e:E}(g:c.sc.names.lookup ("isinstance" : Str)=some .globalImplicit)(h:qiy f c a t=some e):CkG Q c e (.Call (.Name "isinstance" p0) [a,t] [] pos):=by
 unfold qiy at h
 split at h
 ·refine bDk h λt b h=>gDk h λi h=>?_;obtain⟨e,d,rfl⟩:=mD h;obtain⟨h1,rfl⟩:=qbs b;exact .isi1 g h1 (qqa i) (hf d)
 ·refine bDk h λj b h=>gDk h λi h=>?_;obtain⟨e,d,rfl⟩:=mD h;exact .isiN (of_decide_eq_true i) g (qyd b) (hf d)
 ·exact nn h
theorem bc_ok{x:Str}{ps:List Qx}{p:Qx}{p0 pos:Pos}{e:E}(g:isG c x=true)(h:((bOf x).bind λb=>gd (bOk b) ((trL f (p::ps)).map (.bcall b)))=some e):CkG Q c e (.Call (.Name x p0) (p::ps) [] pos):=by
 refine bDk h λb d h=>gDk h λh1 h=>?_;obtain⟨es,a,rfl⟩:=mD h;have:=qqi (fD d).2;subst this;exact .bcall (qqa g) h1 (qxi hf a)
theorem qfd{x:Str}{r:List Qx}{p:Qx}{p0 pos:Pos}{e:E}(g:isG c x=true)(hd:noD x=true)(h:qia f c x p r=some e):CkG Q c e (.Call (.Name x p0) (p::r) [] pos):=by
 unfold qia at h
 split at h
 ·rename_i k o;refine gDk h λh1 h=>?_;obtain⟨es,d,rfl⟩:=mD h;exact .call (qqa g) (ixS_eq o) (qa4 hd) h1 (qxi hf d)
 ·split at h
  ·rename_i q m;refine bDk h λz i h=>gDk h λh1 h=>?_;obtain⟨es,d,rfl⟩:=mD h;obtain⟨y,j⟩:=Qz4.mp h1;obtain⟨n,l⟩:=fD m;obtain⟨b,a⟩:=fD i;refine aDk a λu s=>?_;have:=qqi l;subst this;obtain⟨C,D,A⟩:=z;have w:=qqi s;have v:=eq_of_beq u;subst w v;exact .new (qqa g) j b n (qa4 hd) (qxi hf d)
  ·split at h
   ·rename_i t
    cases hi:sq x ("isinstance" : Str) with
    |true=>
     rw[hi]at h;have:=qqi hi;subst this;exact qfc hf (qqa g) h
    |false=>rw[hi]at h; exact bc_ok hf g h
   ·exact bc_ok hf g h
omit hf in
theorem qdf{x:Str}{ps:List Qx}{a:Qx}(h:qdg c x ps=some a):x=("len" : Str)/\∃q b,ps=[.Call (.Name "set" q) [a] [] b]/\c.sc.names.lookup ("set" : Str)=some .globalImplicit:=by
 unfold qdg at h
 split at h
 ·rename_i y q d b;refine gDk h λh1 h=>?_;cases h;refine aDk h1 λh1 g=>?_;have h1:=aD h1;have:=qqi h1.2;subst this;exact⟨qqi h1.1,q,b,rfl,qqa g⟩
 ·exact nn h
theorem qb7{o:Nat}{a:Qx}{m:Str}{b pos:Pos}{ps:List Qx}{e:E}(h:qb8 o f c a m b ps pos=some e):CkG Q c e (.Call (.Attribute a m b) ps [] pos):=by
 unfold qb8 at h;refine gDk h λn h=>?_
 cases u:Nat.ble 3 o with
 |true=>
  rw[u]at h;refine bDk h λz w h=>bDk h λq A h=>gDk h λh1 h=>aDk h1 λh1 h2=>bDk h λx d h=>?_;obtain⟨es,t,rfl⟩:=mD h;obtain⟨y,i⟩:=Qz4.mp h1;obtain⟨C,g⟩:=fD w;obtain⟨l,j⟩:=fD A;refine aDk g λG F=>?_;obtain⟨N,P,K⟩:=z;obtain⟨R,S⟩:=q;have I:=qqi F;have H:=eq_of_beq G;have v:=eq_of_beq j;subst I;rw[<- H]at v;subst v;exact .mcall (hf d) i C l (qxi hf t) (of_decide_eq_true h2) n
 |false=>
  rw[u]at h
  split at h
  ·exact nn h
  ·rename_i p r _
   cases s:sq m ("get" : Str) with
   |true=>
    cases qqi s;rw[s]at h;refine bDk h λx d h=>bDk h λy i h=>?_
    cases r with
    |nil=>
     cases h;exact .dgt (hf d) (hf i) n
    |cons T r=>exact nn h
   |false=>
    rw[s]at h;refine bDk h λk D h=>gDk h λhn h=>bDk h λx d h=>?_;obtain⟨es,t,rfl⟩:=mD h;have:=qqi (fD D).2;subst this;exact .meth (hf d) (qxi hf t) (of_decide_eq_true hn) n
omit hf in
theorem qwo:∀{es:List Qx}{is:List Nat},trT.trTs c es=some is->CkTs c is es
 |[],_,h=>by cases h; exact .nil
 |p::r,is,h=>by
  unfold trT.trTs at h
  split at h
  ·rename_i a; cases a
  ·rename_i a;cases a;refine bDk h λi hi h=>gDk h λg h=>?_;obtain⟨d,b,rfl⟩:=mD h;exact .cons (ixS_eq hi) (qay g) (qwo b)
  ·exact nn h
omit hf in
theorem qb3{p:Qx}{t:T}(h:trT c p=some t):CkT c t p:=by
 unfold trT at h
 split at h
 ·refine bDk h λi hi h=>gDk h λg h=>?_;cases h;exact .var (ixS_eq hi) (qay g)
 ·obtain⟨a,hi,rfl⟩:=mD h;exact .tup (qwo hi)
 ·exact nn h
theorem qg8{d p:Qx}{e:E}(h:trI f c d p=some e):CkI (Q c) c d e p:=by
 unfold trI at h
 split at h
 ·rename_i x q ps pos
  cases b:isG c x&&sq x ("range" : Str) with
  |true=>
   rw[b]at h;refine aDk b λg a=>?_;have:=qqi a;subst this
   split at h
   ·obtain⟨x,a,rfl⟩:=mD h;exact .rng1 (qqa g) (hf a)
   ·exact nn h
  |false=>
   rw[b]at h
   cases b:isG c x&&sq x ("zip" : Str) with
   |true=>
    rw[b]at h;refine aDk b λg a=>?_;have:=qqi a;subst this;dsimp only[cond]at h
    split at h
    ·refine bDk h λx a h=>?_;obtain⟨y,i,rfl⟩:=mD h;exact .zip (qqa g) (hf a) (hf i)
    ·exact nn h
   |false=>
    rw[b]at h;exact .seq (hf h)
 ·exact .seq (hf h)
end
theorem qy4:∀{l:List Str},ndB l=true->l.Nodup
 |[],_=>.nil
 |x::r,h=>by
  refine aDk h λh1 h2=>Qxf.mpr ⟨λa=>?_,qy4 h2⟩;rw[Qx2.mpr ⟨x,a,qwp x⟩]at h1;cases h1
theorem qvz{Q:Ctx->E->Qx->Prop}{R:TrE}(u:TrO Q R){c:Ctx}{elt v b:Qx}{ifs:Option Qx}{sc:Scope}{pos:Pos}{e:E}(h:qye R c elt v b ifs sc=some e):CkG Q c e (.ListComp elt [⟨v,b,ifs.toList,0⟩] sc pos):=by
 unfold qye at h;refine gDk h λl h=>aDk l λl r=>aDk l λl G=>aDk l λl H=>aDk l λh1 I=>bDk h λi hi h=>bDk h λt A h=>gDk h λq h=>?_;have D:=eq_of_beq h1;have g:∀y∈sc.names,y.2=.free->c.sc.names.lookup y.1=some .cell\/c.sc.names.lookup y.1=some .free:=λy m e=>by
  have:=Qq7.mp I y m;rw[e]at this;refine aDk (this) λp a=>?_;rw[qvr]at p a;rcases qmz p with z|z|z
  ·rw[z]at a; cases a
  ·exact .inl z
  ·exact .inr z
 have d:∀y∈sc.names,sc.names.lookup y.1=some y.2:=λy m=>by
  rw[<- qvr];exact eq_of_beq (Qq7.mp H y m)
 have o:(inS sc c.N).length=(inN sc).length:=by unfold inS; rw[Qqj]
 have n:∀(j i:Nat),(inS sc c.N)[j]?=some (some i)->∃x,(inN sc)[j]?=some x/\c.N[i]?=some x/\sc.names.lookup x=some .free:=λj i f=>by
  unfold inS at f;rw[Qqk]at f;refine mDk f λx w f=>⟨x,w,?_⟩
  cases a:kV (lk sc.names x) && !kL (lk sc.names x) with
  |false=>rw[a]at f; cases f
  |true=>
   rw[a]at f;refine aDk a λp a=>⟨ixS_eq f,?_⟩
   rw[<- qvr];rcases qmz p with z|z|z
   ·rw[z]at a; cases a
   ·rw[z]at a; cases a
   ·exact z
 have C:=λenv x=>qiu r env x;have ok:CpOk c sc (inS sc c.N) (inN sc) b t:=⟨D,d,g,λy m e=>e▸d y m,o,n,qy4 G,C,q⟩
 refine bDk h λk s h=>?_;obtain⟨e,F,rfl⟩:=mD h;exact .comp ok (qg8 (u) hi) (qb3 A) (qb4 u s) (u F)
theorem bo_ok{Q:Ctx->E->Qx->Prop}{c:Ctx}{a:BoolOp}{x y:E}{p q:Qx}{r:List Qx}{pos:Pos}(h:Q c x p)(k:Q c y (boT a pos (q::r))):CkG Q c (bo a x y) (.BoolOp a (p::q::r) pos):=by
 cases a with
 |And=>exact .and h k
 |Or=>exact .or h k
theorem trX_ok{o:Nat}{Q:Ctx->E->Qx->Prop}{R:TrE}(d:TrO Q R){c:Ctx}{p:Qx}{e:E}(C:shOk p=true)(h:trX o R c p=some e):CkG Q c e p:=by
 cases p with
 |Name x q=>
  exact .nm (qb5 h)
 |Constant k _ _=>
  cases k with
  |int i=>cases h; exact .int
  |bool i=>cases h; exact .bl
  |none=>cases h; exact .non
  |str i=>cases h; exact .str
  |_=>exact nn h
 |BinOp a m b q=>
  refine bDk h λx j h=>?_;obtain⟨y,l,rfl⟩:=mD h;exact .bin (d j) (d l)
 |UnaryOp m a q=>
  cases m with
  |USub=>
   obtain⟨x,j,rfl⟩:=mD h;exact .neg (d j)
  |Not=>
   obtain⟨x,j,rfl⟩:=mD h;exact .not (d j)
  |_=>exact nn h
 |BoolOp m ps q=>
  have h:trBo (R c) m q ps=some e:=h;unfold trBo at h
  split at h
  ·refine bDk h λx j h=>?_;obtain⟨y,l,rfl⟩:=mD h;exact bo_ok (d j) (d l)
  ·refine bDk h λx j h=>?_;obtain⟨y,l,rfl⟩:=mD h;exact bo_ok (d j) (d l)
  ·exact nn h
 |Compare a os bs q=>
  have h:trCp o (R c) c a os bs=some e:=h;unfold trCp at h
  split at h
  ·exact qfe d h
  ·refine bDk h λx j h=>bDk h λy l h=>?_;obtain⟨z,r,rfl⟩:=mD h;exact .cmp2 (d j) (d l) (d r)
  ·exact nn h
 |Tuple ps _ _=>
  obtain⟨x,j,rfl⟩:=mD h;exact .tup (qxi d j)
 |List ps _=>
  obtain⟨x,j,rfl⟩:=mD h;exact .lst (qxi d j)
 |Subscript a b _=>exact qfb d h
 |Call g ps ks q=>
  have h:trCl o (R c) c q g ps ks=some e:=h;unfold trCl at h
  split at h
  ·refine gDk h λh1 h=>aDk h1 λg hd=>?_
   split at h
   ·rename_i a s;obtain⟨x,j,rfl⟩:=mD h;obtain⟨rfl,q,A,e,t⟩:=qdf s;cases e;exact .lenset (qqa g) t (d j)
   ·exact qfd d g hd h
  ·exact qb7 d h
  ·exact nn h
 |Attribute a f _=>
  refine gDk h λD h=>bDk h λz r h=>?_;obtain⟨x,j,rfl⟩:=mD h;obtain⟨u,n⟩:=fD r;refine aDk n λs v=>?_;have:=qqi v;subst this;exact .attr (d j) u
 |Dict ks vs _=>
  have h:trDi o (R c) ks vs=some e:=h;unfold trDi at h
  split at h
  ·cases h;exact .dic0
  ·refine gDk h λh1 h=>?_;obtain⟨x,j,rfl⟩:=mD h;exact .dic (qg7 d j) (of_decide_eq_true h1)
  ·exact nn h
 |ListComp elt w sc _=>
  have h:trLc o R c elt sc w=some e:=h;unfold trLc at h
  split at h
  ·refine gDk h λh1 h=>?_;cases eq_of_beq h1;exact qvz (ifs:=none) d h
  ·refine gDk h λh1 h=>?_;cases eq_of_beq h1;exact qvz (ifs:=some _) d h
  ·exact nn h
 |_=>exact nn h
theorem trF_ok{o:Nat->Nat}{Q:Ctx->E->Qx->Prop}{R:TrE}(i:TrO Q R):TrO (CkF Q) (trF o R):=λ{c p e} h=>by
 unfold trF at h;refine gDk h λa h=>bDk h λx f h=>gDk h λd h=>?_;cases h;have k:=trX_ok i a f
 cases g:(o (pk p.pos) % 2==1)&&gcOk p && !isGc x with
 |false=>exact .of a d k
 |true=>
  refine aDk g λh1 h2=>aDk h1 λ_ h1=>.gc a d h1 (λb e=>?_) k;rw[e]at h2;cases h2
theorem qk9{o:Nat->Nat}:∀n,TrO (CkN n) (trE o n)
 |0=>λh=>nomatch h
 |n+1=>trF_ok (qk9 n)
end MS
end
section
namespace MS
open PySem PySem.Spec PyProof.Rows L2
open M (D Cell Store Sl E S T Src Fn Out R)
noncomputable def qho:Qx->Bool
 |.ListComp ..=>true
 |_=>false
noncomputable def noTup:Qx->Bool
 |.Tuple ..=>false
 |_=>true
noncomputable def qic(o:Nat->Nat)(f:Qx->Option E)(c:Ctx)(p:Qx):Qx->Option S
 |.Name x _=>(ixS x c.N).bind λi=>gd (isL c x) ((f p).map λe=>.set (.var i) e)
 |.Tuple es _ _=>gd (noTup p) ((trT.trTs c es).bind λis=>(f p).map λe=>.set (.tup is) e)
 |.Subscript a i tp=>(f p).bind λe=>(f a).bind λx=>(f i).map λy=>bif o (pk tp) / 2==1 then .dset x y e else .six x y e
 |.Attribute a m tp=>(f p).bind λe=>gd (Nat.ble 3 (o (pk tp) / 2)) ((c.glo.ats.find? λz=>z.1==o (pk tp) / 2 - 3&&sq z.2 m).bind λz=>(f a).map λx=>.setA z.1 x z.2 e)
 |_=>none
noncomputable def trS1(o:Nat->Nat)(f:Qx->Option E)(Bq:List Stmt->List S)(c:Ctx):Stmt->Option S
 |.Assign [t] p _=>qic o f c p t
 |.Expr p _=>gd (swOk p) ((f p).map .expr)
 |.Return (some p) _=>(f p).map .ret
 |.If q a b _=>(f q).map λe=>.ite e (Bq a) (Bq b)
 |.While q b [] _=>(f q).map λe=>.whil e (Bq b)
 |.Break _=>some .brk
 |.Raise (some (.Call (.Name x _) [.Constant (.str _) _ _] [] _)) none _=>gd (isG c x) (some (.rais x))
 |.For tg it b [] pos=>gd (shOk it) ((trT c tg).bind λt=>bif o (pk pos) / 2==1 then(f it).map λe=>.ford t e (Bq b) else(trI f c tg it).map λe=>.forr t e (Bq b))
 |_=>none
noncomputable def qmv:Stmt->Bool
 |.Expr (.Constant (.str _) _ _) _=>true
 |_=>false
noncomputable def trSL(g:Stmt->S):List Stmt->List S
 |[]=>[]
 |p::r=>bif qmv p then trSL g r else g p::trSL g r
noncomputable def trSs(o:Nat->Nat)(f:TrE)(c:Ctx):Nat->List Stmt->List S
 |0,ps=>trSL (λ_=>.bad) ps
 |n+1,ps=>trSL (λp=>(trS1 o (f c) (trSs o f c n) c p).getD .bad) ps
theorem qkh{c:Ctx}{g:Stmt->S}(a:∀p,CkS c (g p) p):∀ps,CkSs c (trSL g ps) ps
 |[]=>.nil
 |p::r=>by
  unfold trSL
  cases hd:qmv p with
  |false=>exact .cons (a p) (qkh a r)
  |true=>
   unfold qmv at hd
   split at hd
   ·exact .doc (qkh a r)
   ·cases hd
theorem qff{o:Nat->Nat}{f:Qx->Option E}{c:Ctx}(b:Fo CkE c f){p t:Qx}{pos:Pos}{s:S}(h:qic o f c p t=some s):CkS c s (.Assign [t] p pos):=by
 unfold qic at h
 split at h
 ·rename_i x g;refine bDk h λi hi h=>gDk h λr h=>?_;obtain⟨e,d,rfl⟩:=mD h
  cases l:qho p with
  |true=>
   unfold qho at l
   split at l
   ·exact .setC (ixS_eq hi) (qay r) (b d) ⟨_,_,_,_,rfl⟩ λenv _=>qfl _ _ _ _ _ _ _ env
   ·cases l
  |false=>
   refine .set (ixS_eq hi) (qay r) (b d) λenv=>sw_ok ?_ _ _ _;have:=(b d).sh
   cases p<;>first|rfl|(cases l; done)|(cases this; done)
 ·rename_i es k g;refine gDk h λhn h=>bDk h λA hi h=>?_;obtain⟨e,d,rfl⟩:=mD h;refine .setT (qwo hi) (b d) λenv=>?_
  cases p<;>first|rfl|cases hn
 ·rename_i a i g;refine bDk h λe d h=>bDk h λx j h=>?_;obtain⟨y,q,rfl⟩:=mD h
  cases o (pk g) / 2==1 with
  |true=>exact .dset (b j) (b q) (b d)
  |false=>exact .six (b j) (b q) (b d)
 ·rename_i a m g;refine bDk h λe d h=>gDk h λ_ h=>bDk h λz u h=>?_;obtain⟨x,j,rfl⟩:=mD h;obtain⟨v,n⟩:=fD u;refine aDk n λ_ w=>?_;have:=qqi w;subst this;exact .setA (b j) (b d) v
 ·exact nn h
theorem qiw{o:Nat->Nat}{f:Qx->Option E}{Bq:List Stmt->List S}{c:Ctx}(d:Fo CkE c f)(g:∀ps,CkSs c (Bq ps) ps){p:Stmt}{s:S}(h:trS1 o f Bq c p=some s):CkS c s p:=by
 unfold trS1 at h
 split at h
 ·exact qff d h
 ·refine gDk h λh1 h=>?_;obtain⟨e,a,rfl⟩:=mD h;exact .expr (d a) λenv=>sw_ok h1 _ _ _
 ·obtain⟨e,a,rfl⟩:=mD h;exact .ret (d a)
 ·obtain⟨e,a,rfl⟩:=mD h;exact .ite (d a) (g _) (g _)
 ·obtain⟨e,a,rfl⟩:=mD h;exact .whil (d a) (g _)
 ·cases h; exact .brk
 ·refine gDk h λk h=>?_;cases h;exact .rais (qqa k)
 ·rename_i tg it b pos;refine gDk h λh1 h=>bDk h λt i h=>?_
  cases j:o (pk pos) / 2==1 with
  |true=>
   rw[j]at h;obtain⟨e,a,rfl⟩:=mD h;exact .ford (qb3 i) (d a) (g _)
  |false=>
   rw[j]at h;obtain⟨e,a,rfl⟩:=mD h;exact .forr (qb3 i) (qg8 d a) (λenv x=>qiu h1 _ _) (g _)
 ·exact nn h
theorem qx9{o:Nat->Nat}{f:TrE}(a:TrO CkE f){c:Ctx}:∀n ps,CkSs c (trSs o f c n ps) ps
 |0,ps=>qkh (λ_=>.bad) ps
 |n+1,ps=>qkh (λp=>by
  cases h:trS1 o (f c) (trSs o f c n) c p with
  |none=>exact .bad
  |some s=>exact qiw (a) (qx9 a n) h) ps
noncomputable def argN(st:Stmt):List Str:=(qqg st).args.map (·.arg)
noncomputable def locN(st:Stmt):List Str:=argN st++((qzz st).names.filter λy=>kL (some y.2) && !((argN st).any (sq y.1))).map (·.1)
noncomputable def trFn(o:Nat->Nat)(names:List Str)(glo:Glo)(st:Stmt):Fn:=
 ⟨(argN st).length,(locN st).length,trSs o (trE o 30) ⟨locN st,qzz st,names,glo⟩ 12 (qzl st)⟩
noncomputable def scOk(st:Stmt):Bool:=(qzz st).kind==.function && !(qzz st).isCoroutine && !(qzz st).isGenerator&&ndB (locN st)&&(argN st).all (λx=>kL (lk (qzz st).names x))&&(qzz st).names.all (λy=>y.2 != .free)
theorem qwr{st:Stmt}(h:scOk st=true):FnScope (locN st) (argN st) (qzz st):=by
 refine aDk h λh c=>aDk h λh d=>aDk h λh e=>aDk h λh f=>aDk h λh1 h2=>?_;refine⟨eq_of_beq h1,by simpa using h2,by simpa using f,qy4 e,by unfold locN; rw[Qxv],λx b=>?_,λy a=>?_⟩
 ·have:=kL_eq (Qq7.mp d x b);rwa [qvr]at this
 ·simpa using Qq7.mp c y a
end MS
end
section
namespace MS
open PySem PySem.Spec PyProof.Rows L2
open M (D Cell Store Sl E S T Src Fn Out R)
abbrev Orc:=List (Nat×List Nat)
abbrev Rw:=Option Addr×Str×Str×Stmt×Orc
noncomputable def orc:Orc->Nat->Nat
 |[],_=>0
 |(v,l)::r,k=>bif l.any (k.beq ·) then v else orc r k
noncomputable def msT:Nat->List Rw->List (Nat×Addr×Str)
 |_,[]=>[]
 |n,(some C,m,_)::r=>(n,C,m)::msT (n+1) r
 |n,(none,_)::r=>msT (n+1) r
noncomputable def fnsT(names:List Str)(glo:Glo)(t:List Rw):List Fn:=t.map λr=>trFn (orc r.2.2.2.2) names glo r.2.2.2.1
theorem qhh{q:Nat×Addr×Str}{t:List Rw}:∀{n:Nat},q∈msT n t->∃k r,q.1=n+k/\t[k]?=some r/\r.1=some q.2.1/\r.2.1=q.2.2:=by
 induction t with
 |nil=>exact λh=>nomatch h
 |cons a t b=>
  obtain⟨C,m,z⟩:=a;intro n h;have up:q∈msT (n+1) t->∃k r,q.1=n+k/\((C,m,z)::t)[k]?=some r/\r.1=some q.2.1/\r.2.1=q.2.2:=λh=>by
   obtain⟨k,r,e,w⟩:=b h;exact⟨k+1,r,by lia,w⟩
  cases C with
  |none=>exact up h
  |some C=>
   rcases Qqb.mp h with rfl|h
   ·exact⟨0,_,rfl,rfl,rfl,rfl⟩
   ·exact up h
abbrev Bd(r:Rw):Prop:=∀(kV doc pm:Value) (an:Option Addr) (cdv ct:Value) (us:List Value),us.length=(argN r.2.2.2.1).length->bindArgs (PySem.W.fnOf r.2.1 r.2.2.1 (qqg r.2.2.2.1) (qzl r.2.2.2.1) (qzz r.2.2.2.1) .none kV doc pm an cdv ct) ⟨us,[]⟩=pure ((argN r.2.2.2.1).zip us)
inductive RwK (K:Qqq):Rw->Prop
 |fn {x:Str}{st:Stmt}{o:Orc}{f:Addr}{od an:Option Addr}{sl:Array (Option Value)}{oc kV dc pm cd ct:Value}(a:Qxi K mainGlobals x=some (some (.ref f))) (l:K.lookup f=some ⟨oc,od,.func (PySem.W.fnOf x x (qqg st) (qzl st) (qzz st) .none kV dc pm an cd ct),sl⟩) (c:PySem.W.codeIn K cd x=true) (k:Qzx K (.ref f)=true):RwK K (none,x,x,st,o)
 |me {C:Addr}{m x:Str}{st:Stmt}{o:Orc}{f:Addr}{od an:Option Addr}{sl:Array (Option Value)}{oc kV dc pm cd ct:Value}(a:PySem.W.findIn K (.ref C) m=some (some (.ref f))) (fn:PySem.W.isFn K (.ref f)=true) (l:K.lookup f=some ⟨oc,od,.func (PySem.W.fnOf m x (qqg st) (qzl st) (qzz st) .none kV dc pm an cd ct),sl⟩) (c:PySem.W.codeIn K cd x=true) (k:Qzx K (.ref f)=true):RwK K (some C,m,x,st,o)
noncomputable def rwOk(r:Rw):Bool:=scOk r.2.2.2.1&&(r.1.isNone||(qga r.2.2.1).not)
theorem qfi{K:Qqq}{h:Heap}{mg:Str->Option Value}{t:List Rw}{glo:Glo}(X:K.In h)(G:h.Ns mainGlobals mg)(d:glo.ms=msT 0 t)(n:∀r∈t,RwK K r)(q:∀r∈t,Bd r)(p:t.all rwOk=true)(f:Nat)(x:Str)(e:(t.map (·.2.2.1))[f]?=some x):FText K mg (fnsT (t.map (·.2.2.1)) glo t) (t.map (·.2.2.1)) glo f x:=by
 rw[Qqk]at e;obtain⟨r,g,rfl⟩:=mD e;have i:=Qqd g;have j:(fnsT (t.map (·.2.2.1)) glo t)[f]?=some (trFn (orc r.2.2.2.2) (t.map (·.2.2.1)) glo r.2.2.2.1):=by
  unfold fnsT;rw[Qqk,g]
  rfl
 have d:∀C m,(f,C,m)∈glo.ms->r.1=some C/\r.2.1=m:=λC m w=>by
  rw[d]at w;obtain⟨k,r',e,h1,h2⟩:=qhh w;obtain rfl:f=k:=e.trans (Qx8 k);cases g.symm.trans h1;exact h2
 refine aDk (Qq7.mp p r i) λh1 h2=>?_;have b:=q r i;have s:=qwr h1
 cases n r i with
 |fn a l c k=>exact⟨_,_,_,_,_,_,_,j,qjm l c k,⟨λ_=>Qxc X G a,λC m w=>nomatch (d C m w).1⟩,(qjm l c k).binds b,s,qx9 (qk9 30) 12 _,rfl,rfl⟩
 |@me C m x st o f y an sl A kV dc v D ct a fn l c k=>
  refine⟨_,_,_,_,_,_,_,j,qjm l c k,⟨λz=>?_,λC m w=>?_⟩,(qjm l c k).binds b,s,qx9 (qk9 30) 12 _,rfl,rfl⟩
  ·have h2:=h2;rw[z]at h2;cases h2
  ·obtain⟨e,u⟩:=d C m w;cases e;cases u;exact⟨a,fn,k⟩
structure Vof (K:Qqq) (u:Value) (d:D):Prop where
 ex:∃v,RelV v u/\∀m H,IsD K m H d v
structure Vsf (K:Qqq) (us:List Value) (ds:List D):Prop where
 ex:∃vs,Vals vs us/\∀m H,IsDs K m H ds vs
structure Enf (prm:Qp) (K:Qqq) (es:List Q5) (ks:List Str) (ds:List D):Prop where
 ex:∃us vs,EntOk prm es ks us/\Vals vs us/\∀m H,IsDs K m H ds vs
theorem vInt{K:Qqq}{i:Int}{t:Tok}:Vof K (.int i t) (.int i):=⟨.int _,⟨_,rfl⟩,λm H=>mkInt _⟩
theorem vStr{K:Qqq}{s:Str}{t:Tok}:Vof K (.str s t) (.str s):=⟨.str _,⟨_,rfl⟩,λm H=>mkStr _⟩
theorem vNil{K:Qqq}:Vsf K [] []:=⟨[],.nil,λ_ _=>qqz⟩
theorem vCons{K:Qqq}{u:Value}{d:D}{us:List Value}{ds:List D}:Vof K u d->Vsf K us ds->Vsf K (u::us) (d::ds)
 |⟨v,a,b⟩,⟨vs,c,e⟩=>⟨v::vs,.cons a c,λm H=>qzi (b m H) (e m H)⟩
theorem vTup{K:Qqq}{a:Addr}{gd:Option Addr}{e:Nat}{b:Array (Option Value)}{vs:List Value}{ds:List D}(h:K.lookup a=some ⟨.type "tuple",gd,.seq vs.toArray e,b⟩)(q:Vsf K vs ds)(n:Nat.ble vs.length sizeLine=true):Vof K (.ref a) (.tup ds):=by
 obtain⟨vs,c,d⟩:=q;exact⟨.ref _,rfl,λm H=>qxz (.inr ⟨_,_,_,h,rfl,rfl,Nat.le_of_ble_eq_true n,c⟩) (d m H)⟩
theorem eNil{a:Qp}{K:Qqq}:Enf a K [] [] []:=⟨[],[],.nil,.nil,λ_ _=>qqz⟩
theorem eCons{g:Qp}{K:Qqq}{k:Str}{t:Tok}{u:Value}{d:D}{es:List Q5}{h:List Str}{ds:List D}:Vof K u d->Enf g K es h ds->Enf g K (⟨PyData.keyHash g k,.str k t,u⟩::es) (k::h) (d::ds)
 |⟨v,a,b⟩,⟨us,vs,e,c,f⟩=>⟨_,v::vs,.cons e,.cons a c,λm H=>qzi (b m H) (f m H)⟩
inductive GlK (K:Qqq) (q:Str×D):Prop
 |mk {v:Value}(g:Qxi K mainGlobals q.1=some (some v)) (h:Vof K v q.2):GlK K q
inductive GdK (prm:Qp) (K:Qqq) (q:Str×List Str×List D):Prop
 |mk {a:Addr}{es:List Q5}{ep:Nat}(g:Qxi K mainGlobals q.1=some (some (.ref a))) (l:K.lookup a=some { cls:=.type "dict",data:=.dict es.toArray ep }) (h:Enf prm K es q.2.1 q.2.2) (n:(a==Qi)=false):GdK prm K q
noncomputable def gloOk(g:Glo):Bool:=(g.ats.all λq=>g.cl.any λz=>z.2==q.1)&&g.ds.all λq=>ndB q.2.1
theorem glo_mo{K:Qqq}{h:Heap}{mg:Str->Option Value}{prm:Qp}{glo:Glo}(X:K.In h)(G:h.Ns mainGlobals mg)(o:gloOk glo=true)(s:∀q∈glo.ds,GdK prm K q)(r:∀q∈glo.cs,GlK K q)(j:∀q∈glo.cl,ClK K q.1 q.2)(p:∀q∈glo.ats,PySem.W.findIn K (.ref q.1) q.2=some none)(z:∀x∈bNm,Qxi K mainGlobals x=some none):Mo K mg glo prm:=by
 refine aDk o λc1 c2=>⟨λt C i=>(j _ i).mo X G,λC f i=>⟨?_,p _ i⟩,λx ks ds i=>?_,λx d i=>?_,λx i=>PySem.W.mg_none_of X G (z x i)⟩
 ·obtain⟨y,m,e⟩:=Qx2.mp (Qq7.mp c1 _ i);have e:=eq_of_beq e;subst e;exact(j _ m).cls
 ·cases s _ i with
  |mk g l q n=>
   obtain⟨k,vs,e,c,d⟩:=q.ex;exact⟨_,Qxc X G g,⟨k,vs,_,_,l,e,c,d⟩,qy4 (Qq7.mp c2 _ i),n⟩
 ·cases r _ i with
  |mk g q=>
   obtain⟨v,a,b⟩:=q.ex;exact⟨_,v,Qxc X G g,a,b⟩
end MS
end
section
namespace M
open PySem (Str Operator CmpOp)
inductive XE (fns:List Fn) (d:Nat) (C:Nat->List D->Store->Store->Prop):Sl->Store->E->Store->Prop
 |call {τ st f es ds st1 st'} (n:Nat) (h:evs ((rn fns d n).ev τ) es st=some (ds,st1)) (x:C f ds st1 st'):XE fns d C τ st (.call f es) st'
 |callA {τ st f pre e post ds st1 st'} (n:Nat) (h:evs ((rn fns d n).ev τ) pre st=some (ds,st1)) (x:XE fns d C τ st1 e st'):XE fns d C τ st (.call f (pre++e::post)) st'
 |mcall {τ st A f m a es o fs st1 ds st2 st'} (n:Nat) (h:(rn fns d n).ev τ st a=some (o,st1)) (ho:objAt st1 A o=some fs) (hm:(fs.lookup m).isSome=false) (ha:evs ((rn fns d n).ev τ) es st1=some (ds,st2)) (x:C f (o::ds) st2 st'):XE fns d C τ st (.mcall A f m a es) st'
 |gc {τ st e st'} (x:XE fns d C τ st e st'):XE fns d C τ st (.gc e) st'
 |didx {τ st a b st'} (x:XE fns d C τ st a st'):XE fns d C τ st (.didx a b) st'
 |idx {τ st a b st'} (x:XE fns d C τ st a st'):XE fns d C τ st (.idx a b) st'
noncomputable def ncomp:E->Bool
 |.comp _ _ _ _ _=>false
 |.gc e=>ncomp e
 |_=>true
inductive XS (fns:List Fn) (x0:Str) (d:Nat) (C:Nat->List D->Store->Store->Prop):Sl->Store->List S->Store->Prop
 |rais {τ st ss}:XS fns x0 d C τ st (.rais x0::ss) st
 |set {τ st i e ss st'} (hc:ncomp e=true) (x:XE fns d C τ st e st'):XS fns x0 d C τ st (.set (.var i) e::ss) st'
 |ret {τ st e ss st'} (x:XE fns d C τ st e st'):XS fns x0 d C τ st (.ret e::ss) st'
 |expr {τ st e ss st'} (x:XE fns d C τ st e st'):XS fns x0 d C τ st (.expr e::ss) st'
 |iteT {τ st c a b ss st1 st'} (n:Nat) (h:(rn fns d n).tst τ st c=some (true,st1)) (x:XS fns x0 d C τ st1 a st'):XS fns x0 d C τ st (.ite c a b::ss) st'
 |iteF {τ st c a b ss st1 st'} (n:Nat) (h:(rn fns d n).tst τ st c=some (false,st1)) (x:XS fns x0 d C τ st1 b st'):XS fns x0 d C τ st (.ite c a b::ss) st'
 |next {τ st s ss τ1 st1 st'} (n:Nat) (h:stepEx (rn fns d n) τ st s=some (.nx τ1,st1)) (x:XS fns x0 d C τ1 st1 ss st'):XS fns x0 d C τ st (s::ss) st'
noncomputable def XC(fns:List Fn)(x0:Str)(ok:Nat->Bool):Nat->Nat->List D->Store->Store->Prop
 |0=>λ_ _ _ _=>False
 |d+1=>λf ds st st'=>ok f=true/\∃F,fns[f]?=some F/\ds.length=F.np/\XS fns x0 d (XC fns x0 ok d) (ds.map some++List.replicate (F.nl - ds.length) none) st F.body st'
theorem XC.ok{fns:List Fn}{a:Str}{ok:Nat->Bool}:∀{d f:Nat}{ds:List D}{st st':Store},XC fns a ok d f ds st st'->ok f=true
 |0,_,_,_,_,h=>h.elim
 |_+1,_,_,_,_,h=>h.1
end M
namespace M
open PySem (Str)
inductive XT (fns:List Fn) (d:Nat) (C:Nat->List D->Store->Store->Prop):Sl->Store->List S->Store->Prop
 |set {τ st i e ss st'} (hc:ncomp e=true) (x:XE fns d C τ st e st'):XT fns d C τ st (.set (.var i) e::ss) st'
 |expr {τ st e ss st'} (x:XE fns d C τ st e st'):XT fns d C τ st (.expr e::ss) st'
 |nexE {τ st e ss v st1 st'} (n:Nat) (h:(rn fns d n).ev τ st e=some (v,st1)) (x:XT fns d C τ st1 ss st'):XT fns d C τ st (.expr e::ss) st'
 |iteT {τ st c a b ss st1 st'} (n:Nat) (h:(rn fns d n).tst τ st c=some (true,st1)) (x:XT fns d C τ st1 a st'):XT fns d C τ st (.ite c a b::ss) st'
 |iteF {τ st c a b ss st1 st'} (n:Nat) (h:(rn fns d n).tst τ st c=some (false,st1)) (x:XT fns d C τ st1 b st'):XT fns d C τ st (.ite c a b::ss) st'
end M
end
section
namespace MS
open PySem PySem.Spec PyProof.Rows L2
theorem qmb{X:Cx}{pins:List (Addr×Obj)}{r:L2.St}{H:Hp}{s:Qz}{h':Heap}{n:Nat}(I:Inv X pins r H s)(A:X.s₀.heap.objs.size<=n)(D:X.env.locals<n)(E:∀x c,X.env.cells.lookup x=some c->c<n)(y:∀p∈X.pn++pins,p.1<n)
  (cov:∀b o,s.heap.get? b=some o->(b<n\/H b≠none)->b ∉ frs X.stack->h'.get? b=some o) (up:s.heap.UpToSlots h'):Inv X pins r H { s with heap:=h' }:=by
 classical
 have k:∀b,H b≠none->b ∉ frs X.stack:=λb h z=>h (I.stkFree b z);have g:∀b o,s.heap.get? b=some o->b∈frs X.stack->∃sl,h'.get? b=some { o with slots:=sl }:=λb o e a=>by
  obtain⟨_,o',w,d⟩:=I.stack.mem a;rw[e]at w;cases w;exact up b o e d
 have j:∀b∈X.fs,b∈frs X.stack:=λb a=>by
  rcases I.ok.stk with e|⟨e,hf⟩
  ·rw[e]; exact a
  ·rw[e]; unfold frs; rw[Qxw,hf]; exact Qqf _ a
 have big:∀b o,s.heap.get? b=some o->b ∉ (List.range s.heap.objs.size).filter (λb=>decide (n<=b/\H b=none))->b<n\/H b≠none:=λb o e a=>by
  rcases Qzn b n with z|z
  ·exact .inl z
  ·refine .inr λq=>a (Qxp.mpr ⟨Qza.mpr (Qqa e),Z0 ⟨z,q⟩⟩)
 refine I.step (g':=s.gens) (t':=s.toks) (d':=s.drawn) (ch:=(List.range s.heap.objs.size).filter λb=>decide (n<=b/\H b=none)) (λb a=>?_) (λb o l f a e q=>?_) (λb o l f a e q=>g b o e (j b f)) (λ_ _ _ _ q=>q) (λb o a e=>?_) (λ_ _ e=>e) (λ_ _ _ e=>e) (λb ps e=>⟨#[],by rw[e]; simp⟩) (λm q=>up.ns q) (λb u e=>?_) I.bare
 ·obtain⟨i,F⟩:=of_decide_eq_true (Qxp.mp a).2;exact⟨.inr (Qq9 A i),λz=>Nat.not_le.mpr D (by rw[<- z]; exact i),λx c e z=>Nat.not_le.mpr (E x c e) (by rw[z]; exact i),λp q z=>Nat.not_le.mpr (y p q) (by rw[z]; exact i)⟩
 ·refine cov b o e (big b o e a) λz=>?_;rcases Qqb.mp (I.stkSub b z) with z|z
  ·exact l z
  ·exact f z
 ·by_cases hf:b∈frs X.stack
  ·obtain⟨sl,q⟩:=g b o e hf;exact⟨_,q⟩
  ·exact⟨o,cov b o e (big b o e a) hf⟩
 ·refine(I.hok b u e).stay (λc v C q=>?_) (λ_ q=>q) λ_ _ q=>q;have t:H c≠none:=by
   rcases C with z|z
   ·rw[z,e]; exact λq=>nomatch q
   ·rw[z]; exact λq=>nomatch q
  exact cov c v q (.inr t) (k c t)
structure Fl (C:Addr) (l:List Env) (n:Nat) (H:Hp) (ea t:Addr) (g Bq h:Heap):Prop where
 cov:∀b o,g.get? b=some o->(b<n\/H b≠none)->b ∉ frs l->Bq.get? b=some o
 up:g.UpToSlots h
 stay:Bq.StaysIn h
 new:Bq.get? ea=none
 fr:h.FunFrames Bq l
 tr:∃fl,h.TracedAtW Bq ea (.ref C) (.ref t) fl
theorem Fl.turn{C:Addr}{l:List Env}{n:Nat}{H:Hp}{a t:Addr}{g Bq h h':Heap}(x:Fl C l n H a t g Bq h)(st:Bq.StaysIn h')(fr:h'.FunFrames Bq l)(up:h.UpToSlots h')(tr:∃b,h'.TracedAtW Bq a (.ref C) (.ref t) b):Fl C l n H a t g Bq h':=
 ⟨x.cov,x.up.trans up,st,x.new,fr,tr⟩
noncomputable def CXr(P:Program)(w:Qk)(C:Addr):CXT:=λouter H s E e s'=>∃H' ea t g Bq,e=.ref ea/\s'.os=s.os/\Zc s'.gens/\Un (frs outer) [] H H' s.heap g/\HOk P w H' g/\Fl C outer s.heap.objs.size H' ea t g Bq s'.heap/\E .none none H'
def Air(C:Addr)(X:Cx)(pins:List (Addr×Obj))(σ:L2.St)(H:Hp)(e:Value)(s:Qz):Prop:=
 ∃g n ea t Bq,e=.ref ea/\Inv X pins σ H { s with heap:=g }/\X.s₀.heap.objs.size<=n/\X.env.locals<n/\(∀x c,X.env.cells.lookup x=some c->c<n)/\(∀p∈X.pn++pins,p.1<n)/\Fl C X.stack n H ea t g Bq s.heap
inductive Thr (C:Addr) (X:Cx) (P:Hp->Prop):Value->Qz->Prop
 |made {pins σ H s h' ea vs} (I:Inv X pins σ H s) (x:Heap.MadeExcOf s.heap h' ea (.ref C) vs) (p:P H):Thr C X P (.ref ea) { s with heap:=h' }
 |air {pins σ H e s} (a:Air C X pins σ H e s) (p:P H):Thr C X P e s
section
variable {X:Cx}{pins:List (Addr×Obj)}{σ:L2.St}{H H':Hp}{s s':Qz}{C:Addr}{e:Value}
theorem Inv.cell_lt(I:Inv X pins σ H s){x:Str}{c:Addr}(e:X.env.cells.lookup x=some c):c<s.heap.objs.size:=by
 obtain⟨v,q⟩:=I.cell x c e;exact q.lt
theorem Inv.air{E:XK}(I:Inv X pins σ H s)(c:CXr X.prog X.w C X.stack H s E e s'):∃H',Air C X pins σ H' e s'/\E .none none H':=by
 obtain⟨H',ea,t,g,Bq,rfl,os,bare,un,hok,d,q⟩:=c;exact⟨H',⟨g,s.heap.objs.size,ea,t,Bq,rfl,I.call' (s':={ s' with heap:=g }) (ch:=[]) os un hok bare (λb z=>absurd z (by simp)),I.sz,I.lt,λx c e=>Inv.cell_lt I e,λp a=>Qqa (I.pin p a).1,d⟩,q⟩
theorem Air.land(a:Air C X pins σ H e s):Inv X pins σ H s:=by
 obtain⟨g,n,ea,t,Bq,rfl,I,h1,h2,h,f,c⟩:=a;exact qmb (s:={ s with heap:=g }) (h':=s.heap) I h1 h2 h f (λb o q z d=>c.stay b o (c.cov b o q z d)) c.up
end
section
variable {M:Model}{A:Qv}{E:Value->Qz->Prop}{s:Qz}{Q:Unit->Qz->Prop}{C:Addr}{l:List Env}{n:Nat}{H:Hp}{ea t Lq:Addr}{g Bq:Heap}
theorem qy2{env:Env}(f:A.frames=some (env::l))(i:env.frame=some Lq)(x:Fl C (env::l) n H ea t g Bq s.heap)
  (h:∀h',Fl C (env::l) n H ea t g Bq h'->Q () { s with heap:=h' }):wpAny M A (noteFrame (.ref ea) env) Q E s:=by
 obtain⟨F,tr⟩:=x.tr
 by_cases m:F=rawInt Lq
 ·subst m;exact wpAny_noteFrame_againW i tr (h s.heap x)
 ·obtain⟨R,vs,T,S,u,r,⟨P,K⟩,q,p,I,G,k,j,d⟩:=tr;unfold noteFrame;simp only[i];refine Qq (Qc r q p ?_); rw[Z3 (by simp)];refine Qq (Qc k j d ?_); rw[Z2 (by simpa using m)];refine Qq (Zs k j (Qq6.mp d).1 ?_);have e:∀b,b≠T->(s.heap.update T (Obj.mapFields (·.setIfInBounds 3 Value.none))).get? b=s.heap.get? b:=λb a=>Qz1 _ _ (Ne.symm a);have c:∀b o,s.heap.get? b=some o->(∀vs,o.data≠.fields vs)->b≠T:=λb o a hd z=>by
   rw[z,k]at a;cases a;exact hd u j
  have st:Bq.StaysIn (s.heap.update T (Obj.mapFields (·.setIfInBounds 3 Value.none))):=λb o a=>(e b λz=>by rw[z,I]at a; cases a).trans (x.stay b o a);refine wpAny_entryW f (x.fr.of_keeps λb o a hd=>⟨o,(e b (c b o a hd)).trans a,rfl⟩) i ((e ea (Ne.symm G)).trans r) st x.new q (Qq6.mp p).1 K λh' N=>h h' ?_;obtain⟨D,y,w,v⟩:=N;exact x.turn D y (λb o a hd=>v b o ((e b (c b o a hd)).trans a) hd) ⟨_,by rw[<- P]; exact w⟩
theorem qxf{fr:Option Addr}(x:Fl C l n H ea t g Bq s.heap)(h:∀h',Fl C l n H ea t g Bq h'->Q () { s with heap:=h' }):wpAny M A (setFlight (.ref ea) fr) Q E s:=by
 obtain⟨F,w,vs,T,D,k,v,y,u,r,q,p,i,e,j⟩:=x.tr;unfold setFlight;refine Qq (Qc v u r ?_); rw[Z3 (by simp)];have m:3<k.size:=(Qq6.mp j).1;have d:∀b,b≠T->(s.heap.update T (Obj.mapFields (·.setIfInBounds 3 (fr.elim Value.none λf=>rawInt f)))).get? b=s.heap.get? b:=λb a=>Qz1 _ _ (Ne.symm a);have c:∀b o,s.heap.get? b=some o->(∀vs,o.data≠.fields vs)->b≠T:=λb o a hd z=>by
  rw[z,i]at a;cases a;exact hd k e
 refine Zs i e m (h _ (x.turn (λb o a=>(d b λz=>by rw[z,q]at a; cases a).trans (x.stay b o a)) (x.fr.of_keeps λb o a hd=>⟨o,(d b (c b o a hd)).trans a,rfl⟩) (λb o a hd=>⟨o.slots,(d b (c b o a hd)).trans a⟩) ⟨_,w,vs,T,_,_,(d ea (Ne.symm p)).trans v,y,u,r,q,p,Qxz _ i (Obj.isFreed_of_fields (Obj.data_mapFields e _)),Obj.data_mapFields e _,by simp[m]; rfl⟩))
end
end MS
end
section
namespace MS
open PySem PySem.Spec PyProof.Rows L2
theorem qax{C:Addr}{P:Program}{w:Qk}{K:Qqq}{mg:Str->Option Value}{base:Heap}{N:List Str}{d:Str}{c:Scope}{f:Addr}{l:Value}{A:Qv}{outer:List Env}{s:Qz}{H:Hp}{E:XK}{e:Value}{s':Qz}
  (x:Thr C (cxOf (CXr P w C) P w K mg base N d c f l A outer s H E) (λH'=>E .none none H') e s'):(cxOf (CXr P w C) P w K mg base N d c f l A outer s H E).xe e s':=by
 have j:∀{pins:List (Addr×Obj)}{σ:L2.St}{H':Hp}{i:Qz},Inv (cxOf (CXr P w C) P w K mg base N d c f l A outer s H E) pins σ H' i->∀b,(b<s.heap.objs.size\/H' b≠none)->b ∉ frs outer->b ∉ frs (envOfC d c s.heap.objs.size f l::outer):=by
  intro pins σ H' i I b z k m;have m:b∈s.heap.objs.size::frs outer:=m;rcases Qqb.mp m with q|q
  ·rcases z with z|z
   ·exact Qzy _ (Nat.lt_of_lt_of_eq z q.symm)
   ·exact z (by rw[q]; exact I.free)
  ·exact k q
 cases x with
 |made I x p=>
  rename_i pins σ H1 i h' ea vs;refine wpAny_leaves_madeW (base:=PySem.W.hideAll i.heap (frs (envOfC d c s.heap.objs.size f l::outer))) I.ok.frames rfl (λb o q=>PySem.W.of_hideAll _ q) (PySem.W.funFrames_hide I.stack λenv he a F=>Qxd.mpr ⟨env,he,F⟩) x λh2 t D S R x4=>?_;obtain⟨y,v,u,r⟩:=D;exact⟨H1,ea,t,i.heap,_,rfl,I.os,I.bare,I.base,I.hok,⟨λb o q z k=>PySem.W.hideAll_get _ q (j I b z k),(Heap.UpToSlots.of_keeps x.keeps).trans x4,y,v,u,⟨_,r⟩⟩,p⟩
 |air a p=>
  rename_i pins σ H1;obtain⟨g,n,ea,t,Bq,rfl,I,h1,h2,U,T,G⟩:=a;show wpAny _ _ (leaving _ _) _ _ _;unfold leaving;refine Qq (qy2 I.ok.frames rfl G λh' Q=>qxf Q λh2 h=>?_);exact⟨H1,ea,t,g,Bq,rfl,I.os,I.bare,I.base,I.hok,⟨λb o q z k=>h.cov b o q (z.imp (λz=>Qqm z h1) id) (j I b z k),h.up,h.stay,h.new,h.fr.2.2,h.tr⟩,p⟩
abbrev bmV:List Value:=[.type "ValueError",.type "Exception",.type "BaseException",.type "object"]
structure Bad (x:Str) (K:Qqq) (mg:Str->Option Value) (C:Addr):Prop where
 own:∀h:Heap,K.In h->OwnCls x C bmV "ValueError.__new__" mg h
 nd:(x==("__debug__" : Str))=false
theorem qf0{X:Cx}{C:Addr}{P:Hp->Prop}{x f:Str}{j:Nat}{m np a pos:Pos}(G:Bad x X.K X.mg C)(A:X.calm=true)(thr:∀e s',Thr C X P e s'->X.xe e s')(y:Gl X x):
  PS X (.Raise (some (.Call (.Name x np) [.Constant (.str f) j m] [] a)) none pos) (λ_ _ H=>P H):=by
 intro pins s σ H D I h;have k:=G.own X.base I.ok.mod.kin;obtain⟨tl,U,nm,q,bs,b,l,d,S,i,R,v,u,t,p,o,n,K,E,g,T⟩:=k.obj;refine wpAny_Raise_call_subT (C:=C) (k5:=o) (k3:=p) (k2:=t) (k1:=u) (k0:=v) (dd:=R) (col:=i) (ab:=S) (sub:=d) (sn:=l) (hdct:=b) (bm:=tl) (bs:=bs) (N:=U) (q:=q) (nm:=nm) F.excBase_ValueError (mN:=n) (T.hasType F.excBase_ValueError.hasBase) (I.ok.hd A) rfl g (qxd I y k.bound ⟨rfl,?_⟩ G.nd);refine Calls.evalArgs_plain (thn ((qz6 pe_str pa_nil rfl) a pins s σ H (λvs H1=>vs.length<=sizeLine/\H1=H) I ⟨(by decide:1<=sizeLine),rfl⟩) λvs V ⟨ws,H2,c,r,z,Q⟩=>?_);subst Q;exact⟨rfl,by rw[<- r.length]; exact z,c.bk _ _ K,E.keeps c.bk,T.keeps c.bk,λh' e w=>thr _ _ (.made c w h)⟩
end MS
end
section
namespace MS
open PySem PySem.Spec PyProof.Rows L2
open M (D Cell Store Sl E S T Src Fn Out R)
theorem PA.nox{X:Cx}{es:List Qx}{t:TA}(h:PA X.nox es t):PA X es t:=λpos pins s σ H Q I a=>
 Qy (h pos pins s σ H Q (I.wish _) a) (λ_ _ ⟨v,H',b,r,q⟩=>⟨v,H',b.unwish,r,q⟩) λ_ _ z=>False.elim z
theorem PS.nox{X:Cx}{st:Stmt}{t:TS}(h:PS X.nox st t):PS X st t:=λpins s σ H D I a=>
 Qy (h pins s σ H D (I.wish _) a) (λ_ _ q=>q.unwish) λ_ _ z=>False.elim z
section
variable {X:Cx}{CX:CXT}{k:Nat}{f C:Addr}{fd:Qh}{ps:List Str}{sp:Sp}{dvs:List V}{ds:List Value}{E:XK}{x m:Str}{p pos apos:Pos}{e o:Qx}{es:List Qx}{ta:TE}{t:TA}{G:L2.St->Prop}
def qfq(G:L2.St->Prop)(CX:CXT)(X:Cx)(E:XK):Prop:=∀(pins:List (Addr×Obj)) (σ:L2.St) (H:Hp) (s:Qz) (e:Value) (s':Qz),G σ->Inv X pins σ H s->CX X.stack H s E e s'->X.xe e s'
theorem qws{a:List (Addr×Obj)}{c:L2.St}{H:Hp}{s:Qz}{Q:VK}{us:List Value}{vs:List V}(F:FnOk X.prog X.w X.K X.mg X.base CX k f fd ps sp)(j:Room k X.A)(n:Binds X.K fd ps ds)(hd:Vals dvs ds)(i:qfq G CX X E)(g:G c)
  (I:Inv X a c H s) (r:Vals vs us) (h:sp (vs++dvs) H Q E):wpAny (model X.prog X.w) X.A (call (.ref f) us) (EP X a c Q) X.xe s:=by
 have d:Vals (vs++dvs) (us++ds):=r.append hd;have l:(us++ds).length=ps.length:=by rw[<- d.length]; exact F.len _ _ _ _ h
 refine wpAny_call (Q6 (F.run X.A X.stack s H ⟨us,[]⟩ (us++ds) (vs++dvs) Q E j I.env0 (n s us I.kIn l) d h) λr s' b=>?_)
 cases r with
 |error e=>exact i a c H s e s' g I b
 |ok q=>
  cases q with
  |ret u=>exact I.after b
  |next=>exact False.elim b
  |brk=>exact False.elim b
  |cont=>exact False.elim b
theorem qgv(F:FnOk X.prog X.w X.K X.mg X.base CX k f fd ps sp)(i:Room k X.A)(n:Gl X x)(j:X.mg x=some (.ref f))(l:Qzx X.K (.ref f)=true)(v:Binds X.K fd ps ds)(hd:Vals dvs ds)(d:qfq G CX X E)
  (w:PA X (e::es) t) (b:(x==("__debug__" : Str))=false) (u:starEach (e::es) X.env=(false,Qw e X.env)::starEach es X.env) (a:(backTo pos (starEach es X.env)).any (·.1)=false) :
  PE X (.Call (.Name x p) (e::es) [] pos) λσ H Q=>G σ/\tCall sp dvs E t σ H Q:=by
 intro pins s σ H Q I ⟨g,h⟩;refine Q8 (qxd I n j ?_ b);refine Qxe (h₀:=X.base) I.ok.mod.kin l (thn (w pos pins s σ H _ I h) λy z ⟨vs,H1,c,r,q⟩=>⟨c.kIn,?_⟩) u a;exact qws F i v hd d g c r q
theorem qf9{pl:Sem Bool}(P:PE X o ta)(c:Cls X.K C)(j:Meth X.K C m f)(F:FnOk X.prog X.w X.K X.mg X.base CX k f fd ps sp)(N:Room k X.A)(R:Binds X.K fd ps ds)(hd:Vals dvs ds)(D:qfq G CX X E)(S:PA X (e::es) t)
  (b:starEach (e::es) X.env=(false,Qw e X.env)::starEach es X.env) (d:(backTo pos (starEach es X.env)).any (·.1)=false)
  (K:Qw (.Call (.Attribute o m apos) (e::es) [] pos) X.env=(do
   let i <- Qw o X.env
   Zx apos.atName
   let (f,first) <- Qu [i] (Zb i m pl)
   callWith pos f first (backTo pos (starEach (e::es) X.env)) (backToKw pos (keywordEach [] X.env)))) :
  PE X (.Call (.Attribute o m apos) (e::es) [] pos) λσ H Q=>G σ/\qcx C m sp dvs E ta t σ H Q:=by
 intro pins s σ H Q I ⟨g,h⟩;refine Qz9 (pl:=pl) (thn (P pins s σ H _ I h) λu y ⟨x,H1,v,z,a,dx,fs,ex,ea,l,q⟩=>?_) K;subst ex;obtain rfl:u=Value.ref a:=z;refine qqc v ea c j l ?_;refine Qxe (first:=[.ref a]) (h₀:=X.base) I.ok.mod.kin j.kp (thn (S pos pins y σ H1 _ v q) λw T ⟨vs,H2,n,r,A⟩=>⟨n.kIn,?_⟩) b d;exact qws (us:=.ref a::w) (vs:=.ref a::vs) F N R hd D g n (.cons rfl r) A
theorem qc4{pl:Sem Bool}(w:PE X o ta)(c:Cls X.K C)(i:Meth X.K C m f)(F:FnOk X.prog X.w X.K X.mg X.base CX k f fd ps sp)(v:Room k X.A)(y:Binds X.K fd ps ds)(hd:Vals dvs ds)(n:qfq G CX X E)
  (r:Qw (.Call (.Attribute o m apos) [] [] pos) X.env=(do
   let d <- Qw o X.env
   Zx apos.atName
   let (f,first) <- Qu [d] (Zb d m pl)
   callWith pos f first (backTo pos (starEach [] X.env)) (backToKw pos (keywordEach [] X.env)))) :
  PE X (.Call (.Attribute o m apos) [] [] pos) λσ H Q=>G σ/\qcx C m sp dvs E ta tNil σ H Q:=by
 intro pins s σ H Q I ⟨g,h⟩;refine Qz9 (pl:=pl) (thn (w pins s σ H _ I h) λu z ⟨x,H1,b,j,a,dx,fs,ex,ea,l,q⟩=>?_) r;subst ex;obtain rfl:u=Value.ref a:=j;refine qqc b ea c i l ?_;exact PySem.W.callWith_K0 (first:=[.ref a]) b.kIn i.kp (qws (us:=[.ref a]) (vs:=[.ref a]) F v y hd n g b (.cons rfl .nil) q)
end
noncomputable def spX(K:Qqq)(fns:List Fn)(x0:Str)(ok:Nat->Bool)(n f:Nat):Sp:=λvs H _ E=>∃m st ds st',Rel K m st H/\IsDs K m H ds vs/\M.XC fns x0 ok n f ds st st'/\∀m' H',Sub m m'->Tr H H'->Rel K m' st' H'->E .none none H'
def XTab(P:Program)(w:Qk)(K:Qqq)(mg:Str->Option Value)(base:Heap)(C:Addr)(glo:Glo)(fns:List Fn)(x0:Str)(ok:Nat->Bool)(names:List Str)(n:Nat):Prop:=∀(f:Nat) (x:Str),names[f]?=some x->ok f=true->∃(fa:Addr) (fd:Qh) (ps:List Str),
 Lc K mg glo f x fa/\FnOk P w K mg base (CXr P w C) (2*n) fa fd ps (spX K fns x0 ok n f)/\Qzx K (.ref fa)=true/\Binds K fd ps []
structure GoodE (fns:List Fn) (x0:Str) (ok:Nat->Bool) (dl:Nat) (c:Ctx) (C:Addr) (X:Cx) (G:L2.St->Prop) (P:Hp->Prop):Prop where
 good:Good fns dl c X.nox
 tab:XTab X.prog X.w X.K X.mg X.base C c.glo fns x0 ok c.fns dl
 thr:∀pins σ H e s',G σ->Air C X pins σ H e s'->P H->X.xe e s'
noncomputable def tXa(K:Qqq)(G:L2.St->Prop)(P:Hp->Prop)(τ:Sl)(st st':Store):TE:=λσ H _=>G σ/\∃m,Rel K m st H/\SlotOk K m H τ σ/\∀m' H',Sub m m'->Tr H H'->Rel K m' st' H'->P H'
section
variable {fns:List Fn}{x0:Str}{ok:Nat->Bool}{dl:Nat}
theorem qz9(fns:List Fn)(a n:Nat):AllOk fns a n:=qg2 fns a n n (Qqw n)
theorem GoodE.passes{c:Ctx}{C:Addr}{X:Cx}{g:L2.St->Prop}{P:Hp->Prop}(G:GoodE fns x0 ok dl c C X g P):qfq g (CXr X.prog X.w C) X (λ_ _ H=>P H):=λpins σ H s e s' b I q=>by
 obtain⟨H',a,p⟩:=MS.Inv.air I q;exact G.thr _ _ _ _ _ b a p
theorem GoodE.gl{c:Ctx}{C:Addr}{X:Cx}{g:L2.St->Prop}{P:Hp->Prop}(G:GoodE fns x0 ok dl c C X g P){x:Str}(h:c.sc.names.lookup x=some .globalImplicit):Gl X x:=by
 show X.env.scope.names.lookup x=_;have:=G.good.sc;rw[show X.env.scope=c.sc from this]; exact h
theorem qed{R:E->Qx->Prop}{e:E}{post:List E}:∀{pre:List E}{ps:List Qx},CkL R (pre++e::post) ps->∃c p p2,ps=c++p::p2/\CkL R pre c/\R e p/\CkL R post p2
 |[],_,.cons h t=>⟨[],_,_,rfl,.nil,h,t⟩
 |_::_,_,.cons h t=>by
  obtain⟨c,p,p2,rfl,a,b,d⟩:=qed t;exact⟨_::c,p,p2,rfl,.cons h a,b,d⟩
theorem xargs{c:Ctx}{C:Addr}{X:Cx}{g:L2.St->Prop}{P:Hp->Prop}(G:GoodE fns x0 ok dl c C X g P){n j:Nat}{p:Qx}{post:List E}{e:List Qx}{τ:Sl}{st1 st':Store}(l:PE X p (tXa X.K g P τ st1 st'))(i:Star p)(b:CkL (CkN j c) post e):
  ∀{pre:List E}{f:List Qx}{ds:List D}{st:Store},CkL (CkN j c) pre f->M.evs ((M.rn fns dl n).ev τ) pre st=some (ds,st1)->PA X (f++p::e) λσ H _=>g σ/\∃m,Rel X.K m st H/\SlotOk X.K m H τ σ/\∀m' H',Sub m m'->Tr H H'->Rel X.K m' st' H'->P H'
 |[],_,ds,st,.nil,h=>by
  cases h;exact(qz6 l (PA.nox (qzo (qz9 fns dl n) G.good b)) (i _ _)).imp λσ H Q q=>q
 |a::pre,_,ds,st,.cons o t,h=>by
  have h:(((M.rn fns dl n).ev τ st a).bind λp=>(M.evs ((M.rn fns dl n).ev τ) pre p.2).bind λq=>some (p.1::q.1,q.2))=some (ds,st1):=h;refine qzk h λv I z h=>qzj h λq y h=>?_;cases h;refine(qz6 (((qz9 fns dl n).e c _ G.good a _ o).nox) (xargs G l i b t y) (o.star _ _)).imp λσ H Q ⟨w,m,F,r,k⟩=>?_;exact rsI F r z λx m1 H1 b1 d A K=>⟨w,m1,A,r.mono b1 d,λu H2 b2 s R2=>k u H2 (b1.trans b2) (d.trans s) R2⟩
end
end MS
end
section
namespace MS
open PySem PySem.Spec PyProof.Rows L2
open M (D Cell Store Sl E S T Src Fn Out R)
section
variable {fns:List Fn}{x0:Str}{ok:Nat->Bool}{dl:Nat}
theorem qwv{j:Nat}{c:Ctx}{e:E}{p:Qx}(h:CkN j c e p)(b:∀a,e≠.gc a):∃i,j=i+1/\CkG (CkN i) c e p:=by
 cases j with
 |zero=>cases h
 |succ j=>
  cases h with
  |of d f h=>exact⟨j,rfl,h⟩
  |gc=>exact absurd rfl (b _)
theorem qbr{τ:Sl}{st st':Store}{e:E}(x:M.XE fns dl (M.XC fns x0 ok dl) τ st e st'):∀{c:Ctx}{C:Addr}{X:Cx}{g:L2.St->Prop}{P:Hp->Prop},GoodE fns x0 ok dl c C X g P->∀{j:Nat}{p:Qx},CkN j c e p->PE X p (tXa X.K g P τ st st'):=by
 induction x with
 |@call st f es ds w st' n h S=>
  intro c C X g P G j p s;obtain⟨i,rfl,u⟩:=qwv s (λa z=>nomatch z)
  cases u with
  |nm h=>cases h
  |@call _ x _ p ps p0 pos hg hf hd hn d=>
   obtain⟨fa,fd,D,hm,F,hk,r⟩:=G.tab f x hf S.ok;have hp:Star p:=by cases d with|cons h _=>exact h.star
   have W:(backTo pos (starEach ps X.env)).any (·.1)=false:=by cases d with|cons _ t=>exact qz7 t pos X.env
   refine(qgv F (G.good.room.mono (by lia)) (G.gl hg) (hm.1 hn) hk r .nil G.passes (PA.nox (qzo (qz9 fns dl n) G.good d)) hd (hp _ _) W).imp λσ H Q ⟨g0,m,R0,S0,k⟩=>⟨g0,?_⟩
   refine rsI R0 S0 h λxs m1 H1 b1 U R I=>?_;show spX X.K fns x0 ok dl f (xs++[]) H1 Q _;rw[Qzi];exact⟨m1,w,ds,st',R,I,S,λm2 H2 b2 T R2=>k m2 H2 (b1.trans b2) (U.trans T) R2⟩
 |@callA st f pre e a0 ds w st' n h x K=>
  intro c C X g P G j p s;obtain⟨i,rfl,u⟩:=qwv s (λa z=>nomatch z);generalize a4:pre++e::a0=es at u
  cases u with
  |nm h=>cases h
  |@call _ x _ p ps p0 pos hg hf hd hn d=>
   subst a4;obtain⟨fa,fd,D,hm,F,hk,r⟩:=G.good.tab f x hf;have hp:Star p:=by
    cases pre with
    |nil=>cases d with|cons h _=>exact h.star
    |cons _ _=>cases d with|cons h _=>exact h.star
   have W:(backTo pos (starEach ps X.env)).any (·.1)=false:=by
    cases pre with
    |nil=>cases d with|cons _ t=>exact qz7 t pos X.env
    |cons _ _=>cases d with|cons _ t=>exact qz7 t pos X.env
   obtain⟨p1,q,p2,eq,h1,h2,h3⟩:=qed d;have V:=xargs G (K G h2) h2.star h3 h1 h;rw[<- eq]at V;exact(qc6 (X:=X) F (G.good.room.mono (by lia)) (G.gl hg) (hm.1 hn) hk r .nil qdz V hd (hp _ _) W).imp λσ H Q q=>q
 |@mcall st A f m a es o fs w ds a2 st' n h ho y ha S=>
  intro c C X g P G j p s;obtain⟨i,rfl,u⟩:=qwv s (λa z=>nomatch z)
  cases u with
  |nm h=>cases h
  |@mcall _ _ _ x cn _ _ V ps apos pos a1 hf hm hc d hn a3=>
   obtain⟨fa,fd,D,hl,F,hk,r⟩:=G.tab f x hf S.ok;obtain⟨_,hC,_,_⟩:=G.good.mo.cls cn A hc;have hM:=hl.2 A m hm;obtain⟨pl,W⟩:=sh_mt a1.sh d.sh hn a3 X.env;have hr:Room (2*dl) X.A:=G.good.room.mono (by lia);have hA:=((qz9 fns dl n).e c _ G.good a V a1).nox
   cases d with
   |nil=>
    cases ha;refine(qc4 hA hC hM F hr r .nil G.passes W).imp λσ H Q ⟨g0,m0,R0,S0,k⟩=>⟨g0,rsI R0 S0 h λv m1 H1 b1 U R I=>?_⟩
    obtain⟨l,p,dx,ys,rfl,_,rfl,hH,N,_⟩:=R.inst ho I;rcases N.get m with⟨_,z⟩|⟨d',v,z1,_,_⟩
    ·exact⟨p,dx,ys,rfl,hH,z,m1,w,_,st',R,qzi I qqz,S,λm2 H2 b2 T R2=>k m2 H2 (b1.trans b2) (U.trans T) R2⟩
    ·rw[z1]at y; cases y
   |cons h1 h2=>
    refine(qf9 hA hC hM F hr r .nil G.passes (PA.nox (qzo (qz9 fns dl n) G.good (.cons h1 h2))) (h1.star _ _) (qz7 h2 pos X.env) W).imp λσ H Q ⟨g0,m0,R0,S0,k⟩=>⟨g0,rsI R0 S0 h λv m1 H1 b1 U R I=>?_⟩
    obtain⟨l,p,dx,ys,rfl,_,rfl,hH,N,_⟩:=R.inst ho I;rcases N.get m with⟨_,z⟩|⟨d',v,z1,_,_⟩
    ·refine⟨p,dx,ys,rfl,hH,z,rsI R (S0.mono b1 U) ha λxs m2 H2 b2 T R2 i2=>?_⟩;show spX X.K fns x0 ok dl f (.ref p::(xs++[])) H2 Q _;rw[Qzi];exact⟨m2,a2,_,st',R2,qzi (qzv b2 T _ _ I) i2,S,λm3 H3 b3 t3 R3=>k m3 H3 (b1.trans (b2.trans b3)) (U.trans (T.trans t3)) R3⟩
    ·rw[z1]at y; cases y
 |gc x K=>
  intro c C X g P G j p s
  cases j with
  |zero=>cases s
  |succ j=>
   cases s with
   |of d hq h=>cases h; rename_i h; cases h
   |gc d hq hp hg h=>exact K G (show CkN (j+1) _ _ _ from .of d hq h)
 |didx x K=>
  intro c C X g P G j p s;obtain⟨i,rfl,u⟩:=qwv s (λa z=>nomatch z)
  cases u with
  |nm h=>cases h
  |@didx _ b V pb pos ha r=>exact(qc5 (Qjy (by show X.A.units+1<=X.A.units+64; lia) (show X.A.units+64<cLine from G.good.room.units)) (K G ha) ((qz9 fns dl 0).e c _ G.good _ pb r).nox (qcg r.sh)).imp λσ H Q q=>q
 |idx x K=>
  intro c C X g P G j p s;obtain⟨i,rfl,u⟩:=qwv s (λa z=>nomatch z)
  cases u with
  |nm h=>cases h
  |@idx _ b V pb pos ha r=>exact(pe_ix ix_D (K G ha) ((qz9 fns dl 0).e c _ G.good _ pb r).nox (qcg r.sh)).imp λσ H Q q=>q
end
end MS
end
section
namespace MS
open PySem PySem.Spec PyProof.Rows L2
open M (D Cell Store Sl E S T Src Fn Out R)
structure GoodS (fns:List Fn) (x0:Str) (ok:Nat->Bool) (dl:Nat) (c:Ctx) (C:Addr) (X:Cx) (P:Hp->Prop):Prop where
 e:GoodE fns x0 ok dl c C X (λ_=>True) P
 bad:Bad x0 X.K X.mg C
 made:∀e s',Thr C X P e s'->X.xe e s'
 fn:∀x,X.fn x=true
noncomputable def tXs(K:Qqq)(P:Hp->Prop)(τ:Sl)(st st':Store):TS:=λ_ σ H=>∃m,Rel K m st H/\SlotOk K m H τ σ/\∀m' H',Sub m m'->Tr H H'->Rel K m' st' H'->P H'
theorem qzs{c:Ctx}{s:S}{ss:List S}{X:Cx}{t:TS}(h:∀p ps,CkS c s p->CkSs c ss ps->PSs X (p::ps) t):∀{ps:List Stmt},CkSs c (s::ss) ps->PSs X ps t
 |_,.cons h1 h2=>h _ _ h1 h2
 |_,.doc q=>(qzb qcu (qzs h q)).imp λa σ H q=>q
theorem qy5{j:Nat}{c:Ctx}{e:E}{elt:Qx}{d:List Comprehension}{sc:Scope}{q:Pos}(h:CkN j c e (.ListComp elt d sc q)):M.ncomp e=false:=by
 cases j with
 |zero=>cases h
 |succ j=>
  cases h with
  |of a b h=>cases h; rfl
  |gc a b f g h=>cases h; rfl
section
variable {fns:List Fn}{x0:Str}{ok:Nat->Bool}{dl:Nat}
theorem xs_ok{τ:Sl}{st st':Store}{ss:List S}(x:M.XS fns x0 dl (M.XC fns x0 ok dl) τ st ss st'):∀{c:Ctx}{C:Addr}{X:Cx}{P:Hp->Prop},GoodS fns x0 ok dl c C X P->∀{ps:List Stmt},CkSs c ss ps->PSs X ps (tXs X.K P τ st st'):=by
 have rest:∀{c:Ctx}{C:Addr}{X:Cx}{P:Hp->Prop},GoodS fns x0 ok dl c C X P->∀{ss:List S}{ps:List Stmt},CkSs c ss ps->∃u,PSs X ps u:=λ{c C X P} G {ss ps} h=>⟨_,((qz9 fns dl 0).s _ _ G.e.good G.fn _ _ h).nox⟩
 induction x with
 |rais=>
  intro c C X P G ps d;refine qzs (λp ps h1 h2=>?_) d;obtain⟨u,e⟩:=rest G h2
  cases h1 with
  |rais hg=>exact(qzb (qf0 G.bad G.e.good.calm G.made (G.e.gl hg)) e).imp λo σ H ⟨m,l,f,k⟩=>k m H (Sub.refl m) (Tr.refl H) l
 |set T x=>
  intro c C X P G ps d;refine qzs (λp ps h1 h2=>?_) d;obtain⟨u,e⟩:=rest G h2;have hN:X.N.Nodup:=by rw[show X.N=c.N from G.e.good.N]; exact G.e.good.nd
  have F:X.env.scope=c.sc:=G.e.good.sc
  cases h1 with
  |@set _ _ y p pos pos' hi R i D=>exact(qzb (qvd hN (show X.N[_]?=some y by rw[show X.N=c.N from G.e.good.N]; exact hi) (show X.env.scope.names.lookup y=_\/_=_ by rw[F]; exact R) (qbr x G.e i) (D X.env) (.inl (G.fn y))) e).imp λo σ H q=>⟨trivial,q⟩
  |setC hi R i K D=>
   obtain⟨_,_,_,_,rfl⟩:=K;rw[qy5 i]at T;cases T
 |ret x=>
  intro c C X P G ps d;refine qzs (λp ps h1 h2=>?_) d;obtain⟨u,e⟩:=rest G h2
  cases h1 with
  |ret i=>exact(qzb (qhy (qbr x G.e i)) e).imp λo σ H q=>⟨trivial,q⟩
 |expr x=>
  intro c C X P G ps d;refine qzs (λp ps h1 h2=>?_) d;obtain⟨u,e⟩:=rest G h2
  cases h1 with
  |expr i D=>exact(qzb (qkr (qbr x G.e i) (D X.env)) e).imp λo σ H q=>⟨trivial,q⟩
 |@iteT τ st c' a b ss t st' n h x z=>
  intro c C X P G ps d;refine qzs (λp ps h1 h2=>?_) d;obtain⟨u,e⟩:=rest G h2
  cases h1 with
  |ite I Q N=>
   obtain⟨v,E⟩:=rest G N;refine(qzb (qct ((qz9 fns dl n).t c _ G.e.good _ _ I).nox (z G Q) E) e).imp λo σ H ⟨m,l,f,k⟩=>rsI l f h λm1 H1 b1 g A=>?_;dsimp only;rw[Z3 rfl];exact⟨m1,A,f.mono b1 g,λw H2 b2 r R2=>k w H2 (b1.trans b2) (g.trans r) R2⟩
 |@iteF τ st c' a b ss t st' n h x z=>
  intro c C X P G ps d;refine qzs (λp ps h1 h2=>?_) d;obtain⟨u,e⟩:=rest G h2
  cases h1 with
  |ite I Q N=>
   obtain⟨v,E⟩:=rest G Q;refine(qzb (qct ((qz9 fns dl n).t c _ G.e.good _ _ I).nox E (z G N)) e).imp λo σ H ⟨m,l,f,k⟩=>rsI l f h λm1 H1 b1 g A=>?_;dsimp only;rw[Z2 Qqg];exact⟨m1,A,f.mono b1 g,λw H2 b2 r R2=>k w H2 (b1.trans b2) (g.trans r) R2⟩
 |@next τ st s ss U t st' n h x z=>
  intro c C X P G ps d;refine qzs (λp ps h1 h2=>?_) d;refine(qzb (PS.nox (qi1 (n:=n) (λj W=>qg2 fns dl n j W) G.e.good G.fn h1)) (z G h2)).imp λo σ H ⟨m,l,f,k⟩=>?_;exact rsI l f h λm1 H1 b1 g A V S1=>⟨m1,A,S1,λw H2 b2 r R2=>k w H2 (b1.trans b2) (g.trans r) R2⟩
end
end MS
end
section
namespace MS
open PySem PySem.Spec PyProof.Rows L2
open M (D Cell Store Sl E S T Src Fn Out R)
theorem qyi{K:Qqq}{m:List Addr}{H:Hp}{ds:List D}{vs:List V}{N:List Str}{nl:Nat}(b:IsDs K m H ds vs)(c:nl=N.length):SlotOk K m H (ds.map some++List.replicate (nl - ds.length) none) (start N vs):=by
 refine⟨?_,λi d0 hi=>?_⟩
 ·unfold L2.start;rw[Qqn,Qqn,Qqj,Qqj,Qxq,Qxq,c,b.length]
 ·unfold L2.start
  by_cases a:i<ds.length
  ·rw[Qqp (by simpa using a),Qqk]at hi;have f:ds[i]?=some d0:=by
    cases z:ds[i]? with
    |none=>rw[z]at hi; cases hi
    |some y=>rw[z]at hi; cases hi; rfl
   obtain⟨v,e,d⟩:=b.get f;refine⟨v,?_,d⟩;rw[Qqp (by rw[Qqj,<- b.length]; exact a),Qqk,e]
   rfl
  ·rw[Qqi (by simpa using a),Qxa]at hi
   split at hi<;>cases hi
theorem qmf{P:Program}{w:Qk}{K:Qqq}{mg:Str->Option Value}{base:Heap}{fns:List Fn}{g:Str}{ok:Nat->Bool}{names:List Str}{glo:Glo}{C:Addr}{n f:Nat}{nm x:Str}{u:Addr}{D:Qh}{st:Stmt}{N ps:List Str}{F:Fn}(T:FTab P w K mg base glo fns names n)(I:XTab P w K mg base C glo fns g ok names n)(V:Mo K mg glo w.params)(Bq:Bad g K mg C)
  (z:fns[f]?=some F) (d:Fun K nm x st u D) (c:FnScope N ps (qzz st)) (r:CkSs ⟨N,qzz st,names,glo⟩ F.body (qzl st)) (l:F.np=ps.length) (o:F.nl=N.length):FnOk P w K mg base (CXr P w C) (2*(n+1)) u D ps (spX K fns g ok (n+1) f):=by
 obtain⟨oc,od,kV,doc,X,an,v,ct,R,rfl,lk,t⟩:=d.ex;refine fn_of lk t c (λvs H Q E h=>?_) λA outer s H vs Q E S h=>?_
 ·obtain⟨m,i,ds,st',_,j,⟨_,W,b,y,_⟩,_⟩:=h;rw[z]at b;cases b;rw[<- j.length,y,l]
 ·obtain⟨m,i,ds,st',U,j,⟨_,W,b,y,xs⟩,k⟩:=h;rw[z]at b;cases b;have G:GoodS fns g ok n ⟨N,qzz st,names,glo⟩ C (cxOf (CXr P w C) P w K mg base N x (qzz st) u v A outer s H E) (λH'=>E .none none H'):=
   ⟨⟨⟨S,rfl,rfl,rfl,c.nd,c.kind,T,V,rfl⟩,I,λpins σ H e s' _ a p=>qax (.air a p)⟩,Bq,λe s' q=>qax q,λ_=>rfl⟩
  exact⟨_,xs_ok xs G r,m,U,qyi j o,k⟩
noncomputable abbrev Cx.marked(X:Cx)(h:Option Value):Cx:={ X with A:=X.A.mark h,calm:=false }
section
variable {X:Cx}{pins:List (Addr×Obj)}{σ:L2.St}{H:Hp}{s:Qz}{h:Option Value}
theorem Inv.mark(I:Inv X pins σ H s)(h:Option Value):Inv (Cx.marked X h) pins σ H s:=
 ⟨⟨I.ok.mod,I.ok.kind,I.ok.glob,I.ok.blt,I.ok.above,I.ok.inj,I.ok.has,I.ok.cab,(λz=>nomatch (show false=true from z)),I.ok.frames,I.ok.stk,I.ok.exf,I.ok.bs,I.ok.bsz,I.ok.noex,I.ok.exfs,I.ok.funs,I.ok.frf⟩,I.os,I.bare,I.base,I.loc,I.cell,I.free,I.freeC,I.pin,I.hok,I.len⟩
theorem Inv.unmark(a:X.Ok)(I:Inv (Cx.marked X h) pins σ H s):Inv X pins σ H s:=⟨a,I.os,I.bare,I.base,I.loc,I.cell,I.free,I.freeC,I.pin,I.hok,I.len⟩
noncomputable abbrev Cx.held(X:Cx)(pins:List (Addr×Obj)):Cx:={ X with pn:=X.pn++pins }
theorem Inv.hold(I:Inv X pins σ H s):Inv (Cx.held X pins) [] σ H s:=by
 refine⟨⟨I.ok.mod,I.ok.kind,I.ok.glob,I.ok.blt,I.ok.above,I.ok.inj,I.ok.has,I.ok.cab,I.ok.hd,I.ok.frames,I.ok.stk,I.ok.exf,I.ok.bs,I.ok.bsz,I.ok.noex,I.ok.exfs,I.ok.funs,I.ok.frf⟩,I.os,I.bare,I.base,I.loc,I.cell,I.free,I.freeC,λp a=>I.pin p (by rw[Qzi]at a; exact a),I.hok,I.len⟩
theorem Inv.unhold{pl:List (Addr×Obj)}(b:X.Ok)(I:Inv (Cx.held X pins) pl σ H s):Inv X pins σ H s:=
 ⟨b,I.os,I.bare,I.base,I.loc,I.cell,I.free,I.freeC,λp a=>I.pin p (Qzf _ a),I.hok,I.len⟩
end
end MS
end
section
namespace MS
open PySem PySem.Spec PyProof.Rows L2
open M (D Cell Store Sl E S T Src Fn Out R)
section
variable {fns:List Fn}{x0:Str}{ok:Nat->Bool}{dl:Nat}
noncomputable def tXt(K:Qqq)(g:L2.St->Prop)(P:Hp->Prop)(τ:Sl)(st st':Store):TS:=λ_ σ H=>g σ/\∃m,Rel K m st H/\SlotOk K m H τ σ/\∀m' H',Sub m m'->Tr H H'->Rel K m' st' H'->P H'
theorem xt_ok{τ:Sl}{st st':Store}{ss:List S}(x:M.XT fns dl (M.XC fns x0 ok dl) τ st ss st'):∀{c:Ctx}{C:Addr}{X:Cx}{g:L2.St->Prop}{P:Hp->Prop},GoodE fns x0 ok dl c C X g P->(∀x,X.fn x=true)->∀{ps:List Stmt},CkSs c ss ps->PSs X ps (tXt X.K g P τ st st'):=by
 have rest:∀{c:Ctx}{C:Addr}{X:Cx}{g:L2.St->Prop}{P:Hp->Prop},GoodE fns x0 ok dl c C X g P->(∀x,X.fn x=true)->∀{ss:List S}{ps:List Stmt},CkSs c ss ps->∃u,PSs X ps u:=λ{c C X g P} G fn {ss ps} h=>⟨_,((qz9 fns dl 0).s _ _ G.good fn _ _ h).nox⟩
 induction x with
 |set U x=>
  intro c C X g P G fn ps d;refine qzs (λp ps h1 h2=>?_) d;obtain⟨u,j⟩:=rest G fn h2;have V:X.N.Nodup:=by rw[show X.N=c.N from G.good.N]; exact G.good.nd
  have I:X.env.scope=c.sc:=G.good.sc
  cases h1 with
  |@set _ _ y p pos pos' hi T l o=>exact(qzb (qvd V (show X.N[_]?=some y by rw[show X.N=c.N from G.good.N]; exact hi) (show X.env.scope.names.lookup y=_\/_=_ by rw[I]; exact T) (qbr x G l) (o X.env) (.inl (fn y))) j).imp λE σ H q=>q
  |setC hi T l N o=>
   obtain⟨_,_,_,_,rfl⟩:=N;rw[qy5 l]at U;cases U
 |expr x=>
  intro c C X g P G fn ps d;refine qzs (λp ps h1 h2=>?_) d;obtain⟨u,j⟩:=rest G fn h2
  cases h1 with
  |expr l o=>exact(qzb (qkr (qbr x G l) (o X.env)) j).imp λE σ H q=>q
 |@nexE st e ss v s st' n h x w=>
  intro c C X g P G fn ps d;refine qzs (λp ps h1 h2=>?_) d
  cases h1 with
  |expr l o=>
   refine(qzb (qkr ((qz9 fns dl n).e c _ G.good _ _ l).nox (o X.env)) (w G fn h2)).imp λE σ H ⟨z,m,D,i,k⟩=>?_;exact rsI D i h λy m1 H1 b1 f A i1=>⟨z,m1,A,i.mono b1 f,λt H2 b2 r R2=>k t H2 (b1.trans b2) (f.trans r) R2⟩
 |@iteT st W a b ss s st' n h x w=>
  intro c C X g P G fn ps d;refine qzs (λp ps h1 h2=>?_) d;obtain⟨u,j⟩:=rest G fn h2
  cases h1 with
  |ite K R Q=>
   obtain⟨v,F⟩:=rest G fn Q;refine(qzb (qct ((qz9 fns dl n).t c _ G.good _ _ K).nox (w G fn R) F) j).imp λE σ H ⟨z,m,D,i,k⟩=>rsI D i h λm1 H1 b1 f A=>?_;dsimp only;rw[Z3 rfl];exact⟨z,m1,A,i.mono b1 f,λt H2 b2 r R2=>k t H2 (b1.trans b2) (f.trans r) R2⟩
 |@iteF st W a b ss s st' n h x w=>
  intro c C X g P G fn ps d;refine qzs (λp ps h1 h2=>?_) d;obtain⟨u,j⟩:=rest G fn h2
  cases h1 with
  |ite K R Q=>
   obtain⟨v,F⟩:=rest G fn R;refine(qzb (qct ((qz9 fns dl n).t c _ G.good _ _ K).nox F (w G fn Q)) j).imp λE σ H ⟨z,m,D,i,k⟩=>rsI D i h λm1 H1 b1 f A=>?_;dsimp only;rw[Z2 Qqg];exact⟨z,m1,A,i.mono b1 f,λt H2 b2 r R2=>k t H2 (b1.trans b2) (f.trans r) R2⟩
end
theorem Air.wish{X:Cx}{C:Addr}{b:List (Addr×Obj)}{c:L2.St}{H:Hp}{e:Value}{s:Qz}{E:Value->Qz->Prop}(a:Air C (X.wish E) b c H e s):Air C X b c H e s:=by
 obtain⟨g,n,ea,t,Bq,h,I,h1,h2,f,d,i⟩:=a;exact⟨g,n,ea,t,Bq,h,I.unwish,h1,h2,f,d,i⟩
theorem qfy{X:Cx}{body:List Stmt}{c:Zh}{a:List Zh}{pos:Pos}{t:TS}(b:PSs X.nox body t):PS X (.Try body (c::a) [] [] pos) t:=by
 intro pins s σ H D I q;refine wpAny_Try_except (Qy (b pins s σ H D (I.wish _) q) (λf d hf=>?_) λ_ _ z=>False.elim z);have hf:=hf.unwish
 cases f with
 |next=>exact Zl hf
 |brk=>exact hf
 |cont=>exact hf
 |ret u=>exact hf
theorem Good.held{fns:List Fn}{b:Nat}{c:Ctx}{X:Cx}(G:Good fns b c X.nox)(a:List (Addr×Obj))(E:Value->Qz->Prop):Good fns b c ((Cx.held X a).wish E).nox:=⟨G.room,G.calm,G.N,G.sc,G.nd,G.kind,G.tab,G.mo,rfl⟩
theorem qb1{fns:List Fn}{j:Str}{ok:Nat->Bool}{o:Nat}{c:Ctx}{C:Addr}{X:Cx}{τ:Sl}{st st':Store}{ss:List S}{b0:Stmt}{ps Q:List Stmt}{hs:List Zh}{p6 D pos:Pos}{y:TS}(G:Good fns o c X.nox)(fn:∀x,X.fn x=true)(V:XTab X.prog X.w X.K X.mg X.base C c.glo fns j ok c.fns o)(Bq:Bad j X.K X.mg C)(top:X.stack=X.env::X.outer/\X.env.frame=some X.env.locals)
  (gb:Gl X j) (ck:CkSs c ss ps) (U:M.XT fns o (M.XC fns j ok o) τ st ss st') (hh:∀h,PSs (Cx.marked X h).nox (b0::Q) y) :
  PS X (.Try ps (.ExceptHandler (some (.Name j p6)) none (b0::Q) D::hs) [] [] pos)
   (λw σ H=>∃m,Rel X.K m st H/\SlotOk X.K m H τ σ/\∀m' H',Sub m m'->Tr H H'->Rel X.K m' st' H'->y w σ H'):=by
 intro pins s σ H w I ⟨m,R0,S0,k⟩;have ge:GoodE fns j ok o c C ((Cx.held X pins).wish λe s'=>∃b H',Air C (Cx.held X pins) b σ H' e s'/\y w σ H') (· = σ) (λH'=>y w σ H'):=
  ⟨G.held pins _,V,λb d H' e s' g a p=>⟨b,H',by subst g; exact Air.wish a,p⟩⟩
 refine wpAny_Try_except (Qy (xt_ok U ge fn ck [] s σ H ⟨λ_ _=>False,λ_ _=>False,λ_ _=>False,λ_ _=>False⟩ ((MS.Inv.hold I).wish _) ⟨rfl,m,R0,S0,k⟩) (λf s1 hf=>?_) ?_)
 ·cases f with
  |next=>obtain⟨_,_,_,z⟩:=hf; exact z.elim
  |brk=>obtain⟨_,_,_,z⟩:=hf; exact z.elim
  |cont=>obtain⟨_,_,_,z⟩:=hf; exact z.elim
  |ret u=>obtain⟨_,_,_,_,_,z⟩:=hf; exact z.elim
 ·rintro e s' ⟨b,H',a,p⟩;obtain⟨g,n,ea,t,N,rfl,I',h1,h2,h3,h4,A⟩:=a;have E:X.A.frames=some (X.env::X.outer):=by rw[<- top.1]; exact I.ok.frames
  have A:Fl C X.stack n H' ea t g N s'.heap:=A;have l:∀{h':Heap},Fl C (X.env::X.outer) n H' ea t g N h'->Inv X pins σ H' { s' with heap:=h' }:=λ{h'} q=>MS.Inv.unhold I.ok (Air.land (C:=C) (X:=Cx.held X pins) (e:=.ref ea) ⟨g,n,ea,t,N,rfl,I',h1,h2,h3,h4,by show Fl C X.stack _ _ _ _ _ _ _; rw[top.1]; exact q⟩);rw[top.1]at A;refine qy2 E top.2 A λa4 f1=>qxf f1 λa3 F=>?_;have K:=l F;have R:=Bq.own X.base K.ok.mod.kin;refine wpAny_handleBy_cons (codeAny_handlers_test (qxd (X:=Cx.marked X (some (.ref ea))) (MS.Inv.mark K _) gb R.bound ?_ Bq.nd)) (λq=>nomatch q);obtain⟨tl,Nn,nm,q,bs,P,sn,a0,ab,a7,dd,k0,k1,k2,k3,k5,mN,hC,a5,a1,T⟩:=(R.keeps K.bk).obj;obtain⟨a6,oe,vs,Tt,oT,ts,e1,⟨e2,e3⟩,e4⟩:=id F.tr;refine wpAny_excMatches_sub_self hC e1 e2 (T.hasType (by decide)) (codeAny_handlers_suite (qxf F λa2 f3=>?_));have v:=l f3;refine Qy (hh (some (.ref ea)) pins _ σ H' w ((MS.Inv.mark v _).wish _) p) (λf s4 hf=>?_) λ_ _ z=>False.elim z;have hf:=hf.unwish
  cases f with
  |next=>obtain⟨d,H2,i,q⟩:=hf; exact⟨d,H2,Inv.unmark v.ok i,q⟩
  |brk=>obtain⟨d,H2,i,q⟩:=hf; exact⟨d,H2,Inv.unmark v.ok i,q⟩
  |cont=>obtain⟨d,H2,i,q⟩:=hf; exact⟨d,H2,Inv.unmark v.ok i,q⟩
  |ret u=>obtain⟨W,d,H2,i,r,q⟩:=hf; exact⟨W,d,H2,Inv.unmark v.ok i,r,q⟩
end MS
end
section
namespace MS
open PySem PySem.Spec PyProof.Rows L2
open M (D Cell Store Sl E S T Src Fn Out R)
section
variable {fns:List Fn}{dl:Nat}
noncomputable def tPre(K:Qqq)(τ:Sl)(st:Store)(τ1:Sl)(st1:Store)(u:TS):TS:=λDn σ H=>∃m,Rel K m st H/\SlotOk K m H τ σ/\∀m' H' σ',Sub m m'->Tr H H'->Rel K m' st1 H'->SlotOk K m' H' τ1 σ'->u Dn σ' H'
theorem qys{c:Ctx}{X:Cx}(G:Good fns dl c X.nox)(fn:∀x,X.fn x=true){rest:List Stmt}{u:TS}(e:PSs X rest u){k:Nat}:∀{pre:List S}{i:List Stmt}{τ τ1:Sl}{st st1:Store},CkSs c pre i->M.exs (M.stepEx (M.rn fns dl k)) pre τ st=some (.nx τ1,st1)->PSs X (i++rest) (tPre X.K τ st τ1 st1 u)
 |[],_,τ,τ1,st,st1,.nil,h=>by
  cases h;exact e.imp λl σ H ⟨m,g,f,k⟩=>k m H σ (Sub.refl m) (Tr.refl H) g f
 |pre,_,τ,τ1,st,st1,.doc q,h=>(qzb qcu (qys G fn e q h)).imp λl σ H q=>q
 |s::ss,_,τ,τ1,st,st1,.cons h1 h2,h=>by
  have h:(M.stepEx (M.rn fns dl k) τ st s).bind (λp=>match p.1 with
   |.nx a=>M.exs (M.stepEx (M.rn fns dl k)) ss a p.2
   |o=>some (o,p.2))=some (.nx τ1,st1):=h
  refine qzj h λp z h=>?_;obtain⟨o,E⟩:=p
  cases o with
  |nx a=>
   refine(qzb (PS.nox (qi1 (n:=k) (λj y=>qg2 fns dl k j y) G fn h1)) (qys G fn e h2 h)).imp λl σ H ⟨m,g,f,q⟩=>?_;exact rsI g f z λm1 H1 b1 v D r C=>⟨m1,D,C,λw H2 b b2 t R2 A=>q w H2 b (b1.trans b2) (v.trans t) R2 A⟩
  |rt d=>cases h
  |bk d=>cases h
  |ct d=>cases h
inductive TryRun (fns:List Fn) (x0:Str) (ok:Nat->Bool) (n:Nat) (pre tb post:List S) (i:Nat) (z:Str) (τ:Sl) (st:Store) (d:D) (st':Store):Prop
 |thru {k τ1 st1 τ2 st2} (h1:M.exs (M.stepEx (M.rn fns n k)) pre τ st=some (.nx τ1,st1)) (h2:M.exs (M.stepEx (M.rn fns n k)) tb τ1 st1=some (.nx τ2,st2)) (h3:M.exs (M.stepEx (M.rn fns n k)) post τ2 st2=some (.rt d,st'))
 |by_ {k τ1 st1 st2} (h1:M.exs (M.stepEx (M.rn fns n k)) pre τ st=some (.nx τ1,st1)) (h2:M.XT fns n (M.XC fns x0 ok n) τ1 st1 tb st2) (h4:M.exs (M.stepEx (M.rn fns n k)) post (τ1.set i (some (.str z))) st2=some (.rt d,st'))
end
theorem qid{P:Program}{w:Qk}{K:Qqq}{mg:Str->Option Value}{base:Heap}{fns:List Fn}{l:Str}{ok:Nat->Bool}{names:List Str}{glo:Glo}{C:Addr}{n f:Nat}{nm x:Str}{j:Addr}{fd:Qh}{st:Stmt}{N ps:List Str}{pre tb post:List S}{pp tp qq:List Stmt}{i j0:Nat}{y z:Str}{hs:List Zh}{p6 p7 p8 p9 R pos:Pos}(ft:FTab P w K mg base glo fns names n)(xt:XTab P w K mg base C glo fns l ok names n)(Mg:Mo K mg glo w.params)(Bq:Bad l K mg C)
  (o:Fun K nm x st j fd) (b:FnScope N ps (qzz st)) (V:qzl st=pp++.Try tp (.ExceptHandler (some (.Name l p6)) none [.Assign [.Name y p7] (.Constant (.str z) j0 p8) p9] R::hs) [] [] pos::qq)
  (c1:CkSs ⟨N,qzz st,names,glo⟩ pre pp) (c2:CkSs ⟨N,qzz st,names,glo⟩ tb tp) (hy:N[i]?=some y) (ly:Loc (qzz st) y) (c4:CkSs ⟨N,qzz st,names,glo⟩ post qq) (gb:(qzz st).names.lookup l=some .globalImplicit)
  (EQ:∀ds a d st',M.callD fns (n+1) f ds a=some (d,st')->ds.length=ps.length/\TryRun fns l ok n pre tb post i z (ds.map some++List.replicate (N.length - ds.length) none) a d st') :
  FnOk P w K mg base CX0 (2*(n+1)) j fd ps (spN K fns (n+1) f):=by
 refine o.ok b (λvs H Q E h=>?_) (λg A outer s H vs Q E hr h=>?_)
 ·obtain⟨m,a,ds,d,st',_,T,e,_⟩:=h;rw[<- T.length,(EQ _ _ _ _ e).1]
 ·obtain⟨m,a,ds,d,st',R0,T,e,q⟩:=h;obtain⟨_,run⟩:=EQ _ _ _ _ e;have G:Good fns n ⟨N,qzz st,names,glo⟩ (cxOf CX0 P w K mg base N x (qzz st) j g A outer s H E).nox:=⟨hr,rfl,rfl,rfl,b.nd,b.kind,ft,Mg,rfl⟩
  have ex:∀(k:Nat){X:Cx}{ss:List S}{ps:List Stmt},Good fns n ⟨N,qzz st,names,glo⟩ X->(∀x,X.fn x=true)->CkSs ⟨N,qzz st,names,glo⟩ ss ps->PSs X ps (tS X.K λτ st=>M.exs (M.stepEx (M.rn fns n k)) ss τ st):=λk {X ss ps} G fn h=>(qz9 fns n (k+1)).s _ _ G fn _ _ h;rw[V];have S0:=qyi (N:=N) T rfl
  cases run with
  |@thru k t I a0 F h1 h2 h3=>
   refine⟨_,qys (X:=(cxOf CX0 P w K mg base N x (qzz st) j g A outer s H E).nox) G (λ_=>rfl) (qzb (qfy (ex k G (λ_=>rfl) c2)) (ex k G (λ_=>rfl) c4)) c1 h1,m,R0,S0,λm1 H1 u b1 D W r=>?_⟩;refine rsI W r h2 λm2 H2 b2 p R2 a1 S2=>rsI R2 S2 h3 λm3 H3 b3 t3 R3 v U=>?_;exact q v m3 H3 (b1.trans (b2.trans b3)) (D.trans (p.trans t3)) R3 U
  |@by_ k t I F h1 h2 h4=>
   refine⟨_,qys (X:=(cxOf CX0 P w K mg base N x (qzz st) j g A outer s H E).nox) G (λ_=>rfl) (qzb (qb1 (c:=⟨N,qzz st,names,glo⟩) G (λ_=>rfl) xt Bq ⟨rfl,rfl⟩ gb c2 h2 λh=>qzb (qvd (X:=(Cx.marked (cxOf CX0 P w K mg base N x (qzz st) j g A outer s H E).nox h).nox) b.nd hy ly pe_str rfl (.inl rfl)) pss_nil) (ex k G (λ_=>rfl) c4)) c1 h1,m,R0,S0,λm1 H1 u b1 D W r=>?_⟩;refine⟨m1,W,r,λm2 H2 b2 p R2=>rsI R2 ((r.mono b2 p).put (mkStr _)) h4 λm4 H4 b4 t4 R4 v U=>?_⟩;exact q v m4 H4 (b1.trans (b2.trans b4)) (D.trans (p.trans t4)) R4 U
end MS
end
section
namespace MS
open PySem PySem.Spec PyProof.Rows L2
open M (D Cell Store Sl E S T Src Fn Out R)
theorem qmp{P:Program}{w:Qk}{K:Qqq}{mg:Str->Option Value}{base:Heap}{fns:List Fn}{y:Str}{ok:Nat->Bool}{names:List Str}{glo:Glo}{C:Addr}{f0:Nat}(T:∀f x,names[f]?=some x->f≠f0->FText K mg fns names glo f x)(hok:ok f0=false)(U:Mo K mg glo w.params)(Bq:Bad y K mg C)
  (S:∀x,names[f0]?=some x->∃b fd ps,Lc K mg glo f0 x b/\Qzx K (.ref b)=true/\Binds K fd ps []/\∀n,FTab P w K mg base glo fns names n->XTab P w K mg base C glo fns y ok names n->FnOk P w K mg base CX0 (2*(n+1)) b fd ps (spN K fns (n+1) f0)) :
  ∀n,FTab P w K mg base glo fns names n/\XTab P w K mg base C glo fns y ok names n:=by
 intro n
 induction n with
 |zero=>
  refine⟨λf x o=>?_,λf x o t=>?_⟩
  ·by_cases p:f=f0
   ·subst p;obtain⟨b,fd,ps,j,kp,l,_⟩:=S x o;refine⟨b,fd,ps,j,⟨λvs H Q E h=>?_,λA outer s H q D vs Q E I R u G h=>?_⟩,kp,l⟩
    ·obtain⟨m,st,ds,d,st',_,_,e,_⟩:=h; cases e
    ·obtain⟨m,st,ds,d,st',_,_,e,_⟩:=h; cases e
   ·obtain⟨nm,b,fd,st,N,ps,F,v,a,j,l,c,k,g,i⟩:=(T f x o p).ex;refine⟨b,fd,ps,j,⟨λvs H Q E h=>?_,λA outer s H q D vs Q E I R u G h=>?_⟩,a.kp,l⟩
    ·obtain⟨m,st,ds,d,st',_,_,e,_⟩:=h; cases e
    ·obtain⟨m,st,ds,d,st',_,_,e,_⟩:=h; cases e
  ·have p:f≠f0:=λz=>by rw[z,hok]at t; cases t
   obtain⟨nm,b,fd,st,N,ps,F,v,a,j,l,c,k,g,i⟩:=(T f x o p).ex;refine⟨b,fd,ps,j,⟨λvs H Q E h=>?_,λA outer s H q D vs Q E I R u G h=>?_⟩,a.kp,l⟩
   ·obtain⟨m,st,ds,st',_,_,e,_⟩:=h; exact e.elim
   ·obtain⟨m,st,ds,st',_,_,e,_⟩:=h; exact e.elim
 |succ n r=>
  refine⟨λf x o=>?_,λf x o t=>?_⟩
  ·by_cases p:f=f0
   ·subst p;obtain⟨b,fd,ps,j,kp,l,F⟩:=S x o;exact⟨b,fd,ps,j,F n r.1 r.2,kp,l⟩
   ·obtain⟨nm,b,fd,st,N,ps,F,v,a,j,l,c,k,g,i⟩:=(T f x o p).ex;exact⟨b,fd,ps,j,qhs r.1 U v a c k g i,a.kp,l⟩
  ·have p:f≠f0:=λz=>by rw[z,hok]at t; cases t
   obtain⟨nm,b,fd,st,N,ps,F,v,a,j,l,c,k,g,i⟩:=(T f x o p).ex;exact⟨b,fd,ps,j,qmf r.1 r.2 U Bq v a c k g i,a.kp,l⟩
theorem bad_mk{K:Qqq}{h:Heap}{mg:Str->Option Value}{C:Addr}{x:Str}(X:K.In h)(G:h.Ns mainGlobals mg)(a:Qxi K mainGlobals x=some (some (.ref C)))(q:PySem.W.excIn K C bmV "ValueError.__new__" = true)(nd:(x==("__debug__" : Str))=false):Bad x K mg C:=by
 refine⟨λh X=>⟨Qxc (by assumption) G a,?_⟩,nd⟩;unfold PySem.W.excIn at q; split at q
 case h_2=>cases q
 case h_1 i cl b look=>
  split at q
  case h_2=>cases q
  case h_1 N j r p o n e m em c=>
   simp only[Qqo,beq_iff_eq,Bool.not_eq_true']at q; obtain⟨⟨⟨⟨⟨u,t⟩,l⟩,s⟩,d⟩,k⟩:=q;obtain⟨H,E,I,D,A,z,y,w,v,f,F⟩:=cl; dsimp only at em l d k;have g:b=#[r,p,o,n,some (.builtin e),m]:=by cases b; dsimp only at c; rw[c]
   subst u t em l g;exact⟨j,D,H,A,E,z,y,w,v,f,i,r,p,o,n,m,_,X _ _ look,.of_isNs (PySem.W.isNs_of_in X d),PySem.W.nsMap_none_of_in X d k,PySem.W.tail_of_in X s⟩
structure Ctch (names:List Str) (glo:Glo) (st:Stmt) (x0:Str) (pre tb post:List S) (i:Nat) (z:Str):Prop where
 ex:∃(pp tp qq:List Stmt) (y:Str) (j0:Nat) (hs:List Zh) (p6 p7 p8 p9 p10 pos:Pos),qzl st=pp++.Try tp (.ExceptHandler (some (.Name x0 p6)) none [.Assign [.Name y p7] (.Constant (.str z) j0 p8) p9] p10::hs) [] [] pos::qq/\
  CkSs ⟨locN st,qzz st,names,glo⟩ pre pp/\CkSs ⟨locN st,qzz st,names,glo⟩ tb tp/\CkSs ⟨locN st,qzz st,names,glo⟩ post qq/\(locN st)[i]?=some y/\Loc (qzz st) y/\(qzz st).names.lookup x0=some .globalImplicit
theorem law_mkX{l:PySem.W.OpenLaw}{w:Qk}{K:Qqq}{h:Heap}{mg:Str->Option Value}{E C:Addr}{t:List Rw}{glo:Glo}{fns:List Fn}{u z:Str}{okf:Nat->Bool}{pre tb post:List S}{g i n j:Nat}{x x1 y:Str}{st st1:Stmt}{o o1:Orc}(X:K.In h)(G:h.Ns mainGlobals mg)(U:mg x=some (.ref E))(R:t[i]?=some (none,x,x,st,o))(hy:argN st=[y])(hm:glo.ms=msT 0 t)(V:∀r∈t,Bd r)(hc:(t.all rwOk&&gloOk glo)=true)
  (hF:∀f,f<t.length->f≠g->fns[f]?=(fnsT (t.map (·.2.2.1)) glo t)[f]?) (Q:i≠g) (hok:okf g=false) (W:t[g]?=some (none,x1,x1,st1,o1)) (ct:Ctch (t.map (·.2.2.1)) glo st1 u pre tb post j z)
  (EQ:∀n ds p d st',M.callD fns (n+1) g ds p=some (d,st')->ds.length=(argN st1).length/\TryRun fns u okf n pre tb post j z (ds.map some++List.replicate ((locN st1).length - ds.length) none) p d st')
  (ok:∀ns:List Int,ns.length<=63->∃st',M.callD fns (n+1) i [.lst (ns.map D.int)] []=some (.bl true,st'))
  (I:∀r∈t,RwK K r) (h1:∀q∈glo.ds,GdK w.params K q) (h2:∀q∈glo.cs,GlK K q) (h3:∀q∈glo.cl,ClK K q.1 q.2) (h4:∀q∈glo.ats,PySem.W.findIn K (.ref q.1) q.2=some none) (z:∀x∈bNm,Qxi K mainGlobals x=some none) (Bq:Bad u K mg C):∃fd:Qh,(∀(s:Qz) (v:Value),BindsTo s fd ⟨[v],[]⟩ [(y,v)])/\∀base:Heap,K.In base->base.Ns mainGlobals mg->FnOk l.prog w K mg base CX0 (2*(n+1)) E fd [y] (qio K):=by
 refine aDk hc λc1 c2=>?_;have Mg:=glo_mo X G c2 h1 h2 h3 h4 z;have T:=qfi X G hm I V c1;have T':∀f x,(t.map (·.2.2.1))[f]?=some x->f≠g->FText K mg fns (t.map (·.2.2.1)) glo f x:=λf x e hn=>by
  obtain⟨nm,E,fd,st,N,ps,F,q,r⟩:=(T f x e).ex;refine⟨nm,E,fd,st,N,ps,F,?_,r⟩;rw[hF f (by have:=(Qqv.mp e).1; rw[Qqj]at this; exact this) hn];exact q
 have j:=Qqd R;have b:=V _ j;have s:=qwr (aD (Qq7.mp c1 _ j)).1;have BT:∀base,∀n,FTab l.prog w K mg base glo fns (t.map (·.2.2.1)) n/\XTab l.prog w K mg base C glo fns u okf (t.map (·.2.2.1)) n:=λbase=>qmp T' hok Mg Bq λx' e=>by
  rw[Qqk,W]at e;cases e;have H:=Qqd W;have s0:=qwr (aD (Qq7.mp c1 _ H)).1;have b0:=V _ H;obtain⟨pp,tp,qq,y',jj,a1,p6,p7,p8,p9,a0,pos,e1,k1,k2,k3,k4,k5,k6⟩:=ct.ex
  cases I _ H with
  |fn a A c k=>
   exact⟨_,_,_,⟨λ_=>Qxc X G a,λC m w=>by
    rw[hm]at w;obtain⟨kk,r',e,q1,q2⟩:=qhh w;obtain rfl:g=kk:=e.trans (Qx8 kk);cases W.symm.trans q1
    exact nomatch q2.1⟩,k,(qjm A c k).binds b0,λn ft xt=>qid ft xt Mg Bq (qjm A c k) s0 e1 k1 k2 k4 k5 k3 k6 (EQ n)⟩
 cases I _ j with
 |fn a A c k=>
  cases U.symm.trans (Qxc X G a);have F:=λbase=>(qhs (P:=l.prog) (base:=base) (BT base _).1 Mg (by rw[hF i (Qqv.mp R).1 Q]; unfold fnsT; rw[Qqk,R]; rfl) (qjm A c k) s (qx9 (qk9 30) 12 _) rfl rfl).imp (law_sp ok);have b:=b;dsimp only[Bd]at b;rw[hy]at F b;exact⟨_,λs v=>.of_eq (b _ _ _ _ _ _ [v] rfl),λbase _ _=>F base⟩
end MS
end
section
namespace K12
open PySem L2 MS
open M (D Fn)
noncomputable abbrev tF(x:Str)(i:Nat)(l:Orc):Rw:=(none,x,x,top i,l)
noncomputable abbrev tM(C:Addr)(m x:Str)(i j:Nat)(l:Orc):Rw:=(some C,m,x,cb (top i) j,l)
noncomputable def tab:List Rw:=[tF "in_ground" 18 [],
 tF "own_course" 21 [],
 tF "own_courses" 22 [(1370,[54011023,55012028,57016032]),(1,[58017046,59030066])],
 tF "with_join" 23 [(1,[62012048,62013027,63014075,63015043,63028042,64012026,64063078])],
 tF "traced" 24 [(2,[68008019,71012023,71036047,71049064]),(1370,[69016034])],
 tF "joined_veins" 25 [(1370,[75012030,78016038])],
 tF "courses" 26 [(2,[81011057]),(1,[81025050])],
 tM 336 "__init__" "Claims.__init__" 35 0 [(678,[146008017,147008017,148008016])],
 tM 336 "names" "Claims.names" 35 1 [(678,[151020029])],
 tM 336 "vest_all" "Claims.vest_all" 35 6 [(679,[172020032]),(678,[173012042])],
 tF "bounds" 45 [],
 tF "fits" 46 [],
 tF "all_fit" 47 [(1,[225015079]),(2,[225028039])],
 tF "is_cell" 48 [(1,[227040072])],
 tF "good_steps" 49 [(1,[229040081])],
 tF "good_outcrops" 50 [(1,[233015059])],
 tF "sound_vein" 51 [],
 tF "numbers_agree" 52 [],
 tF "sound" 53 [(1,[249011049])],
 tF "check_district" 72 [],
 tF "check_day" 73 [],
 tM 682 "__init__" "Field.__init__" 74 0 [(1370,[301008019,302008017,303008016,304008018,305008019,306008019,307008016,308008018])],
 tM 682 "enter" "Field.enter" 74 1 [(1370,[312021032,314018026,316008016,317015032])],
 tM 682 "answer" "Field.answer" 74 2 [(1370,[321019040,323019040,325019041,327019039,329019039,330015026,330034042]),(678,[330015049])],
 tM 682 "enter_vein" "Field.enter_vein" 74 3 [(1370,[333008018,333019027,334008019,334029037]),(2,[333008028]),(678,[334008047])],
 tM 682 "enter_join" "Field.enter_join" 74 4 [(2,[340011033,340037060,344011030,346008025]),(1370,[340023033,340050060,344019030,346008019])],
 tM 682 "size" "Field.size" 74 12 [(1370,[386015026])],
 tM 682 "vein" "Field.vein" 74 16 [(2,[398011033,400015031]),(1370,[398023033,400015025])],
 tM 682 "joined" "Field.joined" 74 17 [(2,[403011033]),(1370,[403023033,405015026])],
 tF "_law_draw" 76 [],
 tF "_law_same" 77 [(1,[445024108,445025072])],
 tF "_law_size" 78 [(1,[454017101,455017111,455030111])],
 tF "_law_steps" 79 [(1,[458017135,458018039])],
 tF "_law_outs" 80 [(1,[464077090])],
 tF "_law_pick" 81 [],
 tF "_law_vein" 82 [(1,[474075124])],
 tF "_law_model" 84 [(2,[479004028,480004028,481004029])],
 tF "_law_at" 87 [(2,[496010052,496028052,496057081,496057097,497025049,497025065,498030054,498030070,500021045,500021061,501021045,501021061,504029052,504077100])],
 tF "_law_enter_join" 90 [(2,[538007051,538027051,538055099,538075099,542007047,542023047,544004028,544004042])],
 tF "_law_enter" 91 [(2,[547004026,553008032,553008042,554032057,557008033,557008043,557087110,558037061,559049073,559049089]),(1,[554025058,558030062])],
 tF "_law_veins_plan" 92 [(1,[569024138])],
 tF "_law_rows" 93 [(2,[576020044,576020060,577016039]),(1,[578012117])],
 tF "_law_unfound" 94 [],
 tF "law" 95 [(1,[590031075,594067107,596026058,598015079,598036078,600015105,605015105,605062104]),(1370,[591025062,600025058]),(2,[594011057,594033057,596033057,600060084])]]
noncomputable def names:List Str:=tab.map (·.2.2.1)
noncomputable def glo:Glo:=⟨[("COINS",(.tup [(.int 1),(.int 1000000)])),("DAYS",(.tup [(.int 1),(.int 400)])),("DEPTHS",(.tup [(.int 0),(.int 12)])),("FOLK",(.tup [(.int 1),(.int 40)])),("LENGTHS",(.tup [(.int 1),(.int 24)])),("LINES",(.tup [(.int 1),(.int 23)])),("MOST_COLUMNS",(.int 16)),("MOVES",(.tup [(.tup [(.int 0),(.int 0)]),(.tup [(.int 1),(.int 0)]),(.tup [(.int (-1)),(.int 0)]),(.tup [(.int 0),(.int 1)]),(.tup [(.int 0),(.int (-1))])])),("SIDES",(.tup [(.int 0),(.int 1)])),("STEPS",(.tup [(.int 0),(.int 4)])),("TERMS",(.tup [(.int 1),(.int 400)]))],[("ASKS",["join","stake","work","sell","part","give","dig","pay"],[(.tup [(.str "day"),(.str "day"),(.str "below")]),(.tup [(.str "folk"),(.str "x"),(.str "y"),(.str "x"),(.str "y")]),(.tup [(.str "day")]),(.tup [(.str "day"),(.str "folk")]),(.tup [(.str "day"),(.str "side"),(.str "line"),(.str "folk")]),(.tup [(.str "day")]),(.tup [(.str "folk"),(.str "x"),(.str "y"),(.str "x"),(.str "y"),(.str "floor"),(.str "coins")]),(.tup [(.str "folk"),(.str "folk"),(.str "coins")])])],msT 0 tab,[("Claims",336),("Field",682)],[(336,"book"),(336,"row"),(336,"year"),(682,"day"),(682,"debts"),(682,"dug"),(682,"extent"),(682,"found"),(682,"joints"),(682,"staked"),(682,"year")]⟩
noncomputable def unF:Fn:=⟨2,3,[.ite (.din true (.var 1) (.attr 682 (.var 0) "found")) [.expr (.mcall 682 44 "joined" (.var 0) []),.set (.var 2) (.lst [.var 1]),.ret (.lit (.bl true))] [.bad]]⟩
noncomputable def fns:List Fn:=(fnsT names glo tab).set 42 unF++[⟨1,1,[.ret (.call 45 [.var 0])]⟩,⟨1,1,[.ret (.call 46 [.var 0])]⟩,⟨1,1,[.ret (.var 0)]⟩]
end K12
end
section
namespace K12
open PySem (Str)
open M
noncomputable abbrev sO(x:String):D:=.str (Str.ofString x)
noncomputable def szD(W H P:Int):D:=.tup [.int W,.int H,.int P]
noncomputable def Bq(W H P d d':Int)(fo jo fo' jo':List (D×D))(rest:Store):Store:=
 .obj 682 [("extent",szD W H P),("year",.int 5),("day",.int d),("found",.loc 1),("joints",.loc 2),("staked",.loc 3),("dug",.loc 6),("debts",.loc 7)]::.dic true fo::.dic true jo::.obj 336 [("year",.int 5),("book",.loc 4),("row",.loc 5)]::.dic true []::.lst true []::.dic true []::.lst true [] ::
 .dic true [(sO "size",szD W H P),(sO "term",.int 5),(sO "day",.int d'),(sO "row",.loc 9),(sO "book",.loc 10),(sO "dug",.loc 11),(sO "veins",.loc 12),(sO "joins",.loc 13),(sO "claims",.loc 14)]::.lst true []::.lst true []::.lst true []::.dic true fo'::.dic true jo'::.dic true []::rest
noncomputable def cD(p:Int×Int):D:=.tup [.int p.1,.int p.2]
theorem asB:∀bs:List Bool,asBools (bs.map .bl)=some bs
 |[]=>rfl
 |b::r=>by show(asBools (r.map .bl)).map (b::·)=_; rw[asB r]; rfl
theorem nlB(bs:List Bool):noLocs (bs.map .bl)=true:=qz4 λ_ _=>rfl
theorem qin{c:CF}{τ:Sl}{st:Store}{i:Nat}{q:D}{ds:List D}(h:τ[i]?=some (some q))(a:rowAt st q=some ds):∃s,src (RL c) τ st (.var i)=some (s,st)/\(∀i,s.at st i=some ds[i]?)/\s.size st=ds.length:=by
 have e:=qq8 c τ st (.var i) (q,st) (by show(match τ[i]? with|some (some d)=>some (d,st)|_=>none)=_; rw[h])
 cases q with
 |tup xs=>
  cases a;exact⟨.tup ds,by show((RL c).ev τ st (.var i)).bind _=_; rw[e]; rfl,λi=>rfl,rfl⟩
 |lst xs=>
  have a:=a;exact⟨.lst (.lst xs),by show((RL c).ev τ st (.var i)).bind _=_; rw[e]; rfl,qwm a,qq7 a⟩
 |loc l=>
  have a:seqAt st (.loc l)=some ds:=a;exact⟨.lst (.loc l),by show((RL c).ev τ st (.var i)).bind _=_; rw[e]; show(seqAt st (.loc l)).map _=_; rw[a]; rfl,qwm a,qq7 a⟩
 |_=>cases a
theorem qea{α:Type}{c:CF}{τ:Sl}{st:Store}{i:Nat}{q:D}{elt:E}{sr:List (Option Nat)}{rst:Sl}(a:List α)(f g:α->D)(h:τ[i]?=some (some q))(m:rowAt st q=some (a.map f))(n:a.length<lim)(b:inner sr τ=none::rst)(o:∀x∈a,(RL c).ev (some (f x)::rst) st elt=some (g x,st)):
  stepEv (RL c) τ st (.comp (.var 0) (.var i) none elt sr)=some (.loc st.length,st++[.lst true (a.map g)]):=by
 obtain⟨s,h1,h2,p⟩:=qin h m;refine qah h1 h2 p b (by simp) (by simpa using n) λk d e hd j=>?_;rw[Qqk]at hd j;obtain⟨x,l,rfl⟩:=Qqc.mp hd;rw[l]at j;cases j;exact o x (Qqd l)
theorem gl{st:Store}{c:Cell}:(st++[c])[st.length]?=some c:=by simp
theorem sl{st:Store}{c c':Cell}:(st++[c]).set st.length c'=st++[c']:=by simp
theorem for_of{c:CF}{τ:Sl}{st:Store}{i:Nat}{q:D}{ds:List D}{t:M.T}{body:List M.S}(P:Nat->Sl->Store->Prop)(h:τ[i]?=some (some q))(r:P 0 τ st)(n:∀k a st',P k a st'->rowAt st' q=some ds)
  (u:∀k a st' d,ds[k]?=some d->P k a st'->∃b f,((setT t d a).bind λm=>(RL c).ex m st' body)=some (.nx b,f)/\P (k+1) b f) :
  ∃a st',stepEx (RL c) τ st (.forr t (.var i) body)=some (.nx a,st')/\P ds.length a st':=by
 have e:=qq8 c τ st (.var i) (q,st) (by show(match τ[i]? with|some (some d)=>some (d,st)|_=>none)=_; rw[h]);have g:∀s:Src,src (RL c) τ st (.var i)=some (s,st)->s.size st=ds.length->(∀k a st',P k a st'->s.at st' k=some ds[k]?)->∃a st',stepEx (RL c) τ st (.forr t (.var i) body)=some (.nx a,st')/\P ds.length a st':=λs h1 h2 v=>by
  obtain⟨a,st',p,o⟩:=qy7 P (λ_ _=>False) r h2 v (λk a st' d hd j=>by
   obtain⟨b,f,p,o⟩:=u k a st' d hd j
   exact .inl ⟨b,f,.inl p,o⟩)
  refine⟨a,st',?_,o.resolve_right id⟩;show(src (RL c) τ st (.var i)).bind _=_;rw[h1];exact p
 have h1:=n 0 τ st r
 cases q with
 |tup xs=>
  cases h1;exact g (.tup ds) (by show((RL c).ev τ st (.var i)).bind _=_; rw[e]; rfl) rfl λk a st' _=>rfl
 |lst xs=>
  exact g (.lst (.lst xs)) (by show((RL c).ev τ st (.var i)).bind _=_; rw[e]; rfl) (qq7 h1) λk a st' j=>qwm (show seqAt st' (.lst xs)=_ from n k a st' j) k
 |loc l=>
  have h1:seqAt st (.loc l)=some ds:=h1;exact g (.lst (.loc l)) (by show((RL c).ev τ st (.var i)).bind _=_; rw[e]; show(seqAt st (.loc l)).map _=_; rw[h1]; rfl) (qq7 h1) λk a st' j=>qwm (show seqAt st' (.loc l)=_ from n k a st' j) k
 |_=>cases h1
theorem nlI(a:List Int):noLocs (a.map .int)=true:=qz4 λ_ _=>rfl
theorem qq4{c:CF}{τ:Sl}{st:Store}{it:E}{s:Src}{ds:List D}{t:M.T}{body:List M.S}(P:Nat->Sl->Store->Prop)(n:src (RL c) τ st it=some (s,st))(m:s.size st=ds.length)(l:∀k a st',P k a st'->s.at st' k=some ds[k]?)(o:P 0 τ st)
  (i:∀k a st' d,ds[k]?=some d->P k a st'->∃b e,((setT t d a).bind λf=>(RL c).ex f st' body)=some (.nx b,e)/\P (k+1) b e) :
  ∃a st',stepEx (RL c) τ st (.forr t it body)=some (.nx a,st')/\P ds.length a st':=by
 obtain⟨a,st',h,g⟩:=qy7 P (λ_ _=>False) o m l (λk a st' d hd j=>by
  obtain⟨b,e,h,g⟩:=i k a st' d hd j
  exact .inl ⟨b,e,.inl h,g⟩)
 refine⟨a,st',?_,g.resolve_right id⟩;show(src (RL c) τ st it).bind _=_;rw[n];exact h
theorem qvp{it:Src}{f:Sl->Store->D->Option (Option D×Sl×Store)}{ds:List D}{S:Store}(g:D->Option D)(P:Sl->Prop)(b:∀i,it.at S i=some ds[i]?)(m:ds.length<lim)(l:∀τ d,d∈ds->P τ->∃a,f τ S d=some (g d,a,S)/\P a):
  ∀(k i:Nat) (τ:Sl),i+k=ds.length->P τ->loopC it f (k+1) i ((ds.take i).filterMap g) τ S=some (ds.filterMap g,S)
 |0,i,τ,h,p=>by
  have e:i=ds.length:=by lia
  subst e;rw[loopC,b,Qq0 (Qqw _),Qxn];simp only[oBs];rw[Z2 (by have:=Qjt g ds; lia)]
 |k+1,i,τ,h,p=>by
  have hi:i<ds.length:=by lia
  obtain⟨a,o,n⟩:=l τ ds[i] (Qxm hi) p;rw[loopC,b,Qqx hi];simp only[oBs];rw[Z2 (by have:=Qjt g (ds.take i); rw[Qzm]at this; lia),o];have c:=qvp g P b m l k (i+1) a (by lia) n;rw[Qzg hi,List.filterMap_append]at c;simp only[oBs]
  cases j:g ds[i] with
  |none=>simpa[j] using c
  |some x=>simpa[j] using c
theorem qai{c:CF}{τ:Sl}{st:Store}{t:M.T}{it elt:E}{a:Option E}{sr:List (Option Nat)}{s:Src}{ds:List D}(g:D->Option D)(P:Sl->Prop)(h:src (RL c) τ st it=some (s,st))(e:∀i,s.at st i=some ds[i]?)(f:s.size st=ds.length)(j:ds.length<lim)(l:P (inner sr τ))(k:∀τ d,d∈ds->P τ->∃b,turnC (RL c) t a elt τ st d=some (g d,b,st)/\P b):
  stepEv (RL c) τ st (.comp t it a elt sr)=some (.loc st.length,st++[.lst true (ds.filterMap g)]):=by
 show((src (RL c) τ st it).bind λp=>(loopC p.1 (turnC (RL c) t a elt) (p.1.size p.2+1) 0 [] (inner sr τ) p.2).map λq=>alloc q.2 (.lst true q.1))=_;rw[h];simp only[oBs,f];have:=qvp g P e j k ds.length 0 (inner sr τ) (by lia) l;rw[List.take_zero,List.filterMap_nil]at this;rw[this]
 rfl
theorem qbu{c:CF}{t:M.T}{elt:E}{τ a:Sl}{st:Store}{d x:D}(h:setT t d τ=some a)(b:(RL c).ev a st elt=some (x,st)):turnC (RL c) t none elt τ st d=some (some x,a,st):=by
 unfold turnC;rw[h];simp only[oBs,b,oMs]
noncomputable def bD(W H P:Int):List (D×D):=[(sO "day",.tup [.int 1,.int 400]),(sO "folk",.tup [.int 1,.int 40]),(sO "x",.tup [.int 0,.int (W - 1)]),(sO "y",.tup [.int 0,.int (H - 1)]),(sO "floor",.tup [.int 0,.int P]),(sO "below",.tup [.int 1,.int P]),(sO "side",.tup [.int 0,.int 1]),(sO "line",.tup [.int 1,.int 23]),(sO "step",.tup [.int 0,.int 4]),(sO "coins",.tup [.int 1,.int 1000000])]
def Fit(W H P:Int)(p:Int×String):Prop:=∃lo hi,dget (bD W H P) (sO p.2)=some (.tup [.int lo,.int hi])/\lo<=p.1/\p.1<=hi
theorem qmh(m:Nat)(st:Store){v a b:Int}(d:a<=v)(c:v<=b):callD fns (m+1) 11 [.int v,.tup [.int a,.int b]] st=some (.bl true,st):=
 qzq 0 [] 1 (λq=>_/\_/\q) [.b true,.b true] ⟨Z0 d,Z0 c,rfl⟩
theorem qe0(m:Nat)(st:Store)(W H P:Int):callD fns (m+1) 10 [szD W H P] st=some (.loc st.length,st++[.dic true (bD W H P)]):=
 qar 0 [] 1 (.loc st.length,(st++[Cell.dic true []]).set st.length (.dic true (bD W H P))) (λq=>_/\q) [.r (.dic true [])] ⟨gl (st:=st) (c:=.dic true []),by rw[sl]⟩
theorem qd7(m:Nat)(st:Store){W H P:Int}(d:List (Int×String))(y:d.length<1000)(o:∀p∈d,Fit W H P p):callD fns (m+2) 12 [szD W H P,.tup (d.map λp=>sO p.2),.tup (d.map λp=>.int p.1)] st=some (.bl true,st++[.dic true (bD W H P)]):=by
 have h1:(!((((d.map λp=>D.int p.1).length:Nat):Int)==((d.map λp=>sO p.2).length:Nat)))=false:=by simp
 have j:∀i,pairAt (d.map λp=>D.int p.1) (d.map λp=>sO p.2) i=(d.map λp=>D.tup [.int p.1,sO p.2])[i]?:=λi=>by
  unfold pairAt;rw[Qqk,Qqk,Qqk];cases d[i]?<;>rfl
 have h:=qai (t:=.tup [0,1]) (it:=.zip (.var 2) (.var 1)) (sr:=[none,none,some 3]) (λ_=>some (.bl true)) (λτ=>∃a b,τ=[a,b,some (.loc st.length)])
  (by
   have v:(RL (callD fns (m+1))).ev [some (szD W H P),some (.tup (d.map λp=>sO p.2)),some (.tup (d.map λp=>.int p.1)),some (.loc st.length)] (st++[.dic true (bD W H P)]) (.var 2)=some (.tup (d.map λp=>.int p.1),st++[.dic true (bD W H P)]):=qq8 _ _ _ _ _ rfl;have w:(RL (callD fns (m+1))).ev [some (szD W H P),some (.tup (d.map λp=>sO p.2)),some (.tup (d.map λp=>.int p.1)),some (.loc st.length)] (st++[.dic true (bD W H P)]) (.var 1)=some (.tup (d.map λp=>sO p.2),st++[.dic true (bD W H P)]):=qq8 _ _ _ _ _ rfl;show((RL (callD fns (m+1))).ev _ _ (.var 2)).bind _=_;rw[v];show((RL (callD fns (m+1))).ev _ _ (.var 1)).bind _=_;rw[w]
   rfl) (λi=>by rw[<- j]; rfl) (by simp[Src.size,rowAt]) (by simp; unfold lim; lia) ⟨none,none,rfl⟩ (λτ x l f=>by
   obtain⟨a,b,rfl⟩:=f;obtain⟨p,f,rfl⟩:=Qzb.mp l;obtain⟨lo,hi,n,s,g⟩:=o p f;refine⟨[some (.int p.1),some (sO p.2),some (.loc st.length)],?_,some (.int p.1),some (sO p.2),rfl⟩;have:=qzf (fns:=fns) (k:=m) (τ:=[some (.int p.1),some (sO p.2),some (.loc st.length)]) (st:=st++[.dic true (bD W H P)]) (e:=.call 11 [.var 0,.didx (.var 2) (.var 1)]) (r:=(.bl true,st++[.dic true (bD W H P)])) 0 [11] 1 (λq=>_/\_/\_/\q) [.r (.dic true (bD W H P)),.q (some (.tup [.int lo,.int hi])),.c (.bl true,st++[.dic true (bD W H P)])] ⟨gl (st:=st) (c:=.dic true (bD W H P)),n,qmh m (st++[.dic true (bD W H P)]) s g,rfl⟩
   exact qbu rfl this)
 have u:(d.map λp=>D.tup [.int p.1,sO p.2]).filterMap (λ_=>some (D.bl true))=(d.map λ_=>true).map .bl:=by
  rw[Qjw,Qzq];exact List.filterMap_eq_map▸rfl
 rw[u]at h;have g:bfun (st++[.dic true (bD W H P)]) .all [.lst ((d.map λ_=>true).map .bl)]=some (.bl true,st++[.dic true (bD W H P)]):=by
  show(asBools _).map _=_;rw[asB];exact congrArg (λb=>some (D.bl b,_)) (by simp)
 exact qzq 0 [10] 2 (λq=>_/\_/\_/\_/\_/\q) [.b false,.c (.loc st.length,st++[.dic true (bD W H P)]),.c (.loc (st++[Cell.dic true (bD W H P)]).length,st++[.dic true (bD W H P)]++[.lst true ((d.map λ_=>true).map .bl)]),.l ((d.map λ_=>true).map .bl),.c (.bl true,st++[.dic true (bD W H P)])] ⟨h1,qe0 m st W H P,h,qzp (st:=st++[.dic true (bD W H P)]) (nlB (d.map λ_=>true)),g,rfl⟩
theorem tkl{st:Store}{c:Cell}:(st++[c]).take st.length=st:=by simp
theorem gB(st:Store)(c:Cell):noLoc (.bl true)=true/\(st++[c]).take st.length=st:=⟨rfl,tkl⟩
section
variable {W H P:Int}
theorem f_day{n:Int}(b:1<=n)(a:n<=400):Fit W H P (n,"day"):=⟨1,400,by kernel_rfl,b,a⟩
theorem f_x{n:Int}(a:0<=n)(b:n<W):Fit W H P (n,"x"):=⟨0,W - 1,by kernel_rfl,a,by simp; lia⟩
theorem f_y{n:Int}(a:0<=n)(b:n<H):Fit W H P (n,"y"):=⟨0,H - 1,by kernel_rfl,a,by simp; lia⟩
theorem qmi{n:Int}(b:1<=n)(a:n<=P):Fit W H P (n,"below"):=⟨1,P,by kernel_rfl,b,a⟩
theorem f_step{n:Int}(b:0<=n)(a:n<=4):Fit W H P (n,"step"):=⟨0,4,by kernel_rfl,b,a⟩
theorem s_join(m:Nat)(st:Store){a b f:Int}(i:1<=a)(h:a<=400)(g:1<=b)(e:b<=400)(d:1<=f)(c:f<=P):callD fns (m+3) 18 [szD W H P,.tup [sO "join",.int a,.int b,.int f]] st=some (.bl true,st):=
 qzq 0 [12] 3 (λq=>_/\_/\q) [.c (.bl true,st++[.dic true (bD W H P)]),.g] ⟨qd7 m st (W:=W) (H:=H) [(a,"day"),(b,"day"),(f,"below")] (by simp) (by simp only[Qqb,Qz2,or_false,forall_eq_or_imp,forall_eq]; exact⟨f_day i h,f_day g e,qmi d c⟩),gB st (.dic true (bD W H P)),rfl⟩
def Cin(W H:Int)(p:Int×Int):Prop:=0<=p.1/\p.1<W/\0<=p.2/\p.2<H
theorem qmo(m:Nat)(st:Store){p:Int×Int}(h:Cin W H p):callD fns (m+3) 13 [szD W H P,cD p] st=some (.bl true,st):=
 qzq 0 [12] 3 (λq=>_/\_/\q) [.c (.bl true,st++[.dic true (bD W H P)]),.g] ⟨qd7 m st (P:=P) [(p.1,"x"),(p.2,"y")] (by simp) (by simp only[Qqb,Qz2,or_false,forall_eq_or_imp,forall_eq]; exact⟨f_x h.1 h.2.1,f_y h.2.2.1 h.2.2.2⟩),gB st (.dic true (bD W H P)),rfl⟩
theorem qjo:∀(ks:List (List Int)),ks.Nodup->∀S,(S++ks).Nodup->ks.foldl addK S=S++ks
 |[],_,S,_=>by simp
 |k::r,h,S,a=>by
  rw[Qx6];have:addK S k=S++[k]:=by
   unfold addK;rw[Z2];rw[List.nodup_append]at a;exact λz=>a.2.2 k z k (Qql ..) rfl
  rw[this,qjo r (Qxf.mp h).2 (S++[k]) (by simpa using a)];simp
theorem qhm:∀ps:List (Int×Int),(ps.map cD).mapM keyD=some (ps.map λp=>[p.1,p.2])
 |[]=>rfl
 |p::r=>by
  rw[Qq3,Qj8,qhm r]
  rfl
theorem ql5{ps:List (Int×Int)}(d:ps.Nodup)(e:ps.length<=16):qk1 (.tup (ps.map cD))=some (.int (ps.length:Int)):=by
 show((ps.map cD).mapM keyD).bind _=_;rw[qhm];have h:(ps.map λp=>[p.1,p.2]).Nodup:=by
  refine List.Pairwise.map _ (λa b c z=>c ?_) d;simp only[List.cons.injEq,and_true]at z;exact Prod.ext z.1 z.2
 show(if (ps.map cD).length<=16 then _ else _)=_;rw[Z3 (by simpa using e)];unfold distinct;rw[qjo _ h [] (by simpa using h)];simp
theorem s_vein(m:Nat)(st:Store){ss:List Int}{ps:List (Int×Int)}(E:(ss.length:Int)=P)(x:ss.length<=100)(o:∀s∈ss,0<=s/\s<=4)(F:1<=ps.length)(y:ps.length<=16)(t:ps.Nodup)(v:∀p∈ps,Cin W H p):callD fns (m+6) 18 [szD W H P,.tup [sO "vein",.tup (ss.map .int),.tup (ps.map cD)]] st=some (.bl true,st):=by
 have a:=qd7 (m+1) st (W:=W) (H:=H) (P:=P) (ss.map λs=>(s,"step")) (by simp; lia) (λp f=>by obtain⟨s,d,rfl⟩:=Qzb.mp f; exact f_step (o s d).1 (o s d).2);rw[Qzq,Qzq]at a;have C:ss.map ((λp:Int×String=>sO p.2)∘λs=>(s,"step"))=List.replicate ss.length (sO "step"):=by
  rw[List.eq_replicate_iff];refine⟨by simp,λb w=>?_⟩;obtain⟨s,_,rfl⟩:=Qzb.mp w
  rfl
 have A:ss.map ((λp:Int×String=>D.int p.1)∘λs=>(s,"step"))=ss.map .int:=rfl;rw[C,A]at a;have u:binop st .Mult (.tup [sO "step"]) (.int P)=some (.tup (List.replicate ss.length (sO "step")),st):=by
  show(if decide (P < -(2 ^ 62))||decide (2 ^ 62<=P)||decide (lim<1*P.toNat) then none else some (D.tup (List.replicate P.toNat [sO "step"]).flatten,st))=_;have:P.toNat=ss.length:=by lia
  rw[Z2 (by simp; unfold lim; lia),this]
  congr 3
  induction ss.length with
  |zero=>rfl
  |succ k r=>rw[Qzw,Qzs,r]; rfl
 have l:decide ((1:Int)<=((ps.map cD).length:Nat))=true:=Z0 (by simp; lia);have j:decide (((ps.map cD).length:Int)<=16)=true:=Z0 (by simp; lia);have e:=qea (c:=callD fns (m+3)) (τ:=[some (szD W H P),some (.tup (ps.map cD))]) (st:=st) (i:=1) (elt:=.call 13 [.var 1,.var 0]) (sr:=[none,some 0]) ps cD (λ_=>.bl true) rfl rfl (by unfold lim; lia) rfl λp f=>qzf 0 [13] 3 (λq=>_/\q) [.c (.bl true,st)] ⟨qmo m st (P:=P) (v p f),rfl⟩;have z:ps.map (λ_=>D.bl true)=(ps.map λ_=>true).map .bl:=by rw[Qzq]; rfl
 rw[z]at e;have n:bfun st .all [.lst ((ps.map λ_=>true).map .bl)]=some (.bl true,st):=by
  show(asBools _).map _=_;rw[asB];exact congrArg (λb=>some (D.bl b,_)) (by simp)
 have g:qk1 (.tup (ps.map cD))=some (.int ((ps.map cD).length:Int)):=by rw[ql5 t y]; simp
 have h:(((ps.map cD).length:Int)==((ps.map cD).length:Nat))=true:=by simp
 exact qzq 0 [12,13] 6 (λq=>_/\_/\_/\_/\_/\_/\_/\_/\_/\_/\q) [.k,.c (.tup (List.replicate ss.length (sO "step")),st),.c (.bl true,st++[.dic true (bD W H P)]),.g,.b true,.b true,.c (.loc st.length,st++[.lst true ((ps.map λ_=>true).map .bl)]),.l ((ps.map λ_=>true).map .bl),.c (.bl true,st),.i (.int ((ps.map cD).length:Int)),.b true] ⟨u,a,gB st (.dic true (bD W H P)),l,j,e,qzp (st:=st) (nlB (ps.map λ_=>true)),n,g,h,rfl⟩
end
noncomputable def scr(ns:List Int):D:=.lst (ns.map .int)
theorem modE(a:Int){b:Int}(h:0<b):∃v,(∀S,binop S .Mod (.int a) (.int b)=some (.int v,S))/\0<=v/\v<b:=⟨_,λS=>bMo S a h,Int.emod_nonneg _ (by lia),Int.emod_lt_of_pos _ h⟩
theorem divE(a:Int){b:Int}(h:0<b)(c:b<2 ^ 64):∃v,∀S,binop S .FloorDiv (.int a) (.int b)=some (.int v,S):=⟨_,λS=>bDi S a h c⟩
noncomputable def itD:Nat->Int->Int
 |0,a=>a
 |n+1,a=>itD n a / 10000000000
noncomputable abbrev drT(ns:List Int)(k j many cell turn rest:Int)(o:Option D):Sl:=[some (scr ns),some (.int k),some (.int j),some (.int many),some (.int cell),some (.int turn),some (.int rest),o,none,none]
theorem qeq(m:Nat)(st:Store){ns:List Int}{k j many cell turn:Int}(g:0<=j)(f:j<100000):∃o,stepEx (RL (callD fns m)) (drT ns k j many cell turn cell none) st (.forr (.var 7) (.rng1 (.var 2)) [.set (.var 6) (.bin .FloorDiv (.var 6) (.bin .Pow (.lit (.int 10)) (.lit (.int 10))))])=some (.nx (drT ns k j many cell turn (itD j.toNat cell) o),st):=by
 obtain⟨a,st',e,o,rfl,rfl⟩:=qq4 (c:=callD fns m) (τ:=drT ns k j many cell turn cell none) (st:=st) (it:=.rng1 (.var 2)) (s:=.rng 0 j.toNat) (ds:=(List.range j.toNat).map λ(i:Nat)=>D.int (0+i)) (t:=.var 7) (body:=[.set (.var 6) (.bin .FloorDiv (.var 6) (.bin .Pow (.lit (.int 10)) (.lit (.int 10))))])
  (λi a st'=>∃o,a=drT ns k j many cell turn (itD i cell) o/\st'=st)
  (by
   have e:(RL (callD fns m)).ev (drT ns k j many cell turn cell none) st (.var 2)=some (.int j,st):=qq8 _ _ _ _ _ rfl;show((RL (callD fns m)).ev _ _ (.var 2)).bind _=_;rw[e];show(if big j=true then none else some (Src.rng 0 j.toNat,st))=_
   rw[Z2 (by unfold big; simp; lia)])
  (by simp[Src.size]) (λi _ _ _=>qxu _ _ _) ⟨none,rfl,rfl⟩ (λi a st' d hd h=>by
   obtain⟨o,rfl,rfl⟩:=h;rw[Qqk]at hd;obtain⟨x,_,rfl⟩:=Qqc.mp hd;refine⟨drT ns k j many cell turn (itD i cell / 10000000000) (some (.int (0+x))),st',?_,_,rfl,rfl⟩;show(RL (callD fns m)).ex (drT ns k j many cell turn (itD i cell) (some (.int (0+x)))) st' _=_
   exact qzg (k:=m) 0 [] 0 (λq=>_/\q) [.c (.int (itD i cell / 10000000000),st')] ⟨bDi st' (itD i cell) (b:=10000000000) (by decide) (by decide),rfl⟩)
 rw[Qqj,Qx0]at e;exact⟨o,e⟩
noncomputable abbrev drZ(o y t z w x u v:Int)(S:Store):Tp:=[.b true,.b true,.b true,.c (.int o,S),.b true,.c (.int y,S),.c (.int t,S),.c (.int z,S),.b true,.c (.int w,S),.b true,.b true,.c (.int x,S),.c (.int u,S),.c (.int v,S)]
noncomputable abbrev drX(a c t:Int)(τ:Sl)(S:Store)(r:Tp):Tp:=.b true::.c (.int a,S)::.i (.int c)::.c (.int t,S)::.s (.nx τ,S)::r
theorem dr0{ns:List Int}(hn:ns.length<=63)(k j:Int){many:Int}(t:0<=j)(e:j<100000)(s:0<many):∃v:Int,(∀m st,callD fns (m+1) 29 [scr ns,.int k,.int j,.int many] st=some (.int v,st))/\0<=v/\v<many:=by
 obtain⟨cell,turn,pre⟩:∃cell turn:Int,(ns=[]/\cell=0/\turn=1)\/(0<((ns.map D.int).length:Int)/\∃a,(∀S,binop S .Mod (.int k) (.int (ns.map D.int).length)=some (.int a,S))/\(∀S,idxD S (scr ns) (.int a)=some (.int cell))/\∀S,binop S .FloorDiv (.int k) (.int (ns.map D.int).length)=some (.int turn,S)):=by
  by_cases A:ns=[]
  ·exact⟨0,1,.inl ⟨A,rfl,rfl⟩⟩
  ·have X:=List.length_pos_iff.mpr A;have c:(ns.map D.int).length=ns.length:=Qqj _;have d:0<((ns.map D.int).length:Int):=by lia
   obtain⟨a,h,R,Q⟩:=modE k d;obtain⟨b,h'⟩:=divE k d (by lia);have p:a.toNat<ns.length:=by lia
   exact⟨ns[a.toNat],b,.inr ⟨d,a,h,λS=>by simp only[scr,idxD,seqAt,oBs,atI,ixN,R,if_true,Q,Qqk,Qqx p,oMs],h'⟩⟩
 obtain⟨one,h1,W,V⟩:=modE (cell*7919+k*104729+j*1299709+31) (b:=1000000007) (by decide);obtain⟨y,h2⟩:=divE cell (b:=1009) (by decide) (by decide);obtain⟨two,K,_,_⟩:=modE (one*48271+y) (b:=998244353) (by decide);obtain⟨z,I,U,T⟩:=modE one (b:=9973) (by decide);obtain⟨tw,p,_,_⟩:=modE (two*(z+1)+j) (b:=1000000009) (by decide);obtain⟨w,H⟩:=divE tw (b:=1013) (by decide) (by decide);obtain⟨u,G,_,_⟩:=modE (one*69621+tw*40692+w) (b:=2147483647) (by decide);obtain⟨v,F,g,f⟩:=modE u s;obtain⟨x,P,_,_⟩:=modE (itD j.toNat cell) (b:=10000000000) (by decide);obtain⟨r,N,E,C⟩:=modE x s;have tl:=λst=>(⟨qqk (by decide) (by decide),qqk (by decide) (by decide),qqk (by decide) (by decide),h1 st,qqk (by decide) (by decide),h2 st,K st,I st,qqk (by lia) (by lia),p st,qqk (by decide) (by decide),qqk (by decide) (by decide),H st,G st,F st,rfl⟩:mulOk cell 7919=true/\mulOk k 104729=true/\mulOk j 1299709=true/\_/\mulOk one 48271=true/\_/\_/\_/\mulOk two (z+1)=true/\_/\mulOk one 69621=true/\mulOk tw 40692=true/\_/\_/\_/\(D.int v,st)=(D.int v,st))
 rcases pre with⟨rfl,rfl,rfl⟩|⟨d,a,l,p2,i⟩
 ·refine⟨v,λm st=>?_,g,f⟩;obtain⟨o,c⟩:=qeq m st (ns:=[]) (k:=k) (many:=many) (cell:=0) (turn:=1) t e;exact qzq (k:=m) 0 [] 1 (λq=>_/\_/\_/\_/\_/\_/\_/\_/\_/\_/\_/\_/\_/\_/\_/\_/\_/\_/\q) (.b false::.s (.nx (drT [] k j many 0 1 (itD j.toNat 0) o),st)::.b false::drZ one y two z tw w u v st) ⟨(rfl:decide ((0:Int)<0)=false),c,(rfl:((1:Int)==0)=false),tl st⟩
 ·have n:decide (0<((ns.map D.int).length:Int))=true:=Z0 d;have lp:=λm st=>qeq m st (ns:=ns) (k:=k) (many:=many) (cell:=cell) (turn:=turn) t e
  by_cases c1:turn=0
  ·by_cases c2:1000000000000000000<=cell
   ·by_cases c3:0<itD j.toNat cell
    ·refine⟨r,λm st=>?_,E,C⟩;obtain⟨o,c⟩:=lp m st;exact qzq (k:=m) 0 [] 1 (λq=>_/\_/\_/\_/\_/\_/\_/\_/\_/\_/\q) (drX a cell turn (drT ns k j many cell turn (itD j.toNat cell) o) st [.b true,.b true,.b true,.c (.int x,st),.c (.int r,st)]) ⟨n,l st,p2 st,i st,c,beq_iff_eq.mpr c1,Z0 c2,Z0 c3,P st,N st,rfl⟩
    ·refine⟨v,λm st=>?_,g,f⟩;obtain⟨o,c⟩:=lp m st;exact qzq (k:=m) 0 [] 1 (λq=>_/\_/\_/\_/\_/\_/\_/\_/\_/\_/\_/\_/\_/\_/\_/\_/\_/\_/\_/\_/\_/\_/\_/\q) (drX a cell turn (drT ns k j many cell turn (itD j.toNat cell) o) st (.b true::.b true::.b false::drZ one y two z tw w u v st)) ⟨n,l st,p2 st,i st,c,beq_iff_eq.mpr c1,Z0 c2,Z1 c3,tl st⟩
   ·refine⟨v,λm st=>?_,g,f⟩;obtain⟨o,c⟩:=lp m st;exact qzq (k:=m) 0 [] 1 (λq=>_/\_/\_/\_/\_/\_/\_/\_/\_/\_/\_/\_/\_/\_/\_/\_/\_/\_/\_/\_/\_/\_/\q) (drX a cell turn (drT ns k j many cell turn (itD j.toNat cell) o) st (.b true::.b false::drZ one y two z tw w u v st)) ⟨n,l st,p2 st,i st,c,beq_iff_eq.mpr c1,Z1 c2,tl st⟩
  ·refine⟨v,λm st=>?_,g,f⟩;obtain⟨o,c⟩:=lp m st;exact qzq (k:=m) 0 [] 1 (λq=>_/\_/\_/\_/\_/\_/\_/\_/\_/\_/\_/\_/\_/\_/\_/\_/\_/\_/\_/\_/\_/\q) (drX a cell turn (drT ns k j many cell turn (itD j.toNat cell) o) st (.b false::drZ one y two z tw w u v st)) ⟨n,l st,p2 st,i st,c,beq_eq_false_iff_ne.mpr c1,tl st⟩
section
variable {ns:List Int}(hn:ns.length<=63)
include hn
theorem dr(m:Nat)(st:Store)(k j:Int){many:Int}(d:0<=j)(b:j<100000)(c:0<many):∃v:Int,callD fns (m+1) 29 [scr ns,.int k,.int j,.int many] st=some (.int v,st)/\0<=v/\v<many:=by
 obtain⟨v,h,a⟩:=dr0 hn k j d b c;exact⟨v,h m st,a⟩
theorem qis(m:Nat)(st:Store)(k:Int):∃W H P:Int,callD fns (m+2) 31 [scr ns,.int k] st=some (szD W H P,st)/\1<=W/\W<=24/\1<=H/\H<=24/\0<=P/\P<=12:=by
 obtain⟨a,n,x,w⟩:=dr hn m st k 0 (many:=6) (by decide) (by decide) (by decide);obtain⟨b,l,b1,b2⟩:=dr hn m st k 1 (many:=6) (by decide) (by decide) (by decide);obtain⟨c,j,c1,c2⟩:=dr hn m st k 2 (many:=6) (by decide) (by decide) (by decide);obtain⟨e,h,v,u⟩:=dr hn m st k 3 (many:=12) (by decide) (by decide) (by decide);have s:=qzp (st:=st) (ds:=[.tup [.int 24,.int (1+(1+b) / 3),.int (c / 2)],.tup [.int (1+(1+a) / 3),.int 24,.int (c / 2)]]) rfl;have p:=qzp (st:=st) (ds:=[.tup [.int (1+(1+a) / 3),.int (1+(1+b) / 3),.int 12],.tup [.int (1+a),.int (1+b),.int c]]) rfl;have o:=qzp (st:=st) (ds:=[.tup [.int 24,.int (1+(1+b) / 3),.int (c / 2)],.tup [.int (1+(1+a) / 3),.int 24,.int (c / 2)],.tup [.int (1+(1+a) / 3),.int (1+(1+b) / 3),.int 12],.tup [.int (1+a),.int (1+b),.int c]]) rfl;have d:∀(i:Int) (r:D),(if decide (e<3) then e else 3)=i->idxD st (.lst [.tup [.int 24,.int (1+(1+b) / 3),.int (c / 2)],.tup [.int (1+(1+a) / 3),.int 24,.int (c / 2)],.tup [.int (1+(1+a) / 3),.int (1+(1+b) / 3),.int 12],.tup [.int (1+a),.int (1+b),.int c]]) (.int i)=some r->callD fns (m+2) 31 [scr ns,.int k] st=some (r,st):=λi r hi f=>by
  rw[<- hi]at f
  by_cases g:e<3
  ·rw[Z0 g]at f;exact qzq 0 [29] 2 (λq=>_/\_/\_/\_/\_/\_/\_/\_/\_/\q) [.c (.int a,st),.c (.int b,st),.c (.int c,st),.l [.tup [.int 24,.int (1+(1+b) / 3),.int (c / 2)],.tup [.int (1+(1+a) / 3),.int 24,.int (c / 2)]],.l [.tup [.int (1+(1+a) / 3),.int (1+(1+b) / 3),.int 12],.tup [.int (1+a),.int (1+b),.int c]],.k,.l [.tup [.int 24,.int (1+(1+b) / 3),.int (c / 2)],.tup [.int (1+(1+a) / 3),.int 24,.int (c / 2)],.tup [.int (1+(1+a) / 3),.int (1+(1+b) / 3),.int 12],.tup [.int (1+a),.int (1+b),.int c]],.c (.int e,st),.b true,.i r] ⟨n,l,j,s,p,o,h,Z0 g,f,rfl⟩
  ·rw[Z1 g]at f;exact qzq 0 [29] 2 (λq=>_/\_/\_/\_/\_/\_/\_/\_/\_/\q) [.c (.int a,st),.c (.int b,st),.c (.int c,st),.l [.tup [.int 24,.int (1+(1+b) / 3),.int (c / 2)],.tup [.int (1+(1+a) / 3),.int 24,.int (c / 2)]],.l [.tup [.int (1+(1+a) / 3),.int (1+(1+b) / 3),.int 12],.tup [.int (1+a),.int (1+b),.int c]],.k,.l [.tup [.int 24,.int (1+(1+b) / 3),.int (c / 2)],.tup [.int (1+(1+a) / 3),.int 24,.int (c / 2)],.tup [.int (1+(1+a) / 3),.int (1+(1+b) / 3),.int 12],.tup [.int (1+a),.int (1+b),.int c]],.c (.int e,st),.b false,.i r] ⟨n,l,j,s,p,o,h,Z1 g,f,rfl⟩
 by_cases t:e=0
 ·exact⟨24,1+(1+b) / 3,c / 2,d 0 _ (by subst t; rfl) rfl,by lia,by lia,by lia,by lia,by lia,by lia⟩
 ·by_cases h1:e=1
  ·exact⟨1+(1+a) / 3,24,c / 2,d 1 _ (by subst h1; rfl) rfl,by lia,by lia,by lia,by lia,by lia,by lia⟩
  ·by_cases h2:e=2
   ·exact⟨1+(1+a) / 3,1+(1+b) / 3,12,d 2 _ (by subst h2; rfl) rfl,by lia,by lia,by lia,by lia,by lia,by lia⟩
   ·exact⟨1+a,1+b,c,d 3 _ (by rw[Z1 (by lia)]; rfl) rfl,by lia,by lia,by lia,by lia,by lia,by lia⟩
end
section
variable {ns:List Int}(hn:ns.length<=63)
include hn
omit hn in
noncomputable def stT(d:Int):Int:=[0,1,2,3,4,0,0].getD d.toNat 0
theorem qfn(m:Nat)(st:Store)(k j:Int){P:Int}(y:0<=j)(w:j<1000)(z:0<=P)(o:P<=12):∃ss:List Int,callD fns (m+2) 32 [scr ns,.int k,.int j,.int P] st=some (.tup (ss.map .int),st)/\(ss.length:Int)=P/\∀s∈ss,0<=s/\s<=4:=by
 obtain⟨c,n⟩:=Classical.axiomOfChoice (λx:Int=>show ∃v:Int,(0<=x->x<100000->∀m st,callD fns (m+1) 29 [scr ns,.int k,.int x,.int 7] st=some (.int v,st))/\0<=v/\v<7 by
  by_cases h:0<=x/\x<100000
  ·obtain⟨v,a,b⟩:=dr0 hn k x (many:=7) h.1 h.2 (by decide);exact⟨v,λ_ _=>a,b⟩
  ·exact⟨0,λo h2=>absurd ⟨o,h2⟩ h,by decide⟩)
 have r:(List.range P.toNat).map (λ(i:Nat)=>D.int (0+i))=(List.range P.toNat).map λ(i:Nat)=>D.int i:=List.map_congr_left λi _=>by simp
 have h:=qai (t:=.var 0) (it:=.rng1 (.var 3)) (elt:=.idx (.gc (.lst [.lit (.int 0),.lit (.int 1),.lit (.int 2),.lit (.int 3),.lit (.int 4),.lit (.int 0),.lit (.int 0)])) (.call 29 [.var 3,.var 2,.bin .Add (.var 1) (.var 0),.lit (.int 7)])) (sr:=[none,some 2,some 1,some 0]) (λd=>match d with|.int i=>some (.int (stT (c (j+i))))|_=>none) (λτ=>∃a,τ=[a,some (.int j),some (.int k),some (scr ns)])
  (by
   have e:(RL (callD fns (m+1))).ev [some (scr ns),some (.int k),some (.int j),some (.int P)] st (.var 3)=some (.int P,st):=qq8 _ _ _ _ _ rfl;show((RL (callD fns (m+1))).ev _ _ (.var 3)).bind _=_;rw[e];show(if big P=true then none else some (Src.rng 0 P.toNat,st))=_
   rw[Z2 (by unfold big; simp; lia)])
  (λi=>by rw[qxu,r]) (by simp[Src.size]) (by simp; unfold lim; lia) ⟨none,rfl⟩ (λτ d hd u=>by
   obtain⟨a,rfl⟩:=u;obtain⟨i,hi,rfl⟩:=Qzb.mp hd;have hi:=Qza.mp hi;refine⟨[some (.int (i:Nat)),some (.int j),some (.int k),some (scr ns)],?_,some (.int (i:Nat)),rfl⟩;obtain⟨hd,g,f⟩:=n (j+(i:Nat));have hd:=hd (by lia) (by lia) m st;have l:idxD st (.lst [.int 0,.int 1,.int 2,.int 3,.int 4,.int 0,.int 0]) (.int (c (j+(i:Nat))))=some (.int (stT (c (j+(i:Nat))))):=by
    generalize c (j+(i:Nat))=v at g f ⊢;have:v=0\/v=1\/v=2\/v=3\/v=4\/v=5\/v=6:=by lia
    rcases this with rfl|rfl|rfl|rfl|rfl|rfl|rfl<;>rfl
   exact qbu rfl (qzf 0 [29] 1 (λq=>_/\_/\_/\q) [.l [.int 0,.int 1,.int 2,.int 3,.int 4,.int 0,.int 0],.c (.int (c (j+(i:Nat))),st),.i (.int (stT (c (j+(i:Nat)))))] ⟨qzp (st:=st) (ds:=[.int 0,.int 1,.int 2,.int 3,.int 4,.int 0,.int 0]) rfl,hd,l,rfl⟩))
 have e:((List.range P.toNat).map λ(i:Nat)=>D.int i).filterMap (λd=>match d with|.int i=>some (D.int (stT (c (j+i))))|_=>none)=((List.range P.toNat).map λ(i:Nat)=>stT (c (j+(i:Nat)))).map .int:=by
  rw[Qjw,Qzq];exact List.filterMap_eq_map▸rfl
 rw[e]at h;refine⟨(List.range P.toNat).map λ(i:Nat)=>stT (c (j+(i:Nat))),qzq 0 [] 2 (λq=>_/\_/\q) [.c (.loc st.length,st++[.lst true (((List.range P.toNat).map λ(i:Nat)=>stT (c (j+(i:Nat)))).map .int)]),.l (((List.range P.toNat).map λ(i:Nat)=>stT (c (j+(i:Nat)))).map .int)] ⟨h,qzp (st:=st) (nlI ((List.range P.toNat).map λ(i:Nat)=>stT (c (j+(i:Nat))))),rfl⟩,by simp; lia,λs p=>?_⟩;obtain⟨i,_,rfl⟩:=Qzb.mp p;obtain⟨_,g,f⟩:=n (j+(i:Nat));generalize c (j+(i:Nat))=v at g f ⊢;have:v=0\/v=1\/v=2\/v=3\/v=4\/v=5\/v=6:=by lia
 rcases this with rfl|rfl|rfl|rfl|rfl|rfl|rfl<;>decide
omit hn in
theorem flat_c(ps:List (Int×Int)):flats 9 (ps.map cD)=true:=by
 induction ps with
 |nil=>rfl
 |cons p r a=>show(flat 9 (cD p)&&flats 9 (r.map cD))=true; rw[a]; rfl
omit hn in
theorem any_c(ps:List (Int×Int))(p:Int×Int):((ps.map cD).any λy=>eqT y (cD p))=decide (p∈ps):=by
 induction ps with
 |nil=>rfl
 |cons a r b=>
  have e:eqT (cD a) (cD p)=decide (p=a):=by
   show((a.1==p.1)&&((a.2==p.2)&&true))=_;rw[Qjd,Qj0];simp only[Qqo,beq_iff_eq,decide_eq_true_eq];exact⟨λh=>Prod.ext h.1.symm h.2.symm,λh=>by rw[h]; exact⟨rfl,rfl⟩⟩
  rw[Qq3,Qz7,b,e];simp only[Qqb]
  by_cases h1:p=a<;>by_cases h2:p∈r<;>simp[h1,h2]
theorem qln(m:Nat)(st:Store)(k j:Int){W H P:Int}(hj:0<=j)(a0:j<1000)(w1:1<=W)(X:W<=24)(h1:1<=H)(h2:H<=24):∃ps:List (Int×Int),callD fns (m+2) 33 [scr ns,.int k,.int j,szD W H P] st=some (.tup (ps.map cD),st++[.lst true (ps.map cD)])/\1<=ps.length/\ps.length<=16/\ps.Nodup/\∀p∈ps,Cin W H p:=by
 have E:0<W*H:=Int.mul_pos (by lia) (by lia);have a3:=Int.mul_le_mul X h2 (by lia) (by lia);obtain⟨f,hf,f1,f2⟩:=dr hn m st k j hj (by lia) E;obtain⟨g,hg,g1,g2⟩:=dr hn m st k (j+1) (by lia) (by lia) E;obtain⟨a,Q,a1,a2⟩:=dr hn m (st++[.lst true []]) k (j+2) (many:=4) (by lia) (by lia) (by decide);have ⟨w,hw,V,x2⟩:∃w:Int,idxD (st++[.lst true []]) (.lst [.int 16,.int 4,.int 4,.int 4]) (.int a)=some (.int w)/\0<w/\w<=16:=by
  have:a=0\/a=1\/a=2\/a=3:=by lia
  rcases this with rfl|rfl|rfl|rfl
  ·exact⟨16,rfl,by decide,by decide⟩
  all_goals exact⟨4,rfl,by decide,by decide⟩
 obtain⟨b,N,b1,b2⟩:=dr hn m (st++[.lst true []]) k (j+3) (by lia) (by lia) V;have K:(RL (callD fns (m+1))).ev [some (scr ns),some (.int k),some (.int j),some (szD W H P),some (.int (W*H)),some (.int f),some (.int (1+g)),some (.loc st.length),none,none] (st++[.lst true []]) (.bin .Add (.lit (.int 1)) (.call 29 [.var 0,.var 1,.bin .Add (.var 2) (.lit (.int 3)),.idx (.gc (.lst [.lit (.int 16),.lit (.int 4),.lit (.int 4),.lit (.int 4)])) (.call 29 [.var 0,.var 1,.bin .Add (.var 2) (.lit (.int 2)),.lit (.int 4)])]))=some (.int (1+b),st++[.lst true []]):=
  qzf 0 [29] 1 (λq=>_/\_/\_/\_/\q) [.l [.int 16,.int 4,.int 4,.int 4],.c (.int a,st++[.lst true []]),.i (.int w),.c (.int b,st++[.lst true []])] ⟨qzp (st:=st++[.lst true []]) (ds:=[.int 16,.int 4,.int 4,.int 4]) rfl,Q,hw,N,rfl⟩
 obtain⟨h,st',h3,k',o,D,ps,rfl,rfl,T,p2,C,A⟩:=qq4 (st:=st++[.lst true []]) (it:=.rng1 (.bin .Add (.lit (.int 1)) (.call 29 [.var 0,.var 1,.bin .Add (.var 2) (.lit (.int 3)),.idx (.gc (.lst [.lit (.int 16),.lit (.int 4),.lit (.int 4),.lit (.int 4)])) (.call 29 [.var 0,.var 1,.bin .Add (.var 2) (.lit (.int 2)),.lit (.int 4)])]))) (t:=.var 8)
  (body:=[.set (.var 9) (.bin .Mod (.bin .Add (.var 5) (.bin .Mult (.var 8) (.var 6))) (.var 4)),.ite (.cmp .NotIn (.tup [.bin .Mod (.var 9) (.idx (.var 3) (.lit (.int 0))),.bin .FloorDiv (.var 9) (.idx (.var 3) (.lit (.int 0)))]) (.var 7)) [.expr (.meth (.var 7) .append [.tup [.bin .Mod (.var 9) (.idx (.var 3) (.lit (.int 0))),.bin .FloorDiv (.var 9) (.idx (.var 3) (.lit (.int 0)))]])] []])
  (λi h st'=>i<=(1+b).toNat/\∃o D ps,h=[some (scr ns),some (.int k),some (.int j),some (szD W H P),some (.int (W*H)),some (.int f),some (.int (1+g)),some (.loc st.length),o,D]/\st'=st++[.lst true ((ps:List (Int×Int)).map cD)]/\ps.length<=i/\(0<i->1<=ps.length)/\ps.Nodup/\∀p∈ps,Cin W H p)
  (by
   show((RL (callD fns (m+1))).ev _ _ _).bind _=_;rw[K];show(if big (1+b)=true then none else some (Src.rng 0 (1+b).toNat,_))=_
   rw[Z2 (by unfold big; simp; lia)])
  (by simp[Src.size]) (λi h st' _=>qxu _ _ _) ⟨Qzc _,none,none,[],rfl,rfl,by simp,by simp,List.nodup_nil,by simp⟩ (λi h st' d hd s=>by
   obtain⟨_,o,D,ps,rfl,rfl,T,p2,C,A⟩:=s;rw[Qqk]at hd;obtain⟨i',u,rfl⟩:=Qqc.mp hd;have I:i<(1+b).toNat:=by
    have:=(Qqv.mp u).1;simpa using this
   rw[Qzu I]at u;cases u;generalize n:(f+(0+(i:Int))*(1+g)) % (W*H)=pl;have l1:0<=pl:=by rw[<- n]; exact Int.emod_nonneg _ (by lia)
   have l2:pl<W*H:=by rw[<- n]; exact Int.emod_lt_of_pos _ E
   have S:mulOk (0+(i:Int)) (1+g)=true:=qqk (by lia) (by lia);have R:binop (st++[.lst true (ps.map cD)]) .Mod (.int (f+(0+(i:Int))*(1+g))) (.int (W*H))=some (.int pl,st++[.lst true (ps.map cD)]):=by rw[bMo _ _ E,n]
   have G:binop (st++[.lst true (ps.map cD)]) .Mod (.int pl) (.int W)=some (.int (pl % W),st++[.lst true (ps.map cD)]):=bMo _ _ (by lia);have F:binop (st++[.lst true (ps.map cD)]) .FloorDiv (.int pl) (.int W)=some (.int (pl / W),st++[.lst true (ps.map cD)]):=bDi _ _ (by lia) (by lia);have U:=gl (st:=st) (c:=.lst true (ps.map cD));have l:cmpD (st++[.lst true (ps.map cD)]) .NotIn (cD (pl % W,pl / W)) (.loc st.length)=some (!decide ((pl % W,pl / W)∈ps)):=by
    have e:inD (st++[.lst true (ps.map cD)]) (cD (pl % W,pl / W)) (.loc st.length)=some (decide ((pl % W,pl / W)∈ps)):=by
     show(seqAt (st++[.lst true (ps.map cD)]) (.loc st.length)).bind _=_;have:seqAt (st++[.lst true (ps.map cD)]) (.loc st.length)=some (ps.map cD):=by show listAt _ _=_; unfold listAt; rw[gl]
     rw[this];show(if flat 9 (cD (pl % W,pl / W))&&flats 9 (ps.map cD) then some ((ps.map cD).any λy=>eqT y (cD (pl % W,pl / W))) else none)=_;rw[flat_c,any_c]
     rfl
    show(inD _ _ _).map (!·)=_;rw[e]
    rfl
   by_cases v:(pl % W,pl / W)∈ps
   ·rw[Z0 v]at l;refine⟨_,_,qzg 0 [] 1 (λq=>_/\_/\_/\_/\_/\q) [.b true,.c (.int pl,st++[.lst true (ps.map cD)]),.c (.int (pl % W),st++[.lst true (ps.map cD)]),.c (.int (pl / W),st++[.lst true (ps.map cD)]),.b false] ⟨S,R,G,F,l,rfl⟩,by lia,some (.int (0+(i:Int))),some (.int pl),ps,rfl,rfl,by lia,λ_=>List.length_pos_iff.mpr (λz=>by rw[z]at v; cases v),C,A⟩
   ·rw[Z1 v]at l;have x:(ps.map cD).length<lim:=by rw[Qqj]; unfold lim; lia
    refine⟨_,_,qzg 0 [] 1 (λq=>_/\_/\_/\_/\_/\_/\_/\_/\_/\_/\q) [.b true,.c (.int pl,st++[.lst true (ps.map cD)]),.c (.int (pl % W),st++[.lst true (ps.map cD)]),.c (.int (pl / W),st++[.lst true (ps.map cD)]),.b true,.r (.lst true (ps.map cD)),.c (.int (pl % W),st++[.lst true (ps.map cD)]),.c (.int (pl / W),st++[.lst true (ps.map cD)]),.r (.lst true (ps.map cD)),.b true] (r:=(.nx [some (scr ns),some (.int k),some (.int j),some (szD W H P),some (.int (W*H)),some (.int f),some (.int (1+g)),some (.loc st.length),some (.int (0+(i:Int))),some (.int pl)],(st++[Cell.lst true (ps.map cD)]).set st.length (.lst true (ps.map cD++[cD (pl % W,pl / W)])))) ⟨S,R,G,F,l,U,G,F,U,Z0 x,rfl⟩,by lia,some (.int (0+(i:Int))),some (.int pl),ps++[(pl % W,pl / W)],rfl,by rw[sl]; simp,by simp; lia,λ_=>by simp,?_,λp s=>?_⟩
    ·rw[List.nodup_append];exact⟨C,by simp,λa Q b N=>by cases Qqs.mp N; exact λz=>v (z▸Q)⟩
    ·rcases Qq8.mp s with s|s
     ·exact A p s
     ·cases Qqs.mp s;refine⟨Int.emod_nonneg _ (by lia),Int.emod_lt_of_pos _ (by lia),Int.ediv_nonneg l1 (by lia),?_⟩
      exact Int.ediv_lt_of_lt_mul (by lia) (by rw[Int.mul_comm]; exact l2))
 rw[Qqj,Qx0]at T p2 k';refine⟨ps,?_,p2 (by lia),by lia,C,A⟩;have q5:mulOk W H=true:=qqk (by lia) (by lia);exact qzq 0 [29] 2 (λq=>_/\_/\_/\_/\_/\q) [.b true,.c (.int f,st),.c (.int g,st),.s (.nx [some (scr ns),some (.int k),some (.int j),some (szD W H P),some (.int (W*H)),some (.int f),some (.int (1+g)),some (.loc st.length),o,D],st++[.lst true (ps.map cD)]),.r (.lst true (ps.map cD))] ⟨q5,hf,hg,h3,gl (st:=st) (c:=.lst true (ps.map cD)),rfl⟩
end
abbrev P2:=Int×Int
structure Vn where
 ss:List Int
 ps:List P2
noncomputable def mv(s:Int):P2:=[((0:Int),(0:Int)),(1,0),(-1,0),(0,1),(0,-1)].getD s.toNat (0,0)
noncomputable def go(s:Int)(p:P2):P2:=(p.1+(mv s).1,p.2+(mv s).2)
noncomputable def inG(W H:Int)(p:P2):Bool:=decide (0<=p.1)&&decide (p.1<W)&&(decide (0<=p.2)&&decide (p.2<H))
section
variable (W H:Int)
noncomputable def down:List Int->P2->List P2
 |[],_=>[]
 |s::r,p=>bif inG W H (go s p) then go s p::down r (go s p) else []
noncomputable def walk:List Int->P2->Option P2
 |[],p=>some p
 |s::r,p=>bif inG W H (go s p) then walk r (go s p) else none
noncomputable def row(ss:List Int)(p:P2):List (Option P2):=(p::down W H ss p).map some++List.replicate (ss.length - (down W H ss p).length) none
theorem qfs(s:Int)(r:List Int)(p:P2):row W H (s::r) p=some p::bif inG W H (go s p) then row W H r (go s p) else List.replicate (r.length+1) none:=by
 unfold row;cases h:inG W H (go s p)<;>simp[down,h]
theorem qyz:∀(ss:List Int) (p:P2),(down W H ss p).length<=ss.length
 |[],_=>Qqw _
 |s::r,p=>by
  unfold down
  cases inG W H (go s p) with
  |false=>exact Qzc _
  |true=>exact Nat.succ_le_succ (qyz r (go s p))
theorem qi6(ss:List Int)(p:P2):(row W H ss p).length=ss.length+1:=by
 have:=qyz W H ss p;unfold row;simp
 lia
theorem qhv:∀(ss:List Int) (p:P2) (f:Nat),f<=ss.length->(row W H ss p)[f]?=some (walk W H (ss.take f) p)
 |ss,p,0,_=>by unfold row; simp[walk]
 |s::r,p,f+1,h=>by
  rw[qfs,Qxb,List.take_succ_cons,walk]
  cases inG W H (go s p) with
  |false=>exact List.getElem?_replicate_of_lt (by simp at h ⊢; lia)
  |true=>exact qhv r (go s p) f (by simpa using h)
abbrev Rw0:=List (Option P2)
noncomputable def own(a:Vn):List Rw0:=a.ps.map (row W H a.ss)
noncomputable def jn(a b:List Rw0)(g:Nat):List Rw0:=List.zipWith (λc r=>c.take g++r) a (b.map (·.drop g)++(a.drop b.length).map λc=>List.replicate (c.drop g).length none)
omit W H in
theorem qhn{a b:List Rw0}{g:Nat}:(jn a b g).length=a.length:=by
 unfold jn;simp
 lia
omit W H in
theorem qgf{a b:List Rw0}{g c:Nat}{r:Rw0}(h:a[c]?=some r):(jn a b g)[c]?=some (r.take g++(match b[c]? with|some q=>q.drop g|none=>List.replicate (r.drop g).length none)):=by
 unfold jn;rw[Qxl,h]
 by_cases d:c<b.length
 ·rw[Qqp (by simpa using d),Qqk,Qqx d]
  rfl
 ·have d:b.length<=c:=Qjp d;rw[Qqi (by simpa using d),Qqk,List.getElem?_drop,Qqj,Qjj d,h,Qq0 d]
  rfl
noncomputable def cl(rs:List Rw0)(c f:Nat):Option P2:=((rs[c]?.getD [])[f]?).getD none
def Lg(P:Nat)(rs:List Rw0):Prop:=∀(c:Nat) (r:Rw0),rs[c]?=some r->r.length=P+1
omit W H in
theorem jn_lg{P:Nat}{a b:List Rw0}{g:Nat}(i:Lg P a)(f:Lg P b)(k:g<=P):Lg P (jn a b g):=λc r h=>by
 have d:=(Qqv.mp h).1;rw[qhn]at d;have h1:=Qqx d;have j:=i c _ h1;rw[qgf h1]at h;cases h
 cases e:b[c]? with
 |none=>simp; lia
 |some q=>have:=f c q e; simp; lia
omit W H in
theorem cl_up{P:Nat}{a b:List Rw0}{g c f:Nat}(h:Lg P a)(e:c<a.length)(d:f<g)(j:g<=P):cl (jn a b g) c f=cl a c f:=by
 have h1:=Qqx e;have i:=h c _ h1;unfold cl;rw[qgf h1,h1];show((_++_)[f]?).getD none=_;rw[Qqp (by simp; lia),Qjm d]
 rfl
omit W H in
theorem cl_dn{P:Nat}{a b:List Rw0}{g c f:Nat}(j:Lg P a)(h:c<a.length)(i:c<b.length)(e:g<=f)(l:g<=P):cl (jn a b g) c f=cl b c f:=by
 have h1:=Qqx h;have h2:=Qqx i;have k:=j c _ h1;unfold cl;rw[qgf h1,h2];show((_++_)[f]?).getD none=_;have d:(a[c].take g).length=g:=by simp; lia
 rw[Qqi (by lia),d];show((b[c].drop g)[f - g]?).getD none=_;rw[List.getElem?_drop,Qjj e]
 rfl
omit W H in
theorem cl_no{P:Nat}{a b:List Rw0}{g c f:Nat}(h:Lg P a)(d:c<a.length)(e:b.length<=c)(l:g<=f)(k:g<=P):cl (jn a b g) c f=none:=by
 have h1:=Qqx d;have j:=h c _ h1;unfold cl;rw[qgf h1,Qq0 e];show((_++List.replicate _ none)[f]?).getD none=_;have i:(a[c].take g).length=g:=by simp; lia
 rw[Qqi (by lia),Qxa]
 split<;>rfl
theorem qh5{a:Vn}{c f:Nat}{p:P2}(d:a.ps[c]?=some p)(b:f<=a.ss.length):cl (own W H a) c f=walk W H (a.ss.take f) p:=by
 unfold cl own;rw[Qqk,d];show((row W H a.ss p)[f]?).getD none=_;rw[qhv W H _ _ _ b]
 rfl
theorem qy1(a:Vn):Lg a.ss.length (own W H a):=λc r h=>by
 unfold own at h;rw[Qqk]at h;obtain⟨p,_,rfl⟩:=Qqc.mp h;exact qi6 W H _ _
omit W H in
theorem qi5{P:Nat}{rs:List Rw0}(h:Lg P rs):rs=(List.range rs.length).map λc=>(List.range (P+1)).map λf=>cl rs c f:=by
 refine Qxu λc=>?_;rw[Qqk]
 by_cases a:c<rs.length
 ·have h1:=Qqx a;have b:=h c _ h1;rw[Qzu a,h1];show some rs[c]=some _;refine congrArg some (Qxu λf=>?_);rw[Qqk]
  by_cases hf:f<P+1
  ·rw[Qzu hf];unfold cl;rw[h1,Qqx (by lia)];show _=some (((rs[c])[f]?).getD none);rw[Qqx (by lia)]
   rfl
  ·rw[Qq0 (by lia),Qq0 (by simp; lia)]
   rfl
 ·rw[Qq0 (by lia),Qq0 (by simp; lia)]
  rfl
variable (vs:List (Int×Vn))(js:List (Int×P2))
noncomputable def crs(v:Int):List Rw0:=match js.lookup v with
 |none=>own W H ((vs.lookup v).getD ⟨[],[]⟩)
 |some (u,g)=>if h:0<u/\u<v then jn (own W H ((vs.lookup v).getD ⟨[],[]⟩)) (crs u) g.toNat else []
termination_by v.toNat
decreasing_by lia
structure Wf (P:Nat):Prop where
 ve:∀v a,vs.lookup v=some a->0<v/\a.ss.length=P/\1<=a.ps.length/\(∀s∈a.ss,0<=s/\s<=4)
 jo:∀v u g,js.lookup v=some (u,g)->0<u/\u<v/\(∃a,vs.lookup v=some a)/\(∃a,vs.lookup u=some a)/\1<=g/\g<=P
variable {W H vs js}{P:Nat}
theorem qk5{v:Int}{a:Vn}(b:vs.lookup v=some a)(c:js.lookup v=none):crs W H vs js v=own W H a:=by
 rw[crs,c,b]; rfl
theorem qkb(w:Wf vs js P){v u g:Int}{a:Vn}(c:vs.lookup v=some a)(b:js.lookup v=some (u,g)):crs W H vs js v=jn (own W H a) (crs W H vs js u) g.toNat:=by
 rw[crs,b];have:=w.jo v u g b;show(if h:0<u/\u<v then _ else _)=_;rw[dif_pos ⟨this.1,this.2.1⟩,c]
 rfl
theorem qjr(w:Wf vs js P){v:Int}{a:Vn}(b:vs.lookup v=some a):(crs W H vs js v).length=a.ps.length:=by
 cases e:js.lookup v with
 |none=>rw[qk5 b e,own,Qqj]
 |some q=>obtain⟨u,g⟩:=q; rw[qkb w b e,qhn,own,Qqj]
theorem qh4(w:Wf vs js P):∀(n:Nat){v:Int}{a:Vn},v.toNat<=n->vs.lookup v=some a->Lg P (crs W H vs js v)
 |n,v,a,hn,c=>by
  have d:=w.ve v a c
  cases e:js.lookup v with
  |none=>rw[qk5 c e,<- d.2.1]; exact qy1 W H a
  |some q=>
   obtain⟨u,g⟩:=q;obtain⟨k,j,_,⟨b,f⟩,i,h⟩:=w.jo v u g e;rw[qkb w c e]
   cases n with
   |zero=>lia
   |succ n=>exact jn_lg (d.2.1▸qy1 W H a) (qh4 w n (by lia) f) (by lia)
theorem qyk(w:Wf vs js P){v:Int}{a:Vn}(b:vs.lookup v=some a):Lg P (crs W H vs js v):=qh4 w _ (Qqw _) b
end
noncomputable def vnD(a:Vn):D:=.tup [.tup (a.ss.map .int),.tup (a.ps.map cD)]
noncomputable def joD(q:P2):D:=.tup [.int q.1,.int q.2]
noncomputable def dcD{α:Type}(f:α->D)(l:List (Int×α)):List (D×D):=l.map λq=>(.int q.1,f q.2)
theorem qzh{α:Type}(f:α->D)(v:Int):∀l:List (Int×α),dget (dcD f l) (.int v)=(l.lookup v).map f
 |[]=>rfl
 |(k,x)::r=>by
  have a:=qzh f v r;unfold dget dcD at a ⊢;rw[Qq3,Qzd,Qqt];have e:eqT (D.int k) (D.int v)=(k==v):=rfl;dsimp only;rw[e]
  cases h:k==v with
  |true=>rw[eq_of_beq h,beq_self_eq_true]; rfl
  |false=>
   have:(v==k)=false:=by rw[beq_eq_false_iff_ne]at h ⊢; exact λe=>h e.symm
   rw[this];exact a
theorem qw9{α:Type}(f:α->D){v:Int}{x:α}{l:List (Int×α)}(h:l.lookup v=none):dput (dcD f l) (.int v) (f x)=dcD f (l++[(v,x)]):=by
 have e:((dcD f l).any λp=>eqT p.1 (.int v))=false:=by
  have g:=qzh f v l;rw[h]at g;unfold dget at g;rw[List.any_eq_false];have g:=Qj4.mp g;intro p a;have:=Qjc.mp g p a;exact this
 unfold dput;rw[e];show dcD f l++[_]=_;unfold dcD;rw[Qq5]
 rfl
theorem qkv{α:Type}{l:List (Int×α)}{v k:Int}{x:α}:(l++[(v,x)]).lookup k=(l.lookup k).or (if k=v then some x else none):=by
 rw[Qjb]
 congr 1
 rw[Qqt]
 by_cases h:k=v
 ·rw[Z3 h,h,beq_self_eq_true]
 ·rw[Z2 h,beq_eq_false_iff_ne.mpr h]; rfl
theorem qy8{f:Sl->Store->D->Option (Out×Store)}{s:Src}{ds:List D}(P:Nat->Sl->Store->Prop)(Q:Out->Store->Prop)(b:∀i τ st,P i τ st->s.at st i=some ds[i]?)(g:∀τ st,P ds.length τ st->Q (.nx τ) st)
  (c:∀i τ st d,ds[i]?=some d->P i τ st->∃o st',f τ st d=some (o,st')/\(match o with|.nx a=>P (i+1) a st'|.bk a=>Q (.nx a) st'|.rt v=>Q (.rt v) st'|.ct _=>False)) :
  ∀(k i:Nat) (τ:Sl) (st:Store),i+k=ds.length->P i τ st->∃o st',loop s f (k+1) i τ st=some (o,st')/\Q o st'
 |0,i,τ,st,h,p=>by
  have e:i=ds.length:=by lia
  subst e;refine⟨.nx τ,st,?_,g _ _ p⟩;rw[loop,b _ _ _ p];simp[Qq0 (Qqw _)]
 |k+1,i,τ,st,h,p=>by
  have hi:i<ds.length:=by lia
  have h1:ds[i]?=some ds[i]:=by simp
  rw[loop,b _ _ _ p,h1];simp only[oBs];obtain⟨o,st',e,q⟩:=c i τ st _ h1 p;rw[e]
  cases o with
  |nx a=>exact qy8 P Q b g c k (i+1) a st' (by lia) q
  |bk a=>exact⟨_,_,rfl,q⟩
  |rt v=>exact⟨_,_,rfl,q⟩
  |ct _=>exact q.elim
theorem qd6{c:CF}{τ:Sl}{st:Store}{it:E}{s:Src}{ds:List D}{t:M.T}{body:List M.S}(P:Nat->Sl->Store->Prop)(Q:Out->Store->Prop)(k:src (RL c) τ st it=some (s,st))(j:s.size st=ds.length)(f:∀i τ st,P i τ st->s.at st i=some ds[i]?)(l:P 0 τ st)(h:∀τ st,P ds.length τ st->Q (.nx τ) st)
  (g:∀i τ st d,ds[i]?=some d->P i τ st->∃o st',((setT t d τ).bind λb=>(RL c).ex b st body)=some (o,st')/\(match o with|.nx a=>P (i+1) a st'|.bk a=>Q (.nx a) st'|.rt v=>Q (.rt v) st'|.ct _=>False)) :
  ∃o st',stepEx (RL c) τ st (.forr t it body)=some (o,st')/\Q o st':=by
 obtain⟨o,st',e,q⟩:=qy8 P Q f h g ds.length 0 τ st (by lia) l;refine⟨o,st',?_,q⟩;show(src (RL c) τ st it).bind _=_;rw[k,<- j]at *;exact e
theorem qvm{f:Sl->Store->Option (Bool×Store)}{g:Sl->Store->Option (Out×Store)}(P:Nat->Sl->Store->Prop)(Q:Out->Store->Prop)
  (d:∀k τ st,P k τ st->(f τ st=some (false,st)/\Q (.nx τ) st)\/(f τ st=some (true,st)/\((∃a st' b,b<k/\g τ st=some (.nx a,st')/\P b a st')\/∃v st',g τ st=some (.rt v,st')/\Q (.rt v) st'))) :
  ∀(n k:Nat) (τ:Sl) (st:Store),k<n->P k τ st->∃o st',loopW f g n τ st=some (o,st')/\Q o st'
 |0,k,_,_,h,_=>by lia
 |n+1,k,τ,st,h,p=>by
  rw[loopW];rcases d k τ st p with⟨e,q⟩|⟨e,⟨a,st',b,m,c,q⟩|⟨v,st',c,q⟩⟩
  ·rw[e];exact⟨_,_,rfl,q⟩
  ·obtain⟨o,i,l,j⟩:=qvm P Q d n b a st' (by lia) q;refine⟨o,i,?_,j⟩;rw[e];simp only[oBs,if_true,c];exact l
  ·refine⟨_,_,?_,q⟩;rw[e];simp only[oBs,if_true,c]
theorem qya{c:CF}{q:E}{body:List M.S}(P:Nat->Sl->Store->Prop)(Q:Out->Store->Prop)
  (d:∀k τ st,P k τ st->((RL c).tst τ st q=some (false,st)/\Q (.nx τ) st)\/((RL c).tst τ st q=some (true,st)/\((∃a st' b,b<k/\(RL c).ex τ st body=some (.nx a,st')/\P b a st')\/∃v st',(RL c).ex τ st body=some (.rt v,st')/\Q (.rt v) st')))
  {k:Nat}{τ:Sl}{st:Store}(h:k<lim) (p:P k τ st):∃o st',stepEx (RL c) τ st (.whil q body)=some (o,st')/\Q o st':=qvm P Q d lim k τ st h p
theorem qim{c:CF}{τ:Sl}{st st':Store}{it:E}{ds:List D}(a:∀r:R,src r τ st it=(r.ev τ st it).bind λp=>match p.1 with|.tup ds=>some (.tup ds,p.2)|d=>(seqAt p.2 d).map λ_=>(.lst d,p.2))(h:(RL c).ev τ st it=some (.tup ds,st')):src (RL c) τ st it=some (.tup ds,st'):=by
 rw[a,h]
 rfl
section
variable {W H P:Int}
theorem ing_ok(m:Nat)(st:Store)(p:P2)(a:0<=P):callD fns (m+1) 0 [szD W H P,.tup [.int p.1,.int p.2,.int 0]] st=some (.bl (inG W H p),st):=by
 have c0:decide ((0:Int)<=0)=true:=rfl;have c5:decide ((0:Int)<=P)=true:=Z0 a;unfold inG
 cases c1:decide (0<=p.1) with
 |false=>exact qzq 0 [] 1 (λq=>_/\q) [.b false] ⟨c1,rfl⟩
 |true=>
  cases c2:decide (p.1<W) with
  |false=>exact qzq 0 [] 1 (λq=>_/\_/\q) [.b true,.b false] ⟨c1,c2,rfl⟩
  |true=>
   cases c3:decide (0<=p.2) with
   |false=>exact qzq 0 [] 1 (λq=>_/\_/\_/\q) [.b true,.b true,.b false] ⟨c1,c2,c3,rfl⟩
   |true=>
    cases c4:decide (p.2<H) with
    |false=>exact qzq 0 [] 1 (λq=>_/\_/\_/\_/\q) [.b true,.b true,.b true,.b false] ⟨c1,c2,c3,c4,rfl⟩
    |true=>exact qzq 0 [] 1 (λq=>_/\_/\_/\_/\_/\_/\q) [.b true,.b true,.b true,.b true,.b true,.b true] ⟨c1,c2,c3,c4,c0,c5,rfl⟩
noncomputable def movD:D:=.tup [.tup [.int 0,.int 0],.tup [.int 1,.int 0],.tup [.int (-1),.int 0],.tup [.int 0,.int 1],.tup [.int 0,.int (-1)]]
theorem mv_ix(S:Store){s:Int}(b:0<=s)(a:s<=4):idxD S movD (.int s)=some (cD (mv s)):=by
 have:s=0\/s=1\/s=2\/s=3\/s=4:=by lia
 rcases this with rfl|rfl|rfl|rfl|rfl<;>rfl
theorem qmj{S:Store}{l:Nat}{ds:List D}{d:D}(h:S[l]?=some (.lst true (ds++[d]))):idxD S (.loc l) (.int (-1))=some d:=by
 show(listAt S l).bind _=_;unfold listAt;rw[h];show atI (ds++[d]) (-1)=_;unfold atI ixN;rw[Z2 (by decide),Z3 (by simp; lia)];have:((-1:Int)+((ds++[d]).length:Nat)).toNat=ds.length:=by simp; lia
 rw[oBs,this];simp
noncomputable abbrev ocT(W H P:Int)(p:P2)(ss:List Int)(l:Nat)(a b c:Option D):Sl:=[some (szD W H P),some (cD p),some (.tup (ss.map .int)),some (.loc l),a,b,c]
theorem qey(m:Nat)(st:Store){p:P2}{ss:List Int}(z:0<=P)(y:∀s∈ss,0<=s/\s<=4)(A:ss.length<=12):callD fns (m+2) 1 [szD W H P,cD p,.tup (ss.map .int)] st=some (.loc st.length,st++[.lst true ((p::down W H ss p).map cD)]):=by
 obtain⟨o,st',e,a,b,c,rfl,rfl⟩:=qd6 (c:=callD fns (m+1)) (τ:=ocT W H P p ss st.length none none none) (st:=st++[.lst true [cD p]]) (it:=.var 2) (s:=.tup (ss.map .int)) (ds:=ss.map .int) (t:=.var 4)
  (body:=[.set (.var 5) (.idx (.glo "MOVES" movD) (.var 4)),.set (.var 6) (.tup [.bin .Add (.idx (.idx (.var 3) (.neg (.lit (.int 1)))) (.lit (.int 0))) (.idx (.var 5) (.lit (.int 0))),.bin .Add (.idx (.idx (.var 3) (.neg (.lit (.int 1)))) (.lit (.int 1))) (.idx (.var 5) (.lit (.int 1)))]),.ite (.not (.call 0 [.var 0,.tup [.idx (.var 6) (.lit (.int 0)),.idx (.var 6) (.lit (.int 1)),.lit (.int 0)]])) [.brk] [],.expr (.meth (.var 3) .append [.var 6])])
  (λi τ S=>∃a b c pre q,τ=ocT W H P p ss st.length a b c/\S=st++[.lst true (pre.map cD++[cD q])]/\p::down W H ss p=pre++q::down W H (ss.drop i) q/\pre.length<=i)
  (λo S=>∃a b c,o=.nx (ocT W H P p ss st.length a b c)/\S=st++[.lst true ((p::down W H ss p).map cD)])
  (qim (λ_=>rfl) (qq8 _ _ _ _ _ rfl)) rfl (λi τ S _=>rfl) ⟨none,none,none,[],p,rfl,rfl,rfl,Qqw _⟩
  (λτ S h=>by
   obtain⟨a,b,c,pre,q,rfl,rfl,h,_⟩:=h;rw[Qqj,List.drop_length]at h;refine⟨a,b,c,rfl,?_⟩;rw[h]
   simp[down])
  (λi τ S d hd h=>by
   obtain⟨a,b,c,pre,q,rfl,rfl,h,hi⟩:=h;rw[Qqk]at hd;obtain⟨s,f,rfl⟩:=Qqc.mp hd;have w:=y s (Qqd f);have g:=(Qqv.mp f).1;have n:ss.drop i=s::ss.drop (i+1):=by
    rw[Qjl g];rw[Qqx g]at f;cases f
    rfl
   rw[n,down]at h;have u:=gl (st:=st) (c:=.lst true (pre.map cD++[cD q]));have l:=qmj u;have v:=mv_ix (st++[.lst true (pre.map cD++[cD q])]) w.1 w.2;have k:=ing_ok (W:=W) (H:=H) (P:=P) m (st++[.lst true (pre.map cD++[cD q])]) (go s q) z
   cases x:inG W H (go s q) with
   |false=>
    rw[x]at h k;refine⟨.bk (ocT W H P p ss st.length (some (.int s)) (some (cD (mv s))) (some (cD (go s q)))),st++[.lst true (pre.map cD++[cD q])],qzg 0 [0] 1 (λq=>_/\_/\_/\_/\q) [.i (cD (mv s)),.i (cD q),.n,.n,.i (cD q),.n,.n,.c (.bl false,st++[.lst true (pre.map cD++[cD q])])] ⟨v,l,l,k,rfl⟩,_,_,_,rfl,?_⟩;rw[h];simp
   |true=>
    rw[x]at h k;have j:(pre.map cD++[cD q]).length<lim:=by simp; unfold lim; lia
    refine⟨.nx (ocT W H P p ss st.length (some (.int s)) (some (cD (mv s))) (some (cD (go s q)))),_,qzg 0 [0] 1 (r:=(.nx (ocT W H P p ss st.length (some (.int s)) (some (cD (mv s))) (some (cD (go s q)))),(st++[Cell.lst true (pre.map cD++[cD q])]).set st.length (.lst true ((pre.map cD++[cD q])++[cD (go s q)])))) (λq=>_/\_/\_/\_/\_/\_/\_/\q) [.i (cD (mv s)),.i (cD q),.n,.n,.i (cD q),.n,.n,.c (.bl true,st++[.lst true (pre.map cD++[cD q])]),.r (.lst true (pre.map cD++[cD q])),.r (.lst true (pre.map cD++[cD q])),.b true] ⟨v,l,l,k,u,u,Z0 j,rfl⟩,_,_,_,pre++[q],go s q,rfl,?_,?_,by simp; lia⟩
    ·rw[sl]; simp
    ·rw[h]; simp)
 exact qzq 0 [] 2 (λq=>_/\q) [.s (.nx (ocT W H P p ss st.length a b c),st++[.lst true ((p::down W H ss p).map cD)])] ⟨e,rfl⟩
end
noncomputable abbrev BB(W H:Int)(P:Nat)(d:Int)(vs:List (Int×Vn))(js:List (Int×P2))(rest:Store):Store:=Bq W H P d d (dcD vnD vs) (dcD joD js) (dcD vnD vs) (dcD joD js) rest
noncomputable def cO:Option P2->D
 |none=>.non
 |some p=>cD p
structure Rows (n:Nat) (S:Store) (x:D) (rs:List Rw0):Prop where
 ex:∃(l:Nat) (zs:List (Nat×Rw0)),x=.loc l/\n<=l/\S[l]?=some (.lst true (zs.map λz=>.loc z.1))/\rs=zs.map (·.2)/\∀z∈zs,n<=z.1/\S[z.1]?=some (.lst true (z.2.map cO))
theorem at_app{S X:Store}{l:Nat}{c:Cell}(h:S[l]?=some c):(S++X)[l]?=some c:=by
 rw[Qqp (Qqv.mp h).1];exact h
theorem Rows.app{n:Nat}{S X:Store}{x:D}{rs:List Rw0}(h:Rows n S x rs):Rows n (S++X) x rs:=by
 obtain⟨l,zs,e,h1,h2,c,b⟩:=h.ex;exact⟨l,zs,e,h1,at_app h2,c,λz a=>⟨(b z a).1,at_app (b z a).2⟩⟩
theorem qv6{st S:Store}{l:Nat}{ds:List D}(a:S.take st.length=st)(d:S[l]?=some (.lst true ds))(c:st.length<=l)(b:noLocs ds=true):gcD st (.loc l,S)=(.lst ds,st):=by
 rw[gc_x a];unfold gcX;show(if noLoc (.loc l) then _ else _)=_;rw[Z2 (by unfold noLoc; exact Qqg)];show(if st.length<=l then(match S[l]? with|some (.lst true ds)=>if noLocs ds then(D.lst ds,S.take st.length) else(.loc l,S)|_=>(.loc l,S)) else(.loc l,S))=_;rw[Z3 c,d];show(if noLocs ds then _ else _)=_;rw[Z3 b,a]
section
variable {W H d:Int}{P:Nat}{vs:List (Int×Vn)}{js:List (Int×P2)}{rest:Store}
theorem qfo(m:Nat):callD fns (m+1) 26 [.loc 0] (BB W H P d vs js rest)=some (szD W H P,BB W H P d vs js rest):=qzq 15 [] 1 (λq=>q) [] rfl
theorem qfk(m:Nat){v:Int}{a:Vn}(h:vs.lookup v=some a):callD fns (m+1) 27 [.loc 0,.int v] (BB W H P d vs js rest)=some (vnD a,BB W H P d vs js rest):=by
 have e:=qzh vnD v vs;rw[h]at e;exact qzq 15 [] 1 (λq=>_/\_/\q) [.q (some (vnD a)),.q (some (vnD a))] ⟨e,e,rfl⟩
theorem qqs(m:Nat){v:Int}{a:Vn}(h:vs.lookup v=some a):callD fns (m+1) 28 [.loc 0,.int v] (BB W H P d vs js rest)=some (((js.lookup v).map joD).getD .non,BB W H P d vs js rest):=by
 have e:=qzh vnD v vs;rw[h]at e;exact qzq 15 [] 1 (λq=>_/\_/\q) [.q (some (vnD a)),.q ((js.lookup v).map joD)] ⟨e,qzh joD v js,rfl⟩
omit vs js
theorem mulN{S:Store}{l:Nat}{k:Int}(h:S[l]?=some (.lst true [.non]))(c:0<=k)(b:k<100000):binop S .Mult (.loc l) (.int k)=some (.loc S.length,S++[.lst true (List.replicate k.toNat .non)]):=by
 show(wlistAt S l).bind _=_;unfold wlistAt;rw[h];show(if decide (k < -(2 ^ 62))||decide (2 ^ 62<=k)||decide (lim<1*k.toNat) then none else some (alloc S (.lst true (List.replicate k.toNat [D.non]).flatten)))=_;rw[Z2 (by simp; unfold lim; lia)];show some (D.loc S.length,S++[.lst true (List.replicate k.toNat [D.non]).flatten])=_
 congr 5
 induction k.toNat with
 |zero=>rfl
 |succ k a=>rw[Qzw,Qzs,a]; rfl
theorem nlC(ps:List P2):noLocs (ps.map cD)=true:=qz4 λ_ _=>rfl
theorem nlR(k:Nat):noLocs (List.replicate k .non)=true:=qvl λd hd=>by rw[List.eq_of_mem_replicate hd]; rfl
theorem nlO(r:Rw0):noLocs (r.map cO)=true:=qz4 λx _=>by cases x<;>rfl
theorem row_cO(ss:List Int)(p:P2):(row W H ss p).map cO=(p::down W H ss p).map cD++List.replicate (ss.length - (down W H ss p).length) .non:=by
 unfold row;rw[Qq5,Qzq,List.map_replicate]
 rfl
noncomputable def rwS(st:Store)(rs:List Rw0):Store:=st++.lst true ((List.range rs.length).map λi=>.loc (st.length+1+i))::rs.map λr=>.lst true (r.map cO)
theorem qhk{st:Store}{rs:List Rw0}:(rwS st rs)[st.length]?=some (.lst true ((List.range rs.length).map λi=>.loc (st.length+1+i))):=by
 unfold rwS;rw[Qqi (Qqw _),Qjq]
 rfl
theorem qi2{st:Store}{rs:List Rw0}:(rwS st rs).length=st.length+1+rs.length:=by unfold rwS; simp; lia
theorem qi3{st:Store}{rs:List Rw0}{r:Rw0}:(rwS st rs++[Cell.lst true (r.map cO)]).set st.length (.lst true ((List.range rs.length).map (λi=>D.loc (st.length+1+i))++[D.loc (rwS st rs).length]))=rwS st (rs++[r]):=by
 rw[qi2];unfold rwS;rw[Qq4,Qxo,Qx4 (h:=Qqw _),Qjq];show st++(_::(_++_))=_;rw[Qqn,Qq5,Qxx,List.range_succ,Qq5]
 rfl
theorem qcp{n l b:Nat}{S:Store}{rs:List Rw0}(e:n<=l)(j:n<=b)(g:S[l]?=some (.lst true ((List.range rs.length).map λi=>.loc (b+i))))(f:∀(i:Nat) (r:Rw0),rs[i]?=some r->S[b+i]?=some (.lst true (r.map cO))):Rows n S (.loc l) rs:=by
 refine⟨l,rs.zipIdx.map λz=>(b+z.2,z.1),rfl,e,?_,?_,λz a=>?_⟩
 ·rw[g,Qzq];refine congrArg (λx=>some (Cell.lst true x)) (Qxu λi=>?_);rw[Qqk,Qqk,List.getElem?_zipIdx]
  by_cases h:i<rs.length
  ·rw[Qzu h,Qqx h];simp
  ·rw[Qq0 (by simpa using h),Qq0 (by lia)]
   rfl
 ·rw[Qzq];exact(List.zipIdx_map_fst 0 rs).symm
 ·obtain⟨q,c,rfl⟩:=Qzb.mp a;have:=List.mem_zipIdx_iff_getElem?.mp c;exact⟨by show n<=b+q.2; lia,f _ _ this⟩
theorem qfp{n:Nat}{st:Store}{rs:List Rw0}(h:n<=st.length):Rows n (rwS st rs) (.loc st.length) rs:=by
 refine qcp h (b:=st.length+1) (by lia) qhk λi r h2=>?_;have hi:=(Qqv.mp h2).1;unfold rwS;rw[Qqi (by lia),show st.length+1+i - st.length=i+1 by lia,Qxb,Qqk,h2]
 rfl
theorem qgy(m:Nat){st:Store}{rs:List Rw0}{v:D}{ss:List Int}{p:P2}{x5 x6:Option D}(g:∀s∈ss,0<=s/\s<=4)(h:ss.length<=12)(t:ss.length=P)(n:rs.length<1000):
  (RL (callD fns (m+2))).ex [some (.loc 0),some v,some (szD W H P),some (.tup (ss.map .int)),some (.loc st.length),some (cD p),x6] (rwS st rs) [.set (.var 6) (.gc (.call 1 [.var 2,.var 5,.var 3])),.expr (.meth (.var 4) .append [.bin .Add (.var 6) (.gc (.bin .Mult (.lst [.lit .non]) (.bin .Sub (.bin .Add (.idx (.var 2) (.lit (.int 2))) (.lit (.int 1))) (.bcall .len [.var 6]))))])]=some (.nx [some (.loc 0),some v,some (szD W H P),some (.tup (ss.map .int)),some (.loc st.length),some (cD p),some (.lst ((p::down W H ss p).map cD))],rwS st (rs++[row W H ss p])):=by
 have f:=qey (W:=W) (H:=H) (P:=P) m (rwS st rs) (p:=p) (by lia) g h;have e:=qzp (st:=rwS st rs) (nlC (p::down W H ss p));have hd:=qyz W H ss p;have c:=mulN (S:=rwS st rs++[.lst true [.non]]) (l:=(rwS st rs).length) (k:=(P:Int)+1 - (((p::down W H ss p).map cD).length:Nat)) gl (by simp; lia) (by simp; lia);have x4:=qv6 (st:=rwS st rs) (S:=rwS st rs++[.lst true [.non]]++[.lst true (List.replicate ((P:Int)+1 - (((p::down W H ss p).map cD).length:Nat)).toNat .non)]) (l:=(rwS st rs++[Cell.lst true [.non]]).length) (by rw[Qq4,Qxv]) gl (by simp) (nlR _);have j:((P:Int)+1 - (((p::down W H ss p).map cD).length:Nat)).toNat=ss.length - (down W H ss p).length:=by simp; lia
 have a:=qhk (st:=st) (rs:=rs);have h1:decide (lim<((p::down W H ss p).map cD).length+(List.replicate ((P:Int)+1 - (((p::down W H ss p).map cD).length:Nat)).toNat D.non).length)=false:=Z1 (by simp; unfold lim; lia);have h2:decide (((List.range rs.length).map λi=>D.loc (st.length+1+i)).length<lim)=true:=Z0 (by simp; unfold lim; lia);have b:=qi3 (st:=st) (rs:=rs) (r:=row W H ss p);rw[row_cO,<- j]at b;generalize o:rwS st rs=S at *;generalize ((P:Int)+1 - (((p::down W H ss p).map cD).length:Nat)).toNat=k at *;rw[<- b];exact qzg 0 [1] 2 (λq=>_/\_/\_/\_/\_/\_/\_/\_/\q) [.c (.loc S.length,S++[.lst true ((p::down W H ss p).map cD)]),.l ((p::down W H ss p).map cD),.r (.lst true ((List.range rs.length).map λi=>.loc (st.length+1+i))),.c (.loc (S++[Cell.lst true [.non]]).length,S++[.lst true [.non]]++[.lst true (List.replicate k .non)]),.l (List.replicate k .non),.b false,.r (.lst true ((List.range rs.length).map λi=>.loc (st.length+1+i))),.b true] ⟨f,e,a,c,x4,h1,at_app (X:=[.lst true ((p::down W H ss p).map cD++List.replicate k .non)]) a,h2,rfl⟩
end
section
variable {W H d:Int}{P:Nat}{vs:List (Int×Vn)}{js:List (Int×P2)}{rest:Store}
theorem qe7{X:Store}:BB W H P d vs js rest++X=BB W H P d vs js (rest++X):=rfl
theorem bb_le:15<=(BB W H P d vs js rest).length:=by show 15<=rest.length+15; lia
theorem qlm(m:Nat){v:Int}{a:Vn}(k:vs.lookup v=some a)(l:∀s∈a.ss,0<=s/\s<=4)(o:a.ss.length=P)(n:P<=12)(r:a.ps.length<1000):
  callD fns (m+3) 2 [.loc 0,.int v] (BB W H P d vs js rest)=some (.loc (BB W H P d vs js rest).length,rwS (BB W H P d vs js rest) (own W H a)):=by
 have f:=λrest=>qfk (W:=W) (H:=H) (d:=d) (P:=P) (vs:=vs) (js:=js) (rest:=rest) (m+1) k;obtain⟨j,st',e,x5,x6,rfl,rfl⟩:=qq4 (c:=callD fns (m+2)) (τ:=[some (.loc 0),some (.int v),some (szD W H P),some (.tup (a.ss.map .int)),some (.loc (BB W H P d vs js rest).length),none,none]) (st:=BB W H P d vs js rest++[.lst true []]) (it:=.idx (.mcall 682 27 "vein" (.var 0) [.var 1]) (.lit (.int 1))) (s:=.tup (a.ps.map cD)) (ds:=a.ps.map cD) (t:=.var 5)
  (body:=[.set (.var 6) (.gc (.call 1 [.var 2,.var 5,.var 3])),.expr (.meth (.var 4) .append [.bin .Add (.var 6) (.gc (.bin .Mult (.lst [.lit .non]) (.bin .Sub (.bin .Add (.idx (.var 2) (.lit (.int 2))) (.lit (.int 1))) (.bcall .len [.var 6]))))])])
  (λi τ S=>∃x5 x6,τ=[some (.loc 0),some (.int v),some (szD W H P),some (.tup (a.ss.map .int)),some (.loc (BB W H P d vs js rest).length),x5,x6]/\S=rwS (BB W H P d vs js rest) ((a.ps.take i).map (row W H a.ss)))
  (qim (λ_=>rfl) (qzf 15 [27] 2 (λq=>_/\q) [.c (vnD a,BB W H P d vs js (rest++[.lst true []]))] ⟨f (rest++[.lst true []]),rfl⟩)) rfl (λ_ _ _ _=>rfl) ⟨none,none,rfl,rfl⟩
  (λi τ S x g h=>by
   obtain⟨x5,x6,rfl,rfl⟩:=h;rw[Qqk]at g;obtain⟨p,b,rfl⟩:=Qqc.mp g;have hi:=(Qqv.mp b).1;refine⟨_,_,qgy m (x5:=none) l (by lia) o (by simp; lia),_,_,rfl,?_⟩;rw[Qzg hi,Qq5];rw[Qqx hi]at b;cases b
   rfl)
 rw[Qqj,Qxn]at e;exact qzq 15 [26,27] 3 (λq=>_/\_/\_/\q) [.c (szD W H P,BB W H P d vs js rest),.c (vnD a,BB W H P d vs js rest),.s (.nx [some (.loc 0),some (.int v),some (szD W H P),some (.tup (a.ss.map .int)),some (.loc (BB W H P d vs js rest).length),x5,x6],rwS (BB W H P d vs js rest) (own W H a))] ⟨qfo (W:=W) (H:=H) (d:=d) (P:=P) (vs:=vs) (js:=js) (rest:=rest) (m+1),f rest,e,rfl⟩
end
theorem qvo{it:Src}{f:Sl->Store->D->Option (Option D×Sl×Store)}{ds:List D}(P:Nat->List D->Sl->Store->Prop)(c:∀i acc τ st,P i acc τ st->it.at st i=some ds[i]?)(l:ds.length<lim)(g:∀i acc τ st,P i acc τ st->acc.length=i)
  (j:∀i acc τ st d,ds[i]?=some d->P i acc τ st->∃x a st',f τ st d=some (some x,a,st')/\P (i+1) (acc++[x]) a st') :
  ∀(k i:Nat) (acc:List D) (τ:Sl) (st:Store),i+k=ds.length->P i acc τ st->∃b a st',loopC it f (k+1) i acc τ st=some (b,st')/\P ds.length b a st'
 |0,i,acc,τ,st,h,p=>by
  have e:i=ds.length:=by lia
  subst e;refine⟨acc,τ,st,?_,p⟩;rw[loopC,c _ _ _ _ p,Qq0 (Qqw _)];simp only[oBs];rw[Z2 (by have:=g _ _ _ _ p; lia)]
 |k+1,i,acc,τ,st,h,p=>by
  have hi:i<ds.length:=by lia
  obtain⟨x,a,st',n,m⟩:=j i acc τ st ds[i] (Qqx hi) p;rw[loopC,c _ _ _ _ p,Qqx hi];simp only[oBs];rw[Z2 (by have:=g _ _ _ _ p; lia),n];exact qvo P c l g j k (i+1) (acc++[x]) a st' (by lia) m
theorem qgu{c:CF}{τ:Sl}{st st1:Store}{t:M.T}{it elt:E}{sr:List (Option Nat)}{s:Src}{ds:List D}(P:Nat->List D->Sl->Store->Prop)(l:src (RL c) τ st it=some (s,st1))(k:s.size st1=ds.length)(f:∀i a τ st,P i a τ st->s.at st i=some ds[i]?)(h:ds.length<lim)(j:∀i a τ st,P i a τ st->a.length=i)(m:P 0 [] (inner sr τ) st1)
  (g:∀i a τ st d,ds[i]?=some d->P i a τ st->∃x b st',turnC (RL c) t none elt τ st d=some (some x,b,st')/\P (i+1) (a++[x]) b st') :
  ∃a b st',stepEv (RL c) τ st (.comp t it none elt sr)=some (.loc st'.length,st'++[.lst true a])/\P ds.length a b st':=by
 obtain⟨a,b,st',e,p⟩:=qvo P f h j g ds.length 0 [] (inner sr τ) st1 (by lia) m;refine⟨a,b,st',?_,p⟩;show((src (RL c) τ st it).bind λp=>(loopC p.1 (turnC (RL c) t none elt) (p.1.size p.2+1) 0 [] (inner sr τ) p.2).map λq=>alloc q.2 (.lst true q.1))=_;rw[l];simp only[oBs,k];rw[e]
 rfl
theorem qew(n d g:Nat):cutIx n d (some (g:Int))=min g n:=by
 show(if (g:Int)<0 then((g:Int)+(n:Int)).toNat else min (g:Int).toNat n)=_;rw[Z2 (by lia)]
 rfl
theorem qk4{α:Type}(a:List α)(g:Nat):cut a (some (g:Int)) none=a.drop g:=by
 unfold cut;rw[qew];show(a.drop (min g a.length)).take (a.length - min g a.length)=_;rw[Qzv (by simp)]
 by_cases h:g<=a.length
 ·rw[Nat.min_eq_left h]
 ·rw[Nat.min_eq_right (by lia),Qj5 (by lia),Qj5 (by lia)]
theorem qh2{α:Type}(a:List α)(g:Nat):cut a none (some (g:Int))=a.take g:=by
 unfold cut;rw[qew];show(a.drop 0).take (min g a.length - 0)=_;rw[Qj6,Nat.sub_zero]
 by_cases h:g<=a.length
 ·rw[Nat.min_eq_left h]
 ·rw[Nat.min_eq_right (by lia),Qzv (by lia),Qzv (by lia)]
noncomputable def fzR(r:Rw0):D:=.lst (r.map cO)
theorem nlF(rs:List Rw0):noLocs (rs.map fzR)=true:=qz4 λr _=>by unfold fzR; rw[qdv]; exact nlO r
section
variable {c:CF}{g:Nat}
theorem qir(m:Nat){S:Store}{τ:Sl}{k:Nat}{r:Rw0}(h:S[k]?=some (.lst true (r.map cO)))(f:τ[0]?=some (some (.loc k)))(d:τ[1]?=some (some (.int g))):(RL (callD fns m)).ev τ S (.gc (.sli (.var 0) (some (.var 1)) none))=some (fzR (r.drop g),S):=by
 have e:cut (r.map cO) (some (g:Int)) none=(r.drop g).map cO:=by rw[qk4,Qje]
 have x:=qzp (st:=S) (nlO (r.drop g));rw[<- e]at x;obtain⟨a,τ,rfl⟩:∃a t,τ=a::t:=by cases τ with|nil=>cases f|cons a t=>exact⟨_,_,rfl⟩
 obtain⟨b,τ,rfl⟩:∃a t,τ=a::t:=by cases τ with|nil=>cases d|cons a t=>exact⟨_,_,rfl⟩
 cases f;cases d;unfold fzR;rw[<- e];exact qzf 0 [] 0 (λq=>_/\_/\q) [.r (.lst true (r.map cO)),.l (cut (r.map cO) (some (g:Int)) none)] ⟨h,x,rfl⟩
theorem sl_to(m:Nat){S:Store}{k:Nat}{r:Rw0}{b:Option D}(h:S[k]?=some (.lst true (r.map cO))):(RL (callD fns m)).ev [some (.loc k),b,some (.int g)] S (.gc (.sli (.var 0) none (some (.var 2))))=some (fzR (r.take g),S):=by
 have e:cut (r.map cO) none (some (g:Int))=(r.take g).map cO:=by rw[qh2,List.map_take]
 have x:=qzp (st:=S) (nlO (r.take g));rw[<- e]at x;unfold fzR;rw[<- e];exact qzf 0 [] 0 (λq=>_/\_/\q) [.r (.lst true (r.map cO)),.l (cut (r.map cO) none (some (g:Int)))] ⟨h,x,rfl⟩
end
noncomputable abbrev lcs(zs:List (Nat×Rw0)):List D:=zs.map λz=>.loc z.1
abbrev Lie(S:Store)(zs:List (Nat×Rw0)):Prop:=∀z∈zs,S[z.1]?=some (.lst true (z.2.map cO))
theorem qqh{S:Store}{l:Nat}{ds:List D}(h:S[l]?=some (.lst true ds)):seqAt S (.loc l)=some ds:=by
 show listAt S l=_;unfold listAt;rw[h]
theorem qx7{α:Type}{c:CF}{τ:Sl}{st st1:Store}{it elt:E}{s:Src}{sr:List (Option Nat)}{rst:Sl}(a:List α)(f g:α->D)(p:src (RL c) τ st it=some (s,st1))(o:∀i,s.at st1 i=some (a.map f)[i]?)(n:s.size st1=a.length)(l:a.length<lim)(b:inner sr τ=none::rst)(m:∀x∈a,(RL c).ev (some (f x)::rst) st1 elt=some (g x,st1)):
  stepEv (RL c) τ st (.comp (.var 0) it none elt sr)=some (.loc st1.length,st1++[.lst true (a.map g)]):=by
 refine qah p o (by simpa using n) b (by simp) (by simpa using l) λk d e hd h=>?_;rw[Qqk]at hd h;obtain⟨x,j,rfl⟩:=Qqc.mp hd;rw[j]at h;cases h;exact m x (Qqd j)
section
variable {g:Nat}{S:Store}{lx ly:Nat}{zs ws:List (Nat×Rw0)}
theorem wj_1(m:Nat){a b c:Option D}(e:S[ly]?=some (.lst true (lcs ws)))(f:Lie S ws)(j:ws.length<1000):stepEv (RL (callD fns m)) [a,some (.loc ly),some (.int g),b,c] S (.comp (.var 0) (.var 1) none (.gc (.sli (.var 0) (some (.var 1)) none)) [none,some 2])=some (.loc S.length,S++[.lst true ((ws.map λz=>z.2.drop g).map fzR)]):=by
 have h:=qea (c:=callD fns m) (τ:=[a,some (.loc ly),some (.int g),b,c]) (st:=S) (i:=1) (q:=.loc ly) (elt:=.gc (.sli (.var 0) (some (.var 1)) none)) (sr:=[none,some 2]) (rst:=[some (.int g)]) ws (λz=>.loc z.1) (λz=>fzR (z.2.drop g)) rfl (qqh e) (by unfold lim; lia) rfl λz d=>qir m (f z d) rfl rfl;rw[h,Qzq]
 rfl
theorem wj_2(m:Nat){b c:Option D}(u:S[lx]?=some (.lst true (lcs zs)))(j:Lie S zs)(t:S[ly]?=some (.lst true (lcs ws)))(E:zs.length<1000)(w:∀z∈zs,z.2.length<1000):stepEv (RL (callD fns m)) [some (.loc lx),some (.loc ly),some (.int g),b,c] S (.comp (.var 0) (.sli (.var 0) (some (.bcall .len [.var 1])) none) none (.gc (.bin .Mult (.lst [.lit .non]) (.bcall .len [.gc (.sli (.var 0) (some (.var 1)) none)]))) [none,some 2])=some (.loc (S.length+1),S++[.lst true (lcs (zs.drop ws.length))]++[.lst true (((zs.drop ws.length).map λz=>List.replicate (z.2.drop g).length none).map fzR)]):=by
 have C:(RL (callD fns m)).ev [some (.loc lx),some (.loc ly),some (.int g),b,c] S (.sli (.var 0) (some (.bcall .len [.var 1])) none)=some (.loc S.length,S++[.lst true (lcs (zs.drop ws.length))]):=by
  have e:=qzf (fns:=fns) (k:=m) (τ:=[some (.loc lx),some (.loc ly),some (.int g),b,c]) (st:=S) (e:=.sli (.var 0) (some (.bcall .len [.var 1])) none) (r:=(.loc S.length,S++[.lst true (cut (lcs zs) (some (((lcs ws).length:Nat):Int)) none)])) 0 [] 0 (λq=>_/\_/\q) [.r (.lst true (lcs ws)),.r (.lst true (lcs zs))] ⟨t,u,rfl⟩;refine e.trans ?_;rw[qk4,Qqj,<- Qje]
 have f:∀z∈zs.drop ws.length,z∈zs:=λz j=>List.mem_of_mem_drop j;have x:(zs.drop ws.length).length<=zs.length:=by simp
 generalize zs.drop ws.length=a at *;have n:=gl (st:=S) (c:=.lst true (lcs a))
 have h:=qx7 (c:=callD fns m) (τ:=[some (.loc lx),some (.loc ly),some (.int g),b,c]) (st:=S) (st1:=S++[.lst true (lcs a)]) (it:=.sli (.var 0) (some (.bcall .len [.var 1])) none) (elt:=.gc (.bin .Mult (.lst [.lit .non]) (.bcall .len [.gc (.sli (.var 0) (some (.var 1)) none)]))) (sr:=[none,some 2]) (s:=.lst (.loc S.length)) a (λz=>.loc z.1) (λz=>fzR (List.replicate (z.2.drop g).length none)) (by
   show((RL (callD fns m)).ev _ _ _).bind _=_;rw[C];show(seqAt (S++[.lst true (lcs a)]) (.loc S.length)).map _=_;rw[qqh n]
   rfl) (λi=>qwm (qqh n) i) ((qq7 (qqh n)).trans (Qqj _)) (by unfold lim; lia) (rst:=[some (.int g)]) rfl λz d=>by
  have v:=w z (f z d);have y:(S++[.lst true (lcs a)])[z.1]?=some (.lst true (z.2.map cO)):=at_app (j z (f z d));generalize S++[.lst true (lcs a)]=U at *;have p:=qzp (st:=U++[.lst true [.non]]) (nlO (z.2.drop g));have e:cut (z.2.map cO) (some (g:Int)) none=(z.2.drop g).map cO:=by rw[qk4,Qje]
  have F:((z.2.drop g).map cO).length<100000:=by simp; lia
  have o:=mulN (S:=U++[.lst true [.non]]) (l:=U.length) (k:=((((z.2.drop g).map cO).length:Nat):Int)) gl (by lia) (by lia);have x4:=qv6 (st:=U) (S:=U++[.lst true [.non]]++[.lst true (List.replicate ((((z.2.drop g).map cO).length:Nat):Int).toNat .non)]) (l:=(U++[Cell.lst true [.non]]).length) (by rw[Qq4,Qxv]) gl (by simp) (nlR _);have A:fzR (List.replicate (z.2.drop g).length none)=.lst (List.replicate ((((z.2.drop g).map cO).length:Nat):Int).toNat .non):=by
   unfold fzR;rw[List.map_replicate,Qqj]
   rfl
  rw[A];rw[<- e]at p o x4 ⊢;exact qzf 0 [] 0 (λq=>_/\_/\_/\_/\q) [.r (.lst true (z.2.map cO)),.l (cut (z.2.map cO) (some (g:Int)) none),.c (.loc (U++[Cell.lst true [.non]]).length,U++[.lst true [.non]]++[.lst true (List.replicate (((cut (z.2.map cO) (some (g:Int)) none).length:Nat):Int).toNat .non)]),.l (List.replicate (((cut (z.2.map cO) (some (g:Int)) none).length:Nat):Int).toNat .non)] ⟨at_app (X:=[.lst true [.non]]) y,p,o,x4,rfl⟩
 rw[h,Qzq,Qqn]
 rfl
end
section
variable {g:Nat}{S:Store}{lx ly:Nat}{zs ws:List (Nat×Rw0)}
noncomputable def cels(rs:List Rw0):Store:=rs.map λr=>.lst true (r.map cO)
theorem qg1{n:Nat}{st:Store}{rs:List Rw0}(h:n<=st.length):Rows n (st++cels rs++[.lst true ((List.range rs.length).map λi=>.loc (st.length+i))]) (.loc (st++cels rs).length) rs:=by
 refine qcp (b:=st.length) (by simp; lia) h gl λi r h2=>?_;have hi:=(Qqv.mp h2).1;refine at_app ?_;rw[Qqi (by lia),Nat.add_sub_cancel_left];unfold cels;rw[Qqk,h2]
 rfl
theorem wj_3(m:Nat){b:Option D}{rs:List Rw0}{l x2:List Rw0}(E:S[lx]?=some (.lst true (lcs zs)))(V:Lie S zs)(hl:zs.length<1000)(W:∀z∈zs,z.2.length<1000)(n:rs=l++x2)(w:rs.length<1000)(G:∀r∈rs,r.length<1000):
  ∃y I,stepEv (RL (callD fns m)) [some (.loc lx),b,some (.int g),some (.lst (l.map fzR)),some (.lst (x2.map fzR))] S (.comp (.tup [0,1]) (.zip (.var 0) (.gc (.bin .Add (.var 3) (.var 4)))) none (.bin .Add (.gc (.sli (.var 0) none (some (.var 2)))) (.var 1)) [none,none,some 2])=some (y,I)/\∃C:List Rw0,C=List.zipWith (λ(z:Nat×Rw0) r=>z.2.take g++r) zs rs/\I=S++cels C++[.lst true ((List.range C.length).map λi=>.loc (S.length+i))]/\y=.loc (S++cels C).length:=by
 have e0:(RL (callD fns m)).ev [some (.loc lx),b,some (.int g),some (.lst (l.map fzR)),some (.lst (x2.map fzR))] S (.gc (.bin .Add (.var 3) (.var 4)))=some (.lst (rs.map fzR),S):=by
  rw[n,Qq5];have x:=qzp (st:=S) (nlF rs);rw[n,Qq5]at x;have hb:decide (lim<(l.map fzR).length+(x2.map fzR).length)=false:=Z1 (by rw[n]at w; simp at w ⊢; unfold lim; lia);exact qzf 0 [] 0 (λq=>_/\_/\q) [.b false,.l (l.map fzR++x2.map fzR)] ⟨hb,x,rfl⟩
 have H:(RL (callD fns m)).ev [some (.loc lx),b,some (.int g),some (.lst (l.map fzR)),some (.lst (x2.map fzR))] S (.var 0)=some (.loc lx,S):=qq8 _ _ _ _ _ rfl;have T:∀i,pairAt (lcs zs) (rs.map fzR) i=(List.zipWith (λ(z:Nat×Rw0) r=>D.tup [.loc z.1,fzR r]) zs rs)[i]?:=λi=>by
  unfold pairAt;rw[Qqk,Qqk,Qxl];cases zs[i]?<;>cases rs[i]?<;>rfl
 obtain⟨k,K,st',e,_,a,o,rfl,rfl,rfl⟩:=qgu (c:=callD fns m) (τ:=[some (.loc lx),b,some (.int g),some (.lst (l.map fzR)),some (.lst (x2.map fzR))]) (st:=S) (st1:=S) (t:=.tup [0,1]) (it:=.zip (.var 0) (.gc (.bin .Add (.var 3) (.var 4)))) (elt:=.bin .Add (.gc (.sli (.var 0) none (some (.var 2)))) (.var 1)) (sr:=[none,none,some 2]) (s:=.zip (.loc lx) (.lst (rs.map fzR))) (ds:=List.zipWith (λ(z:Nat×Rw0) r=>D.tup [.loc z.1,fzR r]) zs rs)
  (λi k τ st=>i<=(List.zipWith (λ(z:Nat×Rw0) r=>z.2.take g++r) zs rs).length/\∃a o,τ=[a,o,some (.int g)]/\st=S++cels ((List.zipWith (λ(z:Nat×Rw0) r=>z.2.take g++r) zs rs).take i)/\k=(List.range i).map λi=>.loc (S.length+i))
  (by
   show((RL (callD fns m)).ev _ _ (.var 0)).bind _=_;rw[H];show((RL (callD fns m)).ev _ _ (.gc (.bin .Add (.var 3) (.var 4)))).bind _=_;rw[e0];show((seqAt S (.loc lx)).bind _)=_;rw[qqh E]
   rfl)
  (by
   show min ((seqAt S (.loc lx)).getD []).length (rs.map fzR).length=_;rw[qqh E]
   simp)
  (λi k τ st h=>by
   obtain⟨_,a,o,_,rfl,_⟩:=h;show((seqAt _ (.loc lx)).bind λxs=>some (pairAt xs (rs.map fzR) i))=_;rw[qqh (at_app E)]
   exact congrArg some (T i))
  (by simp; unfold lim; lia) (λi k τ st h=>by obtain⟨_,a,o,_,_,rfl⟩:=h; simp)
  ⟨Qzc _,none,none,rfl,by simp[cels],rfl⟩
  (λi k τ st d hd h=>by
   obtain⟨_,a,o,rfl,rfl,rfl⟩:=h;rw[Qxl]at hd
   cases f:zs[i]? with
   |none=>rw[f]at hd; cases hd
   |some z=>
    cases j:rs[i]? with
    |none=>rw[f,j]at hd; cases hd
    |some r=>
     rw[f,j]at hd;cases hd;have hi:i<(List.zipWith (λ(z:Nat×Rw0) r=>z.2.take g++r) zs rs).length:=by
      have h1:=(Qqv.mp f).1;have h2:=(Qqv.mp j).1;simp
      lia
     have u:(List.zipWith (λ(z:Nat×Rw0) r=>z.2.take g++r) zs rs)[i]?=some (z.2.take g++r):=by rw[Qxl,f,j]
     have v:(S++cels ((List.zipWith (λ(z:Nat×Rw0) r=>z.2.take g++r) zs rs).take i)).length=S.length+i:=by unfold cels; simp at hi ⊢; lia
     have A:S++cels ((List.zipWith (λ(z:Nat×Rw0) r=>z.2.take g++r) zs rs).take i)++[.lst true ((z.2.take g).map cO++r.map cO)]=S++cels ((List.zipWith (λ(z:Nat×Rw0) r=>z.2.take g++r) zs rs).take (i+1)):=by
      rw[Qzg hi];rw[Qqx hi]at u;rw[Option.some.inj u];unfold cels;rw[Qq5,Qq4,<- Qq5]
      rfl
     have p:=Qqd f;have F:=Qqd j;have X:(S++cels ((List.zipWith (λ(z:Nat×Rw0) r=>z.2.take g++r) zs rs).take i))[z.1]?=some (.lst true (z.2.map cO)):=at_app (V z p);rw[<- A];refine⟨.loc (S.length+i),[some (.loc z.1),some (fzR r),some (.int g)],_,?_,hi,_,_,rfl,rfl,by rw[List.range_succ,Qq5]; rfl⟩;rw[<- v];generalize S++cels ((List.zipWith (λ(z:Nat×Rw0) r=>z.2.take g++r) zs rs).take i)=U at *;have R:=sl_to (g:=g) (b:=some (fzR r)) m X;have Q:(RL (callD fns m)).ev [some (.loc z.1),some (fzR r),some (.int g)] U (.var 1)=some (fzR r,U):=qq8 _ _ _ _ _ rfl;have h1:=W z p;have h2:=G r F;have P:binop U .Add (fzR (z.2.take g)) (fzR r)=some (.loc U.length,U++[.lst true ((z.2.take g).map cO++r.map cO)]):=by
      show(if lim<((z.2.take g).map cO).length+(r.map cO).length then none else some (alloc U (.lst true ((z.2.take g).map cO++r.map cO))))=_;rw[Z2 (by simp; unfold lim; lia)]
      rfl
     have N:(RL (callD fns m)).ev [some (.loc z.1),some (fzR r),some (.int g)] U (.bin .Add (.gc (.sli (.var 0) none (some (.var 2)))) (.var 1))=some (.loc U.length,U++[.lst true ((z.2.take g).map cO++r.map cO)]):=qq8 _ _ _ _ _ (by
      show((RL (callD fns m)).ev _ _ (.gc _)).bind _=_;rw[R];show((RL (callD fns m)).ev _ _ (.var 1)).bind _=_;rw[Q]
      exact P)
     show(turnC (RL (callD fns m)) (.tup [0,1]) none _ [a,o,some (.int g)] U (.tup [.loc z.1,fzR r]))=_;unfold turnC;show(((RL (callD fns m)).ev [some (.loc z.1),some (fzR r),some (.int g)] U (.bin .Add (.gc (.sli (.var 0) none (some (.var 2)))) (.var 1))).map _)=_;rw[N]
     rfl)
 refine⟨_,_,e,_,rfl,?_,?_⟩
 ·rw[Qjk,Qzv (by simp),Qjk]
 ·rw[Qjk,Qzv (by simp)]
theorem wj_ok(m:Nat){n:Nat}{x y:D}{A C:List Rw0}(w:Rows n S x A)(u:Rows n S y C)(G:n<=S.length)(t:A.length<400)(s:C.length<400)(e:∀r∈A,r.length<400)(k:∀r∈C,r.length<400):
  ∃X v,callD fns (m+1) 3 [x,y,.int g] S=some (v,S++X)/\Rows n (S++X) v (jn A C g):=by
 obtain⟨lx,zs,rfl,_,j,rfl,p⟩:=w.ex;obtain⟨ly,ws,rfl,_,f,rfl,o⟩:=u.ex;rw[Qqj]at t s;have d:Lie S zs:=λz h=>(p z h).2;have E:Lie S ws:=λz h=>(o z h).2;have e:∀z∈zs,z.2.length<400:=λz h=>e _ (Qxy h);have k:∀z∈ws,z.2.length<400:=λz h=>k _ (Qxy h);have Q:=wj_1 (g:=g) (a:=some (.loc lx)) (b:=none) (c:=none) m f E (by lia);have P:=wj_2 (g:=g) (b:=some (.lst ((ws.map λz=>z.2.drop g).map fzR))) (c:=none) m j d f (by lia) (λz h=>by have:=e z h; lia)
 obtain⟨y,R,N,us,F,rfl,rfl⟩:=wj_3 (S:=S) (lx:=lx) (b:=some (.loc ly)) (g:=g) (zs:=zs) (rs:=(ws.map λz=>z.2.drop g)++(zs.drop ws.length).map λz=>List.replicate (z.2.drop g).length none) m j d (by lia) (λz h=>by have:=e z h; lia) rfl (by simp; lia) (λr h=>by
  rcases Qq8.mp h with h|h
  ·obtain⟨z,d,rfl⟩:=Qzb.mp h; have:=k z d; simp; lia
  ·obtain⟨z,d,rfl⟩:=Qzb.mp h; have:=e z (List.mem_of_mem_drop d); simp; lia)
 have K:jn (zs.map (·.2)) (ws.map (·.2)) g=us:=by
  rw[F];unfold jn;rw[List.zipWith_map_left,Qzq,Qqj,<- Qje,Qzq]
  rfl
 have I:=qzp (st:=S) (nlF (ws.map λz=>z.2.drop g));have H:=qv6 (st:=S) (S:=S++[.lst true (lcs (zs.drop ws.length))]++[.lst true (((zs.drop ws.length).map λz=>List.replicate (z.2.drop g).length none).map fzR)]) (l:=S.length+1) (by rw[Qq4,Qxv]) (by rw[show S.length+1=(S++[Cell.lst true (lcs (zs.drop ws.length))]).length by simp]; exact gl) (by lia) (nlF _);refine⟨cels us++[.lst true ((List.range us.length).map λi=>.loc (S.length+i))],.loc (S++cels us).length,?_,?_⟩
 ·rw[<- Qq4];exact qzq 0 [] 1 (λq=>_/\_/\_/\_/\_/\q) [.c (.loc S.length,S++[.lst true ((ws.map λz=>z.2.drop g).map fzR)]),.l ((ws.map λz=>z.2.drop g).map fzR),.c (.loc (S.length+1),S++[.lst true (lcs (zs.drop ws.length))]++[.lst true (((zs.drop ws.length).map λz=>List.replicate (z.2.drop g).length none).map fzR)]),.l (((zs.drop ws.length).map λz=>List.replicate (z.2.drop g).length none).map fzR),.c (.loc (S++cels us).length,S++cels us++[.lst true ((List.range us.length).map λi=>.loc (S.length+i))])] ⟨Q,I,P,H,N,rfl⟩
 ·rw[K,<- Qq4];exact qg1 G
end
theorem Rows.dic{n:Nat}{A Yq:Store}{k k':List (D×D)}{x:D}{rs:List Rw0}(h:Rows n (A++.dic true k::Yq) x rs):Rows n (A++.dic true k'::Yq) x rs:=by
 have a:∀(p:Nat) (ds:List D),(A++.dic true k::Yq)[p]?=some (.lst true ds)->(A++.dic true k'::Yq)[p]?=some (.lst true ds):=λp ds e=>by
  by_cases h1:p<A.length
  ·rw[Qqp h1]at e ⊢;exact e
  ·have h1:A.length<=p:=Qjp h1;rw[Qqi h1]at e ⊢
   cases c:p - A.length with
   |zero=>rw[c]at e; cases e
   |succ q=>rw[c]at e; exact e
 obtain⟨l,zs,e,h1,h2,f,d⟩:=h.ex;exact⟨l,zs,e,h1,a _ _ h2,f,λz b=>⟨(d z b).1,a _ _ (d z b).2⟩⟩
noncomputable abbrev dI(l:List (Int×D)):List (D×D):=dcD (λx=>x) l
theorem qex{l:List (Int×D)}{v:Int}{x y:D}(h:l.lookup v=none):dput (dI (l++[(v,x)])) (.int v) y=dI (l++[(v,y)]):=by
 have e:∀q∈dI l,eqT q.1 (.int v)=false:=λq a=>by
  have g:=qzh (λx=>x) v l;rw[h]at g;unfold dget at g;have:=Qjc.mp (Qj4.mp g) q a;exact Bool.eq_false_iff.mpr this
 unfold dput;have d:dI (l++[(v,x)])=dI l++[(.int v,x)]:=by unfold dI dcD; rw[Qq5]; rfl
 have c:dI (l++[(v,y)])=dI l++[(.int v,y)]:=by unfold dI dcD; rw[Qq5]; rfl
 have b:eqT (.int v) (.int v)=true:=by rw[eqT_ii]; exact beq_self_eq_true v
 rw[d,c,Z3 (by rw[List.any_append]; simp[b]),Qq5]
 congr 1
 ·refine(List.map_congr_left λq a=>?_).trans (List.map_id _);rw[Z2 (by rw[e q a]; exact Qqg)]
  rfl
 ·simp[b]
theorem qh1(l:List (Int×D)):(dI l).length=l.length:=by unfold dI dcD; rw[Qqj]
theorem qvw{A Yq:Store}{c c':Cell}:(A++c::Yq).set A.length c'=A++c'::Yq:=by
 rw[Qx4 (h:=Qqw _),Qjq]
 rfl
theorem qxo{A Yq:Store}{c:Cell}:(A++c::Yq)[A.length]?=some c:=by
 rw[Qqi (Qqw _),Qjq]
 rfl
section
variable {W H d:Int}{P:Nat}{vs:List (Int×Vn)}{js:List (Int×P2)}{rest:Store}
noncomputable abbrev trB:List M.S:=[.dset (.var 2) (.var 3) (.call 2 [.var 0,.var 3]),.set (.var 4) (.mcall 682 28 "joined" (.var 0) [.var 3]),.ite (.cmp .IsNot (.var 4) (.lit .non)) [.dset (.var 2) (.var 3) (.call 3 [.didx (.var 2) (.var 3),.didx (.var 2) (.idx (.var 4) (.lit (.int 0))),.idx (.var 4) (.lit (.int 1))])] []]
noncomputable abbrev trT(ls:List Int)(K:Nat)(x3 x4:Option D):Sl:=[some (.loc 0),some (.lst (ls.map .int)),some (.loc K),x3,x4]
theorem qik(m:Nat)(w:Wf vs js P)(N:P<=12)(f:∀v a,vs.lookup v=some a->a.ps.length<=16){ls:List Int}{l:List (Int×D)}{Yq:Store}{v:Int}{a:Vn}{x4:Option D}(j:vs.lookup v=some a)(I:l.lookup v=none)(V:l.length<1000)(G:∀u x,l.lookup u=some x->Rows 15 (BB W H P d vs js rest++.dic true (dI l)::Yq) x (crs W H vs js u))
  (hj:∀u g,js.lookup v=some (u,g)->∃x,l.lookup u=some x) :
  ∃x Y' t,(RL (callD fns (m+3))).ex (trT ls (BB W H P d vs js rest).length (some (.int v)) x4) (BB W H P d vs js rest++.dic true (dI l)::Yq) trB=some (.nx (trT ls (BB W H P d vs js rest).length (some (.int v)) t),BB W H P d vs js rest++.dic true (dI (l++[(v,x)]))::(Yq++Y'))/\Rows 15 (BB W H P d vs js rest++.dic true (dI (l++[(v,x)]))::(Yq++Y')) x (crs W H vs js v):=by
 obtain⟨w1,w2,w3,w4⟩:=w.ve v a j;have p:=qlm (W:=W) (H:=H) (P:=P) (d:=d) (js:=js) (rest:=rest++.dic true (dI l)::Yq) m j w4 w2 N (by have:=f v a j; lia);have o:Rows 15 _ _ _:=qfp (n:=15) (st:=BB W H P d vs js (rest++.dic true (dI l)::Yq)) (rs:=own W H a) bb_le;obtain⟨X1,hX⟩:∃X1,rwS (BB W H P d vs js (rest++.dic true (dI l)::Yq)) (own W H a)=BB W H P d vs js rest++.dic true (dI l)::(Yq++X1):=⟨_,by unfold rwS; rw[<- qe7,Qq4,Qxo]⟩
 rw[hX]at p o;generalize a0:D.loc (BB W H P d vs js (rest++.dic true (dI l)::Yq)).length=x0 at p o;have hb:decide ((dI l).length<lim)=true:=Z0 (by rw[qh1]; unfold lim; lia);have e1:((trT ls (BB W H P d vs js rest).length (some (.int v)) x4,(BB W H P d vs js rest++.dic true (dI l)::(Yq++X1)).set (BB W H P d vs js rest).length (.dic true (dput (dI l) (.int v) x0))):Sl×Store)=(trT ls (BB W H P d vs js rest).length (some (.int v)) x4,BB W H P d vs js (rest++.dic true (dI (l++[(v,x0)]))::(Yq++X1))):=by
  rw[qvw,qw9 (λx=>x) I]
  rfl
 have s:=qqs (W:=W) (H:=H) (P:=P) (d:=d) (js:=js) (rest:=rest++.dic true (dI (l++[(v,x0)]))::(Yq++X1)) (m+2) j;have R:(BB W H P d vs js rest++.dic true (dI l)::(Yq++X1))[(BB W H P d vs js rest).length]?=some (.dic true (dI l)):=qxo
 cases c:js.lookup v with
 |none=>
  rw[c]at s;rw[qk5 j c];refine⟨x0,X1,some .non,?_,o.dic⟩;exact qzg 15 [2,28] 3 (λq=>_/\_/\_/\_/\_/\q) [.c (x0,BB W H P d vs js rest++.dic true (dI l)::(Yq++X1)),.r (.dic true (dI l)),.b true,.e (trT ls (BB W H P d vs js rest).length (some (.int v)) x4,BB W H P d vs js (rest++.dic true (dI (l++[(v,x0)]))::(Yq++X1))),.c (.non,BB W H P d vs js (rest++.dic true (dI (l++[(v,x0)]))::(Yq++X1))),.k] ⟨p,R,hb,e1,s,rfl⟩
 |some ug=>
  obtain⟨u,g⟩:=ug;obtain⟨y,U⟩:=hj u g c;obtain⟨j2,j3,_,⟨b,F⟩,j5,j6⟩:=w.jo v u g c;rw[c]at s;have hu:=G u y U;have ru:Rows 15 (BB W H P d vs js (rest++.dic true (dI (l++[(v,x0)]))::(Yq++X1))) y (crs W H vs js u):=by
   have:=(hu.dic (k':=dI (l++[(v,x0)]))).app (X:=X1);rw[Qq4,Qxo]at this;exact this
  have rv:Rows 15 (BB W H P d vs js (rest++.dic true (dI (l++[(v,x0)]))::(Yq++X1))) x0 (own W H a):=o.dic;have k:∀{C:List Rw0},Lg P C->∀r∈C,r.length<400:=λ{C} h r G=>by
   obtain⟨i,hi,e⟩:=Qxk.mp G;have:=h i r (by rw[Qqx hi,e])
   lia
  obtain⟨X2,z,E,T⟩:=wj_ok (g:=g.toNat) (S:=BB W H P d vs js (rest++.dic true (dI (l++[(v,x0)]))::(Yq++X1))) (m+2) rv ru bb_le (by have:=f v a j; unfold own; rw[Qqj]; lia) (by have:=f u b F; rw[qjr w F]; lia) (k (w2▸qy1 W H a)) (k (qyk w F));have eg:((g.toNat:Nat):Int)=g:=by lia
  rw[eg]at E;rw[qkb w j c];have d1:dget (dI (l++[(v,x0)])) (.int v)=some x0:=by
   have:=qzh (λx=>x) v (l++[(v,x0)]);rw[qkv,I,Z3 rfl]at this;exact this
  have d2:dget (dI (l++[(v,x0)])) (.int u)=some y:=by
   have:=qzh (λx=>x) u (l++[(v,x0)]);rw[qkv,U]at this;exact this
  have hS:BB W H P d vs js (rest++.dic true (dI (l++[(v,x0)]))::(Yq++X1))++X2=BB W H P d vs js rest++.dic true (dI (l++[(v,x0)]))::(Yq++(X1++X2)):=by
   rw[<- qe7,Qq4,Qxo,Qq4]
  rw[hS]at E T;have K:decide ((dI (l++[(v,x0)])).length<lim)=true:=Z0 (by rw[qh1]; simp; unfold lim; lia);have Q:(BB W H P d vs js (rest++.dic true (dI (l++[(v,x0)]))::(Yq++X1)))[(BB W H P d vs js rest).length]?=some (.dic true (dI (l++[(v,x0)]))):=qxo (A:=BB W H P d vs js rest);have r2:(BB W H P d vs js rest++.dic true (dI (l++[(v,x0)]))::(Yq++(X1++X2)))[(BB W H P d vs js rest).length]?=some (.dic true (dI (l++[(v,x0)]))):=qxo;refine⟨z,X1++X2,some (joD (u,g)),?_,T.dic⟩;have e3:((.nx (trT ls (BB W H P d vs js rest).length (some (.int v)) (some (joD (u,g)))),(BB W H P d vs js rest++.dic true (dI (l++[(v,x0)]))::(Yq++(X1++X2))).set (BB W H P d vs js rest).length (.dic true (dput (dI (l++[(v,x0)])) (.int v) z))):Out×Store)=(.nx (trT ls (BB W H P d vs js rest).length (some (.int v)) (some (joD (u,g)))),BB W H P d vs js rest++.dic true (dI (l++[(v,z)]))::(Yq++(X1++X2))):=by
   rw[qvw,qex I]
  rw[<- e3];exact qzg 15 [2,28,3] 3 (λq=>_/\_/\_/\_/\_/\_/\_/\_/\_/\_/\_/\_/\q) [.c (x0,BB W H P d vs js rest++.dic true (dI l)::(Yq++X1)),.r (.dic true (dI l)),.b true,.e (trT ls (BB W H P d vs js rest).length (some (.int v)) x4,BB W H P d vs js (rest++.dic true (dI (l++[(v,x0)]))::(Yq++X1))),.c (joD (u,g),BB W H P d vs js (rest++.dic true (dI (l++[(v,x0)]))::(Yq++X1))),.k,.r (.dic true (dI (l++[(v,x0)]))),.q (some x0),.r (.dic true (dI (l++[(v,x0)]))),.q (some y),.c (z,BB W H P d vs js rest++.dic true (dI (l++[(v,x0)]))::(Yq++(X1++X2))),.r (.dic true (dI (l++[(v,x0)]))),.b true] ⟨p,R,hb,e1,s,Q,d1,Q,d2,E,r2,K,rfl⟩
end
theorem lk_no{α:Type}{v:Int}:∀{l:List (Int×α)},v ∉ l.map (·.1)->l.lookup v=none
 |[],_=>rfl
 |(k,x)::r,h=>by
  rw[Qq3,Qqb,not_or]at h;rw[Qqt,beq_eq_false_iff_ne.mpr h.1];exact lk_no h.2
theorem qaq{α:Type}{v:Int}:∀{l:List (Int×α)},v∈l.map (·.1)->∃x,l.lookup v=some x
 |(k,x)::r,h=>by
  rw[Qqt]
  cases e:v==k with
  |true=>exact⟨x,rfl⟩
  |false=>
   rw[Qq3,Qqb]at h;exact qaq (h.resolve_left (beq_eq_false_iff_ne.mp e))
theorem qd0{x:Int}:∀{l:List Int},(∀y∈l,y<x)->insInt x l=l++[x]
 |[],_=>rfl
 |y::r,h=>by
  have:=h y Qql;unfold insInt;rw[Z2 (by lia),qd0 λz a=>h z (Qqf _ a)]
  rfl
theorem qym:∀{l:List Int},l.Pairwise (· > ·)->sortInt l=l.reverse
 |[],_=>rfl
 |x::r,h=>by
  obtain⟨h1,h2⟩:=Qz8.mp h;unfold sortInt;rw[qym h2,qd0 λy a=>h1 y (Qx3.mp a),List.reverse_cons]
theorem qyy:∀l:List Int,asInts (l.map .int)=some l
 |[]=>rfl
 |x::r=>by show(asInts (r.map .int)).map (x::·)=_; rw[qyy r]; rfl
section
variable {W H d:Int}{P:Nat}{vs:List (Int×Vn)}{js:List (Int×P2)}{rest:Store}
theorem qb2(m:Nat)(w:Wf vs js P)(G:P<=12)(r:∀v a,vs.lookup v=some a->a.ps.length<=16){ls:List Int}(K:ls.Pairwise (· < ·))(V:ls.length<900)(Q:∀(k:Nat) x,ls[k]?=some x->(∃a,vs.lookup x=some a)/\∀u g,js.lookup x=some (u,g)->u∈ls.take k):
  ∃l f,callD fns (m+4) 4 [.loc 0,.lst (ls.map .int)] (BB W H P d vs js rest)=some (.loc (BB W H P d vs js rest).length,BB W H P d vs js rest++.dic true (dI l)::f)/\∀u∈ls,∃x,l.lookup u=some x/\Rows 15 (BB W H P d vs js rest++.dic true (dI l)::f) x (crs W H vs js u):=by
 obtain⟨I,st',e,_,l,f,s,x4,rfl,rfl,h1,h2⟩:=for_of (c:=callD fns (m+3)) (τ:=trT ls (BB W H P d vs js rest).length none none) (st:=BB W H P d vs js rest++[.dic true []]) (i:=1) (q:=.lst (ls.map .int)) (ds:=ls.map .int) (t:=.var 3) (body:=trB)
  (λi τ S=>i<=ls.length/\∃l f s x4,τ=trT ls (BB W H P d vs js rest).length s x4/\S=BB W H P d vs js rest++.dic true (dI l)::f/\l.map (·.1)=ls.take i/\∀u x,l.lookup u=some x->Rows 15 (BB W H P d vs js rest++.dic true (dI l)::f) x (crs W H vs js u))
  rfl ⟨Qzc _,[],[],none,none,rfl,rfl,rfl,λ_ _ h=>nomatch h⟩ (λ_ _ _ _=>rfl)
  (λi τ S x b h=>by
   obtain⟨_,l,f,s,x4,rfl,rfl,h1,h2⟩:=h;rw[Qqk]at b;obtain⟨v,p,rfl⟩:=Qqc.mp b;have hi:=(Qqv.mp p).1;obtain⟨⟨a,R⟩,F⟩:=Q i v p;have D:v ∉ l.map (·.1):=λz=>by
    rw[h1]at z;obtain⟨j,F,e⟩:=Qxk.mp z;rw[List.getElem_take]at e;have E:j<i:=by simp at F; lia
    rw[Qqx hi]at p;have:=Qz3.mp K j i (by lia) hi E;have:=Option.some.inj p
    lia
   have N:l.length=i:=by
    have:=congrArg List.length h1;rw[Qqj,Qzm]at this
    lia
   obtain⟨y,Y',C,U,T⟩:=qik (W:=W) (H:=H) (d:=d) (rest:=rest) (ls:=ls) (x4:=x4) m w G r R (lk_no D) (by lia) h2 (λu g o=>qaq (by rw[h1]; exact F u g o));refine⟨_,_,U,by lia,l++[(v,y)],f++Y',some (.int v),C,rfl,rfl,?_,λu x b=>?_⟩
   ·rw[Qq5,h1,Qzg hi];rw[Qqx hi]at p;rw[Option.some.inj p]
    rfl
   ·rw[qkv]at b
    cases o:l.lookup u with
    |some z=>
     rw[o]at b;cases b;have:=((h2 u x o).dic (k':=dI (l++[(v,y)]))).app (X:=Y');rw[Qq4,Qxo]at this;exact this
    |none=>
     rw[o]at b
     by_cases n:u=v
     ·rw[Z3 n]at b;cases b;rw[n];exact T
     ·rw[Z2 n]at b
      cases b)
 rw[Qqj,Qxn]at h1;refine⟨l,f,qzq 15 [] 4 (λq=>_/\_/\_/\q) [.r (.dic true []),.e (trT ls (BB W H P d vs js rest).length none none,BB W H P d vs js rest++[.dic true []]),.s (.nx (trT ls (BB W H P d vs js rest).length s x4),BB W H P d vs js rest++.dic true (dI l)::f)] ⟨qxo (A:=BB W H P d vs js rest) (c:=.dic true []) (Yq:=[]),congrArg (λz=>(trT ls (BB W H P d vs js rest).length none none,z)) (qvw (A:=BB W H P d vs js rest) (c:=.dic true []) (c':=.dic true []) (Yq:=[])),e,rfl⟩,λu o=>?_⟩;obtain⟨x,b⟩:=qaq (show u∈l.map (·.1) by rw[h1]; exact o);exact⟨x,b,h2 u x b⟩
end
section
variable {W H d:Int}{P:Nat}{vs:List (Int×Vn)}{js:List (Int×P2)}{rest:Store}
structure Chn (vs:List (Int×Vn)) (js:List (Int×P2)) (v:Int) (ch:List Int):Prop where
 me:v∈ch
 pw:ch.Pairwise (· > ·)
 fo:∀x∈ch,∃a,vs.lookup x=some a
 jo:∀x∈ch,∀u g,js.lookup x=some (u,g)->u∈ch
 le:ch.length<=v.toNat
noncomputable abbrev jvT(v:Int)(K:Nat)(x3:D):Sl:=[some (.loc 0),some (.int v),some (.loc K),some x3]
theorem qg0(m:Nat)(w:Wf vs js P){v:Int}{a:Vn}(s:vs.lookup v=some a)(X:v<=30):
  ∃i,Chn vs js v i/\callD fns (m+2) 5 [.loc 0,.int v] (BB W H P d vs js rest)=some (.loc (BB W H P d vs js (rest++[.lst true (i.map .int)])).length,BB W H P d vs js rest++[.lst true (i.map .int)]++[.lst true (i.reverse.map .int)]):=by
 have T:=(w.ve v a s).1;obtain⟨o,st',e,i,l,rfl,rfl,G⟩:=qya (c:=callD fns (m+1)) (q:=.cmp .IsNot (.var 3) (.lit .non)) (body:=[.expr (.meth (.var 2) .append [.idx (.var 3) (.lit (.int 0))]),.set (.var 3) (.mcall 682 28 "joined" (.var 0) [.idx (.var 3) (.lit (.int 0))])])
  (λk τ S=>∃pre u b,k=u.toNat/\vs.lookup u=some b/\τ=jvT v (BB W H P d vs js rest).length (((js.lookup u).map joD).getD .non)/\S=BB W H P d vs js (rest++[.lst true ((pre++[u]).map .int)])/\v∈pre++[u]/\(pre++[u]).Pairwise (· > ·)/\(∀x∈pre,∃a,vs.lookup x=some a)/\(∀x∈pre,∀y g,js.lookup x=some (y,g)->y∈pre++[u])/\pre.length+u.toNat<=v.toNat)
  (λo S=>∃i l,o=.nx (jvT v (BB W H P d vs js rest).length l)/\S=BB W H P d vs js (rest++[.lst true (i.map .int)])/\Chn vs js v i)
  (λk τ S h=>by
   obtain⟨pre,u,b,rfl,t,rfl,rfl,h1,h2,Q,N,h5⟩:=h;have u0:=(w.ve u b t).1
   cases F:js.lookup u with
   |none=>
    refine .inl ⟨qzt 0 [] 1 (λq=>q) [.k] rfl,pre++[u],.non,rfl,rfl,h1,h2,λx f=>?_,λx f y g r=>?_,by simp; lia⟩
    ·rcases Qq8.mp f with f|f
     ·exact Q x f
     ·cases Qqs.mp f; exact⟨b,t⟩
    ·rcases Qq8.mp f with f|f
     ·exact N x f y g r
     ·cases Qqs.mp f; rw[F]at r; cases r
   |some q=>
    obtain⟨y,g⟩:=q;obtain⟨j1,R,_,⟨c,K⟩,_,_⟩:=w.jo u y g F;refine .inr ⟨qzt 0 [] 1 (λq=>q) [.k] rfl,.inl ⟨jvT v (BB W H P d vs js rest).length (((js.lookup y).map joD).getD .non),BB W H P d vs js (rest++[.lst true (((pre++[u])++[y]).map .int)]),y.toNat,by lia,?_,pre++[u],y,c,rfl,K,rfl,rfl,Qzf _ h1,?_,λx f=>?_,λx f z g' n=>?_,by simp; lia⟩⟩
    ·have I:(BB W H P d vs js (rest++[.lst true ((pre++[u]).map .int)]))[(BB W H P d vs js rest).length]?=some (.lst true ((pre++[u]).map .int)):=qxo (A:=BB W H P d vs js rest) (Yq:=[]);have V:decide (((pre++[u]).map D.int).length<lim)=true:=Z0 (by simp; unfold lim; lia);have e1:((jvT v (BB W H P d vs js rest).length (joD (y,g)),(BB W H P d vs js (rest++[.lst true ((pre++[u]).map .int)])).set (BB W H P d vs js rest).length (.lst true ((pre++[u]).map .int++[.int y]))):Sl×Store)=(jvT v (BB W H P d vs js rest).length (joD (y,g)),BB W H P d vs js (rest++[.lst true (((pre++[u])++[y]).map .int)])):=by
      rw[Qq5 (l₁:=pre++[u])];exact congrArg (λz=>(jvT v (BB W H P d vs js rest).length (joD (y,g)),z)) (qvw (A:=BB W H P d vs js rest) (Yq:=[]))
     exact qzg 15 [28] 1 (λq=>_/\_/\_/\_/\_/\q) [.r (.lst true ((pre++[u]).map .int)),.r (.lst true ((pre++[u]).map .int)),.b true,.e (jvT v (BB W H P d vs js rest).length (joD (y,g)),BB W H P d vs js (rest++[.lst true (((pre++[u])++[y]).map .int)])),.c (((js.lookup y).map joD).getD .non,BB W H P d vs js (rest++[.lst true (((pre++[u])++[y]).map .int)]))] ⟨I,I,V,e1,qqs (W:=W) (H:=H) (P:=P) (d:=d) (js:=js) (rest:=rest++[.lst true (((pre++[u])++[y]).map .int)]) m K,rfl⟩
    ·rw[Qjz];refine⟨h2,Qxs _ _,λp j q E=>?_⟩;cases Qqs.mp E;rcases Qq8.mp j with j|j
     ·have:=(Qjz.mp h2).2.2 p j u Qql
      lia
     ·cases Qqs.mp j; exact R
    ·rcases Qq8.mp f with f|f
     ·exact Q x f
     ·cases Qqs.mp f; exact⟨b,t⟩
    ·rcases Qq8.mp f with f|f
     ·exact Qzf _ (N x f z g' n)
     ·cases Qqs.mp f;rw[F]at n;cases n
      exact Qqu _ Qql)
  (k:=v.toNat) (τ:=jvT v (BB W H P d vs js rest).length (((js.lookup v).map joD).getD .non)) (st:=BB W H P d vs js (rest++[.lst true ([v].map .int)])) (by unfold lim; lia) ⟨[],v,a,rfl,s,rfl,rfl,Qql,Qxs _ _,(λ_ h=>nomatch h),(λ_ h=>nomatch h),by simp⟩
 have U:=G.le;have C:bfun (BB W H P d vs js (rest++[.lst true (i.map .int)])) .sorted [.loc (BB W H P d vs js rest).length]=some (.loc (BB W H P d vs js (rest++[.lst true (i.map .int)])).length,BB W H P d vs js rest++[.lst true (i.map .int)]++[.lst true (i.reverse.map .int)]):=by
  show(((seqAt _ (.loc _)).or _).bind _)=_;have E:seqAt (BB W H P d vs js (rest++[.lst true (i.map .int)])) (.loc (BB W H P d vs js rest).length)=some (i.map .int):=qqh (qxo (A:=BB W H P d vs js rest) (c:=.lst true (i.map .int)) (Yq:=[]));rw[E];show(if 64<=(i.map D.int).length then none else asInts (i.map .int)).map _=_;rw[Z2 (by simp; lia),qyy,oMs,qym G.pw]
  rfl
 exact⟨i,G,qzq 15 [28] 2 (λq=>_/\_/\_/\q) [.c (((js.lookup v).map joD).getD .non,BB W H P d vs js (rest++[.lst true [.int v]])),.s (.nx (jvT v (BB W H P d vs js rest).length l),BB W H P d vs js (rest++[.lst true (i.map .int)])),.c (.loc (BB W H P d vs js (rest++[.lst true (i.map .int)])).length,BB W H P d vs js rest++[.lst true (i.map .int)]++[.lst true (i.reverse.map .int)])] ⟨qqs (W:=W) (H:=H) (P:=P) (d:=d) (js:=js) (rest:=rest++[.lst true [.int v]]) m s,e,C,rfl⟩⟩
theorem qkc(m:Nat)(w:Wf vs js P)(s:P<=12)(i:∀v a,vs.lookup v=some a->a.ps.length<=16){v:Int}{a:Vn}(E:vs.lookup v=some a)(t:v<=30)(rest:Store):
  ∃X x,callD fns (m+5) 6 [.loc 0,.int v] (BB W H P d vs js rest)=some (x,BB W H P d vs js (rest++X))/\Rows 15 (BB W H P d vs js (rest++X)) x (crs W H vs js v):=by
 obtain⟨b,n,R⟩:=qg0 (W:=W) (H:=H) (d:=d) (rest:=rest) (m+2) w E t;have f:b.reverse.Pairwise (· < ·):=List.pairwise_reverse.mpr n.pw
 obtain⟨l,y,Q,h2⟩:=qb2 (W:=W) (H:=H) (d:=d) (rest:=rest) m w s i (ls:=b.reverse) f (by have:=n.le; simp; lia) (λk x o=>by
  have e:=Qx3.mp (Qqd o);refine⟨n.fo x e,λu g z=>?_⟩;have p:=Qx3.mpr (n.jo x e u g z);have F:=(w.jo x u g z).2.1;obtain⟨j,C,N⟩:=Qxk.mp p;obtain⟨G,T⟩:=Qqv.mp o;have I:j<k:=by
   refine Classical.byContradiction λhn=>?_
   by_cases h:k=j
   ·subst h; lia
   ·have:=Qz3.mp f k j G C (by lia)
    lia
  rw[<- N]
  exact Qxk.mpr ⟨j,by simp at C ⊢; lia,List.getElem_take⟩)
 obtain⟨x,o,r⟩:=h2 v (Qx3.mpr n.me);have D:=qzh (λx=>x) v l;rw[o]at D;have K:=qv6 (st:=BB W H P d vs js rest) (S:=BB W H P d vs js rest++[.lst true (b.map .int)]++[.lst true (b.reverse.map .int)]) (l:=(BB W H P d vs js (rest++[.lst true (b.map .int)])).length) (by rw[Qq4,Qxv]) (gl (st:=BB W H P d vs js (rest++[.lst true (b.map .int)]))) (by show _<=(BB W H P d vs js rest++[Cell.lst true (b.map .int)]).length; rw[Qqn]; lia) (nlI b.reverse);exact⟨.dic true (dI l)::y,x,qzq 15 [5,4] 5 (λq=>_/\_/\_/\_/\_/\q) [.c (.loc (BB W H P d vs js (rest++[.lst true (b.map .int)])).length,BB W H P d vs js rest++[.lst true (b.map .int)]++[.lst true (b.reverse.map .int)]),.l (b.reverse.map .int),.c (.loc (BB W H P d vs js rest).length,BB W H P d vs js rest++.dic true (dI l)::y),.r (.dic true (dI l)),.q (some x)] ⟨R,K,Q,qxo (A:=BB W H P d vs js rest) (c:=.dic true (dI l)) (Yq:=y),D,rfl⟩,r⟩
end
section
variable {W H d:Int}{P:Nat}{vs:List (Int×Vn)}{js:List (Int×P2)}{rest:Store}
noncomputable abbrev laT(u c f:Int)(x4 x5 x6:Option D):Sl:=[some (.loc 8),some (.int u),some (.int c),some (.int f),x4,x5,x6]
noncomputable abbrev lJ:E:=.didx (.var 0) (.lit (sO "joins"))
noncomputable abbrev lV:E:=.didx (.var 0) (.lit (sO "veins"))
noncomputable abbrev laQ:E:=.and (.din false (.var 1) lJ) (.cmp .LtE (.idx (.didx lJ (.var 1)) (.lit (.int 1))) (.var 3))
noncomputable abbrev laB:List M.S:=[.set (.var 1) (.idx (.didx lJ (.var 1)) (.lit (.int 0))),.ite (.cmp .GtE (.var 2) (.bcall .len [.idx (.didx lV (.var 1)) (.lit (.int 1))])) [.ret (.lit .non)] []]
theorem qmu(m:Nat)(w:Wf vs js P){v:Int}{a:Vn}{c f:Nat}(I:vs.lookup v=some a)(K:c<a.ps.length)(X:f<=P)(N:v<=30):
  ∃o S,stepEx (RL (callD fns m)) (laT v c f none none none) (BB W H P d vs js rest) (.whil laQ laB)=some (o,S)/\S=BB W H P d vs js rest/\((o=.rt .non/\cl (crs W H vs js v) c f=none)\/∃u b p,o=.nx (laT u c f none none none)/\vs.lookup u=some b/\b.ps[c]?=some p/\cl (crs W H vs js v) c f=walk W H (b.ss.take f) p):=
 qya (c:=callD fns m) (q:=laQ) (body:=laB)
  (λk τ S=>∃u b,k=u.toNat/\vs.lookup u=some b/\c<b.ps.length/\cl (crs W H vs js v) c f=cl (crs W H vs js u) c f/\τ=laT u c f none none none/\S=BB W H P d vs js rest)
  (λo S=>S=BB W H P d vs js rest/\((o=.rt .non/\cl (crs W H vs js v) c f=none)\/∃u b p,o=.nx (laT u c f none none none)/\vs.lookup u=some b/\b.ps[c]?=some p/\cl (crs W H vs js v) c f=walk W H (b.ss.take f) p))
  (λk τ S h=>by
   obtain⟨u,b,rfl,r,x,C,rfl,rfl⟩:=h;obtain⟨Q,G,_,_⟩:=w.ve u b r;have l:=qzh joD u js;have i:=Qqx x
   cases t:js.lookup u with
   |none=>
    rw[t]at l;refine .inl ⟨qzt 15 [] 0 (λq=>_/\q) [.k,.q none] ⟨l,rfl⟩,rfl,.inr ⟨u,b,_,rfl,r,i,?_⟩⟩;rw[C,qk5 r t,qh5 W H i (by lia)]
   |some F=>
    obtain⟨y,g⟩:=F;obtain⟨V,U,_,⟨e,z⟩,T,R⟩:=w.jo u y g t;rw[t]at l;have lo:Lg P (own W H b):=G▸qy1 W H b;have s:c<(own W H b).length:=by unfold own; rw[Qqj]; exact x
    cases A:decide (g<=(f:Int)) with
    |false=>
     have E:=of_decide_eq_false A;refine .inl ⟨qzt 15 [] 0 (λq=>_/\_/\_/\q) [.k,.q (some (joD (y,g))),.k,.q (some (joD (y,g))),.b false] ⟨l,l,A,rfl⟩,rfl,.inr ⟨u,b,_,rfl,r,i,?_⟩⟩;rw[C,qkb w r t,cl_up lo s (by lia) (by lia),qh5 W H i (by lia)]
    |true=>
     have E:=of_decide_eq_true A;have D:=qzh vnD y vs;rw[z]at D;refine .inr ⟨qzt 15 [] 0 (λq=>_/\_/\_/\q) [.k,.q (some (joD (y,g))),.k,.q (some (joD (y,g))),.b true] ⟨l,l,A,rfl⟩,?_⟩
     cases n:decide (((e.ps.map cD).length:Int)<=(c:Int)) with
     |false=>
      have j:=of_decide_eq_false n;rw[Qqj]at j;refine .inl ⟨laT y c f none none none,BB W H P d vs js rest,y.toNat,by lia,qzg 15 [] 0 (λq=>_/\_/\_/\q) [.k,.q (some (joD (y,g))),.k,.q (some (vnD e)),.b false] ⟨l,D,n,rfl⟩,y,e,rfl,z,by lia,?_,rfl,rfl⟩;rw[C,qkb w r t,cl_dn lo s (by rw[qjr w z]; lia) (by lia) (by lia)]
     |true=>
      have j:=of_decide_eq_true n;rw[Qqj]at j;refine .inr ⟨.non,BB W H P d vs js rest,qzg 15 [] 0 (λq=>_/\_/\_/\q) [.k,.q (some (joD (y,g))),.k,.q (some (vnD e)),.b true] ⟨l,D,n,rfl⟩,rfl,.inl ⟨rfl,?_⟩⟩
      rw[C,qkb w r t,cl_no lo s (by rw[qjr w z]; lia) (by lia) (by lia)])
  (k:=v.toNat) (by unfold lim; lia) ⟨v,a,rfl,I,K,rfl,rfl,rfl⟩
noncomputable abbrev lS:E:=.didx (.var 0) (.lit (sO "size"))
noncomputable abbrev laC:E:=.or (.not (.cmp2 .LtE .Lt (.lit (.int 0)) (.var 4) (.idx lS (.lit (.int 0))))) (.not (.cmp2 .LtE .Lt (.lit (.int 0)) (.var 5) (.idx lS (.lit (.int 1)))))
theorem at_tst(m:Nat){u c f:Int}{q:P2}{x6:Option D}:(RL (callD fns m)).tst (laT u c f (some (.int q.1)) (some (.int q.2)) x6) (BB W H P d vs js rest) laC=some (!inG W H q,BB W H P d vs js rest):=by
 unfold inG
 cases c1:decide (0<=q.1) with
 |false=>exact qzt 15 [] 0 (λq=>_/\q) [.b false] ⟨c1,rfl⟩
 |true=>
  cases c2:decide (q.1<W) with
  |false=>exact qzt 15 [] 0 (λq=>_/\_/\q) [.b true,.k,.b false] ⟨c1,c2,rfl⟩
  |true=>
   cases c3:decide (0<=q.2) with
   |false=>exact qzt 15 [] 0 (λq=>_/\_/\_/\q) [.b true,.k,.b true,.b false] ⟨c1,c2,c3,rfl⟩
   |true=>
    cases c4:decide (q.2<H) with
    |false=>exact qzt 15 [] 0 (λq=>_/\_/\_/\_/\q) [.b true,.k,.b true,.b true,.k,.b false] ⟨c1,c2,c3,c4,rfl⟩
    |true=>exact qzt 15 [] 0 (λq=>_/\_/\_/\_/\q) [.b true,.k,.b true,.b true,.k,.b true] ⟨c1,c2,c3,c4,rfl⟩
end
section
variable {W H d:Int}{P:Nat}{vs:List (Int×Vn)}{js:List (Int×P2)}{rest:Store}
noncomputable abbrev eQ(k:Int):E:=.bcall .int [.cmp .Eq (.var 6) (.lit (.int k))]
noncomputable abbrev laF:List M.S:=[.set (.var 4) (.bin .Sub (.bin .Add (.var 4) (eQ 1)) (eQ 2)),.set (.var 5) (.bin .Sub (.bin .Add (.var 5) (eQ 3)) (eQ 4)),.ite laC [.ret (.lit .non)] []]
theorem qhz(m:Nat){u c f s:Int}{q:P2}{S:Store}{x6:Option D}(r:0<=s)(p:s<=4){o:Out}{b:Store}(e:match o with|.bk _=>False|.ct _=>False|_=>True)(h:stepEx (RL (callD fns m)) (laT u c f (some (.int (go s q).1)) (some (.int (go s q).2)) (some (.int s))) S (.ite laC [.ret (.lit .non)] [])=some (o,b)):(RL (callD fns m)).ex (laT u c f (some (.int q.1)) (some (.int q.2)) (some (.int s))) S laF=some (o,b):=by
 have a:∀(b1 b2 b3 b4:Bool),(s==1)=b1->(s==2)=b2->(s==3)=b3->(s==4)=b4->(go s q).1=q.1+(if b1 then 1 else 0) - (if b2 then 1 else 0)->(go s q).2=q.2+(if b3 then 1 else 0) - (if b4 then 1 else 0)->(RL (callD fns m)).ex (laT u c f (some (.int q.1)) (some (.int q.2)) (some (.int s))) S laF=some (o,b):=λb1 b2 b3 b4 k j i g n l=>by
  rw[n,l]at h
  cases o with
  |nx τ=>exact qzg 0 [] 0 (λq=>_/\_/\_/\_/\_/\q) [.b b1,.b b2,.b b3,.b b4,.t (.nx τ,b)] ⟨k,j,i,g,h,rfl⟩
  |rt v=>exact qzg 0 [] 0 (λq=>_/\_/\_/\_/\_/\q) [.b b1,.b b2,.b b3,.b b4,.t (.rt v,b)] ⟨k,j,i,g,h,rfl⟩
  |bk τ=>exact e.elim
  |ct τ=>exact e.elim
 have:s=0\/s=1\/s=2\/s=3\/s=4:=by lia
 rcases this with rfl|rfl|rfl|rfl|rfl
 ·exact a false false false false rfl rfl rfl rfl (by simp[go,mv]) (by simp[go,mv])
 ·exact a true false false false rfl rfl rfl rfl (by simp[go,mv]) (by simp[go,mv])
 ·exact a false true false false rfl rfl rfl rfl (by simp[go,mv]; lia) (by simp[go,mv])
 ·exact a false false true false rfl rfl rfl rfl (by simp[go,mv]) (by simp[go,mv])
 ·exact a false false false true rfl rfl rfl rfl (by simp[go,mv]) (by simp[go,mv]; lia)
end
section
variable {W H d:Int}{P:Nat}{vs:List (Int×Vn)}{js:List (Int×P2)}{rest:Store}
theorem at_for(m:Nat){u:Int}{b:Vn}{c f:Nat}{p:P2}(w:vs.lookup u=some b)(y:∀s∈b.ss,0<=s/\s<=4):
  ∃o S,stepEx (RL (callD fns m)) (laT u c f (some (.int p.1)) (some (.int p.2)) none) (BB W H P d vs js rest) (.forr (.var 6) (.sli (.idx (.didx lV (.var 1)) (.lit (.int 0))) none (some (.var 3))) laF)=some (o,S)/\S=BB W H P d vs js rest/\((o=.rt .non/\walk W H (b.ss.take f) p=none)\/∃q x6,o=.nx (laT u c f (some (.int q.1)) (some (.int q.2)) x6)/\walk W H (b.ss.take f) p=some q):=by
 have r:=qzh vnD u vs;rw[w]at r;have g:cut (b.ss.map D.int) none (some (f:Int))=(b.ss.take f).map .int:=by rw[qh2,List.map_take]
 have n:(RL (callD fns m)).ev (laT u c f (some (.int p.1)) (some (.int p.2)) none) (BB W H P d vs js rest) (.sli (.idx (.didx lV (.var 1)) (.lit (.int 0))) none (some (.var 3)))=some (.tup ((b.ss.take f).map .int),BB W H P d vs js rest):=by
  rw[<- g];exact qzf (k:=m) 15 [] 0 (λq=>_/\q) [.k,.q (some (vnD b))] ⟨r,rfl⟩
 have l:∀s∈b.ss.take f,0<=s/\s<=4:=λs h=>y s (List.mem_of_mem_take h);generalize b.ss.take f=ss at *;refine qd6 (ds:=ss.map .int)
  (λi τ S=>∃q x6,τ=laT u c f (some (.int q.1)) (some (.int q.2)) x6/\S=BB W H P d vs js rest/\walk W H ss p=walk W H (ss.drop i) q)
  (λo S=>S=BB W H P d vs js rest/\((o=.rt .non/\walk W H ss p=none)\/∃q x6,o=.nx (laT u c f (some (.int q.1)) (some (.int q.2)) x6)/\walk W H ss p=some q))
  (qim (λ_=>rfl) n) rfl (λ_ _ _ _=>rfl) ⟨p,none,rfl,rfl,rfl⟩ (λτ S h=>?_) (λi τ S x t h=>?_)
 ·obtain⟨q,x6,rfl,rfl,h⟩:=h;rw[Qqj,List.drop_length]at h;exact⟨rfl,.inr ⟨q,x6,rfl,h⟩⟩
 ·obtain⟨q,x6,rfl,rfl,h⟩:=h;rw[Qqk]at t;obtain⟨s,e,rfl⟩:=Qqc.mp t;have hi:=(Qqv.mp e).1;have a:=l s (Qqd e);rw[Qjl hi]at h;rw[Qqx hi]at e;rw[Option.some.inj e,walk]at h;have j:=at_tst (W:=W) (H:=H) (P:=P) (d:=d) (vs:=vs) (js:=js) (rest:=rest) m (u:=u) (c:=c) (f:=f) (q:=go s q) (x6:=some (.int s))
  cases v:inG W H (go s q) with
  |false=>
   rw[v]at h j;refine⟨.rt .non,BB W H P d vs js rest,qhz (x6:=x6) m a.1 a.2 (by trivial) ?_,rfl,.inl ⟨rfl,h⟩⟩;rw[qvx j];exact qzg 0 [] 0 (λq=>q) [] rfl
  |true=>
   rw[v]at h j;refine⟨.nx (laT u c f (some (.int (go s q).1)) (some (.int (go s q).2)) (some (.int s))),BB W H P d vs js rest,qhz (x6:=x6) m a.1 a.2 (by trivial) ?_,go s q,_,rfl,rfl,h⟩;rw[qvj j];exact qzg 0 [] 0 (λq=>q) [] rfl
theorem at_ok(m:Nat)(w:Wf vs js P){v:Int}{a:Vn}{c f:Nat}(n:vs.lookup v=some a)(s:c<a.ps.length)(r:f<=P)(i:v<=30):
  callD fns (m+1) 37 [.loc 8,.int v,.int c,.int f] (BB W H P d vs js rest)=some (cO (cl (crs W H vs js v) c f),BB W H P d vs js rest):=by
 obtain⟨o,S,j,rfl,h⟩:=qmu (W:=W) (H:=H) (d:=d) (rest:=rest) m w n s r i;rcases h with⟨rfl,h⟩|⟨u,b,p,rfl,g,k,h⟩
 ·rw[h];exact qzq 15 [] 1 (λq=>_/\q) [.s (.rt .non,BB W H P d vs js rest)] ⟨j,rfl⟩
 ·have e:=qzh vnD u vs;rw[g]at e;have hi:idxD (BB W H P d vs js rest) (.tup (b.ps.map cD)) (.int (c:Int))=some (cD p):=by
   show atI (b.ps.map cD) (c:Int)=_;have t:=(Qqv.mp k).1;unfold atI ixN;rw[Z3 (by lia),Z3 (by simp; lia)];show(b.ps.map cD)[(c:Int).toNat]?=_;rw[Int.toNat_natCast,Qqk,k]
   rfl
  obtain⟨o,S,l,rfl,h2⟩:=at_for (W:=W) (H:=H) (P:=P) (d:=d) (js:=js) (rest:=rest) (c:=c) (f:=f) (p:=p) m g (w.ve u b g).2.2.2;rcases h2 with⟨rfl,h2⟩|⟨q,x6,rfl,h2⟩
  ·rw[h,h2];exact qzq 15 [] 1 (λq=>_/\_/\_/\_/\q) [.s (.nx (laT u c f none none none),BB W H P d vs js rest),.k,.q (some (vnD b)),.n,.i (cD p),.s (.rt .non,BB W H P d vs js rest)] ⟨j,e,hi,l,rfl⟩
  ·rw[h,h2];exact qzq 15 [] 1 (λq=>_/\_/\_/\_/\q) [.s (.nx (laT u c f none none none),BB W H P d vs js rest),.k,.q (some (vnD b)),.n,.i (cD p),.s (.nx (laT u c f (some (.int q.1)) (some (.int q.2)) x6),BB W H P d vs js rest)] ⟨j,e,hi,l,rfl⟩
theorem qkl{c:CF}{τ:Sl}{st:Store}{a:E}{n:Nat}(h:(RL c).ev τ st a=some (.int n,st))(b:n<100000):src (RL c) τ st (.rng1 a)=some (.rng 0 n,st):=by
 show((RL c).ev τ st a).bind _=_;rw[h];show(if big (n:Int)=true then none else some (Src.rng 0 (n:Int).toNat,st))=_;rw[Z2 (by unfold big; simp; lia)]
 rfl
theorem qi4(m:Nat)(w:Wf vs js P)(r:P<=12)(e:∀v a,vs.lookup v=some a->a.ps.length<=16){v:Int}{a:Vn}(b:vs.lookup v=some a)(l:v<=30):
  callD fns (m+2) 41 [.loc 8,.int v] (BB W H P d vs js rest)=some (.loc (BB W H P d vs js rest).length,BB W H P d vs js rest++[.lst true ((crs W H vs js v).map fzR)]):=by
 have o:=qzh vnD v vs;rw[b]at o;have t:=e v a b;have g:∀c:Nat,c<a.ps.length->(RL (callD fns (m+1))).ev [some (.int (0+(c:Int))),some (.int P),some (.loc 8),some (.int v)] (BB W H P d vs js rest) (.gc (.comp (.var 0) (.rng1 (.bin .Add (.var 1) (.lit (.int 1)))) none (.call 37 [.var 2,.var 3,.var 1,.var 0]) [none,some 0,some 2,some 3]))=some (fzR ((List.range (P+1)).map λf=>cl (crs W H vs js v) c f),BB W H P d vs js rest):=λc j=>by
  have z:(0:Int)+(c:Int)=c:=by lia
  rw[z];have h:=qx7 (c:=callD fns (m+1)) (τ:=[some (.int (c:Int)),some (.int P),some (.loc 8),some (.int v)]) (st:=BB W H P d vs js rest) (st1:=BB W H P d vs js rest) (it:=.rng1 (.bin .Add (.var 1) (.lit (.int 1)))) (elt:=.call 37 [.var 2,.var 3,.var 1,.var 0]) (s:=.rng 0 (P+1)) (sr:=[none,some 0,some 2,some 3]) (List.range (P+1)) (λf=>.int (0+(f:Int))) (λf=>cO (cl (crs W H vs js v) c f)) (qkl (n:=P+1) (qzf (k:=m+1) 0 [] 0 (λq=>q) [] rfl) (by lia)) (λi=>qxu 0 (P+1) i) (by simp[Src.size]) (by simp; unfold lim; lia) (rst:=[some (.int (c:Int)),some (.loc 8),some (.int v)]) rfl λf hf=>by
   have hf:=Qza.mp hf;have y:(0:Int)+(f:Int)=f:=by lia
   rw[y];exact qzf 0 [37] 1 (λq=>_/\q) [.c (cO (cl (crs W H vs js v) c f),BB W H P d vs js rest)] ⟨at_ok (W:=W) (H:=H) (d:=d) (rest:=rest) (f:=f) m w b j (Qz6 hf) l,rfl⟩
  have x:(List.range (P+1)).map (λf=>cO (cl (crs W H vs js v) c f))=((List.range (P+1)).map λf=>cl (crs W H vs js v) c f).map cO:=by rw[Qzq]; rfl
  rw[x]at h;exact qzf (k:=m+1) 0 [] 0 (λq=>_/\_/\q) [.c (.loc (BB W H P d vs js rest).length,BB W H P d vs js rest++[.lst true (((List.range (P+1)).map λf=>cl (crs W H vs js v) c f).map cO)]),.l (((List.range (P+1)).map λf=>cl (crs W H vs js v) c f).map cO)] ⟨h,qzp (st:=BB W H P d vs js rest) (nlO ((List.range (P+1)).map λf=>cl (crs W H vs js v) c f)),rfl⟩
 have p:((a.ps.map cD).length:Int)=(a.ps.length:Nat):=by rw[Qqj]
 have h:=qx7 (c:=callD fns (m+1)) (τ:=[some (.loc 8),some (.int v),some (.int ((a.ps.map cD).length:Nat)),some (.int P)]) (st:=BB W H P d vs js rest) (st1:=BB W H P d vs js rest) (it:=.rng1 (.var 2)) (elt:=.gc (.comp (.var 0) (.rng1 (.bin .Add (.var 1) (.lit (.int 1)))) none (.call 37 [.var 2,.var 3,.var 1,.var 0]) [none,some 0,some 2,some 3])) (s:=.rng 0 a.ps.length) (sr:=[none,some 3,some 0,some 1]) (List.range a.ps.length) (λc=>.int (0+(c:Int))) (λc=>fzR ((List.range (P+1)).map λf=>cl (crs W H vs js v) c f)) (qkl (n:=a.ps.length) (by rw[p]; exact qzf (k:=m+1) 0 [] 0 (λq=>q) [] rfl) (by lia)) (λi=>qxu 0 _ i) (by simp[Src.size]) (by simp; unfold lim; lia) (rst:=[some (.int P),some (.loc 8),some (.int v)]) rfl λc j=>g c (Qza.mp j);have u:(List.range a.ps.length).map (λc=>fzR ((List.range (P+1)).map λf=>cl (crs W H vs js v) c f))=(crs W H vs js v).map fzR:=by
  conv=>rhs; rw[qi5 (qyk (W:=W) (H:=H) w b),qjr w b,Qzq]
  rfl
 rw[u]at h;exact qzq 15 [] 2 (λq=>_/\_/\q) [.k,.q (some (vnD a)),.n,.k,.c (.loc (BB W H P d vs js rest).length,BB W H P d vs js rest++[.lst true ((crs W H vs js v).map fzR)])] ⟨o,h,rfl⟩
end
theorem gS(d:D)(st:Store)(h:noLoc d=true):noLoc d=true/\st.take st.length=st:=⟨h,Qxn⟩
theorem same_int(m:Nat)(st:Store)(i:Int):callD fns (m+1) 30 [.int i,.int i] st=some (.bl true,st):=
 qzq 0 [] 1 (λq=>_/\q) [.b true] ⟨(show(i==i)=true from beq_self_eq_true i),rfl⟩
theorem same_str(m:Nat)(st:Store)(s:Str):callD fns (m+1) 30 [.str s,.str s] st=some (.bl true,st):=
 qar 0 [] 1 (.bl (s==s),st) (λq=>q) [] (by rw[beq_self_eq_true])
theorem qyn(m:Nat)(st:Store):callD fns (m+1) 30 [.non,.non] st=some (.bl true,st):=
 qzq 0 [] 1 (λq=>q) [] rfl
theorem qat{ds:List D}{i:Nat}{x:D}(a:ds[i]?=some x):atI ds (i:Int)=some x:=by
 have hi:=(Qqv.mp a).1;unfold atI ixN;rw[Z3 (by lia),Z3 (by lia)];exact a
theorem qko(m:Nat){st:Store}{d a:D}{ds es:List D}(hd:(d=.tup ds/\a=.tup es)\/∃l,d=.loc l/\st[l]?=some (.lst true ds)/\a=.lst es)(k:ds.length=es.length)(v:ds.length<1000)(t:∀(i:Nat) x y,ds[i]?=some x->es[i]?=some y->callD fns (m+1) 30 [x,y] st=some (.bl true,st)):callD fns (m+2) 30 [d,a] st=some (.bl true,st):=by
 have o:bfun st .all [.lst ((es.map λ_=>true).map .bl)]=some (.bl true,st):=by
  show(asBools _).map _=_;rw[asB];exact congrArg (λb=>some (D.bl b,st)) (by simp)
 have j:=qzp (st:=st) (nlB (es.map λ_=>true));have r:∀(i:Nat) (x:D),ds[i]?=some x->idxD st d (.int (i:Int))=some x:=λi x f=>by
  rcases hd with⟨rfl,_⟩|⟨l,rfl,h,_⟩
  ·exact qat f
  ·show(seqAt st (.loc l)).bind _=_;rw[qqh h];exact qat f
 have p:∀(i:Nat) (x:D),es[i]?=some x->idxD st a (.int (i:Int))=some x:=λi x f=>by
  rcases hd with⟨_,rfl⟩|⟨l,_,_,rfl⟩<;>exact qat f
 have el:(RL (callD fns (m+1))).ev [some d,some a,none] st (.bcall .len [.var 1])=some (.int es.length,st):=by
  rcases hd with⟨_,rfl⟩|⟨l,_,_,rfl⟩<;>exact qzf 0 [] 1 (λq=>q) [] rfl
 have n:stepEv (RL (callD fns (m+1))) [some d,some a,none] st (.comp (.var 0) (.rng1 (.bcall .len [.var 1])) none (.gc (.call 30 [.idx (.var 2) (.var 0),.idx (.var 1) (.var 0)])) [none,some 1,some 0])=some (.loc st.length,st++[.lst true ((es.map λ_=>true).map .bl)]):=by
  have h:=qx7 (c:=callD fns (m+1)) (τ:=[some d,some a,none]) (st:=st) (st1:=st) (it:=.rng1 (.bcall .len [.var 1])) (elt:=.gc (.call 30 [.idx (.var 2) (.var 0),.idx (.var 1) (.var 0)])) (s:=.rng 0 es.length) (sr:=[none,some 1,some 0]) (List.range es.length) (λi=>.int (0+(i:Int))) (λ_=>.bl true) (qkl el (by lia)) (λi=>qxu 0 _ i) (by simp[Src.size]) (by simp; unfold lim; lia) (rst:=[some a,some d]) rfl λi hi=>by
   have hi:=Qza.mp hi;have u:(0:Int)+(i:Int)=i:=by lia
   rw[u];have f:=Qqx (l:=ds) (i:=i) (by lia);have g:=Qqx hi;exact qzf 0 [30] 1 (λq=>_/\_/\_/\_/\q) [.i ds[i],.i es[i],.c (.bl true,st),.g] ⟨r i _ f,p i _ g,t i _ _ f g,gS (.bl true) st rfl,rfl⟩
  have e:(List.range es.length).map (λ_=>D.bl true)=(es.map λ_=>true).map .bl:=by
   rw[Qzq,List.map_const',Qx0];exact(List.map_const' (l:=es) (b:=D.bl true)).symm
  rw[e]at h;exact h
 rcases hd with⟨rfl,rfl⟩|⟨l,rfl,h,rfl⟩
 ·exact qzq 0 [] 2 (λq=>_/\_/\_/\_/\q) [.b false,.c (.loc st.length,st++[.lst true ((es.map λ_=>true).map .bl)]),.l ((es.map λ_=>true).map .bl),.c (.bl true,st)] ⟨(show(!((ds.length:Int)==es.length))=false by simp[k]),n,j,o,rfl⟩
 ·exact qzq 0 [] 2 (λq=>_/\_/\_/\_/\_/\_/\_/\q) [.r (.lst true ds),.r (.lst true ds),.b false,.c (.loc st.length,st++[.lst true ((es.map λ_=>true).map .bl)]),.l ((es.map λ_=>true).map .bl),.c (.bl true,st),.r (.lst true ds)] ⟨h,h,(show(!((ds.length:Int)==es.length))=false by simp[k]),n,j,o,h,rfl⟩
theorem qvb(m:Nat)(st:Store)(a b:Int):callD fns (m+2) 30 [.tup [.int a,.int b],.tup [.int a,.int b]] st=some (.bl true,st):=
 qko m (.inl ⟨rfl,rfl⟩) rfl (by simp) λi x y d c=>by
  rw[d]at c;cases c;have:=Qqd d;simp only[Qqb,Qz2,or_false]at this;rcases this with rfl|rfl<;>exact same_int _ _ _
theorem qcn(m:Nat)(st:Store)(x:Option P2):callD fns (m+2) 30 [cO x,cO x] st=some (.bl true,st):=by
 cases x with
 |none=>exact qyn (m+1) st
 |some p=>exact qvb m st p.1 p.2
theorem qcm(m:Nat){n:Nat}{st:Store}{x:D}{rs:List Rw0}(h:Rows n st x rs)(p:rs.length<1000)(o:∀r∈rs,r.length<1000):callD fns (m+4) 30 [x,.lst (rs.map fzR)] st=some (.bl true,st):=by
 obtain⟨l,zs,rfl,_,h1,rfl,h2⟩:=h.ex;refine qko (m+2) (.inr ⟨l,rfl,h1,rfl⟩) (by simp) (by simpa using p) λi a b e d=>?_;rw[Qqk]at e;rw[Qqk,Qqk]at d;obtain⟨z,k,rfl⟩:=Qqc.mp e;rw[k]at d;cases d;have f:=Qqd k;have g:=o z.2 (Qxy f);refine qko (m+1) (.inr ⟨z.1,rfl,(h2 z f).2,rfl⟩) rfl (by simpa using g) λj a b e d=>?_;rw[e]at d;cases d;rw[Qqk]at e;obtain⟨c,_,rfl⟩:=Qqc.mp e;exact qcn m st c
noncomputable def F0(W H P:Int):Store:=
 [.obj 682 [("extent",szD W H P),("year",.int 5),("day",.int 0),("found",.loc 1),("joints",.loc 2),("staked",.loc 3),("dug",.loc 6),("debts",.loc 7)],.dic true [],.dic true [],.obj 336 [("year",.int 5),("book",.loc 4),("row",.loc 5)],.dic true [],.lst true [],.dic true [],.lst true []]
section
variable {W H P:Int}
theorem qmd(m:Nat)(b:1<=W)(a:W<=24)(e:1<=H)(d:H<=24)(p0:0<=P)(c:P<=12):callD fns (m+3) 21 [.loc 0,.int W,.int H,.int P,.int 5] [.obj 682 []]=some (.non,F0 W H P):=
 qzq 20 [] 3 (λq=>_/\_/\_/\_/\_/\_/\q) [.b true,.b true,.b true,.b true,.b true,.b true,.k,.k] ⟨Z0 b,Z0 a,Z0 e,Z0 d,Z0 p0,Z0 c,rfl⟩
theorem qgb(m:Nat):callD fns (m+1) 36 [szD W H P,.int 5] (F0 W H P)=some (.loc 8,Bq W H P 0 0 [] [] [] [] []):=
 qzq 20 [] 1 (λq=>q) [.k,.k,.k] rfl
variable {d d' day:Int}{fo jo fo' jo':List (D×D)}{rest:Store}
theorem f_vein(m:Nat){a:Vn}(g:d<day)(e:1<=day)(c:day<=400)(f:fo.length<1000)(b:∀st,callD fns (m+6) 18 [szD W H P,.tup [sO "vein",.tup (a.ss.map .int),.tup (a.ps.map cD)]] st=some (.bl true,st)):
  callD fns (m+7) 22 [.loc 0,.int day,.tup [sO "vein",.tup (a.ss.map .int),.tup (a.ps.map cD)]] (Bq W H P d d' fo jo fo' jo' rest)=some (sO "good",Bq W H P day d' (dput fo (.int day) (vnD a)) jo fo' jo' rest):=
 qzq 15 [18] 7 (λq=>_/\_/\_/\_/\_/\_/\q) [.b true,.b true,.c (.bl true,Bq W H P d d' fo jo fo' jo' rest),.b false,.b true,.l []] ⟨Z0 e,Z0 c,b (Bq W H P d d' fo jo fo' jo' rest),Z1 (show ¬ day<=d by lia),Z0 (show fo.length<lim by unfold lim; lia),qzp (st:=Bq W H P day d' (dput fo (.int day) (vnD a)) jo fo' jo' rest) (ds:=[]) rfl,rfl⟩
theorem m_vein(m:Nat){a:Vn}(b:fo'.length<1000):
  callD fns (m+1) 39 [.loc 8,.int day,.tup [sO "vein",.tup (a.ss.map .int),.tup (a.ps.map cD)]] (Bq W H P d d' fo jo fo' jo' rest)=some (sO "good",Bq W H P d day fo jo (dput fo' (.int day) (vnD a)) jo' rest):=
 qzq 15 [] 1 (λq=>_/\_/\_/\q) [.k,.k,.b true,.k,.c (.loc (Bq W H P d day fo jo (dput fo' (.int day) (vnD a)) jo' rest).length,Bq W H P d day fo jo (dput fo' (.int day) (vnD a)) jo' rest++[.lst true []]),.l []] ⟨Z0 (show fo'.length<lim by unfold lim; lia),(rfl:bfun (Bq W H P d day fo jo (dput fo' (.int day) (vnD a)) jo' rest) .sorted [.loc 14]=some (.loc (Bq W H P d day fo jo (dput fo' (.int day) (vnD a)) jo' rest).length,Bq W H P d day fo jo (dput fo' (.int day) (vnD a)) jo' rest++[.lst true []])),qzp (st:=Bq W H P d day fo jo (dput fo' (.int day) (vnD a)) jo' rest) (ds:=[]) rfl,rfl⟩
end
structure IV (P:Nat) (d:Int) (vs:List (Int×Vn)) (js:List (Int×P2)) (k:Nat):Prop where
 w:Wf vs js P
 l16:∀v a,vs.lookup v=some a->a.ps.length<=16
 le:∀v a,vs.lookup v=some a->v<=d
 lv:vs.length<=k
 lj:js.length<=k
theorem qh0{α:Type}(f:α->D)(l:List (Int×α)):(dcD f l).length=l.length:=by unfold dcD; rw[Qqj]
section
variable {W H d day:Int}{P:Nat}{vs:List (Int×Vn)}{js:List (Int×P2)}{k:Nat}
noncomputable abbrev fB(W H:Int)(P:Nat)(d d':Int)(vs:List (Int×Vn))(js:List (Int×P2))(vs':List (Int×Vn))(js':List (Int×P2)):Store:=Bq W H P d d' (dcD vnD vs) (dcD joD js) (dcD vnD vs') (dcD joD js') []
def Told(W H:Int)(P:Nat)(d day:Int)(vs:List (Int×Vn))(js:List (Int×P2))(k:Nat)(f:D)(m:Nat):Prop:=∃w vs' js',callD fns (m+7) 22 [.loc 0,.int day,f] (fB W H P d d vs js vs js)=some (sO w,fB W H P day d vs' js' vs js)/\callD fns (m+7) 39 [.loc 8,.int day,f] (fB W H P day d vs' js' vs js)=some (sO w,fB W H P day day vs' js' vs' js')/\IV P day vs' js' (k+1)
theorem IV.up(I:IV P d vs js k)(h:d<=day):IV P day vs js (k+1):=⟨I.w,I.l16,λv a e=>by have:=I.le v a e; lia,by have:=I.lv; lia,by have:=I.lj; lia⟩
theorem qb9(m:Nat)(I:IV P d vs js k)(F:k<100)(G:0<=d)(x:d<day)(y:day<=400){a:Vn}(t:∀s∈a.ss,0<=s/\s<=4)(w:a.ss.length=P)(p:1<=a.ps.length)(o:a.ps.length<=16)(n:∀st,callD fns (m+6) 18 [szD W H P,.tup [sO "vein",.tup (a.ss.map .int),.tup (a.ps.map cD)]] st=some (.bl true,st)):Told W H P d day vs js k (.tup [sO "vein",.tup (a.ss.map .int),.tup (a.ps.map cD)]) m:=by
 have hn:vs.lookup day=none:=by
  cases e:vs.lookup day with
  |none=>rfl
  |some b=>have:=I.le _ _ e; lia
 have i:(dcD vnD vs).length<1000:=by rw[qh0]; have:=I.lv; lia
 have r:=f_vein (d':=d) (jo:=dcD joD js) (fo':=dcD vnD vs) (jo':=dcD joD js) (rest:=[]) m x (by lia) y i n;have q:=m_vein (W:=W) (H:=H) (P:=P) (d:=day) (d':=d) (day:=day) (fo:=dcD vnD (vs++[(day,a)])) (jo:=dcD joD js) (fo':=dcD vnD vs) (jo':=dcD joD js) (rest:=[]) (a:=a) (m+6) i;rw[qw9 vnD hn]at r q;have f:∀v b,(vs++[(day,a)]).lookup v=some b->vs.lookup v=some b\/(v=day/\b=a):=λv b h=>by
  rw[qkv]at h
  cases e:vs.lookup v with
  |some c=>rw[e]at h; cases h; exact .inl rfl
  |none=>
   rw[e]at h
   by_cases l:v=day
   ·rw[Z3 l]at h; cases h; exact .inr ⟨l,rfl⟩
   ·rw[Z2 l]at h; cases h
 have j:∀{v:Int},(∃b,vs.lookup v=some b)->∃b,(vs++[(day,a)]).lookup v=some b:=λ⟨b,h⟩=>⟨b,by rw[qkv,h]; rfl⟩
 refine⟨"good",vs++[(day,a)],js,r,q,⟨⟨λv b h=>?_,λv u g h=>?_⟩,λv b h=>?_,λv b h=>?_,?_,?_⟩⟩
 ·rcases f v b h with h|⟨rfl,rfl⟩
  ·exact I.w.ve v b h
  ·exact⟨by lia,w,p,t⟩
 ·obtain⟨E,D,C,A,z⟩:=I.w.jo v u g h;exact⟨E,D,j C,j A,z⟩
 ·rcases f v b h with h|⟨rfl,rfl⟩
  ·exact I.l16 v b h
  ·exact o
 ·rcases f v b h with h|⟨rfl,rfl⟩
  ·have:=I.le v b h; lia
  ·exact Int.le_refl _
 ·have:=I.lv; simp; lia
 ·have:=I.lj; lia
theorem qcz(m:Nat)(I:IV P d vs js k)(K:k<100)(Q:0<=d)(N:d<day)(G:day<=400){a b g:Int}(b1:1<=b)(E:1<=g)(D:g<=P)(s:∀st,callD fns (m+6) 18 [szD W H P,.tup [sO "join",.int a,.int b,.int g]] st=some (.bl true,st)):Told W H P d day vs js k (.tup [sO "join",.int a,.int b,.int g]) m:=by
 have p:decide (1<=day)=true:=Z0 (by lia);have p2:decide (day<=400)=true:=Z0 G;have o:=s (fB W H P d d vs js vs js);have n:decide (day<=d)=false:=Z1 (by lia);have f:=qzh vnD a vs;have i:=qzh vnD b vs;have l:=qzh joD a js;have U:=I.up (day:=day) (by lia)
 cases ea:vs.lookup a with
 |none=>
  rw[ea]at f;exact⟨"novein",vs,js,qzq 15 [18] 7 (λq=>_/\_/\_/\_/\_/\q) [.b true,.b true,.c (.bl true,fB W H P d d vs js vs js),.b false,.q none] ⟨p,p2,o,n,f,rfl⟩,qzq 15 [] 2 (λq=>_/\q) [.k,.k,.q none] ⟨f,rfl⟩,U⟩
 |some x=>
  rw[ea]at f
  cases w:vs.lookup b with
  |none=>
   rw[w]at i;exact⟨"novein",vs,js,qzq 15 [18] 7 (λq=>_/\_/\_/\_/\_/\_/\q) [.b true,.b true,.c (.bl true,fB W H P d d vs js vs js),.b false,.q (some (vnD x)),.q none] ⟨p,p2,o,n,f,i,rfl⟩,qzq 15 [] 2 (λq=>_/\_/\q) [.k,.k,.q (some (vnD x)),.k,.q none] ⟨f,i,rfl⟩,U⟩
  |some y=>
   rw[w]at i
   cases j:decide (a<=b) with
   |true=>exact⟨"order",vs,js,qzq 15 [18] 7 (λq=>_/\_/\_/\_/\_/\_/\_/\q) [.b true,.b true,.c (.bl true,fB W H P d d vs js vs js),.b false,.q (some (vnD x)),.q (some (vnD y)),.b true] ⟨p,p2,o,n,f,i,j,rfl⟩,qzq 15 [] 2 (λq=>_/\_/\_/\q) [.k,.k,.q (some (vnD x)),.k,.q (some (vnD y)),.b true] ⟨f,i,j,rfl⟩,U⟩
   |false=>
    cases t:js.lookup a with
    |some z=>
     rw[t]at l;exact⟨"joined",vs,js,qzq 15 [18] 7 (λq=>_/\_/\_/\_/\_/\_/\_/\_/\q) [.b true,.b true,.c (.bl true,fB W H P d d vs js vs js),.b false,.q (some (vnD x)),.q (some (vnD y)),.b false,.q (some (joD z))] ⟨p,p2,o,n,f,i,j,l,rfl⟩,qzq 15 [] 2 (λq=>_/\_/\_/\_/\q) [.k,.k,.q (some (vnD x)),.k,.q (some (vnD y)),.b false,.k,.q (some (joD z))] ⟨f,i,j,l,rfl⟩,U⟩
    |none=>
     rw[t]at l;have A:decide ((dcD joD js).length<lim)=true:=Z0 (by rw[qh0]; have:=I.lj; unfold lim; lia);have C:dput (dcD joD js) (.int a) (joD (b,g))=dcD joD (js++[(a,(b,g))]):=qw9 joD t;refine⟨"good",vs,js++[(a,(b,g))],?_,?_,⟨⟨U.w.ve,λv u F h=>?_⟩,U.l16,U.le,U.lv,by have:=I.lj; simp; lia⟩⟩
     ·unfold fB;rw[<- C];exact qzq 15 [18] 7 (λq=>_/\_/\_/\_/\_/\_/\_/\_/\_/\q) [.b true,.b true,.c (.bl true,fB W H P d d vs js vs js),.b false,.q (some (vnD x)),.q (some (vnD y)),.b false,.q none,.b true] ⟨p,p2,o,n,f,i,j,l,A,rfl⟩
     ·unfold fB;rw[<- C];exact qzq 15 [] 2 (λq=>_/\_/\_/\_/\_/\q) [.k,.k,.q (some (vnD x)),.k,.q (some (vnD y)),.b false,.k,.q none,.k,.b true] ⟨f,i,j,l,A,rfl⟩
     ·rw[qkv]at h
      cases e:js.lookup v with
      |some c=>rw[e]at h; cases h; exact I.w.jo v u F e
      |none=>
       rw[e]at h
       by_cases r:v=a
       ·rw[Z3 r]at h;cases h;rw[r];have:=of_decide_eq_false j;exact⟨by lia,by lia,⟨x,ea⟩,⟨y,w⟩,E,D⟩
       ·rw[Z2 r]at h; cases h
end
noncomputable abbrev vnF(a:Vn):D:=.tup [sO "vein",.tup (a.ss.map .int),.tup (a.ps.map cD)]
inductive DF (W H:Int) (P:Nat):D->Prop
 |vein (a:Vn) (hs:∀s∈a.ss,0<=s/\s<=4) (hP:a.ss.length=P) (h1:1<=a.ps.length) (h2:a.ps.length<=16) (hn:a.ps.Nodup) (hc:∀p∈a.ps,Cin W H p):DF W H P (vnF a)
 |join (a b g:Int) (a1:1<=a) (a2:a<=400) (b1:1<=b) (b2:b<=400) (g1:1<=g) (g2:g<=P):DF W H P (.tup [sO "join",.int a,.int b,.int g])
section
variable {W H:Int}{P:Nat}
theorem DF.nl{f:D}(h:DF W H P f):noLoc f=true:=by
 cases h with
 |vein a=>
  rw[qqo];show(true&&(noLoc (.tup (a.ss.map .int))&&(noLoc (.tup (a.ps.map cD))&&true)))=true;rw[qqo,qqo,nlI,nlC]
  rfl
 |join=>rfl
theorem DF.told(m:Nat){f:D}(h:DF W H P f){d day:Int}{vs:List (Int×Vn)}{js:List (Int×P2)}{k:Nat}(r:P<=12)(I:IV P d vs js k)(i:k<100)(l:0<=d)(j:d<day)(p:day<=400):Told W H P d day vs js k f m:=by
 cases h with
 |vein a e hP c p2 hn q=>exact qb9 m I i l j p e hP c p2 λst=>s_vein m st (by lia) (by lia) e c p2 hn q
 |join a b g t s b1 b2 o n=>exact qcz m I i l j p b1 o n λst=>s_join (m+3) st t s b1 b2 o n
end
noncomputable def pD(p:Int×D):D:=.tup [.int p.1,p.2]
theorem gT(st:Store)(ps:List P2):noLoc (.tup (ps.map cD))=true/\(st++[Cell.lst true (ps.map cD)]).take st.length=st:=⟨by rw[qqo]; exact nlC ps,tkl⟩
section
variable {ns:List Int}(hn:ns.length<=63){W H:Int}{P:Nat}(w1:1<=W)(w2:W<=24)(h1:1<=H)(h2:H<=24)(hP:P<=12)
include hn
theorem qh8(m:Nat)(st:Store)(k:Int)(b:1<=W)(a:W<=24)(i:1<=H)(h:H<=24)(o:P<=12):∃f,callD fns (m+3) 35 [scr ns,.int k,szD W H P] st=some (f,st)/\DF W H P f:=by
 obtain⟨ss,l,n,c⟩:=qfn hn m st k 8 (P:=P) (by decide) (by decide) (by lia) (by lia);obtain⟨ps,j,g,p2,e,d⟩:=qln hn m st k 1 (W:=W) (H:=H) (P:=P) (by decide) (by decide) b a i h;refine⟨vnF ⟨ss,ps⟩,qzq 0 [32,33] 3 (λq=>_/\_/\_/\q) [.c (.tup (ss.map .int),st),.c (.tup (ps.map cD),st++[.lst true (ps.map cD)]),.g] ⟨l,j,gT st ps,rfl⟩,.vein ⟨ss,ps⟩ c (by show ss.length=P; lia) g p2 e d⟩
theorem qyt(m:Nat)(st:Store)(k j:Int)(t:0<=j)(p:j<1000){l:Nat}{d:List Int}(f:st[l]?=some (.lst true (d.map .int)))(u:0<d.length)(o:∀x∈d,1<=x/\x<=400):∃n:Int,callD fns (m+2) 34 [scr ns,.int k,.int j,.loc l] st=some (.int n,st)/\1<=n/\n<=400:=by
 obtain⟨b,s,b1,b2⟩:=dr hn m st k (j+1) (many:=400) (by lia) (by lia) (by decide);have i:(((d.map D.int).length:Int)==0)=false:=by
  rw[beq_eq_false_iff_ne,Qqj]
  lia
 obtain⟨a,h,w,v⟩:=dr hn m st k j (many:=14) (by lia) (by lia) (by decide)
 by_cases h1:a=0
 ·exact⟨1+b,qzq 0 [29] 2 (λq=>_/\_/\_/\_/\_/\q) [.r (.lst true (d.map .int)),.b false,.c (.int a,st),.b true,.c (.int b,st)] ⟨f,i,h,(show(a==0)=true by simpa using h1),s,rfl⟩,by lia,by lia⟩
 ·obtain⟨c,r,c1,c2⟩:=dr hn m st k (j+1) (many:=((d.map D.int).length:Int)) (by lia) (by lia) (by simp; lia);rw[Qqj]at c2;have hi:c.toNat<d.length:=by lia
  have e:=o d[c.toNat] (Qxm hi);have g:idxD st (.loc l) (.int c)=some (.int d[c.toNat]):=by
   show(seqAt st (.loc l)).bind _=_;rw[qqh f];show atI (d.map D.int) c=_;unfold atI ixN;rw[Z3 c1,Z3 (by simpa using c2)];simp[Qqx hi]
  exact⟨d[c.toNat],qzq 0 [29] 2 (λq=>_/\_/\_/\_/\_/\_/\_/\q) [.r (.lst true (d.map .int)),.b false,.c (.int a,st),.b false,.r (.lst true (d.map .int)),.c (.int c,st),.i (.int d[c.toNat])] ⟨f,i,h,(show(a==0)=false by simpa using h1),f,r,g,rfl⟩,e.1,e.2⟩
end
theorem get0{a b:Cell}{R:Store}:(R++[a,b])[R.length]?=some a:=qxo
theorem get1{a b:Cell}{R:Store}:(R++[a,b])[R.length+1]?=some b:=by
 rw[Qqi (by lia),show R.length+1 - R.length=1 by lia]
 rfl
theorem set0{a b c:Cell}{R:Store}:(R++[a,b]).set R.length c=R++[c,b]:=qvw
theorem set1{a b c:Cell}{R:Store}:(R++[a,b]).set (R.length+1) c=R++[a,c]:=by
 rw[Qx4 (h:=by lia),show R.length+1 - R.length=1 by lia]
 rfl
theorem qqf{k:Nat}{τ:Sl}{st:Store}{s:M.S}{r:Out×Store}(n:Nat)(g:List Nat)(d:Nat)(c:Out×Store)(P:Prop->Prop)(t:Tp)(b:P (c=r))(h:qjj n (runT n (RL (callD fns (k+d))) (qj6 fns n g k d) 40) τ st s t (λa _=>a=r)=P (c=r):=by kernel_rfl):stepEx (RL (callD fns (k+d))) τ st s=some r:=by
 rw[<- h]at b;obtain⟨a,i,e,rfl⟩:=qjq (qxm (λf ds st=>qq5 d f ds st) 40) τ st s t _ b;exact e
section
variable {ns:List Int}(hn:ns.length<=63){W H:Int}{P:Nat}{st:Store}
noncomputable abbrev plT(ns:List Int)(W H:Int)(P Lq:Nat)(x4 x5 x6 x7 x8:Option D):Sl:=[some (scr ns),some (szD W H P),some (.loc Lq),some (.loc (Lq+1)),x4,x5,x6,x7,x8]
noncomputable abbrev plS(st:Store)(pl:List (Int×D))(xs:List Int):Store:=st++[.lst true (pl.map pD),.lst true (xs.map .int)]
noncomputable abbrev plI:M.S:=.ite (.and (.cmp .Gt (.idx (.var 1) (.lit (.int 2))) (.lit (.int 0))) (.and (.cmp .Gt (.bcall .len [.var 3]) (.lit (.int 1))) (.cmp .Eq (.call 29 [.var 0,.bin .Add (.lit (.int 1)) (.var 4),.lit (.int 0),.lit (.int 2)]) (.lit (.int 0))))) [.set (.var 7) (.bin .Add (.lit (.int 1)) (.call 29 [.var 0,.bin .Add (.lit (.int 1)) (.var 4),.lit (.int 5),.idx (.var 1) (.lit (.int 2))])),.set (.var 8) (.gc (.lst [.call 34 [.var 0,.bin .Add (.lit (.int 1)) (.var 4),.lit (.int 1),.var 3],.call 34 [.var 0,.bin .Add (.lit (.int 1)) (.var 4),.lit (.int 3),.var 3]])),.set (.var 6) (.tup [.lit (sO "join"),.idx (.var 8) (.lit (.int 0)),.idx (.var 8) (.lit (.int 1)),.var 7])] [.expr (.meth (.var 3) .append [.var 5])]
include hn in
theorem qly(m:Nat){pl:List (Int×D)}{c:List Int}{i day:Int}{f:D}{x7 x8:Option D}(w:DF W H P f)(hd:1<=day)(t:day<=400)(r:∀x∈c,1<=x/\x<=400)(Q:c.length<1000):∃p d n l,stepEx (RL (callD fns (m+2))) (plT ns W H P st.length (some (.int i)) (some (.int day)) (some f) x7 x8) (plS st pl c) plI=some (.nx (plT ns W H P st.length (some (.int i)) (some (.int day)) (some p) n l),plS st pl d)/\DF W H P p/\(∀x∈d,1<=x/\x<=400)/\d.length<=c.length+1:=by
 have k:(plS st pl c)[st.length+1]?=some (.lst true (c.map .int)):=get1;have j:decide ((c.map D.int).length<lim)=true:=Z0 (by rw[Qqj]; unfold lim; lia);have es:plS st pl (c++[day])=(plS st pl c).set (st.length+1) (.lst true (c.map .int++[.int day])):=by
  unfold plS;rw[set1,Qq5]
  rfl
 have o:stepEx (RL (callD fns (m+2))) (plT ns W H P st.length (some (.int i)) (some (.int day)) (some f) x7 x8) (plS st pl c) plI=some (.nx (plT ns W H P st.length (some (.int i)) (some (.int day)) (some f) x7 x8),plS st pl (c++[day]))->∃p d n l,stepEx (RL (callD fns (m+2))) (plT ns W H P st.length (some (.int i)) (some (.int day)) (some f) x7 x8) (plS st pl c) plI=some (.nx (plT ns W H P st.length (some (.int i)) (some (.int day)) (some p) n l),plS st pl d)/\DF W H P p/\(∀x∈d,1<=x/\x<=400)/\d.length<=c.length+1:=λe=>⟨f,c++[day],x7,x8,e,w,λx h=>by
   rcases Qq8.mp h with h|h
   ·exact r x h
   ·cases Qqs.mp h; exact⟨hd,t⟩,by simp⟩
 cases c1:decide ((0:Int)<P) with
 |false=>
  refine o ?_;rw[es];exact qqf 0 [] 2 (.nx (plT ns W H P st.length (some (.int i)) (some (.int day)) (some f) x7 x8),(plS st pl c).set (st.length+1) (.lst true (c.map .int++[.int day]))) (λq=>_/\_/\_/\_/\q) [.b false,.r (.lst true (c.map .int)),.r (.lst true (c.map .int)),.b true] ⟨c1,k,k,j,rfl⟩
 |true=>
  cases c2:decide ((1:Int)<((c.map D.int).length:Nat)) with
  |false=>
   refine o ?_;rw[es];exact qqf 0 [] 2 (.nx (plT ns W H P st.length (some (.int i)) (some (.int day)) (some f) x7 x8),(plS st pl c).set (st.length+1) (.lst true (c.map .int++[.int day]))) (λq=>_/\_/\_/\_/\_/\_/\q) [.b true,.r (.lst true (c.map .int)),.b false,.r (.lst true (c.map .int)),.r (.lst true (c.map .int)),.b true] ⟨c1,k,c2,k,k,j,rfl⟩
  |true=>
   obtain⟨v,u,I,G⟩:=dr hn (m+1) (plS st pl c) (1+i) 0 (many:=2) (by decide) (by decide) (by decide)
   cases c3:(v==0) with
   |false=>
    refine o ?_;rw[es];exact qqf 0 [29] 2 (.nx (plT ns W H P st.length (some (.int i)) (some (.int day)) (some f) x7 x8),(plS st pl c).set (st.length+1) (.lst true (c.map .int++[.int day]))) (λq=>_/\_/\_/\_/\_/\_/\_/\_/\q) [.b true,.r (.lst true (c.map .int)),.b true,.c (.int v,plS st pl c),.b false,.r (.lst true (c.map .int)),.r (.lst true (c.map .int)),.b true] ⟨c1,k,c2,u,c3,k,k,j,rfl⟩
   |true=>
    have y:=of_decide_eq_true c1;have s:=of_decide_eq_true c2;rw[Qqj]at s;obtain⟨g,C,N,K⟩:=dr hn (m+1) (plS st pl c) (1+i) 5 (many:=P) (by decide) (by decide) (by lia);obtain⟨a,A,F,E⟩:=qyt hn m (plS st pl c) (1+i) 1 (by decide) (by decide) k (by lia) r;obtain⟨b,z,b1,b2⟩:=qyt hn m (plS st pl c) (1+i) 3 (by decide) (by decide) k (by lia) r;refine⟨.tup [sO "join",.int a,.int b,.int (1+g)],c,some (.int (1+g)),some (.lst [.int a,.int b]),?_,.join a b (1+g) F E b1 b2 (by lia) (by lia),r,by lia⟩;exact qqf 0 [29,34] 2 (.nx (plT ns W H P st.length (some (.int i)) (some (.int day)) (some (.tup [sO "join",.int a,.int b,.int (1+g)])) (some (.int (1+g))) (some (.lst [.int a,.int b]))),plS st pl c) (λq=>_/\_/\_/\_/\_/\_/\_/\_/\_/\q) [.b true,.r (.lst true (c.map .int)),.b true,.c (.int v,plS st pl c),.b true,.c (.int g,plS st pl c),.c (.int a,plS st pl c),.c (.int b,plS st pl c),.l [.int a,.int b]] ⟨c1,k,c2,u,c3,C,A,z,qzp (st:=plS st pl c) (ds:=[.int a,.int b]) rfl,rfl⟩
end
structure Pl (W H:Int) (P:Nat) (pl:List (Int×D)) (k:Nat):Prop where
 len:pl.length=k
 df:∀p∈pl,DF W H P p.2/\1<=p.1/\p.1<=3*k
 pw:(pl.map (·.1)).Pairwise (· < ·)
section
variable {ns:List Int}(hn:ns.length<=63){W H:Int}{P:Nat}(w1:1<=W)(w2:W<=24)(h1:1<=H)(h2:H<=24)(hP:P<=12)
include hn w1 w2 h1 h2 hP
theorem qlw(m:Nat)(st:Store):∃d k xs,callD fns (m+4) 40 [scr ns,szD W H P] st=some (.loc st.length,plS st d xs)/\Pl W H P d k/\k<=8:=by
 obtain⟨c,X,c1,c2⟩:=dr hn (m+2) (plS st [] []) 0 20 (many:=7) (by decide) (by decide) (by decide);obtain⟨K,st',e,_,x4,x5,x6,w,r,d,xs,rfl,rfl,l,_,_⟩:=qq4 (c:=callD fns (m+3)) (τ:=plT ns W H P st.length none none none none none) (st:=plS st [] []) (it:=.rng1 (.bin .Add (.lit (.int 2)) (.call 29 [.var 0,.lit (.int 0),.lit (.int 20),.lit (.int 7)]))) (s:=.rng 0 (2+c).toNat) (ds:=(List.range (2+c).toNat).map λj:Nat=>D.int (0+j)) (t:=.var 4)
  (body:=[.set (.var 5) (.bin .Add (.bin .Add (.lit (.int 1)) (.bin .Mult (.lit (.int 3)) (.var 4))) (.call 29 [.var 0,.bin .Add (.lit (.int 1)) (.var 4),.lit (.int 30),.lit (.int 3)])),.set (.var 6) (.call 35 [.var 0,.bin .Add (.lit (.int 1)) (.var 4),.var 1]),plI,.expr (.meth (.var 2) .append [.tup [.var 5,.var 6]])])
  (λi τ S=>i<=(2+c).toNat/\∃x4 x5 x6 w r d xs,τ=plT ns W H P st.length x4 x5 x6 w r/\S=plS st d xs/\Pl W H P d i/\(∀x∈xs,1<=x/\x<=400)/\xs.length<=i)
  (by
   have G:(RL (callD fns (m+3))).ev (plT ns W H P st.length none none none none none) (plS st [] []) (.bin .Add (.lit (.int 2)) (.call 29 [.var 0,.lit (.int 0),.lit (.int 20),.lit (.int 7)]))=some (.int (2+c),plS st [] []):=qzf 0 [29] 3 (λq=>_/\q) [.c (.int c,plS st [] [])] ⟨X,rfl⟩;show((RL (callD fns (m+3))).ev _ _ _).bind _=_;rw[G];show(if big (2+c)=true then none else some (Src.rng 0 (2+c).toNat,_))=_
   rw[Z2 (by unfold big; simp; lia)])
  (by simp[Src.size]) (λi _ _ _=>qxu _ _ _) ⟨Qzc _,none,none,none,none,none,[],[],rfl,rfl,⟨rfl,(λ_ h=>nomatch h),.nil⟩,(λ_ h=>nomatch h),Qqw _⟩
  (λi τ S x I h=>by
   obtain⟨_,x4,x5,x6,w,r,d,xs,rfl,rfl,l,z,N⟩:=h;rw[Qqk]at I;obtain⟨j,E,rfl⟩:=Qqc.mp I;have hi:i<(2+c).toNat:=by
    have:=(Qqv.mp E).1;simpa using this
   rw[Qzu hi]at E;cases E;have e0:(0:Int)+(i:Int)=i:=by lia
   rw[e0];obtain⟨v,ev,v1,v2⟩:=dr hn (m+2) (plS st d xs) (1+(i:Int)) 30 (many:=3) (by decide) (by decide) (by decide);obtain⟨f,V,hf⟩:=qh8 hn m (plS st d xs) (1+(i:Int)) w1 w2 h1 h2 hP;obtain⟨n,g,u,o,U,F,A,Q⟩:=qly hn (st:=st) (m+1) (pl:=d) (i:=i) (day:=1+3*(i:Int)+v) (x7:=w) (x8:=r) hf (by lia) (by lia) z (by lia);have y:decide ((d.map pD).length<lim)=true:=Z0 (by rw[Qqj,l.len]; unfold lim; lia);have es:plS st (d++[(1+3*(i:Int)+v,n)]) g=(plS st d g).set st.length (.lst true (d.map pD++[pD (1+3*(i:Int)+v,n)])):=by
    unfold plS;rw[set0,Qq5]
    rfl
   refine⟨plT ns W H P st.length (some (.int i)) (some (.int (1+3*(i:Int)+v))) (some n) u o,plS st (d++[(1+3*(i:Int)+v,n)]) g,?_,by lia,_,_,_,_,_,d++[(1+3*(i:Int)+v,n)],g,rfl,rfl,⟨by simp[l.len],λp h=>?_,?_⟩,A,by lia⟩
   ·rw[es];exact qzg 0 [29,35] 3 (λq=>_/\_/\_/\_/\_/\_/\_/\q) [.b true,.c (.int v,plS st d xs),.c (f,plS st d xs),.t (.nx (plT ns W H P st.length (some (.int i)) (some (.int (1+3*(i:Int)+v))) (some n) u o),plS st d g),.r (.lst true (d.map pD)),.r (.lst true (d.map pD)),.b true] ⟨qqk (a:=3) (b:=(i:Int)) (by lia) (by lia),ev,V,U,(get0:(plS st d g)[st.length]?=some (.lst true (d.map pD))),(get0:(plS st d g)[st.length]?=some (.lst true (d.map pD))),y,rfl⟩
   ·rcases Qq8.mp h with h|h
    ·obtain⟨a,b,c⟩:=l.df p h;exact⟨a,b,by lia⟩
    ·cases Qqs.mp h;exact⟨F,by show 1<=1+3*(i:Int)+v; lia,by show 1+3*(i:Int)+v<=_; lia⟩
   ·rw[Qq5,Qjz];refine⟨l.pw,Qxs _ _,λa T b R=>?_⟩;cases Qqs.mp R;obtain⟨p,C,rfl⟩:=Qzb.mp T;have:=(l.df p C).2.2;show p.1<1+3*(i:Int)+v
    lia)
 rw[Qqj,Qx0]at l;refine⟨d,_,xs,?_,l,by lia⟩;have e3:(([some (scr ns),some (szD W H P),some (.loc st.length),some (.loc (st++[Cell.lst true []]).length),none,none,none,none,none],st++[.lst true []]++[.lst true []]):Sl×Store)=(plT ns W H P st.length none none none none none,plS st [] []):=by
  rw[Qq4,Qqn]
  rfl
 exact qzq 0 [] 4 (λq=>_/\_/\_/\_/\q) [.e ([some (scr ns),some (szD W H P),none,none,none,none,none,none,none],st),.e ([some (scr ns),some (szD W H P),some (.loc st.length),none,none,none,none,none,none],st++[.lst true []]),.e (plT ns W H P st.length none none none none none,plS st [] []),.s (.nx (plT ns W H P st.length x4 x5 x6 w r),plS st d xs)] ⟨(rfl:(([some (scr ns),some (szD W H P),none,none,none,none,none,none,none],st):Sl×Store)=_),(rfl:(([some (scr ns),some (szD W H P),some (.loc st.length),none,none,none,none,none,none],st++[.lst true []]):Sl×Store)=_),e3,e,rfl⟩
end
section
variable {ns:List Int}{W H d:Int}{P:Nat}{vs:List (Int×Vn)}{js:List (Int×P2)}{rest:Store}
theorem qas{l:Nat}{c:Cell}(h:15<=l):(BB W H P d vs js rest).set l c=BB W H P d vs js (rest.set (l - 15) c):=by
 obtain⟨k,rfl⟩:=Nat.exists_eq_add_of_le' h;rw[Nat.add_sub_cancel]
 rfl
noncomputable abbrev lwT(ns:List Int)(W H:Int)(P:Nat)(x4 x5 x6 x7:Option D):Sl:=[some (scr ns),some (szD W H P),some (.loc 0),some (.loc 8),x4,x5,x6,x7]
noncomputable abbrev lw4:M.S:=.expr (.meth (.idx (.var 7) (.lit (.int 0))) .append [.tup [.lit (.int 0),.lit (.int 0)]])
noncomputable abbrev lw5:M.S:=.six (.idx (.var 7) (.neg (.lit (.int 1)))) (.lit (.int 0)) (.lit .non)
noncomputable abbrev lw6:M.S:=.expr (.meth (.var 7) .append [.lst []])
theorem spoil(m:Nat){x:D}{rs:List Rw0}{x4 x5 x6:Option D}(h:Rows 15 (BB W H P d vs js rest) x rs)(n:0<rs.length)(R:∀r∈rs,0<r.length/\r.length<1000)(hl:rs.length<1000):
  ∃K b f,stepEx (RL (callD fns m)) (lwT ns W H P x4 x5 x6 (some x)) (BB W H P d vs js rest) lw4=some (.nx (lwT ns W H P x4 x5 x6 (some x)),BB W H P d vs js K)/\stepEx (RL (callD fns m)) (lwT ns W H P x4 x5 x6 (some x)) (BB W H P d vs js K) lw5=some (.nx (lwT ns W H P x4 x5 x6 (some x)),BB W H P d vs js b)/\stepEx (RL (callD fns m)) (lwT ns W H P x4 x5 x6 (some x)) (BB W H P d vs js b) lw6=some (.nx (lwT ns W H P x4 x5 x6 (some x)),BB W H P d vs js f):=by
 obtain⟨l,zs,rfl,v,E,rfl,k⟩:=h.ex;rw[Qqj]at n hl;have ne:∀z∈zs,z.1≠l:=λz y e=>by
  have:=(k z y).2;rw[e,E]at this;have:=congrArg (λo:Option Cell=>match o with|some (.lst _ ds)=>ds.head?|_=>none) this;have A:=Qqx n;have h1:(zs.map λz=>D.loc z.1).head?=some (.loc zs[0].1):=by rw[List.head?_map,List.head?_eq_getElem?,A]; rfl
  have h2:(z.2.map cO).head?=z.2.head?.map cO:=List.head?_map ..;have this:(zs.map λz=>D.loc z.1).head?=(z.2.map cO).head?:=this;rw[h1,h2]at this
  cases S:z.2.head? with
  |none=>rw[S]at this; cases this
  |some q=>rw[S]at this; cases q<;>cases this
 have p:zs[0]∈zs:=Qxm n;have a0:=R _ (Qxy p);obtain⟨t,u⟩:=k _ p;have i0:idxD (BB W H P d vs js rest) (.loc l) (.int 0)=some (.loc zs[0].1):=by
  show(seqAt _ (.loc l)).bind _=_;rw[qqh E];exact qat (i:=0) (by rw[Qqk,Qqx n]; rfl)
 have g:decide ((zs[0].2.map cO).length<lim)=true:=Z0 (by rw[Qqj]; unfold lim; lia);have I:stepEx (RL (callD fns m)) (lwT ns W H P x4 x5 x6 (some (.loc l))) (BB W H P d vs js rest) lw4=some (.nx (lwT ns W H P x4 x5 x6 (some (.loc l))),(BB W H P d vs js rest).set zs[0].1 (.lst true (zs[0].2.map cO++[cD (0,0)]))):=qqf 0 [] 0 (.nx (lwT ns W H P x4 x5 x6 (some (.loc l))),(BB W H P d vs js rest).set zs[0].1 (.lst true (zs[0].2.map cO++[cD (0,0)]))) (λq=>_/\_/\_/\_/\q) [.i (.loc zs[0].1),.r (.lst true (zs[0].2.map cO)),.r (.lst true (zs[0].2.map cO)),.b true] ⟨i0,u,u,g,rfl⟩;have c:((BB W H P d vs js rest).set zs[0].1 (.lst true (zs[0].2.map cO++[cD (0,0)])))[l]?=some (.lst true (zs.map λz=>.loc z.1)):=by
  rw[Qzz (ne _ p)];exact E
 have a:zs[zs.length - 1]∈zs:=Qxm (by lia);obtain⟨Lq,T,a2,a1⟩:∃Lq,((BB W H P d vs js rest).set zs[0].1 (.lst true (zs[0].2.map cO++[cD (0,0)])))[zs[zs.length - 1].1]?=some (.lst true Lq)/\0<Lq.length/\Lq.length<100000:=by
  by_cases e:zs[0].1=zs[zs.length - 1].1
  ·refine⟨_,by rw[e,Qzj]; rw[<- e]; exact(Qqv.mp u).1,by simp,by simp; lia⟩
  ·have C:=R _ (Qxy a);exact⟨_,by rw[Qzz e]; exact(k _ a).2,by rw[Qqj]; exact C.1,by rw[Qqj]; lia⟩
 have Q:idxD ((BB W H P d vs js rest).set zs[0].1 (.lst true (zs[0].2.map cO++[cD (0,0)]))) (.loc l) (.int (-1))=some (.loc zs[zs.length - 1].1):=by
  show(seqAt _ (.loc l)).bind _=_;rw[qqh c];show atI _ (-1)=_;unfold atI ixN;rw[Z2 (by decide),Z3 (by simp; lia)];have:((-1:Int)+((zs.map λz=>D.loc z.1).length:Nat)).toNat=zs.length - 1:=by simp; lia
  rw[oBs,this,Qqk,Qqx (by lia)]
  rfl
 rw[qas t]at I c T Q;have G:stepEx (RL (callD fns m)) (lwT ns W H P x4 x5 x6 (some (.loc l))) (BB W H P d vs js (rest.set (zs[0].1 - 15) (.lst true (zs[0].2.map cO++[cD (0,0)])))) lw5=some (.nx (lwT ns W H P x4 x5 x6 (some (.loc l))),(BB W H P d vs js (rest.set (zs[0].1 - 15) (.lst true (zs[0].2.map cO++[cD (0,0)])))).set zs[zs.length - 1].1 (.lst true (Lq.set 0 .non))):=by
  generalize BB W H P d vs js (rest.set (zs[0].1 - 15) (.lst true (zs[0].2.map cO++[cD (0,0)])))=U at *;have v0:(RL (callD fns m)).ev (lwT ns W H P x4 x5 x6 (some (.loc l))) U (.idx (.var 7) (.neg (.lit (.int 1))))=some (.loc zs[zs.length - 1].1,U):=qzf 0 [] 0 (λq=>_/\q) [.i (.loc zs[zs.length - 1].1)] ⟨Q,rfl⟩;have X:(RL (callD fns m)).ev (lwT ns W H P x4 x5 x6 (some (.loc l))) U (.lit .non)=some (.non,U):=qq8 _ _ _ _ _ rfl;have V:(RL (callD fns m)).ev (lwT ns W H P x4 x5 x6 (some (.loc l))) U (.lit (.int 0))=some (.int 0,U):=qq8 _ _ _ _ _ rfl;show((RL (callD fns m)).ev _ _ (.lit .non)).bind _=_;rw[X];show((RL (callD fns m)).ev _ _ (.idx _ _)).bind _=_;rw[v0];show((RL (callD fns m)).ev _ _ (.lit (.int 0))).bind _=_;rw[V];show(sixD U (.loc _) (.int 0) .non).map _=_;have w:wlistAt U zs[zs.length - 1].1=some Lq:=by unfold wlistAt; rw[T]
  show((wlistAt U _).bind _).map _=_;rw[w];show((ixN Lq.length 0).map _).map _=_;have:ixN Lq.length 0=some 0:=by unfold ixN; rw[Z3 (by decide),Z3 (by lia)]; rfl
  rw[this]
  rfl
 have N:=(k _ a).1;rw[qas N]at G;have j:(BB W H P d vs js ((rest.set (zs[0].1 - 15) (.lst true (zs[0].2.map cO++[cD (0,0)]))).set (zs[zs.length - 1].1 - 15) (.lst true (Lq.set 0 .non))))[l]?=some (.lst true (zs.map λz=>.loc z.1)):=by
  rw[<- qas N,Qzz (ne _ a)];exact c
 have s:∃f,stepEx (RL (callD fns m)) (lwT ns W H P x4 x5 x6 (some (.loc l))) (BB W H P d vs js ((rest.set (zs[0].1 - 15) (.lst true (zs[0].2.map cO++[cD (0,0)]))).set (zs[zs.length - 1].1 - 15) (.lst true (Lq.set 0 .non)))) lw6=some (.nx (lwT ns W H P x4 x5 x6 (some (.loc l))),BB W H P d vs js f):=by
  generalize (rest.set (zs[0].1 - 15) (.lst true (zs[0].2.map cO++[cD (0,0)]))).set (zs[zs.length - 1].1 - 15) (.lst true (Lq.set 0 .non))=b at *;have hb:decide ((zs.map λz=>D.loc z.1).length<lim)=true:=Z0 (by rw[Qqj]; unfold lim; lia);have F:stepEx (RL (callD fns m)) (lwT ns W H P x4 x5 x6 (some (.loc l))) (BB W H P d vs js b) lw6=some (.nx (lwT ns W H P x4 x5 x6 (some (.loc l))),(BB W H P d vs js (b++[.lst true []])).set l (.lst true ((zs.map λz=>.loc z.1)++[.loc (BB W H P d vs js b).length]))):=qqf 0 [] 0 (.nx (lwT ns W H P x4 x5 x6 (some (.loc l))),(BB W H P d vs js (b++[.lst true []])).set l (.lst true ((zs.map λz=>.loc z.1)++[.loc (BB W H P d vs js b).length]))) (λq=>_/\_/\_/\q) [.r (.lst true (zs.map λz=>.loc z.1)),.r (.lst true (zs.map λz=>.loc z.1)),.b true] ⟨j,(at_app j:(BB W H P d vs js b++[.lst true []])[l]?=_),hb,rfl⟩;rw[qas v]at F;exact⟨_,F⟩
 obtain⟨f,s⟩:=s;exact⟨_,_,f,I,G,s⟩
end
theorem qdk{W H:Int}{P:Nat}{pl:List (Int×D)}{k:Nat}(h:Pl W H P pl k):noLocs (pl.map pD)=true:=qz4 λp a=>by
 unfold pD;rw[qqo];show(true&&(noLoc p.2&&true))=true;rw[(h.df p a).1.nl]
 rfl
section
variable {ns:List Int}{W H:Int}{P:Nat}
noncomputable abbrev lwA:List M.S:=[.ite (.not (.call 30 [.mcall 682 22 "enter" (.var 2) [.var 4,.var 5],.call 39 [.var 3,.var 4,.var 5]])) [.ret (.lit (.bl false))] []]
theorem loop1(m:Nat){pl:List (Int×D)}{k:Nat}(C:P<=12)(g:Pl W H P pl k)(N:k<=8)(A:src (RL (callD fns (m+7))) (lwT ns W H P none none none none) (BB W H P 0 [] [] []) (.gc (.call 40 [.var 0,.var 1]))=some (.lst (.lst (pl.map pD)),BB W H P 0 [] [] [])):
  ∃d vs js x4 x5,stepEx (RL (callD fns (m+7))) (lwT ns W H P none none none none) (BB W H P 0 [] [] []) (.forr (.tup [4,5]) (.gc (.call 40 [.var 0,.var 1])) lwA)=some (.nx (lwT ns W H P x4 x5 none none),BB W H P d vs js [])/\IV P d vs js 8/\d<=24:=by
 obtain⟨z,st',e,hi,d,vs,js,x4,x5,rfl,rfl,I,y,hd,_⟩:=qq4 (c:=callD fns (m+7)) (τ:=lwT ns W H P none none none none) (st:=BB W H P 0 [] [] []) (it:=.gc (.call 40 [.var 0,.var 1])) (s:=.lst (.lst (pl.map pD))) (ds:=pl.map pD) (t:=.tup [4,5]) (body:=lwA)
  (λi τ S=>i<=pl.length/\∃d vs js x4 x5,τ=lwT ns W H P x4 x5 none none/\S=BB W H P d vs js []/\IV P d vs js i/\0<=d/\d<=24/\∀(j:Nat) p,i<=j->pl[j]?=some p->d<p.1)
  A rfl (λi _ _ _=>rfl) ⟨Qzc _,0,[],[],none,none,rfl,rfl,⟨⟨(λ_ _ h=>nomatch h),(λ_ _ _ h=>nomatch h)⟩,(λ_ _ h=>nomatch h),(λ_ _ h=>nomatch h),Qqw _,Qqw _⟩,Int.le_refl _,by decide,λj p _ v=>by have:=(g.df p (Qqd v)).2.1; lia⟩
  (λi τ S x r h=>by
   obtain⟨_,d,vs,js,x4,x5,rfl,rfl,I,y,hd,o⟩:=h;rw[Qqk]at r;obtain⟨p,f,rfl⟩:=Qqc.mp r;have hi:=(Qqv.mp f).1;obtain⟨hf,K,p2⟩:=g.df p (Qqd f);have u:=g.len;obtain⟨w,a,b,F,E,G⟩:=hf.told (W:=W) (H:=H) m C I (by lia) y (o i p (Qqw _) f) (by lia);refine⟨lwT ns W H P (some (.int p.1)) (some p.2) none none,BB W H P p.1 a b [],?_,by lia,p.1,a,b,_,_,rfl,rfl,G,by lia,by lia,λj q v n=>?_⟩
   ·show(RL (callD fns (m+7))).ex (lwT ns W H P (some (.int p.1)) (some p.2) none none) (BB W H P d vs js []) lwA=_;exact qzg 15 [22,39,30] 7 (λq=>_/\_/\_/\q) [.c (sO w,fB W H P p.1 d a b vs js),.c (sO w,fB W H P p.1 p.1 a b a b),.c (.bl true,fB W H P p.1 p.1 a b a b)] ⟨F,E,same_str (m+6) (fB W H P p.1 p.1 a b a b) (Str.ofString w),rfl⟩
   ·have l:=(Qqv.mp n).1;have:=Qz3.mp g.pw i j (by simpa using hi) (by simpa using l) (by lia);rw[List.getElem_map,List.getElem_map]at this;rw[Qqx hi]at f;rw[Qqx l]at n;cases f;cases n
    exact this)
 have:=g.len;rw[Qqj]at I hi;exact⟨d,vs,js,x4,x5,e,⟨I.w,I.l16,I.le,by have:=I.lv; lia,by have:=I.lj; lia⟩,hd⟩
end
section
variable {ns:List Int}{W H d:Int}{P:Nat}{vs:List (Int×Vn)}{js:List (Int×P2)}{rest:Store}{x4 x5:Option D}
theorem unf_ok(m:Nat){v:Int}(h:vs.lookup v=none):callD fns (m+4) 42 [.loc 0,.int v] (BB W H P d vs js rest)=some (.bl true,BB W H P d vs js rest++[.lst true [.int v]]):=by
 have e:=qzh vnD v vs;rw[h]at e;exact qzq 15 [] 4 (λq=>_/\q) [.q none] ⟨e,rfl⟩
noncomputable abbrev lwU:List M.S:=[.ite (.and (.din true (.var 6) (.didx (.var 3) (.lit (sO "veins")))) (.not (.gc (.call 42 [.var 2,.var 6])))) [.ret (.lit (.bl false))] []]
theorem loop2(m:Nat):∃x6,stepEx (RL (callD fns (m+7))) (lwT ns W H P x4 x5 none none) (BB W H P d vs js rest) (.forr (.var 6) (.rng1 (.lit (.int 26))) lwU)=some (.nx (lwT ns W H P x4 x5 x6 none),BB W H P d vs js rest):=by
 obtain⟨f,st',e,x6,rfl,rfl⟩:=qq4 (c:=callD fns (m+7)) (τ:=lwT ns W H P x4 x5 none none) (st:=BB W H P d vs js rest) (it:=.rng1 (.lit (.int 26))) (s:=.rng 0 26) (ds:=(List.range 26).map λj:Nat=>D.int (0+j)) (t:=.var 6) (body:=lwU)
  (λi τ S=>∃x6,τ=lwT ns W H P x4 x5 x6 none/\S=BB W H P d vs js rest)
  (qkl (n:=26) (qq8 _ _ _ _ _ rfl) (by decide)) (by simp[Src.size]) (λi _ _ _=>qxu _ _ _) ⟨none,rfl,rfl⟩
  (λi τ S x b h=>by
   obtain⟨x6,rfl,rfl⟩:=h;rw[Qqk]at b;obtain⟨j,g,rfl⟩:=Qqc.mp b;refine⟨lwT ns W H P x4 x5 (some (.int (0+j))) none,BB W H P d vs js rest,?_,_,rfl,rfl⟩;show(RL (callD fns (m+7))).ex (lwT ns W H P x4 x5 (some (.int (0+j))) none) (BB W H P d vs js rest) lwU=_;have q:=qzh vnD (0+(j:Int)) vs
   cases e:vs.lookup (0+(j:Int)) with
   |some a=>
    rw[e]at q;exact qzg 15 [42] 7 (λq=>_/\q) [.k,.q (some (vnD a))] ⟨q,rfl⟩
   |none=>
    have u:=unf_ok (W:=W) (H:=H) (P:=P) (d:=d) (js:=js) (rest:=rest) (m+3) e;rw[e]at q
    exact qzg 15 [42] 7 (λq=>_/\_/\_/\q) [.k,.q none,.c (.bl true,BB W H P d vs js rest++[.lst true [.int (0+(j:Int))]]),.g] ⟨q,u,gB (BB W H P d vs js rest) (.lst true [.int (0+(j:Int))]),rfl⟩)
 exact⟨x6,e⟩
noncomputable abbrev lw2:M.S:=.ite (.not (.gc (.call 30 [.var 7,.gc (.call 41 [.var 3,.var 6])]))) [.ret (.lit (.bl false))] []
noncomputable abbrev lw3:M.S:=.ite (.not (.gc (.call 30 [.mcall 682 28 "joined" (.var 2) [.var 6],.dgt (.didx (.var 3) (.lit (sO "joins"))) (.var 6)]))) [.ret (.lit (.bl false))] []
noncomputable abbrev lw7:M.S:=.ite (.not (.gc (.call 30 [.call 6 [.var 2,.var 6],.gc (.call 41 [.var 3,.var 6])]))) [.ret (.lit (.bl false))] []
noncomputable abbrev lwV:List M.S:=[.set (.var 7) (.call 6 [.var 2,.var 6]),lw2,lw3,lw4,lw5,lw6,lw7]
theorem turn3(m:Nat)(I:IV P d vs js 8)(n:P<=12)(hd:d<=24){v:Int}{a:Vn}{x7:Option D}(b:vs.lookup v=some a):∃j c,(RL (callD fns (m+7))).ex (lwT ns W H P x4 x5 (some (.int v)) x7) (BB W H P d vs js rest) lwV=some (.nx (lwT ns W H P x4 x5 (some (.int v)) j),BB W H P d vs js c):=by
 have f:v<=30:=by have:=I.le v a b; lia
 obtain⟨X,x,e1,t⟩:=qkc (W:=W) (H:=H) (d:=d) (m+2) I.w n I.l16 b f rest;have k:=qyk (W:=W) (H:=H) I.w b;have S:=qjr (W:=W) (H:=H) I.w b;have U:=I.l16 v a b;have h1:=(I.w.ve v a b).2.2.1;have g:∀r∈crs W H vs js v,0<r.length/\r.length<1000:=λr g=>by
  obtain⟨i,hi,e⟩:=Qxk.mp g;have:=k i r (by rw[Qqx hi,e])
  lia
 have s:=λrest=>qi4 (W:=W) (H:=H) (d:=d) (rest:=rest) (m+5) I.w n I.l16 b f;have w:=λrest=>qzp (st:=BB W H P d vs js rest) (nlF (crs W H vs js v));have p:=λ{rest} {x} (h:Rows 15 (BB W H P d vs js rest) x (crs W H vs js v))=>qcm (m+3) h (by lia) (λr h=>(g r h).2);have R:=qzh joD v js;have jo:=qqs (W:=W) (H:=H) (P:=P) (d:=d) (js:=js) (rest:=rest++X) (m+6) b;have E:callD fns (m+7) 30 [((js.lookup v).map joD).getD .non,((js.lookup v).map joD).getD .non] (BB W H P d vs js (rest++X))=some (.bl true,BB W H P d vs js (rest++X)):=by
  cases js.lookup v with
  |none=>exact qyn (m+6) _
  |some q=>exact qvb (m+5) _ q.1 q.2
 obtain⟨Q,p2,p3,K,G,F⟩:=spoil (ns:=ns) (x4:=x4) (x5:=x5) (x6:=some (.int v)) (m+7) t (by lia) g (by lia);obtain⟨X',y,V,N⟩:=qkc (W:=W) (H:=H) (d:=d) (m+2) I.w n I.l16 b f p3;refine⟨some x,p3,?_⟩;generalize l:((js.lookup v).map joD).getD .non=jd at *;generalize T:(js.lookup v).map joD=u at *;have C:stepEx (RL (callD fns (m+7))) (lwT ns W H P x4 x5 (some (.int v)) (some x)) (BB W H P d vs js (rest++X)) lw2=some (.nx (lwT ns W H P x4 x5 (some (.int v)) (some x)),BB W H P d vs js (rest++X)):=
  qqf 15 [41,30] 7 (.nx (lwT ns W H P x4 x5 (some (.int v)) (some x)),BB W H P d vs js (rest++X)) (λq=>_/\_/\_/\_/\q) [.c (.loc (BB W H P d vs js (rest++X)).length,BB W H P d vs js (rest++X)++[.lst true ((crs W H vs js v).map fzR)]),.l ((crs W H vs js v).map fzR),.c (.bl true,BB W H P d vs js (rest++X)),.g] ⟨s (rest++X),w (rest++X),p t,gS (.bl true) (BB W H P d vs js (rest++X)) rfl,rfl⟩
 have A:stepEx (RL (callD fns (m+7))) (lwT ns W H P x4 x5 (some (.int v)) (some x)) (BB W H P d vs js (rest++X)) lw3=some (.nx (lwT ns W H P x4 x5 (some (.int v)) (some x)),BB W H P d vs js (rest++X)):=by
  subst l;exact qqf 15 [28,30] 7 (.nx (lwT ns W H P x4 x5 (some (.int v)) (some x)),BB W H P d vs js (rest++X)) (λq=>_/\_/\_/\_/\q) [.c (u.getD .non,BB W H P d vs js (rest++X)),.k,.q u,.c (.bl true,BB W H P d vs js (rest++X)),.g] ⟨jo,R,E,gS (.bl true) (BB W H P d vs js (rest++X)) rfl,rfl⟩
 have o:noLoc (.bl true)=true/\(BB W H P d vs js (p3++X')).take (BB W H P d vs js p3).length=BB W H P d vs js p3:=⟨rfl,by rw[<- qe7,Qxv]⟩
 have z:stepEx (RL (callD fns (m+7))) (lwT ns W H P x4 x5 (some (.int v)) (some x)) (BB W H P d vs js p3) lw7=some (.nx (lwT ns W H P x4 x5 (some (.int v)) (some x)),BB W H P d vs js p3):=
  qqf 15 [6,41,30] 7 (.nx (lwT ns W H P x4 x5 (some (.int v)) (some x)),BB W H P d vs js p3) (λq=>_/\_/\_/\_/\_/\q) [.c (y,BB W H P d vs js (p3++X')),.c (.loc (BB W H P d vs js (p3++X')).length,BB W H P d vs js (p3++X')++[.lst true ((crs W H vs js v).map fzR)]),.l ((crs W H vs js v).map fzR),.c (.bl true,BB W H P d vs js (p3++X')),.g] ⟨V,s (p3++X'),w (p3++X'),p N,o,rfl⟩
 exact qzg 15 [6] 7 (λq=>_/\_/\_/\_/\_/\_/\_/\q) [.c (x,BB W H P d vs js (rest++X)),.t (.nx (lwT ns W H P x4 x5 (some (.int v)) (some x)),BB W H P d vs js (rest++X)),.t (.nx (lwT ns W H P x4 x5 (some (.int v)) (some x)),BB W H P d vs js (rest++X)),.t (.nx (lwT ns W H P x4 x5 (some (.int v)) (some x)),BB W H P d vs js Q),.t (.nx (lwT ns W H P x4 x5 (some (.int v)) (some x)),BB W H P d vs js p2),.t (.nx (lwT ns W H P x4 x5 (some (.int v)) (some x)),BB W H P d vs js p3),.t (.nx (lwT ns W H P x4 x5 (some (.int v)) (some x)),BB W H P d vs js p3)] ⟨e1,C,A,K,G,F,z,rfl⟩
end
theorem qda{x y:Int}:∀{l:List Int},y∈insInt x l->y=x\/y∈l
 |[],h=>.inl (Qqs.mp h)
 |z::r,h=>by
  unfold insInt at h
  split at h
  ·exact Qqb.mp h
  ·rcases Qqb.mp h with h|h
   ·exact .inr (h▸Qql)
   ·exact(qda h).imp id (Qqf _)
theorem qy6{y:Int}:∀{l:List Int},y∈sortInt l->y∈l
 |x::r,h=>by
  unfold sortInt at h;rcases qda h with h|h
  ·exact h▸Qql
  ·exact Qqf _ (qy6 h)
section
variable {ns:List Int}{W H d:Int}{P:Nat}{vs:List (Int×Vn)}{js:List (Int×P2)}{x4 x5 x6:Option D}
theorem loop3(m:Nat)(I:IV P d vs js 8)(u:P<=12)(hd:d<=24):∃f b rest,stepEx (RL (callD fns (m+7))) (lwT ns W H P x4 x5 x6 none) (BB W H P d vs js []) (.forr (.var 6) (.gc (.bcall .sorted [.didx (.var 3) (.lit (sO "veins"))])) lwV)=some (.nx (lwT ns W H P x4 x5 f b),BB W H P d vs js rest):=by
 have k:bfun (BB W H P d vs js []) .sorted [.loc 12]=some (.loc (BB W H P d vs js []).length,BB W H P d vs js []++[.lst true ((sortInt (vs.map (·.1))).map .int)]):=by
  show(if 64<=(keysOf (dcD vnD vs)).length then none else asInts (keysOf (dcD vnD vs))).map _=_;have w:keysOf (dcD vnD vs)=(vs.map (·.1)).map .int:=by unfold keysOf dcD; rw[Qzq,Qzq]; rfl
  rw[w,qyy,Z2 (by have:=I.lv; simp; lia)]
  rfl
 have l:(RL (callD fns (m+7))).ev (lwT ns W H P x4 x5 x6 none) (BB W H P d vs js []) (.gc (.bcall .sorted [.didx (.var 3) (.lit (sO "veins"))]))=some (.lst ((sortInt (vs.map (·.1))).map .int),BB W H P d vs js []):=
  qzf 15 [] 7 (λq=>_/\_/\q) [.k,.c (.loc (BB W H P d vs js []).length,BB W H P d vs js []++[.lst true ((sortInt (vs.map (·.1))).map .int)]),.l ((sortInt (vs.map (·.1))).map .int)] ⟨k,qzp (st:=BB W H P d vs js []) (nlI (sortInt (vs.map (·.1)))),rfl⟩
 obtain⟨n,st',e,f,b,rest,rfl,rfl⟩:=qq4 (c:=callD fns (m+7)) (τ:=lwT ns W H P x4 x5 x6 none) (st:=BB W H P d vs js []) (it:=.gc (.bcall .sorted [.didx (.var 3) (.lit (sO "veins"))])) (s:=.lst (.lst ((sortInt (vs.map (·.1))).map .int))) (ds:=(sortInt (vs.map (·.1))).map .int) (t:=.var 6) (body:=lwV)
  (λi τ S=>∃x6 b rest,τ=lwT ns W H P x4 x5 x6 b/\S=BB W H P d vs js rest)
  (by
   show((RL (callD fns (m+7))).ev _ _ _).bind _=_;rw[l]
   rfl) rfl (λi _ _ _=>rfl) ⟨x6,none,[],rfl,rfl⟩
  (λi τ S x p h=>by
   obtain⟨x6,b,rest,rfl,rfl⟩:=h;obtain⟨v,j,rfl⟩:=Qzb.mp (Qqd p);obtain⟨a,r⟩:=qaq (qy6 j);obtain⟨o,g,e⟩:=turn3 (ns:=ns) (W:=W) (H:=H) (rest:=rest) (x4:=x4) (x5:=x5) (x7:=b) m I u hd r
   exact⟨_,_,e,_,_,_,rfl,rfl⟩)
 exact⟨f,b,rest,e⟩
theorem law_ok(m:Nat)(ns:List Int)(f:ns.length<=63):∃st',callD fns (m+8) 43 [.lst (ns.map D.int)] []=some (.bl true,st'):=by
 obtain⟨W,H,v,u,w1,w2,h1,h2,p0,h⟩:=qis f (m+5) [] 0;obtain⟨P,rfl⟩:=Int.eq_ofNat_of_zero_le p0;have hP:P<=12:=by lia
 have t:=qmd (m+4) w1 w2 h1 h2 p0 h;have s:=qgb (W:=W) (H:=H) (P:=P) (m+6);obtain⟨a,k,xs,r,e,i⟩:=qlw f w1 w2 h1 h2 hP (m+3) (BB W H P 0 [] [] []);have j:=qv6 (st:=BB W H P 0 [] [] []) (S:=plS (BB W H P 0 [] [] []) a xs) (l:=(BB W H P 0 [] [] []).length) (Qxv ..) get0 (Qqw _) (qdk e);have c:(RL (callD fns (m+7))).ev (lwT ns W H P none none none none) (BB W H P 0 [] [] []) (.gc (.call 40 [.var 0,.var 1]))=some (.lst (a.map pD),BB W H P 0 [] [] []):=
  qzf 15 [40] 7 (λq=>_/\_/\q) [.c (.loc (BB W H P 0 [] [] []).length,plS (BB W H P 0 [] [] []) a xs),.l (a.map pD)] ⟨r,j,rfl⟩
 obtain⟨d,vs,js,x4,x5,p,I,hd⟩:=loop1 (ns:=ns) (W:=W) (H:=H) m hP e i (by
  show((RL (callD fns (m+7))).ev _ _ _).bind _=_;rw[c]
  rfl)
 obtain⟨x6,o⟩:=loop2 (ns:=ns) (W:=W) (H:=H) (d:=d) (P:=P) (vs:=vs) (js:=js) (rest:=[]) (x4:=x4) (x5:=x5) m;obtain⟨b,g,rest,n⟩:=loop3 (ns:=ns) (W:=W) (H:=H) (x4:=x4) (x5:=x5) (x6:=x6) m I hP hd;exact⟨BB W H P d vs js rest,qzq 15 [31,21,36] 8 (λq=>_/\_/\_/\_/\_/\_/\q) [.c (szD W H P,[]),.c (.non,F0 W H P),.c (.loc 8,Bq W H P 0 0 [] [] [] [] []),.s (.nx (lwT ns W H P x4 x5 none none),BB W H P d vs js []),.s (.nx (lwT ns W H P x4 x5 x6 none),BB W H P d vs js []),.s (.nx (lwT ns W H P x4 x5 b g),BB W H P d vs js rest)] ⟨u,t,s,p,o,n,rfl⟩⟩
end
theorem bnd{α c:Type}{o:Option α}{f:α->Option c}{b:c}(h:o.bind f=some b):∃a,o=some a/\f a=some b:=by
 cases o with
 |none=>cases h
 |some a=>exact⟨a,rfl,h⟩
theorem mpd{α c:Type}{o:Option α}{f:α->c}{b:c}(h:o.map f=some b):∃a,o=some a/\f a=b:=by
 cases o with
 |none=>cases h
 |some a=>exact⟨a,rfl,Option.some.inj h⟩
theorem qwt{fs:List Fn}{n f:Nat}{e:E}{b:D}{st:Store}{r:D×Store}(d:fs[f]?=some ⟨1,1,[.ret e]⟩)(h:callD fs n f [b] st=some r):∃a k,n=a+1/\(runK (callD fs a) k).ev [some b] st e=some r:=by
 cases n with
 |zero=>cases h
 |succ n=>
  have h:stepCall fs (RL (callD fs n)) f [b] st=some r:=h;unfold stepCall at h;rw[d]at h;obtain⟨p,h1,h2⟩:=bnd (show((RL (callD fs n)).ex [some b] st [.ret e]).bind _=some r from h);obtain⟨k,c⟩:=lim1_is h1
  cases k with
  |zero=>cases c
  |succ k=>
   obtain⟨q,j,i⟩:=bnd (show(stepEx (runK (callD fs n) k) [some b] st (.ret e)).bind _=some p from c);obtain⟨u,g,rfl⟩:=mpd (show((runK (callD fs n) k).ev [some b] st e).map _=some q from j);cases i;cases h2;exact⟨n,k,rfl,g⟩
theorem qwb{c:CF}{k f:Nat}{b:D}{st:Store}{r:D×Store}(h:(runK c k).ev [some b] st (.call f [.var 0])=some r):c f [b] st=some r:=by
 cases k with
 |zero=>cases h
 |succ k=>
  obtain⟨p,h1,h2⟩:=bnd (show(evs ((runK c k).ev [some b]) [.var 0] st).bind (λp=>(runK c k).call f p.1 p.2)=some r from h)
  cases k with
  |zero=>cases h1
  |succ k=>
   cases (show some ([b],st)=some p from h1);exact h2
theorem eat{n:Nat}{b:D}{st:Store}{r:D×Store}(h:callD fns n 44 [b] st=some r):∃d,n=d+3/\r=(b,st):=by
 obtain⟨i,l,rfl,h1⟩:=qwt (e:=.call 45 [.var 0]) (by kernel_rfl) h;obtain⟨g,j,rfl,h2⟩:=qwt (e:=.call 46 [.var 0]) (by kernel_rfl) (qwb h1);obtain⟨c,f,rfl,a⟩:=qwt (e:=.var 0) (by kernel_rfl) (qwb h2)
 cases f with
 |zero=>cases a
 |succ k=>exact⟨c,rfl,(Option.some.inj a).symm⟩
theorem qhg{S X:Store}{C:Nat}{a:D}{fs:List (Str×D)}(h:objAt S C a=some fs):objAt (S++X) C a=some fs:=by
 cases a with
 |loc l=>
  unfold objAt at h ⊢;dsimp only at h ⊢
  cases e:S[l]? with
  |none=>rw[e]at h; cases h
  |some c=>rw[at_app e]; rw[e]at h; exact h
 |_=>cases h
theorem dc_app{S X:Store}{l:Nat}{kvs:List (D×D)}(h:dicAt S l=some kvs):dicAt (S++X) l=some kvs:=by
 unfold dicAt at h ⊢
 cases e:S[l]? with
 |none=>rw[e]at h; cases h
 |some c=>rw[at_app e]; rw[e]at h; exact h
noncomputable abbrev unG:E:=.din true (.var 1) (.attr 682 (.var 0) "found")
structure UnG (S:Store) (a b:D):Prop where
 ex:∃fs l kvs,objAt S 682 a=some fs/\fs.lookup ("found" : Str)=some (.loc l)/\dicAt S l=some kvs/\isKey b=true/\dget kvs b=none
theorem UnG.app{S X:Store}{a b:D}(h:UnG S a b):UnG (S++X) a b:=by
 obtain⟨fs,l,kvs,h1,h2,e,d,c⟩:=h.ex;exact⟨fs,l,kvs,qhg h1,h2,dc_app e,d,c⟩
theorem UnG.tst{c:CF}{S:Store}{a b:D}{τ:Sl}(h:UnG S a b):(runK c 5).tst (some a::some b::τ) S unG=some (true,S):=by
 obtain⟨fs,l,kvs,h1,h2,f,e,d⟩:=h.ex;have ea:(runK c 4).ev (some a::some b::τ) S (.attr 682 (.var 0) "found")=some (.loc l,S):=by
  show(objAt S 682 a).bind _=_;rw[h1];show(fs.lookup _).map _=_;rw[h2]
  rfl
 show((((runK c 4).ev (some a::some b::τ) S (.attr 682 (.var 0) "found")).bind _).bind _)=_;rw[ea];show(((dicAt S l).bind _).bind _)=_;rw[f];show((if isKey b=true then some (D.bl ((dget kvs b).isSome != true),S) else none).bind _)=_;rw[Z3 e,d]
 rfl
theorem un_inv{c:CF}{k:Nat}{S n:Store}{a b:D}{τ:Sl}(h:(runK c k).tst (some a::some b::τ) S unG=some (true,n)):n=S/\UnG S a b:=by
 cases k with
 |zero=>cases h
 |succ k=>
  obtain⟨p,h1,h2⟩:=bnd (show(dinR (runK c k) (some a::some b::τ) S true (.var 1) (.attr 682 (.var 0) "found")).bind _=some (true,n) from h)
  cases k with
  |zero=>cases h1
  |succ k=>
   obtain⟨q,C,r⟩:=bnd (show((runK c (k+1)).ev (some a::some b::τ) S (.attr 682 (.var 0) "found")).bind _=some p from h1);obtain⟨u,o,A⟩:=bnd (show((runK c k).ev (some a::some b::τ) S (.var 0)).bind _=some q from C)
   cases k with
   |zero=>cases o
   |succ k=>
    cases (show some (a,S)=some u from o);obtain⟨fs,w,v⟩:=bnd A;obtain⟨x,t,m⟩:=mpd v;subst m
    cases x with
    |loc l=>
     obtain⟨kvs,j,d⟩:=bnd r;have d:(if isKey b=true then some (D.bl ((dget kvs b).isSome != true),S) else none)=some p:=d
     by_cases g:isKey b=true
     ·rw[Z3 g]at d;cases d;obtain⟨z,i,e⟩:=mpd h2;cases i;have f:=congrArg Prod.fst e;have E:=congrArg Prod.snd e;have f:((dget kvs b).isSome != true)=true:=f;refine⟨E.symm,⟨fs,l,kvs,w,t,j,g,?_⟩⟩
      cases s:dget kvs b with
      |none=>rfl
      |some y=>rw[s]at f; cases f
     ·rw[Z2 g]at d;cases d
    |_=>cases r
noncomputable abbrev unP:List M.S:=[.set (.var 2) (.lit (sO ""))]
noncomputable abbrev unB:List M.S:=[.set (.var 2) (.call 6 [.var 0,.var 1])]
noncomputable abbrev unQ:List M.S:=[.ret (.cmp .Eq (.var 2) (.lit (sO "none")))]
noncomputable def okf(f:Nat):Bool:=f==6||f==5||f==28
theorem un_x{n:Nat}{S:Store}{a b:D}{fs:List (Str×D)}(h:UnG S a b)(e:objAt S 682 a=some fs)(f:(fs.lookup ("joined" : Str)).isSome=false):XC fns "NoVein" okf (n+3) 6 [a,b] S (S++[.lst true [b]]):=by
 have h2:UnG (S++[.lst true [b]]) a b:=h.app;have c:XC fns "NoVein" okf (n+1) 28 [a,b] (S++[.lst true [b]]) (S++[.lst true [b]]):=⟨rfl,⟨2,2,[.ite unG [.rais "NoVein"] [],.ret (.dgt (.attr 682 (.var 0) "joints") (.var 1))]⟩,by kernel_rfl,rfl,.iteT 5 h2.tst .rais⟩
 have d:XC fns "NoVein" okf (n+2) 5 [a,b] S (S++[.lst true [b]]):=⟨rfl,⟨2,4,[.set (.var 2) (.lst [.var 1]),.set (.var 3) (.mcall 682 28 "joined" (.var 0) [.var 1]),.whil (.cmp .IsNot (.var 3) (.lit .non)) [.expr (.meth (.var 2) .append [.idx (.var 3) (.lit (.int 0))]),.set (.var 3) (.mcall 682 28 "joined" (.var 0) [.idx (.var 3) (.lit (.int 0))])],.ret (.bcall .sorted [.var 2])]⟩,by kernel_rfl,rfl,
  .next (τ1:=[some a,some b,some (.loc S.length),none]) (st1:=S++[.lst true [b]]) 5 rfl (.set rfl (.mcall (o:=a) (st1:=S++[.lst true [b]]) (ds:=[b]) 5 rfl (qhg e) f rfl c))⟩
 exact⟨rfl,⟨2,2,[.ret (.didx (.call 4 [.var 0,.gc (.call 5 [.var 0,.var 1])]) (.var 1))]⟩,by kernel_rfl,rfl,.ret (.didx (.callA (pre:=[.var 0]) (post:=[]) (ds:=[a]) (st1:=S) 5 rfl (.gc (.call (ds:=[a,b]) (st1:=S) 5 rfl d))))⟩
theorem un_eq(n:Nat)(ds:List D)(S:Store)(d:D)(S':Store)(h:callD fns (n+1) 42 ds S=some (d,S')):ds.length=2/\MS.TryRun fns "NoVein" okf n unP unB unQ 2 "none" (ds.map some++List.replicate (3 - ds.length) none) S d S':=by
 have h:stepCall fns (RL (callD fns n)) 42 ds S=some (d,S'):=h;unfold stepCall at h;rw[show fns[42]?=some unF by kernel_rfl]at h
 have h:(if ds.length=2 then((RL (callD fns n)).ex (ds.map some++List.replicate (3 - ds.length) none) S unF.body).bind (λp=>match p.1 with
   |.rt d=>some (d,p.2)
   |.nx _=>some (.non,p.2)
   |_=>none) else none)=some (d,S'):=h
 by_cases g:ds.length=2
 ·rw[Z3 g]at h;refine⟨g,?_⟩;obtain⟨a,b,rfl⟩:∃a b,ds=[a,b]:=by
   cases ds with
   |nil=>cases g
   |cons a r=>
    cases r with
    |nil=>cases g
    |cons b r=>
     cases r with
     |nil=>exact⟨a,b,rfl⟩
     |cons c r=>cases g
  obtain⟨p,h1,h2⟩:=bnd h;obtain⟨k,x⟩:=lim1_is h1
  cases k with
  |zero=>cases x
  |succ k=>
   obtain⟨q,F,E⟩:=bnd (show(stepEx (runK (callD fns n) k) [some a,some b,none] S (.ite unG [.expr (.mcall 682 44 "joined" (.var 0) []),.set (.var 2) (.lst [.var 1]),.ret (.lit (.bl true))] [.bad])).bind _=some p from x);obtain⟨u,m,j⟩:=bnd (show((runK (callD fns n) k).tst [some a,some b,none] S unG).bind _=some q from F);obtain⟨bo,f⟩:=u
   cases bo with
   |false=>
    cases k with
    |zero=>cases m
    |succ k=>cases (show(none:Option (Out×Store))=some q from j)
   |true=>
    obtain⟨rfl,G⟩:=un_inv m
    cases k with
    |zero=>cases m
    |succ k=>
     have j:(stepEx (runK (callD fns n) k) [some a,some b,none] f (.expr (.mcall 682 44 "joined" (.var 0) []))).bind _=some q:=j;obtain⟨v,C,A⟩:=bnd j;obtain⟨w,z,t⟩:=mpd (show((runK (callD fns n) k).ev [some a,some b,none] f (.mcall 682 44 "joined" (.var 0) [])).map _=some v from C);subst t
     cases k with
     |zero=>cases z
     |succ k=>
      obtain⟨y,i,s⟩:=bnd (show((runK (callD fns n) k).ev [some a,some b,none] f (.var 0)).bind _=some w from z)
      cases k with
      |zero=>cases i
      |succ k=>
       cases (show some (a,f)=some y from i);obtain⟨fs,o,e⟩:=bnd s
       cases l:(fs.lookup ("joined" : Str)).isSome with
       |true=>
        have e:(if (fs.lookup ("joined" : Str)).isSome=true then none else _)=some w:=e;rw[l,Z3 rfl]at e;cases e
       |false=>
        have e:(if (fs.lookup ("joined" : Str)).isSome=true then none else(callD fns n 44 [a] f))=some w:=e;rw[l,Z2 Qqg]at e;obtain⟨H,rfl,rfl⟩:=eat e;cases (show some (Out.rt (.bl true),f++[.lst true [b]])=some q from A);cases E;cases h2;exact .by_ (k:=5) (τ1:=[some a,some b,some (sO "")]) (st1:=f) (st2:=f++[.lst true [b]]) rfl (.set rfl (.call (ds:=[a,b]) (st1:=f) 5 rfl (un_x G o l))) rfl
 ·rw[Z2 g]at h;cases h
open PySem PySem.Spec PyProof.Rows L2 MS
open M (D Cell Store Sl E S T Src Fn Out R)
noncomputable def tryB:Stmt->List Stmt
 |.Try b _ _ _ _=>b
 |_=>[]
noncomputable abbrev unC:MS.Ctx:=⟨locN (top 94),qzz (top 94),tab.map (·.2.2.1),glo⟩
noncomputable abbrev unT(ps:List Stmt):List M.S:=trSs (λ_=>0) (trE (λ_=>0) 30) unC 12 ps
theorem qiz(ps:List Stmt)(ss:List M.S)(h:unT ps=ss):CkSs unC ss ps:=h▸qx9 (qk9 30) 12 _
theorem un_ct:Ctch (tab.map (·.2.2.1)) glo (top 94) "NoVein" unP unB unQ 2 "none":=
 ⟨(qzl (top 94)).take 1,tryB ((qzl (top 94)).getD 1 (.Pass ⟨0,0,0,0⟩)),(qzl (top 94)).drop 2,"_law_told",0,[],⟨583,11,583,17⟩,⟨584,8,584,17⟩,⟨584,20,584,26⟩,⟨584,8,584,26⟩,⟨583,4,584,26⟩,⟨581,4,584,26⟩,by kernel_rfl,qiz _ _ (by kernel_rfl),qiz _ _ (by kernel_rfl),qiz _ _ (by kernel_rfl),by kernel_rfl,.inl (by kernel_rfl),by kernel_rfl⟩
theorem un_ar:(argN (top 94)).length=2:=by kernel_rfl
theorem un_lo:(locN (top 94)).length=3:=by kernel_rfl
theorem un_EQ(n:Nat)(ds:List D)(a:Store)(d:D)(st':Store)(h:M.callD fns (n+1) 42 ds a=some (d,st')):ds.length=(argN (top 94)).length/\TryRun fns "NoVein" okf n unP unB unQ 2 "none" (ds.map some++List.replicate ((locN (top 94)).length - ds.length) none) a d st':=by
 rw[un_ar,un_lo];exact un_eq n ds a d st' h
theorem un_F(f:Nat)(b:f<tab.length)(h:f≠42):fns[f]?=(fnsT (tab.map (·.2.2.1)) glo tab)[f]?:=by
 have a:(fnsT names glo tab).length=tab.length:=by unfold fnsT; rw[Qqj]
 show((fnsT names glo tab).set 42 unF++_)[f]?=_;rw[Qqp (by rw[Qz5,a]; exact b),Qzz (λe=>h e.symm)]
 rfl
end K12
end
namespace K12
open PySem PySem.Spec PyProof.Rows L2 MS
open M (D Cell Store Sl E S T Src Fn Out R)
theorem ar0{P:List Value->Prop}(h:P []):∀us:List Value,us.length=0->P us:=λus e=>by
 cases us with
 |nil=>exact h
 |cons a r=>cases e
theorem arS{n:Nat}{P:List Value->Prop}(h:∀a,∀us:List Value,us.length=n->P (a::us)):∀us:List Value,us.length=n+1->P us:=λus e=>by
 cases us with
 |nil=>cases e
 |cons a r=>exact h a r (Nat.succ.inj e)
theorem bs:∀r∈tab,Bd r:=by
 repeat' first|exact List.forall_mem_nil _|refine List.forall_mem_cons.mpr ⟨?_,?_⟩
 all_goals first|exact λ_ _ _ _ _ _=>arS λ_=>ar0 rfl|exact λ_ _ _ _ _ _=>arS λ_=>arS λ_=>ar0 rfl|exact λ_ _ _ _ _ _=>arS λ_=>arS λ_=>arS λ_=>ar0 rfl|exact λ_ _ _ _ _ _=>arS λ_=>arS λ_=>arS λ_=>arS λ_=>ar0 rfl|exact λ_ _ _ _ _ _=>arS λ_=>arS λ_=>arS λ_=>arS λ_=>arS λ_=>ar0 rfl
end K12
open PySem PySem.W PyProof.Rows
set_option maxRecDepth 100000 in
set_option maxHeartbeats 0 in
theorem PySem.Challenge.cw_dipright_k12_veins_that_join_holds : PySem.Challenge.rw_dipright_k12_veins_that_join.Holds := by
 w_on; o_law
 refine holds_open (XP:=XL (K12.vw PZW) []) (YP:=InK K12.KF) K12.left (InK.of (λ_=>by kernel_rfl)) InK.keeps (λs e=>xl_of s (Bool.and_eq_true_iff.mp e).1) XL.keeps (by rfl) (by rfl) (by rfl) (λs e=>recFacts_of (Bool.and_eq_true_iff.mp e).2) (by rfl) (by assumption) (by decide +kernel) ⟨rfl,rfl,rfl,rfl,rfl,by decide +kernel⟩ ?hw ?hc
 (case hw=>w_witness2)
 refine MS.walk_law (l:=RZW) (K:=K12.KH) (k:=2*20) (x:="_law_script") rfl rfl ⟨rfl,by decide,by decide⟩ (λw h Yq=>Yq) ?F
 case F=>
  intro w mg fa h KX G hmg
  k_fill
  refine MS.law_mkX (t:=K12.tab) (glo:=K12.glo) (fns:=K12.fns) (C:=80) (i:=43) (n:=19) KX G hmg rfl rfl rfl K12.bs (by decide +kernel) K12.un_F (by decide) rfl rfl K12.un_ct K12.un_EQ (K12.law_ok 12) ?_ ?_ ?_ ?_ ?_ ?_ (MS.bad_mk KX G ?ba ?bb rfl)
  all_goals repeat' first|exact List.forall_mem_nil _|refine List.forall_mem_cons.mpr ⟨?_,?_⟩|apply MS.RwK.fn|apply MS.RwK.me|apply MS.ClK.mk|apply MS.GlK.mk|apply MS.GdK.mk|exact MS.vNil|exact MS.eNil|apply MS.vCons|apply MS.eCons|apply MS.vTup
  all_goals try dsimp only
  all_goals first|exact MS.vInt|exact MS.vStr|k_is|rfl|k_exc

