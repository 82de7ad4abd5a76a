import PyProof.Rows.All
import Wide.All
import OpenK.AllK
import Wide.FinOn
import Lean
import PyProof.TableCode
import PyProof.EqAt
import PyProof.EqKinds
import PyProof.TupleCall
import PyProof.NeKinds
import PyProof.ZipIter
import PyProof.StrLoop
import PyProof.StrWalks
import PyProof.StrCalls
import PyProof.StrCalls2
import PyProof.StrLawsIn
import PyProof.SliceStr2
import PyProof.StrBlock
import PyProof.Rows.StrFirst
import KE.KIntText
import PyProof.StrLawsChain
import PyProof.StrLawsTight
import PyProof.CallStr
import PyProof.Rows.FStr
import PySem.SetTable
import PyProof.TupleKey
import PyProof.SetKind
import PyProof.IsRules
import PyProof.Rows.SetFrom
import PyProof.WalksMore
import PyProof.TupleIter
import KE.KSortTup
import KE.KTryMore
import PySem.Challenge.RW_dipright_k28_whole_age_never_turns
set_option Elab.async false
set_option backward.eqns.nonrecursive false
set_option genInjectivity false
set_option genSizeOf false
set_option linter.all false
set_option maxRecDepth 100000
set_option maxHeartbeats 4000000
open PySem renaming wpAny_bind->Qq,Shared->Qz,Expr->Qx,wpAny_pure->Qj,World->Qk,mainGlobals->Qv,Around->Qw,SetTable->Qy,bootBuiltins->Qa,wpAny_mono->Qb,wpAny_truthy_bool->Qc,compareOp->Qd,behindInMarks->Qf,wpAny_field->Qg,FuncData->Qh,NameKind->Qi,wpAny_seqItems->Ql,wpAny_callSpecial?_slot->Qm,wpAny_newObj_type->Qn,sysModules->Qo,Params->Qp,CmpOp->Qr,wpAny_call_entry->Qs,DictEntry->Qt,wpAny_setField_rec->Qu,call_meets->Q0,treeTable->Q1,sizeLine_eq->Q2,binaryOp->Q3,wpAny_holding->Q4,importedModules->Q5,assignEach->Q6,wpAny_setState_of->Q7,codeAny_mono->Q8,getItem->Q9,sliceBounds->Zq,Builtin->Zz,wpAny_passesOwn->Zx,wpAny_loadPart'->Zj,codeAny_builtin->Zk,wpAny_Call_Name_kw->Zv,tupleKind_room_in1->Zw,codeAny->Zy,wpAny_pyIter_list->Za,ofAClassStatement->Zb,Operator->Zd,letOwnedTupleGo->Zg,wpAny_rule->Zh,Keyword->Zi,callerA->Zl,getMethod->Zm,wpAny_onRaise->Zn,setSearchFrom->Zo
open PySem.W renaming boot_heap->Qe,behindTheImports->Zc
open PyProof.Rows renaming AllBare->Ze,IntsAre->Zf
section
universe u
theorem Zp{p:Prop}[Decidable p](h:p):decide p=true:=decide_eq_true h
theorem Zr{p:Prop}[Decidable p](h:¬p):decide p=false:=decide_eq_false h
theorem Zs{c:Prop}{h:Decidable c}(n:¬c){α:Sort u}{t e:α}:ite c t e=e:=if_neg n
theorem Zt{c:Prop}{h:Decidable c}(n:c){α:Sort u}{t e:α}:ite c t e=t:=if_pos n
end
open PySem.Challenge renaming pw_dipright_k28_whole_age_never_turns->PZW,rw_dipright_k28_whole_age_never_turns->RZW
open PySem.W renaming Frag->Qqq,mg_none_of->Qq0,nsIn->Qq7,keepIn->Qzy,mg_of->Qxs,methodCall_KW->Qx0,plainGet_of->Qjq,callWith_K->Qjx,cellsFrom_some->Qj1
open PySem.Heap renaming get?_push_of_some->Qqz,lt_size->Qqb,get?_push_size->Qqg,size_push->Qxz,get?_update_other->Qxp,get?_update_self->Qx2
open List renaming getElem?_eq_some_iff->Qqx,size_toArray->Qqj,mem_cons->Qqv,length_map->Qqw,mem_map->Qqy,mem_singleton->Qqa,map_cons->Qqd,length_cons->Qqe,getElem?_map->Qqf,mem_cons_of_mem->Qqh,mem_append->Qqi,mem_cons_self->Qql,getElem?_set_ne->Qqn,map_append->Qqp,getElem?_eq_getElem->Qqs,getElem?_append_left->Qqt,length_append->Qqu,mem_of_getElem?->Qq1,mem_append_right->Qq3,nodup_cons->Qq5,getElem?_set_self->Qq9,mem_append_left->Qzz,find?_cons->Qzx,lookup_cons->Qzj,all_eq_true->Qzk,not_mem_nil->Qzv,getElem?_eq_none_iff->Qzw,getElem?_append_right->Qza,length_take->Qzb,map_map->Qzc,mem_filter->Qzd,pairwise_cons->Qze,take_succ_eq_append_getElem->Qzf,replicate_succ->Qzl,append_nil->Qzm,length_set->Qzn,pairwise_append->Qzp,length_eq_zero_iff->Qzr,nodup_append->Qzs,getElem_of_mem->Qzu,map_congr_left->Qz0,filter_cons->Qz3,mem_range->Qz4,getElem?_eq_none->Qz5,length_filter_le->Qz6,flatten_cons->Qz7,any_cons->Qz9,filterMap_cons->Qxq,map_nil->Qxx,length_singleton->Qxj,all_cons->Qxv,length_pos_iff->Qxa,take_of_length_le->Qxc,take_length->Qxe,getElem?_range->Qxf,length_nil->Qxg,mem_filterMap->Qxi,filter_append->Qxl,getElem?_take->Qxm,length_drop->Qxt,any_eq_true->Qxu,length_replicate->Qx1,take_append_drop->Qx3,foldl_cons->Qx5,forIn_cons->Qx7,take_append_of_le_length->Qx9,filter_sublist->Qjz,filterMap_map->Qjj,set_cons_zero->Qjk,any_eq_false->Qjw,append_assoc->Qjy,pairwise_map->Qjb,ext_getElem?->Qje,pairwise_iff_getElem->Qjf,mem_of_find?_eq_some->Qjg,drop_eq_getElem_cons->Qjh,getElem_mem->Qjl,sublist_append_left->Qjp,length_filterMap_le->Qjr,getElem?_replicate->Qjs,getElem?_cons_succ->Qjt,of_mem_zip->Qj0,take_zero->Qj4,mapM_cons->Qj6
open Nat renaming le_refl->Qqk,lt_of_lt_of_le->Qq4,ne_of_lt->Qq6,le_trans->Qzg,lt_succ_self->Qzo,zero_le->Qz1,lt_or_ge->Qz2,lt_irrefl->Qz8,le_of_lt_succ->Qxy,le_succ->Qxb,ne_of_gt->Qxh,succ_pos->Qxn,lt_succ_of_lt->Qxo,le_of_lt->Qx4,mod_lt->Qx8,lt_trichotomy->Qjd,zero_lt_succ->Qji,zero_add->Qjm,le_add_right->Qjo
open Bool renaming and_eq_true->Qqc,false_eq_true->Qqm,false_ne_true->Qqo,or_eq_true->Qxk,true_and->Qxw,and_false->Qxd,not_true->Qxr,eq_iff_iff->Qx6,and_true->Qjv,not_false->Qj5,and_self->Qj7
open Option renaming map_eq_some_iff->Qqr,isSome_iff_exists->Qzq,isSome_map->Qja,bind_eq_some_iff->Qju
open Array renaming getElem?_toList->Qq2,getElem?_eq_getElem->Qq8,getElem?_eq_some_iff->Qzh,length_toList->Qzi,getD_eq_getD_getElem?->Qzt,size_append->Qjc,getElem?_replicate->Qjn,getElem?_extract->Qj2,getElem?_eq_none->Qj3
section
universe u v
theorem oBs{α:Type u}{j:Type v}(a:α)(f:α->Option j):(some a).bind f=f a:=rfl
theorem oMs{α:Type u}{j:Type v}(a:α)(f:α->j):(some a).map f=some (f a):=rfl
end
namespace L2
open PySem PySem.Spec PyProof.Rows
noncomputable def qzt(s:Stmt):Arguments:=match s with
 |.FunctionDef _ a _ _ _ _ _ _ _ _=>a
 |_=>{ posonlyargs:=[],args:=[],vararg:=none,kwonlyargs:=[],kw_defaults:=[],kwarg:=none,defaults:=[] }
end L2
namespace L2
open PySem PySem.Spec PyProof.Rows
noncomputable def qzm(s:Stmt):List Stmt:=match s with
 |.FunctionDef _ _ b _ _ _ _ _ _ _=>b
 |_=>[]
end L2
namespace L2
open PySem PySem.Spec PyProof.Rows
noncomputable def qzx(s:Stmt):Scope:=match s with
 |.FunctionDef _ _ _ _ _ _ sc _ _ _=>sc
 |_=>{ kind:=.function,names:=[],isGenerator:=false,isCoroutine:=false }
end L2
namespace K28
open PySem PySem.Spec PyProof.Rows
def top(i:Nat):Stmt:=PZW.main.body.getD i (.Pass ⟨0,0,0,0⟩)
end K28
namespace K28
open PySem PySem.Spec PyProof.Rows
def cb(s:Stmt)(j:Nat):Stmt:=match s with
 |.ClassDef _ _ _ b _ _ _ _ _ _ _=>b.getD j (.Pass ⟨0,0,0,0⟩)
 |_=>s
end K28
namespace HD
open PySem PySem.W PySem.Calls PyProof.Rows
def lf:Life:=PySem.Life.mk [] [] [] 0 [] [] Bool.false #[] [] 0 Bool.false Bool.false Bool.false 0 [2000,10,10] Bool.false 0 Bool.true [] [] 0 Bool.false
def sM:Str:=⟨#[60,109,111,100,117,108,101,62]⟩
def sF:Str:=⟨#[47,99,108,97,105,109,47,99,117,116,46,112,121]⟩
def sN:Str:=⟨#[95,95,109,97,105,110,95,95]⟩
def bt(l:List Obj):BT:=(l.foldl (λ(p:BT×Nat) o=>(p.1.ins p.2 o,p.2+1)) (.nil,0)).1
noncomputable def Ta(P:Qp):BT:=bt ((Qe P).objs.toList++[Obj.mk (.type "tuple") none (.seq #[]) #[],Obj.mk .none none (.fields #[]) #[],
 Obj.mk (.type "code") none (.fields #[.str sM 182,.str sM 183,.str sF 184,.int 1 0,.int 0 0,.int 0 0,.int 0 0,.int 0 0,.ref 11,.bool false,.int 181 0,.ref 12,.none,.none,.none,.none,.int 185 0,.int 1 0,.str sF 186]) #[],
 Obj.mk (.type "frame") none .plain #[some (.ref 13),some (.ref 3),some (.ref 3),none,some (.str sN 164),none,some (.ref 0)]])
noncomputable def Sa(w:Qk)(os:OsState):SharedT:=⟨Ta w.params,15,lf,#[],⟨0,0,0,0⟩,187,os⟩
abbrev an:Option Value:=some (.ref 6)
abbrev p0:Pos:=⟨0,0,0,0⟩
def ev(p:Program):Env:={ scope:=p.main.scope,locals:=mainNs,globals:=mainNs,cells:=[],code:=.ref 13,frame:=some 14 }
def cE(p:Program):Code:=.body (Zc p) (ev p)
noncomputable def Lk(p q:Program)(loose:List Str)(Xt:Program->Qz->Bool)(ads:List Addr)(w:Qk)(s:Qz):=((staticsOk (Q5 p.main.body) (Qe w.params) s.heap&&namesBound p s.heap&&gensDone s&&laidKept (Qe w.params) s.heap),openSeen q loose (Q5 p.main.body) (Xt q) true s,ads.map s.heap.get?)
end HD
namespace HD
open PySem PySem.W PySem.Calls PyProof.Rows
theorem fin_of{p:Program}{w:Qk}{s:Qz}{env:Env}{c:Code}{q:Pos}:topRun Q1 p w 11 an 2 s (restOf [] env c q [topFrame p0])=some s:=by
 cases s
 rfl
noncomputable abbrev Fs(p:Program)(w:Qk)(s:Qz):Bool:=staticsOk (Q5 p.main.body) (Qe w.params) s.heap&&namesBound p s.heap&&gensDone s&&laidKept (Qe w.params) s.heap
theorem qlr{p:Program}{w:Qk}{N:Nat}{os:OsState}{s:Qz}(z:((Qe w.params).isNs Qv&&(Array.mk []:Array GenState).size==0,(Qe w.params).objs.size,(Qe w.params).nsMap Qv "__annotations__")=(true,11,an))
  (r:topRun Q1 p w 11 an N ⟨Qe w.params,#[],boot_drawn,boot_toks,os⟩ (topStub p)=some s) (l:Fs p w s=true):topFrom Q1 p w N ⟨Qe w.params,#[],boot_drawn,boot_toks,os⟩=some s:=by
 have F:=congrArg (·.1) z;have q:=congrArg (·.2.1) z;have j:=congrArg (·.2.2) z;dsimp only at F q j;simp only[topFrom,F,q,j,r,oBs];show(match Fs p w s with|true=>some s|false=>none)=_;rw[l]
end HD
namespace HD
open PySem PySem.W PySem.Calls PyProof.Rows
noncomputable def Rn(p:Program)(n:Nat)(w:Qk)(os:OsState):=segRunT Q1 p w 11 an 1 n (Sa w os) (piecesOf (Zc p) (ev p) (cE p) p0 [topFrame p0])
noncomputable def LA(p q:Program)(ads:List Addr)(w:Qk)(s:Qz):=(staticsOk (Q5 p.main.body) (Qe w.params) s.heap&&namesBound p s.heap&&gensDone s&&laidKept (Qe w.params) s.heap,seen ((recsOf q).map (·.name)) (ownsOf q) [] { s with gens:=#[] },ads.map s.heap.get?)
noncomputable def LB(p q:Program)(loose:List Str)(Xt:Program->Qz->Bool)(s:Qz):Bool:=s.heap.keysOk (looseW q loose) ((recsOf q).map (·.name)) ((litsOf q).map (·.1)) ((clssOf q (looseW q loose)).map (·.name))&&s.heap.accountedOkI (Q5 p.main.body)&&s.heap.isNs Qv&&s.heap.isNs builtinsNs&&tablesOk q s.heap&&Xt q s&&s.gens.size==0
noncomputable def LD(q:Program)(loose:List Str)(s:Qz):=(s.heap.bltView,tabsOk q s,pinSeenD q (drecsOf q) s,clsSeenW q loose s)
noncomputable def LG(q:Program)(loose:List Str)(s:Qz):=(wideSeen q s,plainSeenD q loose s)
theorem lo3{p q:Program}{loose:List Str}{Xt:Program->Qz->Bool}{ads:List Addr}{K:Qp->Frag}{n N:Nat}{p1:Pos}
  (op:∀w:Qk,Option.map (λs:Qz=>(s.heap,s.gens,s.drawn,s.toks)) (fencedOpening Q1 p w N)=some (Qe w.params,#[],boot_drawn,boot_toks))
  (z:∀w:Qk,((Qe w.params).isNs Qv&&(Array.mk []:Array GenState).size==0,(Qe w.params).objs.size,(Qe w.params).nsMap Qv "__annotations__")=(true,11,an))
  (pre:∀w:Qk,(λos=>topGo Q1 p w 11 an 12 ⟨Qe w.params,#[],boot_drawn,boot_toks,os⟩ (topStub p))=λos=>some ((Sa w os).abs,⟨denote Q1 (cE p),cE p,p0,[topFrame p0]⟩))
  (blk:∀w:Qk,(λos=>segRun Q1 p w 11 an 1 1 (Sa w os).abs (blockOf (Zc p) (ev p) (cE p) p0 [topFrame p0]))=λos=>some (Flow.next,(Sa w os).abs,cE p,p0))
  (gA:∀w:Qk,(λos=>(Rn p n w os).map λr=>(r.1,r.2.2.1,r.2.2.2,LA p q ads w r.2.1.abs))=λ_=>some (Flow.next,cE p,p1,true,expectedOf q,(K w.params).map λp=>some p.2))
  (gB:∀w:Qk,(λos=>(Rn p n w os).map λr=>LB p q loose Xt r.2.1.abs)=λ_=>some true)
  (gC:∀w:Qk,(λos=>(Rn p n w os).map λr=>plainSeenE q (looseW q loose) r.2.1.abs)=λ_=>some (plainGoodE q (looseW q loose)))
  (gD:∀w:Qk,(λos=>(Rn p n w os).map λr=>LD q loose r.2.1.abs)=λ_=>some (bltViewBooted,true,pinGoodD (drecsOf q),clsGoodW q loose))
  (gE:∀w:Qk,(λos=>(Rn p n w os).map λr=>LG q loose r.2.1.abs)=λ_=>some (wideGood q,plainGoodD q loose))
  (le:Nat.ble (12+(1+(n+2))) N=true):LeftO p q loose (Xt q) (λs=>ads.map s.heap.get?) (λw=>(K w.params).map λp=>some p.2) N:=by
 intro w
 rcases Qqr.mp (op w) with⟨S,eS,J⟩
 rcases S with⟨H,g,d,t,os⟩
 have h1:H=Qe w.params:=congrArg (·.1) J;have h2:g=#[]:=congrArg (·.2.1) J;have h3:d=boot_drawn:=congrArg (·.2.2.1) J;have h4:t=boot_toks:=congrArg (·.2.2.2) J;subst h1 h2 h3 h4
 rcases Qqr.mp (congrFun (gA w) os) with⟨⟨f,L,c,M⟩,run,same⟩
 have F:∀{α:Type}{g:Flow×SharedT×Code×Pos->α}{v:α},(Rn p n w os).map g=some v->g (f,L,c,M)=v:=λe=>by rw[run]at e; exact Option.some.inj e
 have g1:f=Flow.next:=congrArg (·.1) same;have g2:c=cE p:=congrArg (·.2.1) same;have g3:M=p1:=congrArg (·.2.2.1) same;have Y:Fs p w L.abs=true:=congrArg (·.2.2.2.1) same;have Z:=congrArg (·.2.2.2.2.1) same;have O:=congrArg (·.2.2.2.2.2) same;have b:=F (congrFun (gB w) os);have c0:=F (congrFun (gC w) os);have d:=F (congrFun (gD w) os);have e:=F (congrFun (gE w) os);have U:openSeen q loose (Q5 p.main.body) (Xt q) true L.abs=openGood q loose:=Prod.ext Z (Prod.ext (congrArg (·.1) d) (Prod.ext b (Prod.ext (congrArg (·.2.1) d) (Prod.ext (congrArg (·.2.2.1) d) (Prod.ext c0 (Prod.ext (congrArg (·.2) e) (Prod.ext (congrArg (·.1) e) (congrArg (·.2.2.2) d))))))));subst g1 g2 g3;have j:=piece_app (rest:=[]) (segRun_of run) fin_of;rw[Qzm]at j;have all:=go_top (congrFun (pre w) os) (piece_block (congrFun (blk w) os) j);have more:=topRun_mono (N - (12+(1+(n+2)))) _ _ _ _ all;rw[Nat.add_sub_cancel' (Nat.le_of_ble_eq_true le)]at more;simp only[openEnds,eS,oBs,qlr (z w) more Y,oMs];exact congrArg some (Prod.ext U O)
end HD
namespace K28
open PySem L2
noncomputable def c0:List Str:=["_law_vein","_law_script","_law_k","_law_size_here","vein","_law_steps","_law_outs","_law_claim_fact","_law_way","_law_names","_law_claim","_law_pick"]
noncomputable def c1:List Str:=["_law_who_here","_law_who","_law_side","_law_draw","_law_line","min","work","sell","part","give","_law_fact","_law_plan_here"]
noncomputable def c2:List Str:=["_law_veins","_law_day","_law_fact_here",".0","stake","len","_law_floor","join","_law_rect","fast","_law_plan","_law_many"]
noncomputable def c3:List Str:=["_law_pace","_law_at","range","append","_law_kept_order","_law_old","_law_row","_law_name","law","_law_size","_law_term_here","_law_term"]
noncomputable def c4:List Str:=["_law_field","Field","_law_looks","_law_gone","pass_to","enter","standing","_law_since","claim","sorted","any","all"]
noncomputable def c5:List Str:=["_law_j","_law_wide","_law_tall","_law_x","_law_y","_law_deep","tuple","_law_count","_law_first","_law_stride","_law_found","_law_place"]
noncomputable def c6:List Str:=["__init__","self","wide","tall","deep","term","check_district","extent","year","day","found","joints"]
noncomputable def c7:List Str:=["staked","Claims","dug","debts","fact","check_day","sound","BadFact","not sound for this district","Late","the field's day isn't earlier","answer"]
noncomputable def c8:List Str:=["enter_vein","enter_join","enter_stake","dig","enter_dig","pay","enter_pay","change","vest_all","good","other","novein"]
noncomputable def c9:List Str:=["order","joined","outcrops","extend","who","spot","worth","owe","owner","COIN","gatekeeper","mouth"]
noncomputable def c10:List Str:=["over","debtor","creditor","tenths","the field's day is later","today","_wall","size","veins","list","claims","name"]
noncomputable def c11:List Str:=["NoVein","no vein is known by that day","get","named","ground","last","vested","given","state","years","entries","twin"]
noncomputable def c12:List Str:=["__name__","law_dipright_k28_whole_age_never_turns","_law_cell","_law_turn","_law_rest","_law_step","_law_one","_law_two","_law_sizes","DEPTHS","TERMS","fits"]
noncomputable def c13:List Str:=["LENGTHS","BadNumber","not the numbers of a district","DAYS","not a day","first_claim","ranks","title","field","heirs","cell","standing_grounds"]
noncomputable def c14:List Str:=["inside","dipright.field","covers","dipright.title","ground_of","ranked","grounds","heads","first","behind","has_one","dip"]
noncomputable def c15:List Str:=["columns_at","in_ground","OutOfGround","not a spot of the district","met","pairs","met_columns","column","dipright.reach","outcrop","pair","sound_vein"]
noncomputable def c16:List Str:=["ASKS","all_fit","numbers_agree","dipright.veins","MOVES","climbed","steps","x","y","step","reversed","joint"]
noncomputable def c17:List Str:=["enumerate","asked","values","known","bounds","value","kind","zip","is_cell","thing","isinstance","good_steps"]
noncomputable def c18:List Str:=["good_outcrops","MOST_COLUMNS","set","COINS","below","folk","side","line","floor","coins","FOLK","SIDES"]
noncomputable def c19:List Str:=["LINES","STEPS","bound","bool","int","through","days","counted","dipright.claims","Claim","piece","fallen"]
noncomputable def c20:List Str:=["unvested","stands","book","row","names","NoClaim","no claim is known by that day","vest","noclaim","ended","whole","pieces"]
noncomputable def c21:List Str:=["parted","nocut","insert","index","dipright.facts","rect","some","can_part","ahead","LEFT","TOP","LOW"]
noncomputable def c22:List Str:=["RIGHT","dipright.years","kept","DiprightError","dipright.ground","k","dipright.errors","ValueError","/claim/cut.py","__doc__","__package__","__loader__"]
noncomputable def c23:List Str:=["__spec__","__annotations__","__builtins__","__file__","__cached__","__main__","__module__","__firstlineno__","__static_attributes__","__weakref__","Claim.__init__","Claim.piece"]
noncomputable def c24:List Str:=["Claim.twin","Claim.state","__dict__","Claims.__init__","Claims.names","Claims.named","Claims.standing","Claims.stake","Claims.vest","Claims.vest_all","Claims.change","Claims.part"]
noncomputable def c25:List Str:=["Claims.twin","Field.__init__","Field.enter","Field.answer","Field.enter_vein","Field.enter_join","Field.enter_stake","Field.enter_dig","Field.enter_pay","Field.gatekeeper","Field.owe","Field.pass_to"]
noncomputable def c26:List Str:=["Field.today","Field.size","Field.term","Field.veins","Field.claims","Field.vein","Field.joined","Field.claim","Field.state","Field.years","Field.standing","Field.entries"]
noncomputable def c27:List Str:=["Field.twin"]
noncomputable def Al:List (List Str):=[c0,c1,c2,c3,c4,c5,c6,c7,c8,c9,c10,c11,c12,c13,c14,c15,c16,c17,c18,c19,c20,c21,c22,c23,c24,c25,c26,c27]
noncomputable def Af(i j:Nat):Str:=(Al.getD i []).getD j ⟨#[]⟩
noncomputable def b0:String:="dict"
noncomputable def b1:String:="__main__.__loader__#opaque"
noncomputable def b2:String:="tuple"
noncomputable def b3:String:="code"
noncomputable def b4:String:="function"
noncomputable def b5:String:="ValueError"
noncomputable def b6:String:="ValueError.__new__"
noncomputable def b7:String:="type"
noncomputable def b8:String:="Exception"
noncomputable def b9:String:="BaseException"
noncomputable def b10:String:="object"
noncomputable def b11:String:="ExceptionGroup.__weakref__"
noncomputable def b12:String:="getset_descriptor"
noncomputable def b13:String:="object.__new__"
noncomputable def b14:String:="function.__dict__"
noncomputable def b15:String:="function.__dict__#set"
lay_quick Af b0 b1 b2 b3 b4 b5 b6 b7 b8 b9 b10 b11 b12 b13 b14 b15
def Hy(a:Nat->Nat->Str)(i:Nat)(p:Prop):Nat->List Str->Prop
 |_,[]=>p
 |j,x::r=>x=a i j->Hy a i p (j+1) r
def Hz(a:Nat->Nat->Str)(p:Prop):Nat->List (List Str)->Prop
 |_,[]=>p
 |i,c::r=>Hy a i (Hz a p (i+1) r) 0 c
noncomputable def G(a:Nat->Nat->Str):Program:=by
 refine'(?f:(x:Program)->Hz a (PZW=x) 0 Al->Program) _ ?h
 (case f=>exact λx _=>x)
 (case h=>(repeat intro _); show PZW=_; delta PZW; conv=>lhs; simp only[*,Nat.reduceAdd])
noncomputable abbrev fnD(x y:Str)(s:Stmt):=FuncData.mk x y (qzt s) (.stmts (qzm s)) (qzx s)
noncomputable abbrev kh:=PyData.keyHash
noncomputable abbrev de(P:Qp)(x:Str)(k:Nat)(v:Value):=DictEntry.mk (kh P x) (.str x k) v
noncomputable abbrev oq(u:String)(x:Array Value):=Obj.mk (.type u) Option.none (.seq x) #[]
noncomputable abbrev zA(u:String)(a:Nat->Nat->Str)(i j v w k:Nat)(ln n:Int)(r p:Nat):=Obj.mk (.type u) Option.none (.fields #[.str (a i j) k,.str (a v w) (k+1),.str (a 22 8) (k+2),.int ln 0,.int n 0,.int 0 0,.int 0 0,.int 3 0,.ref r,.bool Bool.true,.int 181 0,.ref (r+1),.none,.ref (r+2),.ref (r+3),.ref (r+4),.int (.ofNat p) 0,.int ln 0,.str (a 22 8) (p+1)]) #[]
noncomputable abbrev zB(u:String)(a:Nat->Nat->Str)(i j v w k:Nat)(ln n:Int)(r p:Nat):=Obj.mk (.type u) Option.none (.fields #[.str (a i j) k,.str (a v w) (k+1),.str (a 22 8) (k+2),.int ln 0,.int n 0,.int 0 0,.int 0 0,.int 3 0,.ref r,.bool Bool.true,.int 181 0,.ref (r+1),.none,.none,.none,.ref (r+2),.int (.ofNat p) 0,.int ln 0,.str (a 22 8) (p+1)]) #[]
noncomputable abbrev zA2(u:String)(a:Nat->Nat->Str)(i j:Nat):=zA u a i j i j
noncomputable abbrev zB2(u:String)(a:Nat->Nat->Str)(i j:Nat):=zB u a i j i j
noncomputable abbrev zM(u:String)(a:Nat->Nat->Str)(i j v w:Nat)(s:Stmt)(x y k r:Nat):=Obj.mk (.type u) Option.none (.func (fnD (a i j) (a v w) s 3 [] .none .none .none (.str (a x y) k) Option.none (.ref r) .none 0)) #[]
noncomputable abbrev zF(u:String)(a:Nat->Nat->Str)(i j:Nat):=zM u a i j i j
noncomputable abbrev zR(P:Qp)(a:Nat->Nat->Str)(i j k r:Nat):=de P (a i j) k (.ref r)
noncomputable def KG(tp:Nat->Stmt)(a:Nat->Nat->Str)(u0 u1 u2 u3 u4 u5 u6 u7 u8 u9 u10 u11 u12 u13 u14 u15:String)(P:Qp):Qqq:=(nat_lit 3,Obj.mk (.type u0) Option.none (.dict #[de P (a 12 0) 165 (.str (a 12 1) 1082),de P (a 22 9) 166 .none,de P (a 22 10) 167 .none,de P (a 22 11) 168 (.builtin u1),de P (a 23 0) 169 .none,zR P a 23 1 170 6,zR P a 23 2 171 4,de P (a 23 3) 173 (.str (a 22 8) 172),de P (a 23 4) 174 .none,zR P a 10 6 193 21,zR P a 22 3 213 31,zR P a 13 1 229 44,zR P a 7 7 245 56,zR P a 7 9 261 68,zR P a 11 0 277 80,zR P a 20 5 293 92,zR P a 15 2 309 104,de P (a 21 9) 313 (.int 0 312),de P (a 21 10) 315 (.int 1 314),de P (a 22 0) 317 (.int 2 316),de P (a 21 11) 319 (.int 3 318),zR P a 14 0 327 113,zR P a 14 10 333 118,zR P a 21 7 342 125,zR P a 21 0 353 132,zR P a 15 1 361 139,zR P a 19 7 373 146,zR P a 19 5 381 153,zR P a 19 9 445 191,zR P a 7 1 558 273,zR P a 13 3 563 278,zR P a 18 10 566 279,zR P a 18 11 569 280,zR P a 19 0 572 281,zR P a 19 1 575 282,zR P a 18 3 578 283,de P (a 18 1) 580 (.int 16 579),zR P a 16 0 623 284,zR P a 17 4 630 299,zR P a 12 11 638 306,zR P a 16 1 644 311,zR P a 17 8 652 318,zR P a 17 11 660 325,zR P a 18 0 666 330,zR P a 15 11 674 337,zR P a 16 2 681 344,zR P a 7 6 689 351,zR P a 16 4 704 357,zR P a 16 5 716 364,zR P a 15 6 722 369,zR P a 15 0 728 374,zR P a 14 4 738 381,zR P a 15 9 746 388,zR P a 9 2 752 393,zR P a 14 2 760 400,zR P a 13 11 768 405,zR P a 14 5 781 412,zR P a 13 9 790 419,zR P a 13 5 797 426,zR P a 13 7 805 433,zR P a 9 8 814 440,zR P a 10 0 824 447,zR P a 13 0 829 448,zR P a 12 9 832 449,zR P a 12 10 835 450,de P (a 9 9) 837 (.int 10 836),zR P a 6 6 847 457,zR P a 7 5 854 464,zR P a 4 1 1081 642,zR P a 1 3 1099 653,zR P a 3 9 1111 660,zR P a 3 11 1120 667,zR P a 2 8 1133 674,zR P a 0 5 1139 679,zR P a 0 6 1155 686,zR P a 1 1 1164 693,zR P a 0 11 1174 700,zR P a 0 0 1183 707,zR P a 0 7 1198 714,zR P a 1 10 1204 719,zR P a 2 10 1218 726,zR P a 3 4 1224 731,zR P a 3 8 1230 736] 83) #[]) ::
(nat_lit 112,zA2 u3 a 14 0 320 24 2 107 325) ::
(nat_lit 113,zF u4 a 14 0 (tp 14) 22 4 310 112) ::
(nat_lit 117,zB2 u3 a 14 10 328 26 2 114 331) ::
(nat_lit 118,zF u4 a 14 10 (tp 15) 22 4 310 117) ::
(nat_lit 124,zA2 u3 a 21 7 334 28 3 119 340) ::
(nat_lit 125,zF u4 a 21 7 (tp 16) 22 4 310 124) ::
(nat_lit 131,zA2 u3 a 21 0 343 30 3 126 351) ::
(nat_lit 132,zF u4 a 21 0 (tp 17) 22 4 310 131) ::
(nat_lit 145,zA2 u3 a 19 7 364 43 2 140 371) ::
(nat_lit 146,zF u4 a 19 7 (tp 20) 22 1 362 145) ::
(nat_lit 152,zA2 u3 a 19 5 374 49 2 147 379) ::
(nat_lit 153,zF u4 a 19 5 (tp 21) 22 1 362 152) ::
(nat_lit 166,zA u3 a 6 0 23 10 396 54 5 161 404) ::
(nat_lit 167,zM u4 a 6 0 23 10 (cb (tp 23) 0) 19 8 382 166) ::
(nat_lit 173,zA u3 a 19 10 23 11 407 62 3 168 414) ::
(nat_lit 174,zM u4 a 19 10 23 11 (cb (tp 23) 1) 19 8 382 173) ::
(nat_lit 187,zA u3 a 11 8 24 1 424 70 2 182 429) ::
(nat_lit 188,zM u4 a 11 8 24 1 (cb (tp 23) 3) 19 8 382 187) ::
(nat_lit 190,Obj.mk (.type u0) Option.none (.dict #[de P (a 23 6) 391 (.str (a 19 8) 382),de P (a 23 7) 395 (.int 52 394),zR P a 6 0 406 167,zR P a 19 10 416 174,zR P a 11 11 423 181,zR P a 11 8 431 188,zR P a 23 8 438 189,zR P a 24 2 440 192,zR P a 23 9 442 193,de P (a 22 9) 443 .none] 4) #[]) ::
(nat_lit 191,Obj.mk (.type u7) Option.none (.cls (ClassData.mk (a 19 9) [.type u10] [.ref 191,.type u10] 190 (a 19 9) Bool.true [] [] Bool.false Option.none Bool.false)) #[Option.none,Option.none,Option.some (.str (a 19 9) 384),Option.some (.str (a 19 9) 392),Option.some (.builtin u13),Option.some (.bool Bool.true)]) ::
(nat_lit 208,zA u3 a 6 0 24 3 458 80 2 203 463) ::
(nat_lit 209,zM u4 a 6 0 24 3 (cb (tp 24) 0) 19 8 382 208) ::
(nat_lit 215,zA u3 a 20 4 24 4 466 85 1 210 470) ::
(nat_lit 216,zM u4 a 20 4 24 4 (cb (tp 24) 1) 19 8 382 215) ::
(nat_lit 222,zA u3 a 11 3 24 5 473 88 2 217 478) ::
(nat_lit 223,zM u4 a 11 3 24 5 (cb (tp 24) 2) 19 8 382 222) ::
(nat_lit 227,zB u3 a 4 6 24 6 481 93 2 224 484) ::
(nat_lit 228,zM u4 a 4 6 24 6 (cb (tp 24) 3) 19 8 382 227) ::
(nat_lit 234,zA u3 a 2 4 24 7 487 96 5 229 495) ::
(nat_lit 235,zM u4 a 2 4 24 7 (cb (tp 24) 4) 19 8 382 234) ::
(nat_lit 241,zA u3 a 20 7 24 8 498 100 4 236 506) ::
(nat_lit 242,zM u4 a 20 7 24 8 (cb (tp 24) 5) 19 8 382 241) ::
(nat_lit 248,zA u3 a 8 8 24 9 509 106 3 243 516) ::
(nat_lit 249,zM u4 a 8 8 24 9 (cb (tp 24) 6) 19 8 382 248) ::
(nat_lit 255,zA u3 a 8 7 24 10 519 110 3 250 527) ::
(nat_lit 256,zM u4 a 8 7 24 10 (cb (tp 24) 7) 19 8 382 255) ::
(nat_lit 262,zA u3 a 1 8 24 11 530 128 3 257 538) ::
(nat_lit 263,zM u4 a 1 8 24 11 (cb (tp 24) 8) 19 8 382 262) ::
(nat_lit 272,Obj.mk (.type u0) Option.none (.dict #[de P (a 23 6) 453 (.str (a 19 8) 382),de P (a 23 7) 457 (.int 78 456),zR P a 6 0 465 209,zR P a 20 4 472 216,zR P a 11 3 480 223,zR P a 4 6 486 228,zR P a 2 4 497 235,zR P a 20 7 508 242,zR P a 8 8 518 249,zR P a 8 7 529 256,zR P a 1 8 540 263,zR P a 11 11 547 270,zR P a 23 8 551 271,zR P a 24 2 553 274,zR P a 23 9 555 275,de P (a 22 9) 556 .none] 4) #[]) ::
(nat_lit 273,Obj.mk (.type u7) Option.none (.cls (ClassData.mk (a 7 1) [.type u10] [.ref 273,.type u10] 272 (a 7 1) Bool.true [] [] Bool.false Option.none Bool.false)) #[Option.none,Option.none,Option.some (.str (a 7 1) 446),Option.some (.str (a 7 1) 454),Option.some (.builtin u13),Option.some (.bool Bool.true)]) ::
(nat_lit 278,oq u2 #[.int 1 561,.int 400 562]) ::
(nat_lit 279,oq u2 #[.int 1 564,.int 40 565]) ::
(nat_lit 280,oq u2 #[.int 0 567,.int 1 568]) ::
(nat_lit 281,oq u2 #[.int 1 570,.int 23 571]) ::
(nat_lit 282,oq u2 #[.int 0 573,.int 4 574]) ::
(nat_lit 283,oq u2 #[.int 1 576,.int 1000000 577]) ::
(nat_lit 284,Obj.mk (.type u0) Option.none (.dict #[zR P a 2 7 581 285,zR P a 2 4 585 286,zR P a 1 6 591 287,zR P a 1 7 593 288,zR P a 1 8 596 289,zR P a 1 9 601 290,zR P a 8 3 603 291,zR P a 8 5 611 292] 8) #[]) ::
(nat_lit 285,oq u2 #[.str (a 6 9) 582,.str (a 6 9) 583,.str (a 18 4) 584]) ::
(nat_lit 286,oq u2 #[.str (a 18 5) 586,.str (a 16 7) 587,.str (a 16 8) 588,.str (a 16 7) 589,.str (a 16 8) 590]) ::
(nat_lit 287,oq u2 #[.str (a 6 9) 592]) ::
(nat_lit 288,oq u2 #[.str (a 6 9) 594,.str (a 18 5) 595]) ::
(nat_lit 289,oq u2 #[.str (a 6 9) 597,.str (a 18 6) 598,.str (a 18 7) 599,.str (a 18 5) 600]) ::
(nat_lit 290,oq u2 #[.str (a 6 9) 602]) ::
(nat_lit 291,oq u2 #[.str (a 18 5) 604,.str (a 16 7) 605,.str (a 16 8) 606,.str (a 16 7) 607,.str (a 16 8) 608,.str (a 18 8) 609,.str (a 18 9) 610]) ::
(nat_lit 292,oq u2 #[.str (a 18 5) 612,.str (a 18 5) 613,.str (a 18 9) 614]) ::
(nat_lit 298,zA2 u3 a 17 4 624 150 1 293 628) ::
(nat_lit 299,zF u4 a 17 4 (tp 34) 21 4 559 298) ::
(nat_lit 305,zA2 u3 a 12 11 631 152 2 300 636) ::
(nat_lit 306,zF u4 a 12 11 (tp 35) 21 4 559 305) ::
(nat_lit 310,zB2 u3 a 16 1 639 156 3 307 642) ::
(nat_lit 311,zF u4 a 16 1 (tp 36) 21 4 559 310) ::
(nat_lit 317,zA2 u3 a 17 8 645 161 2 312 650) ::
(nat_lit 318,zF u4 a 17 8 (tp 37) 21 4 559 317) ::
(nat_lit 324,zA2 u3 a 17 11 653 163 2 319 658) ::
(nat_lit 325,zF u4 a 17 11 (tp 38) 21 4 559 324) ::
(nat_lit 329,zB2 u3 a 18 0 661 165 2 326 664) ::
(nat_lit 330,zF u4 a 18 0 (tp 39) 21 4 559 329) ::
(nat_lit 336,zA2 u3 a 15 11 667 171 2 331 672) ::
(nat_lit 337,zF u4 a 15 11 (tp 40) 21 4 559 336) ::
(nat_lit 343,zA2 u3 a 16 2 675 173 1 338 679) ::
(nat_lit 344,zF u4 a 16 2 (tp 41) 21 4 559 343) ::
(nat_lit 350,zA2 u3 a 7 6 682 179 2 345 687) ::
(nat_lit 351,zF u4 a 7 6 (tp 42) 21 4 559 350) ::
(nat_lit 448,oq u2 #[.int 1 827,.int 24 828]) ::
(nat_lit 449,oq u2 #[.int 0 830,.int 12 831]) ::
(nat_lit 450,oq u2 #[.int 1 833,.int 400 834]) ::
(nat_lit 456,zA2 u3 a 6 6 838 253 4 451 845) ::
(nat_lit 457,zF u4 a 6 6 (tp 66) 14 1 825 456) ::
(nat_lit 463,zA2 u3 a 7 5 848 256 1 458 852) ::
(nat_lit 464,zF u4 a 7 5 (tp 67) 14 1 825 463) ::
(nat_lit 477,zA u3 a 6 0 25 1 867 261 5 472 875) ::
(nat_lit 478,zM u4 a 6 0 25 1 (cb (tp 68) 0) 14 1 825 477) ::
(nat_lit 484,zA u3 a 4 5 25 2 878 272 3 479 884) ::
(nat_lit 485,zM u4 a 4 5 25 2 (cb (tp 68) 1) 14 1 825 484) ::
(nat_lit 491,zA u3 a 7 11 25 3 887 281 2 486 892) ::
(nat_lit 492,zM u4 a 7 11 25 3 (cb (tp 68) 2) 14 1 825 491) ::
(nat_lit 498,zA u3 a 8 0 25 4 895 294 2 493 900) ::
(nat_lit 499,zM u4 a 8 0 25 4 (cb (tp 68) 3) 14 1 825 498) ::
(nat_lit 505,zA u3 a 8 1 25 5 903 299 2 500 910) ::
(nat_lit 506,zM u4 a 8 1 25 5 (cb (tp 68) 4) 14 1 825 505) ::
(nat_lit 512,zA u3 a 8 2 25 6 913 311 2 507 920) ::
(nat_lit 513,zM u4 a 8 2 25 6 (cb (tp 68) 5) 14 1 825 512) ::
(nat_lit 547,zA u3 a 4 4 25 11 961 341 2 542 966) ::
(nat_lit 548,zM u4 a 4 4 25 11 (cb (tp 68) 10) 14 1 825 547) ::
(nat_lit 603,zA u3 a 4 8 26 7 1020 372 2 598 1026) ::
(nat_lit 604,zM u4 a 4 8 26 7 (cb (tp 68) 18) 14 1 825 603) ::
(nat_lit 624,zA u3 a 4 6 26 10 1045 382 1 619 1049) ::
(nat_lit 625,zM u4 a 4 6 26 10 (cb (tp 68) 21) 14 1 825 624) ::
(nat_lit 641,Obj.mk (.type u0) Option.none (.dict #[de P (a 23 6) 862 (.str (a 14 1) 825),de P (a 23 7) 866 (.int 259 865),zR P a 6 0 877 478,zR P a 4 5 886 485,zR P a 7 11 894 492,zR P a 8 0 902 499,zR P a 8 1 912 506,zR P a 8 2 922 513,zR P a 8 4 933 520,zR P a 8 6 941 527,zR P a 9 10 950 534,zR P a 9 7 960 541,zR P a 4 4 968 548,zR P a 10 5 975 555,zR P a 10 7 982 562,zR P a 6 5 989 569,zR P a 10 8 996 576,zR P a 10 10 1003 583,zR P a 0 4 1011 590,zR P a 9 1 1019 597,zR P a 4 8 1028 604,zR P a 11 8 1036 611,zR P a 11 9 1044 618,zR P a 4 6 1051 625,zR P a 11 10 1058 632,zR P a 11 11 1065 639,zR P a 23 8 1074 640,zR P a 24 2 1076 643,zR P a 23 9 1078 644,de P (a 22 9) 1079 .none] 4) #[]) ::
(nat_lit 642,Obj.mk (.type u7) Option.none (.cls (ClassData.mk (a 4 1) [.type u10] [.ref 642,.type u10] 641 (a 4 1) Bool.true [] [] Bool.false Option.none Bool.false)) #[Option.none,Option.none,Option.some (.str (a 4 1) 855),Option.some (.str (a 4 1) 863),Option.some (.builtin u13),Option.some (.bool Bool.true)]) ::
(nat_lit 652,zA2 u3 a 1 3 1084 391 4 647 1097) ::
(nat_lit 653,zF u4 a 1 3 (tp 70) 12 1 1082 652) ::
(nat_lit 659,zA2 u3 a 3 9 1100 406 2 654 1109) ::
(nat_lit 660,zF u4 a 3 9 (tp 71) 12 1 1082 659) ::
(nat_lit 666,zA2 u3 a 3 11 1112 413 2 661 1118) ::
(nat_lit 667,zF u4 a 3 11 (tp 72) 12 1 1082 666) ::
(nat_lit 673,zA2 u3 a 2 8 1121 416 5 668 1131) ::
(nat_lit 674,zF u4 a 2 8 (tp 73) 12 1 1082 673) ::
(nat_lit 678,zB2 u3 a 0 5 1134 420 4 675 1137) ::
(nat_lit 679,zF u4 a 0 5 (tp 74) 12 1 1082 678) ::
(nat_lit 685,zA2 u3 a 0 6 1140 422 4 680 1153) ::
(nat_lit 686,zF u4 a 0 6 (tp 75) 12 1 1082 685) ::
(nat_lit 692,zA2 u3 a 1 1 1156 432 3 687 1162) ::
(nat_lit 693,zF u4 a 1 1 (tp 76) 12 1 1082 692) ::
(nat_lit 699,zA2 u3 a 0 11 1165 434 4 694 1172) ::
(nat_lit 700,zF u4 a 0 11 (tp 77) 12 1 1082 699) ::
(nat_lit 706,zA2 u3 a 0 0 1175 438 3 701 1181) ::
(nat_lit 707,zF u4 a 0 0 (tp 78) 12 1 1082 706) ::
(nat_lit 713,zA2 u3 a 0 7 1184 440 5 708 1196) ::
(nat_lit 714,zF u4 a 0 7 (tp 79) 12 1 1082 713) ::
(nat_lit 718,zB2 u3 a 1 10 1199 448 4 715 1202) ::
(nat_lit 719,zF u4 a 1 10 (tp 80) 12 1 1082 718) ::
(nat_lit 725,zA2 u3 a 2 10 1205 460 4 720 1216) ::
(nat_lit 726,zF u4 a 2 10 (tp 81) 12 1 1082 725) ::
(nat_lit 730,zB2 u3 a 3 4 1219 468 2 727 1222) ::
(nat_lit 731,zF u4 a 3 4 (tp 82) 12 1 1082 730) ::
(nat_lit 735,zB2 u3 a 3 8 1225 470 1 732 1228) ::
(nat_lit 736,zF u4 a 3 8 (tp 83) 12 1 1082 735)::[]
noncomputable def KF:Qp->Qqq:=KG top Af b0 b1 b2 b3 b4 b5 b6 b7 b8 b9 b10 b11 b12 b13 b14 b15
noncomputable def KH(P:Qp):Qqq:=by refine'(?f:(x:Qqq)->KF P=x->Qqq) _ ?h; (case f=>exact λx _=>x); (case h=>conv=>lhs; whnf)
end K28
namespace PySem.W.Fast
open PySem K28
noncomputable def tw4473878583141204237:Program:=G tw13917391995039310536
theorem te4473878583141204237:PZW=tw4473878583141204237:=Eq.trans (b:=G Af) (by kernel_rfl) (congrArg G te13917391995039310536)
noncomputable def qzu(i:Nat):Stmt:=tw4473878583141204237.main.body.getD i (.Pass ⟨0,0,0,0⟩)
theorem qqh:top=qzu:=funext λi=>congrArg (λp:Program=>p.main.body.getD i (.Pass ⟨0,0,0,0⟩)) te4473878583141204237
noncomputable def qqf:Qp->Frag:=KG qzu tw13917391995039310536 tw1077662539428764452 tw894787607338784463 tw1870468242675091260 tw6953048540801165144 tw6082614717749615702 tw7652526229576999551 tw5917389942848692570 tw14120500578582346235 tw1589237174467636271 tw11912751885439221578 tw3220226891164351538 tw10865353878410457686 tw17214067781118764711 tw3555099515653288264 tw10577532556923649970 tw4506829427201132365
theorem te15411182395397924144:KF=qqf:=congr (congr (congr (congr (congr (congr (congr (congr (congr (congr (congr (congr (congr (congr (congr (congr (congr (congrArg KG qqh) te13917391995039310536) te1077662539428764452) te894787607338784463) te1870468242675091260) te6953048540801165144) te6082614717749615702) te7652526229576999551) te5917389942848692570) te14120500578582346235) te1589237174467636271) te11912751885439221578) te3220226891164351538) te10865353878410457686) te17214067781118764711) te3555099515653288264) te10577532556923649970) te4506829427201132365
end PySem.W.Fast
namespace K28
open PySem PySem.W PySem.Calls PyProof.Rows HD
abbrev ads:List Addr:=[3,112,113,117,118,124,125,131,132,145,146,152,153,166,167,173,174,187,188,190,191,208,209,215,216,222,223,227,228,234,235,241,242,248,249,255,256,262,263,272,273,278,279,280,281,282,283,284,285,286,287,288,289,290,291,292,298,299,305,306,310,311,317,318,324,325,329,330,336,337,343,344,350,351,448,449,450,456,457,463,464,477,478,484,485,491,492,498,499,505,506,512,513,547,548,603,604,624,625,641,642,652,653,659,660,666,667,673,674,678,679,685,686,692,693,699,700,706,707,713,714,718,719,725,726,730,731,735,736]
abbrev loose:List Str:=["ASKS"]
def vw(p:Program):Program:=view p [0,2,3,4,5,6,7,8,10,11,12,13,14,15,16,17,18,20,21,23,24,26,27,28,29,30,31,32,33,34,35,36,37,38,39,40,41,42,44,45,46,47,49,50,51,52,54,55,56,57,58,59,60,62,63,64,65,66,67,68,70,71,72,73,74,75,76,77,78,79,80,81,82,83]
noncomputable def Xt(q:Program)(s:Qz):Bool:=xlAt q [] s&&recOk (RowW.records (OpenRow.toRowW (OpenLaw.row RZW))) s
theorem pre:∀w:Qk,(λos=>topGo Q1 PZW w 11 an 12 ⟨Qe w.params,#[],boot_drawn,boot_toks,os⟩ (topStub PZW))=λos=>some ((Sa w os).abs,⟨denote Q1 (cE PZW),cE PZW,p0,[topFrame p0]⟩):=by
 rw[Fast.te15667345088766844465,Fast.te14364793385576792824,Fast.te11892475500146522536,Fast.te4473878583141204237];exact λw=>by kernel_rfl
theorem blk:∀w:Qk,(λos=>segRun Q1 PZW w 11 an 1 1 (Sa w os).abs (blockOf (Zc PZW) (ev PZW) (cE PZW) p0 [topFrame p0]))=λos=>some (Flow.next,(Sa w os).abs,cE PZW,p0):=by
 rw[Fast.te14374325043358763698,Fast.te14364793385576792824,Fast.te4473878583141204237];exact λw=>by kernel_rfl
noncomputable def GA(w:Qk):Prop:=(λos=>(Rn PZW 5165 w os).map λr=>(r.1,r.2.2.1,r.2.2.2,LA PZW (vw PZW) ads w r.2.1.abs))=λ_=>some (Flow.next,cE PZW,⟨470,0,491,15⟩,true,expectedOf (vw PZW),(KF w.params).map λp=>some p.2)
theorem gAf:∀w:Qk,GA (w.withFollow "special-get-raises" false):=by
 unfold GA Rn LA;rw[Fast.te10110043849684766642,Fast.te14364793385576792824,Fast.te5923862056798008813,Fast.te4473878583141204237,Fast.te15411182395397924144];exact λw=>by kernel_rfl
theorem gAt:∀w:Qk,GA (w.withFollow "special-get-raises" true):=by
 unfold GA Rn LA;rw[Fast.te10110043849684766642,Fast.te14364793385576792824,Fast.te5923862056798008813,Fast.te4473878583141204237,Fast.te15411182395397924144];exact λw=>by kernel_rfl
noncomputable def GB(w:Qk):Prop:=(λos=>(Rn PZW 5165 w os).map λr=>LB PZW (vw PZW) loose Xt r.2.1.abs)=λ_=>some true
theorem gBf:∀w:Qk,GB (w.withFollow "special-get-raises" false):=by
 unfold GB Rn LB;rw[Fast.te10110043849684766642,Fast.te14364793385576792824,Fast.te5923862056798008813,Fast.te4473878583141204237];exact λw=>by kernel_rfl
theorem gBt:∀w:Qk,GB (w.withFollow "special-get-raises" true):=by
 unfold GB Rn LB;rw[Fast.te10110043849684766642,Fast.te14364793385576792824,Fast.te5923862056798008813,Fast.te4473878583141204237];exact λw=>by kernel_rfl
noncomputable def GC(w:Qk):Prop:=(λos=>(Rn PZW 5165 w os).map λr=>plainSeenE (vw PZW) (looseW (vw PZW) loose) r.2.1.abs)=λ_=>some (plainGoodE (vw PZW) (looseW (vw PZW) loose))
theorem gCf:∀w:Qk,GC (w.withFollow "special-get-raises" false):=by
 unfold GC Rn ;rw[Fast.te10110043849684766642,Fast.te14364793385576792824,Fast.te4473878583141204237];exact λw=>by kernel_rfl
theorem gCt:∀w:Qk,GC (w.withFollow "special-get-raises" true):=by
 unfold GC Rn ;rw[Fast.te10110043849684766642,Fast.te14364793385576792824,Fast.te4473878583141204237];exact λw=>by kernel_rfl
noncomputable def GD(w:Qk):Prop:=(λos=>(Rn PZW 5165 w os).map λr=>LD (vw PZW) loose r.2.1.abs)=λ_=>some (bltViewBooted,true,pinGoodD (drecsOf (vw PZW)),clsGoodW (vw PZW) loose)
theorem gDf:∀w:Qk,GD (w.withFollow "special-get-raises" false):=by
 unfold GD Rn LD;rw[Fast.te10110043849684766642,Fast.te14364793385576792824,Fast.te4473878583141204237];exact λw=>by kernel_rfl
theorem gDt:∀w:Qk,GD (w.withFollow "special-get-raises" true):=by
 unfold GD Rn LD;rw[Fast.te10110043849684766642,Fast.te14364793385576792824,Fast.te4473878583141204237];exact λw=>by kernel_rfl
noncomputable def GE(w:Qk):Prop:=(λos=>(Rn PZW 5165 w os).map λr=>LG (vw PZW) loose r.2.1.abs)=λ_=>some (wideGood (vw PZW),plainGoodD (vw PZW) loose)
theorem gEf:∀w:Qk,GE (w.withFollow "special-get-raises" false):=by
 unfold GE Rn LG;rw[Fast.te10110043849684766642,Fast.te14364793385576792824,Fast.te4473878583141204237];exact λw=>by kernel_rfl
theorem gEt:∀w:Qk,GE (w.withFollow "special-get-raises" true):=by
 unfold GE Rn LG;rw[Fast.te10110043849684766642,Fast.te14364793385576792824,Fast.te4473878583141204237];exact λw=>by kernel_rfl
theorem left:LeftO PZW (vw PZW) loose (Xt (vw PZW)) (λs=>ads.map s.heap.get?) (λw=>(KF w.params).map λp=>some p.2) 10454:=
 lo3 (boot_open (by kernel_rfl) (by decide) (λs=>by kernel_rfl)) (λw=>by kernel_rfl) pre blk (byRow2 "special-get-raises" gAf gAt) (byRow2 "special-get-raises" gBf gBt) (byRow2 "special-get-raises" gCf gCt) (byRow2 "special-get-raises" gDf gDt) (byRow2 "special-get-raises" gEf gEt) (by decide)
end K28
section
namespace L2
open PySem PySem.Spec PyProof.Rows
abbrev Key:=Sum Int Str
noncomputable def qa8:Key->Value->Bool
 |.inl k,v=>Value.isInt k v
 |.inr x,v=>Value.isStrOf x v
noncomputable def keyH(w:Qk):Key->Int
 |.inl k=>hashInt k
 |.inr x=>hashStr w x
theorem qzc:∀{k:Key}{v:Value},qa8 k v=true->(∃i t,k=Sum.inl i/\v=Value.int i t)\/(∃x t,k=Sum.inr x/\v=Value.str x t)
 |.inl i,v,h=>by
  obtain⟨t,e⟩:=Value.isInt_shape (k:=i) (v:=v) h;exact .inl ⟨i,t,rfl,e⟩
 |.inr x,v,h=>by
  obtain⟨t,e⟩:=Value.isStrOf_shape (x:=x) (v:=v) h;exact .inr ⟨x,t,rfl,e⟩
theorem qdx(i:Int)(t:Tok):qa8 (.inl i) (.int i t)=true:=by simp[qa8,Value.isInt]
theorem qdq(x:Str)(t:Tok):qa8 (.inr x) (.str x t)=true:=by simp[qa8,Value.isStrOf]
theorem key_ll(a b:Int):decide ((Sum.inl a:Key)=Sum.inl b)=(a==b):=by
 by_cases e:a=b
 ·subst e; simp
 ·have h:¬ (Sum.inl a:Key)=Sum.inl b:=λq=>e (Sum.inl.inj q);rw[Zr h];exact(beq_eq_false_iff_ne.mpr e).symm
theorem key_rr(a b:Str):decide ((Sum.inr a:Key)=Sum.inr b)=decide (a=b):=by
 by_cases e:a=b
 ·subst e; simp
 ·have h:¬ (Sum.inr a:Key)=Sum.inr b:=λq=>e (Sum.inr.inj q);rw[Zr h,Zr e]
theorem key_lr(a:Int)(b:Str):decide ((Sum.inl a:Key)=Sum.inr b)=false:=Zr (λq=>nomatch q)
theorem key_rl(a:Str)(b:Int):decide ((Sum.inr a:Key)=Sum.inl b)=false:=Zr (λq=>nomatch q)
noncomputable def mixKind(prog:Program)(w:Qk):PySem.KeyKind prog w Key where
 is:=qa8
 hash:=keyH w
 inj:=λv a b ha hb=>by
  rcases qzc ha with⟨i,t,rfl,rfl⟩|⟨x,t,rfl,rfl⟩
  ·rcases qzc hb with⟨j,u,rfl,e⟩|⟨y,u,rfl,e⟩
   ·injection e with e1 _; rw[e1]
   ·exact nomatch e
  ·rcases qzc hb with⟨j,u,rfl,e⟩|⟨y,u,rfl,e⟩
   ·exact nomatch e
   ·injection e with e1 _; rw[e1]
 byValue:=λk v h=>by
  rcases qzc h with⟨i,t,rfl,rfl⟩|⟨x,t,rfl,rfl⟩<;>rfl
 pyHash:=λhv h=>by
  rcases qzc hv with⟨i,t,rfl,rfl⟩|⟨x,t,rfl,rfl⟩
  ·exact wpAny_pyHash_int h
  ·exact wpAny_pyHash_str h
 eqBool:=λhu hv h=>by
  rcases qzc hu with⟨i,t,rfl,rfl⟩|⟨x,t,rfl,rfl⟩
  ·rcases qzc hv with⟨j,u,rfl,rfl⟩|⟨y,u,rfl,rfl⟩
   ·rw[key_ll]at h; exact wpAny_eqBool_int h
   ·rw[key_lr]at h; exact SeqAt.EqAt.int_str i t y u _ _ _ _ h
  ·rcases qzc hv with⟨j,u,rfl,rfl⟩|⟨y,u,rfl,rfl⟩
   ·rw[key_rl]at h; exact SeqAt.EqAt.str_int x t j u _ _ _ _ h
   ·rw[key_rr]at h; exact wpAny_eqBool_str h
 «strs»:=λk x t v h=>by
  rcases qzc h with⟨i,u,rfl,e⟩|⟨y,u,rfl,e⟩
  ·exact nomatch e
  ·injection e with e1 _;subst e1;cases v<;>rfl
theorem qwt(prog:Program)(w:Qk)(i:Int)(t:Tok):(mixKind prog w).is (.inl i) (.int i t)=true:=qdx i t
theorem qq0(prog:Program)(w:Qk)(x:Str)(t:Tok):(mixKind prog w).is (.inr x) (.str x t)=true:=qdq x t
end L2
namespace L2
open PySem PySem.Spec PyProof.Rows
inductive V where
 |non|bl (b:Bool)|int (i:Int)|str (x:Str)|byt (b:Array UInt8)|flt (b:UInt64)|ref (a:Addr)|ty (n:String)
 deriving DecidableEq
noncomputable def RelV:V->Value->Prop
 |.non,u=>u=Value.none
 |.bl b,u=>u=Value.bool b
 |.int i,u=>∃t,u=Value.int i t
 |.str x,u=>∃t,u=Value.str x t
 |.byt b,u=>∃t,u=Value.bytes b t
 |.flt b,u=>∃t,u=Value.float b t
 |.ref a,u=>u=Value.ref a
 |.ty n,u=>u=Value.type n
abbrev Vals:List V->List Value->Prop:=Paired RelV
theorem Vals.length{xs:List V}{us:List Value}(r:Vals xs us):xs.length=us.length:=Paired.length r
theorem Vals.get:∀{xs:List V}{us:List Value}{i:Nat}{x:V},Vals xs us->xs[i]?=some x->∃u,us[i]?=some u/\RelV x u
 |_,_,_,_,.nil,e=>by simp at e
 |_,_,0,_,.cons r _,e=>by simp at e; subst e; exact⟨_,rfl,r⟩
 |_,_,i+1,x,.cons _ t,e=>by
  obtain⟨u,h1,h2⟩:=Vals.get (i:=i) (x:=x) t (by simpa using e);exact⟨u,by simpa using h1,h2⟩
theorem Vals.set{x:V}{u:Value}(r:RelV x u):∀{xs:List V}{us:List Value}(i:Nat),Vals xs us->Vals (xs.set i x) (us.set i u)
 |_,_,_,.nil=>.nil
 |_,_,0,.cons _ t=>.cons r t
 |_,_,i+1,.cons q t=>.cons q (Vals.set r i t)
theorem Vals.append:∀{xs ys:List V}{us ws:List Value},Vals xs us->Vals ys ws->Vals (xs++ys) (us++ws)
 |_,_,_,_,.nil,s=>s
 |_,_,_,_,.cons r t,s=>.cons r (Vals.append t s)
theorem Vals.take:∀{xs:List V}{us:List Value}(n:Nat),Vals xs us->Vals (xs.take n) (us.take n)
 |_,_,0,_=>.nil
 |_,_,_+1,.nil=>.nil
 |_,_,n+1,.cons r t=>.cons r (Vals.take n t)
theorem Vals.drop:∀{xs:List V}{us:List Value}(n:Nat),Vals xs us->Vals (xs.drop n) (us.drop n)
 |_,_,0,r=>r
 |_,_,_+1,.nil=>.nil
 |_,_,n+1,.cons _ t=>Vals.drop n t
theorem Vals.none_of:∀{xs:List V}{us:List Value}{i:Nat},Vals xs us->xs[i]?=none->us[i]?=none:=λ{xs us i} r e=>by
 have h1:=r.length;have h2:xs.length<=i:=Qzw.mp e;exact Qzw.mpr (by omega)
noncomputable def RelO:Option V->Option Value->Prop
 |some v,some u=>RelV v u
 |none,none=>True
 |_,_=>False
def KV{κ:Type}:List (κ×V)->List (κ×Value)->Prop:=Paired λ(p:κ×V) (q:κ×Value)=>p.1=q.1/\RelV p.2 q.2
noncomputable def kV:Key->V
 |.inl i=>.int i
 |.inr x=>.str x
inductive HO where
 /-- a list -/
 |lst (xs:List V)
 /-- a tuple (never changes) -/
 |tup (xs:List V)
 /-- a dict whose keys are ints and texts; one whose keys are tuples of ints and texts (the empty one is both) -/
 |dK (kvs:List (Key×V))|dT (kvs:List (List Key×V))
 /-- a set of ints: its members,its size -/
 |set (S:Int->Bool) (n:Nat)
 /-- an instance of the class at C,its dict at dx,its attributes -/
 |ins (C dx:Addr) (fs:List (Str×V))
 /-- the dict of the instance at x -/
 |own (x:Addr)
 /-- the dict of an exception -/
 |xd (fs:List (Str×V))
 /-- a bound method,f of x -/
 |met (f x:Addr)
 /-- a range object lo,lo+1,.. below hi -/
 |rng (lo hi:Int)
 /-- a thing that is known to the object (the script; a dict while a loop walks it): read,never written while it is so -/
 |frz (o:Obj) (u:HO)
 /-- a code object's table -/
 |tbl (ps:Array Value)
 /-- any other thing,by what is true of its one object (a def of one's own: SetO a S n:=HO.ext λh=>..) -/
 |ext (φ:Heap->Prop)
abbrev Hp:=Addr->Option HO
noncomputable def upd(H:Hp)(a:Addr)(o:HO):Hp:=λb=>if b=a then some o else H b
theorem qzk{H:Hp}{a:Addr}{o:HO}:upd H a o a=some o:=by unfold upd; rw[Zt rfl]
theorem qzq{H:Hp}{a b:Addr}{o:HO}(h:b≠a):upd H a o b=H b:=by unfold upd; rw[Zs h]
theorem qzp{H:Hp}{a b:Addr}{o u:HO}(h:H a=some o)(h':H b=some u)(d:o≠u):a≠b:=by
 intro e; subst e; rw[h]at h'; exact d (Option.some.inj h')
theorem qzf{H:Hp}{a b:Addr}{o:HO}(h:H a=some o)(h':H b=none):a≠b:=by
 intro e; subst e; rw[h]at h'; cases h'
section
variable (P:Program)(w:Qk)
noncomputable def ObjOk(H:Hp)(h:Heap)(a:Addr):HO->Prop
 |.lst xs=>xs.length<=sizeLine/\∃(its:List Value) (n:Nat),Vals xs its/\h.get? a=some { cls:=.type "list",data:=.seq its.toArray n }
 |.tup xs=>xs.length<=sizeLine/\∃its:List Value,Vals xs its/\IsTup h a its.toArray
 |.dK kvs=>kvs.length<=sizeLine/\(a==Qo)=false/\∃vs,KV kvs vs/\h.DictOf (mixKind P w) a vs
 |.dT kvs=>kvs.length<=sizeLine/\(a==Qo)=false/\∃xs:List (List Key×Addr×Value),
   Paired (λ(p:List Key×V) (q:List Key×Addr×Value)=>p.1=q.1/\H q.2.1=some (.tup (p.1.map kV))/\RelV p.2 q.2.2) kvs xs/\
   ∃o es ep,h.get? a=some o/\o.ExactDict/\o.data=.dict es ep/\es.toList=xs.map (entryOfKey (tupleKind (mixKind P w)))/\(xs.map (·.1)).Nodup
 |.set S n=>h.SetOf (intKind P w) a S n
 |.ins C dx fs=>H dx=some (.own a)/\fs.length<=1000/\dx≠a/\h.get? a=some (PySem.W.instObj C dx)/\
   ∃mA,h.Ns1 dx mA/\(∀f,RelO (fs.lookup f) (mA f))/\PySem.Within mA (fs.map (·.1))
 |.own _=>∃o,h.get? a=some o
 |.xd fs=>∃mA,h.Ns1 a mA/\∀f,RelO (fs.lookup f) (mA f)
 |.rng lo hi=>∃t u v,h.get? a=some { cls:=.type "range",data:=.fields #[.int lo t,.int hi u,.int 1 v] }
 |.frz o u=>h.get? a=some o/\ObjOk H h a u
 |.tbl ps=>h.get? a=some { cls:=.none,data:=.fields ps }
 |.met f x=>h.get? a=some (PySem.W.methodObj (.ref f) (.ref x))
 |.ext φ=>φ h/\(∃o,h.get? a=some o)/\∀h1 h2:Heap,φ h1->(∀o,h1.get? a=some o->h2.get? a=some o)->φ h2
def HOk(H:Hp)(h:Heap):Prop:=∀a o,H a=some o->ObjOk P w H h a o
end
section
variable {P:Program}{w:Qk}{H H':Hp}{h h':Heap}{a:Addr}{o:HO}
theorem ObjOk.lt(x:ObjOk P w H h a o):a<h.objs.size:=by
 cases o with
 |lst xs=>obtain⟨_,_,_,_,e⟩:=x; exact Qqb e
 |tup xs=>obtain⟨_,_,_,p⟩:=x; exact p.lt
 |dK kvs=>obtain⟨_,_,_,_,o,_,_,e,_⟩:=x; exact Qqb e
 |dT kvs=>obtain⟨_,_,_,_,o,_,_,e,_⟩:=x; exact Qqb e
 |set S n=>obtain⟨o,_,_,_,e,_⟩:=x; exact Qqb e
 |ins C dx fs=>obtain⟨_,_,_,e,_⟩:=x; exact Qqb e
 |own y=>obtain⟨_,e⟩:=x; exact Qqb e
 |xd fs=>obtain⟨_,⟨_,_,_,e,_⟩,_⟩:=x; exact Qqb e
 |rng lo hi=>obtain⟨_,_,_,e⟩:=x; exact Qqb e
 |frz ob u=>obtain⟨e,_⟩:=x; exact Qqb e
 |tbl ps=>exact Qqb (show h.get? a=some _ from x)
 |met f y=>exact Qqb (show h.get? a=some _ from x)
 |ext j=>obtain⟨_,⟨_,e⟩,_⟩:=x; exact Qqb e
theorem Paired.mapP{α q:Type}{F G:α->q->Prop}:∀{l₁:List α}{j:List q},Paired F l₁ j->(∀a b,F a b->G a b)->Paired G l₁ j
 |_,_,.nil,_=>.nil
 |_,_,.cons r t,f=>.cons (f _ _ r) (Paired.mapP t f)
theorem ObjOk.stay(x:ObjOk P w H h a o)(k:∀b u,(b=a\/H b=some (.own a))->h.get? b=some u->h'.get? b=some u)
  (O:∀b,H b=some (.own a)->H' b=some (.own a)) (M:∀b xs,H b=some (.tup xs)->H' b=some (.tup xs)):ObjOk P w H' h' a o:=by
 induction o with
 |lst xs=>obtain⟨z,F,n,r,e⟩:=x; exact⟨z,F,n,r,k _ _ (.inl rfl) e⟩
 |tup xs=>obtain⟨z,F,r,ob,e,c⟩:=x; exact⟨z,F,r,ob,k _ _ (.inl rfl) e,c⟩
 |dK kvs=>obtain⟨z,y,vs,r,ob,es,j,e,c⟩:=x; exact⟨z,y,vs,r,ob,es,j,k _ _ (.inl rfl) e,c⟩
 |dT kvs=>
  obtain⟨z,y,xs,r,ob,es,j,e,c⟩:=x;exact⟨z,y,xs,Paired.mapP r λp q z=>⟨z.1,M _ _ z.2.1,z.2.2⟩,ob,es,j,k _ _ (.inl rfl) e,c⟩
 |set S n=>obtain⟨ob,es,j,t,e,c⟩:=x; exact⟨ob,es,j,t,k _ _ (.inl rfl) e,c⟩
 |ins C dx fs=>
  obtain⟨d,z,ne,e,mA,⟨J,es,j,U,c⟩,r⟩:=x;exact⟨O _ d,z,ne,k _ _ (.inl rfl) e,mA,⟨J,es,j,k _ _ (.inr d) U,c⟩,r⟩
 |own y=>obtain⟨ob,e⟩:=x; exact⟨ob,k _ _ (.inl rfl) e⟩
 |xd fs=>obtain⟨mA,⟨J,es,j,e,c⟩,r⟩:=x; exact⟨mA,⟨J,es,j,k _ _ (.inl rfl) e,c⟩,r⟩
 |rng lo hi=>obtain⟨t,u,v,e⟩:=x; exact⟨t,u,v,k _ _ (.inl rfl) e⟩
 |frz ob u L=>obtain⟨e,q⟩:=x; exact⟨k _ _ (.inl rfl) e,L q⟩
 |tbl ps=>
  have e:h.get? a=some { cls:=.none,data:=.fields ps }:=x;show h'.get? a=some { cls:=.none,data:=.fields ps };exact k a _ (.inl rfl) e
 |met f y=>
  have e:h.get? a=some (PySem.W.methodObj (.ref f) (.ref y)):=x;show h'.get? a=some (PySem.W.methodObj (.ref f) (.ref y));exact k a _ (.inl rfl) e
 |ext Y=>obtain⟨p,⟨o,e⟩,st⟩:=x; exact⟨st _ _ p λo q=>k _ _ (.inl rfl) q,⟨o,k _ _ (.inl rfl) e⟩,st⟩
theorem HOk.lt(x:HOk P w H h)(e:H a=some o):a<h.objs.size:=(x a o e).lt
theorem HOk.fresh(x:HOk P w H h)(e:h.objs.size<=a):H a=none:=by
 cases q:H a with
 |none=>rfl
 |some u=>exact absurd (Qq4 (x.lt q) e) (Qz8 _)
theorem HOk.kept(x:HOk P w H h)(k:∀b u,h.get? b=some u->h'.get? b=some u):HOk P w H h':=λa o e=>
 (x a o e).stay (λb u _ q=>k b u q) (λ_ q=>q) λ_ _ q=>q
theorem HOk.laid(x:HOk P w H h)(k:∀b u,h.get? b=some u->h'.get? b=some u)(z:h.objs.size<=a)(new:ObjOk P w (upd H a o) h' a o):HOk P w (upd H a o) h':=λb u e=>by
 have hn:=x.fresh z
 by_cases j:b=a
 ·subst j; rw[qzk]at e; cases e; exact new
 ·rw[qzq j]at e;exact(x b u e).stay (λc v _ q=>k c v q) (λc q=>by rw[qzq (qzf q hn)]; exact q) λc xs q=>by rw[qzq (qzf q hn)]; exact q
end
def Rd(H:Hp)(a:Addr)(u:HO):Prop:=H a=some u\/∃o,H a=some (.frz o u)
theorem Rd.of{H:Hp}{a:Addr}{u:HO}(h:H a=some u):Rd H a u:=.inl h
theorem Rd.ok{P:Program}{w:Qk}{H:Hp}{h:Heap}{a:Addr}{u:HO}(r:Rd H a u)(x:HOk P w H h):ObjOk P w H h a u:=by
 rcases r with r|⟨o,r⟩
 ·exact x a u r
 ·obtain⟨_,q⟩:=x a _ r;exact q
noncomputable def Mut:Option HO->Prop
 |some (.lst _)=>True
 |some (.dK _)=>True
 |some (.dT _)=>True
 |some (.set _ _)=>True
 |some (.ins _ _ _)=>True
 |some (.ext _)=>True
 |_=>False
section
variable {P:Program}{w:Qk}{H:Hp}{h h':Heap}{x e:Addr}{o':HO}
theorem HOk.write(ok:HOk P w H h)(L:Mut (H x))(Z:e=x\/H e=some (.own x))(k:∀b u,b≠e->h.get? b=some u->h'.get? b=some u)(U:∃u,h'.get? e=some u)
  (new:ObjOk P w (upd H x o') h' x o'):HOk P w (upd H x o') h':=λb u q=>by
 have F:∀c y,H c=some (.own y)->c≠x:=λc y r z=>by subst z; rw[r]at L; exact L
 have J:∀c xs,H c=some (.tup xs)->c≠x:=λc xs r z=>by subst z; rw[r]at L; exact L
 by_cases O:b=x
 ·subst O; rw[qzk]at q; cases q; exact new
 ·rw[qzq O]at q
  by_cases j:b=e
  ·have Y:H b=some (.own x):=by
    rcases Z with z|z
    ·exact absurd (j.trans z) O
    ·rw[j]; exact z
   rw[q]at Y; cases Y;obtain⟨v,hv⟩:=U;exact⟨v,by rw[j]; exact hv⟩
  ·refine(ok b u q).stay (λc v M r=>k c v ?_ r) (λc r=>by rw[qzq (F c b r)]; exact r) λc xs r=>by rw[qzq (J c xs r)]; exact r
   rcases M with rfl|M
   ·exact j
   ·rintro rfl;rcases Z with z|z
    ·exact F c b M z
    ·rw[M]at z; cases z; exact O rfl
end
structure Un (fs ex:List Addr) (H H':Hp) (h h':Heap):Prop where
 keep:∀b o,h.get? b=some o->H b=none->b ∉ fs->b ∉ ex->h'.get? b=some o
 slot:∀b o,h.get? b=some o->H b=none->b∈fs->b ∉ ex->∃sl,h'.get? b=some { o with slots:=sl }
 free:∀b o,h.get? b=some o->H b=none->b ∉ ex->H' b=none
 there:∀b o,h.get? b=some o->b ∉ ex->∃o',h'.get? b=some o'
 tups:∀b xs,H b=some (.tup xs)->H' b=some (.tup xs)
 frzs:∀b o u,H b=some (.frz o u)->H' b=some (.frz o u)
 tbls:∀b ps,H b=some (.tbl ps)->∃more,H' b=some (.tbl (ps++more))
section
variable {fs fs' ex ex':List Addr}{H H1 H2:Hp}{h h1 h2 h':Heap}{a x e:Addr}{o:HO}
theorem Un.any(u:Un fs ex H H1 h h1){b:Addr}{ob:Obj}(q:h.get? b=some ob)(n:H b=none)(j:b ∉ ex):∃sl,h1.get? b=some { ob with slots:=sl }:=by
 by_cases z:b∈fs
 ·exact u.slot b ob q n z j
 ·exact⟨ob.slots,u.keep b ob q n z j⟩
theorem Un.trans(a:Un fs ex H H1 h h1)(b:Un fs ex H1 H2 h1 h2):Un fs ex H H2 h h2 where
 keep:=λc ob q n F j=>b.keep c ob (a.keep c ob q n F j) (a.free c ob q n j) F j
 slot:=λc ob q n F j=>by
  obtain⟨sl,z⟩:=a.slot c ob q n F j;obtain⟨J,L⟩:=b.slot c _ z (a.free c ob q n j) F j;exact⟨J,L⟩
 free:=λc ob q n j=>by
  obtain⟨o',z⟩:=a.there c ob q j;exact b.free c o' z (a.free c ob q n j) j
 there:=λc ob q j=>by
  obtain⟨o',z⟩:=a.there c ob q j;exact b.there c o' z j
 tups:=λc xs q=>b.tups c xs (a.tups c xs q)
 frzs:=λc ob xs q=>b.frzs c ob xs (a.frzs c ob xs q)
 tbls:=λc ps q=>by
  obtain⟨m1,z⟩:=a.tbls c ps q;obtain⟨m2,L⟩:=b.tbls c _ z;exact⟨m1++m2,by rw[L,Array.append_assoc]⟩
theorem Un.kept(k:∀b u,h.get? b=some u->h'.get? b=some u):Un fs ex H H h h':=
 ⟨λb ob q _ _ _=>k b ob q,λb ob q _ _ _=>⟨ob.slots,k b ob q⟩,λ_ _ _ n _=>n,λb ob q _=>⟨ob,k b ob q⟩,λ_ _ q=>q,λ_ _ _ q=>q,λ_ ps q=>⟨#[],by rw[q]; simp⟩⟩
theorem Un.refl:Un fs ex H H h h:=Un.kept λ_ _ q=>q
theorem Un.laid(k:∀b u,h.get? b=some u->h'.get? b=some u)(z:h.objs.size<=a)(j:H a=none):Un fs ex H (upd H a o) h h' where
 keep:=λb u q _ _ _=>k b u q
 slot:=λb u q _ _ _=>⟨u.slots,k b u q⟩
 free:=λb u q n _=>by rw[qzq (Qq6 (Qq4 (Qqb q) z))]; exact n
 there:=λb u q _=>⟨u,k b u q⟩
 tups:=λb xs q=>by rw[qzq (qzf q j)]; exact q
 frzs:=λb u xs q=>by rw[qzq (qzf q j)]; exact q
 tbls:=λb ps q=>⟨#[],by rw[qzq (qzf q j),q]; simp⟩
theorem Un.write(F:Mut (H x))(U:e=x\/H e=some (.own x))(k:∀b u,b≠e->h.get? b=some u->h'.get? b=some u)(L:∃u,h'.get? e=some u):Un fs ex H (upd H x o) h h':=by
 have M:∀b,H b=none->b≠x:=λb n z=>by subst z; rw[n]at F; exact F
 have O:∀b,H b=none->b≠e:=λb n z=>by
  subst z;rcases U with r|r
  ·exact M b n r
  ·rw[n]at r; cases r
 have J:∀b u,H b=some u->¬ Mut (some u)->b≠x:=λb u q nm z=>by subst z; rw[q]at F; exact nm F
 refine⟨λb u q n _ _=>k b u (O b n) q,λb u q n _ _=>⟨u.slots,k b u (O b n) q⟩,λb u q n _=>by rw[qzq (M b n)]; exact n,λb u q _=>?_,
  λb xs q=>by rw[qzq (J b _ q λz=>z)]; exact q,λb u xs q=>by rw[qzq (J b _ q λz=>z)]; exact q,λb ps q=>⟨#[],by rw[qzq (J b _ q λz=>z),q]; simp⟩⟩
 by_cases j:b=e
 ·subst j; exact L
 ·exact⟨u,k b u j q⟩
theorem Un.mono(u:Un fs ex H H1 h h1)(J:∀b∈fs,b∈fs')(F:∀b∈ex,b∈ex'):Un fs' ex' H H1 h h1:=
 ⟨λb ob q n L j=>u.keep b ob q n (λz=>L (J b z)) λz=>j (F b z),λ_ _ q n _ j=>u.any q n λz=>j (F _ z),λb ob q n j=>u.free b ob q n λz=>j (F b z),λb ob q j=>u.there b ob q λz=>j (F b z),u.tups,u.frzs,u.tbls⟩
end
noncomputable def trk(h:Heap)(H:Hp):List Addr:=(List.range h.objs.size).filter λa=>(H a).isSome
noncomputable def hidT(h:Heap)(H:Hp):Heap:=PySem.W.hideAll h (trk h H)
theorem qda(h:Heap)(H:Hp):(hidT h H).objs.size=h.objs.size:=PySem.W.hideAll_size _ _
theorem qfs{h:Heap}{H:Hp}{b:Addr}{o:Obj}(e:h.get? b=some o)(n:H b=none):(hidT h H).get? b=some o:=
 PySem.W.hideAll_get _ e λj=>by
  have q:(H b).isSome=true:=(Qzd.mp j).2;rw[n]at q; simp at q
theorem qi6{h:Heap}{H:Hp}{b:Addr}{o:Obj}(e:(hidT h H).get? b=some o):h.get? b=some o/\H b=none:=by
 have j:h.get? b=some o:=PySem.W.of_hideAll (trk h H) e;refine⟨j,?_⟩
 cases q:H b with
 |none=>rfl
 |some x=>
  have F:b∈trk h H:=Qzd.mpr ⟨Qz4.mpr (Qqb j),by simp[q]⟩;have z:(hidT h H).get? b=none:=PySem.W.hideAll_none (trk h H) F;rw[z]at e; cases e
noncomputable def qmz(g h:Heap)(L:Addr):List (Addr×Obj):=(List.range h.objs.size).filterMap λa=>if a=L\/(g.get? a).isSome=true then none else(h.get? a).map λo=>(a,o)
noncomputable def rest(g h:Heap)(L d:Addr):List (Addr×Obj):=(qmz g h L).filter λp=>decide (p.1≠d)
end L2
namespace L2
open PySem PySem.Spec PyProof.Rows
structure Mod (K:Qqq) (mg:Str->Option Value) (base:Heap):Prop where
 kin:K.In base
 glob:base.Ns Qv mg
 blt:∃mb,base.Ns builtinsNs mb/\∀x:Str,x ≠ "__name__"->mb x=Qa x
 nolimit:base.NoLimit
structure Cx where
 prog:Program
 w:Qk
 K:Qqq
 mg:Str->Option Value
 base:Heap
 A:Qw
 N:List Str
 s₀:Qz
 H₀:Hp
 env:Env
 outer:List Env
 stack:List Env
 ex:List Addr
 fn:Str->Bool
 calm:Bool
 pn:List (Addr×Obj)
 xe:Value->Qz->Prop
noncomputable def frs(l:List Env):List Addr:=l.filterMap (·.frame)
noncomputable abbrev Cx.fs(X:Cx):List Addr:=frs X.outer
def Vis(sc:Scope)(x:Str):Prop:=sc.names.lookup x=some .local\/sc.names.lookup x=some .cell\/sc.names.lookup x=some .free
def Loc(sc:Scope)(x:Str):Prop:=sc.names.lookup x=some .local\/sc.names.lookup x=some .cell
def Look(env:Env)(h:Heap)(m:Str->Option Value)(x:Str)(u:Value):Prop:=
 (env.kindOf x=some .local/\m x=some u)\/((env.kindOf x=some .cell\/env.kindOf x=some .free)/\∃c,env.cells.lookup x=some c/\h.IsCell c (some u))
structure Cx.Ok (X:Cx):Prop where
 mod:Mod X.K X.mg X.base
 kind:X.env.scope.kind=.function
 glob:X.env.globals=Qv
 blt:X.env.builtins=builtinsNs
 above:X.s₀.heap.objs.size<=X.env.locals
 inj:∀x y c,X.env.cells.lookup x=some c->X.env.cells.lookup y=some c->x=y
 has:∀x,(X.env.kindOf x=some .cell\/X.env.kindOf x=some .free)->∃c,X.env.cells.lookup x=some c
 cab:∀x c,X.fn x=true->X.env.cells.lookup x=some c->X.s₀.heap.objs.size<=c
 hd:X.calm=true->X.A.handled=none
 frames:X.A.frames=some X.stack
 stk:X.stack=X.outer\/(X.stack=X.env::X.outer/\X.env.frame=some X.env.locals)
 exf:∀b∈X.ex,b≠X.env.locals/\∀x c,X.env.cells.lookup x=some c->c≠b
 bs:∀b o,X.base.get? b=some o->X.s₀.heap.get? b=some o/\X.H₀ b=none
 bsz:X.base.objs.size<=X.s₀.heap.objs.size
 noex:∀b o,X.base.get? b=some o->b ∉ X.ex
 exfs:∀b∈X.ex,b ∉ X.fs
 funs:X.s₀.heap.FunFrames X.base X.outer
 frf:∀b∈X.fs,X.H₀ b=none
structure Inv (X:Cx) (pins:List (Addr×Obj)) (σ:List (Option V)) (H:Hp) (s:Qz):Prop where
 ok:X.Ok
 os:s.os=X.s₀.os
 bare:Ze s.gens
 base:Un X.fs X.ex X.H₀ H X.s₀.heap s.heap
 loc:∃m,s.heap.Ns X.env.locals m/\∀(i:Nat) (x:Str) (v:V),X.N[i]?=some x->σ[i]?=some (some v)->Vis X.env.scope x->∃u,RelV v u/\Look X.env s.heap m x u
 cell:∀x c,X.env.cells.lookup x=some c->∃v,s.heap.IsCell c v
 free:H X.env.locals=none
 freeC:∀x c,X.env.cells.lookup x=some c->H c=none
 pin:∀p∈X.pn++pins,s.heap.get? p.1=some p.2/\H p.1=none/\p.1≠X.env.locals/\p.1 ∉ X.fs/\∀v,p.2.data≠.cell v
 hok:HOk X.prog X.w H s.heap
 len:σ.length=X.N.length
section
variable {X:Cx}{pins:List (Addr×Obj)}{σ:List (Option V)}{H H':Hp}{s:Qz}{h':Heap}
theorem Cx.Ok.nofr(ok:X.Ok){b:Addr}{o:Obj}(e:X.base.get? b=some o):b ∉ X.fs:=λj=>by
 have:=(ok.funs.mem j).1;rw[e]at this; cases this
theorem Inv.bs(I:Inv X pins σ H s):∀b o,X.base.get? b=some o->s.heap.get? b=some o/\H b=none:=λb o e=>
 ⟨I.base.keep b o (I.ok.bs b o e).1 (I.ok.bs b o e).2 (I.ok.nofr e) (I.ok.noex b o e),I.base.free b o (I.ok.bs b o e).1 (I.ok.bs b o e).2 (I.ok.noex b o e)⟩
theorem Inv.bk(I:Inv X pins σ H s):∀b o,X.base.get? b=some o->s.heap.get? b=some o:=λb o e=>(I.bs b o e).1
theorem Inv.mod(I:Inv X pins σ H s):Mod X.K X.mg X.base:=I.ok.mod
theorem Inv.kIn(I:Inv X pins σ H s):X.K.In s.heap:=I.ok.mod.kin.keeps I.bk
theorem Inv.nolimit(I:Inv X pins σ H s):s.heap.NoLimit:=I.ok.mod.nolimit.keeps I.bk
theorem Inv.fr(I:Inv X pins σ H s):∃m,Fr X.base X.env.locals s.heap m:=
 let ⟨m,hn,_⟩:=I.loc
 ⟨m,hn,I.bk,Qzg I.ok.bsz I.ok.above⟩
theorem Inv.lt(I:Inv X pins σ H s):X.env.locals<s.heap.objs.size:=let ⟨_,hn,_⟩:=I.loc; hn.lt
theorem Inv.sz(I:Inv X pins σ H s):X.s₀.heap.objs.size<=s.heap.objs.size:=Qzg I.ok.above (Qx4 I.lt)
theorem Inv.nofs(I:Inv X pins σ H s){a:Addr}(h:s.heap.objs.size<=a):a ∉ X.fs:=λq=>by
 obtain⟨_,o,j,_⟩:=I.ok.funs.mem q;exact absurd (Qq4 (Qqb j) (Qzg I.sz h)) (Qz8 _)
theorem Inv.cne(I:Inv X pins σ H s):∀x c,X.env.cells.lookup x=some c->c≠X.env.locals:=λx c e z=>by
 obtain⟨v,o,F,hd⟩:=I.cell x c e;obtain⟨m,⟨o',es,J,j,q,_⟩,_⟩:=I.loc;rw[z,j]at F; cases F; rw[q]at hd; cases hd
theorem Inv.funs(I:Inv X pins σ H s):s.heap.FunFrames X.base X.outer:=by
 have all:∀(l:List Env),(∀b∈frs l,b∈X.fs)->X.s₀.heap.FunFrames X.base l->s.heap.FunFrames X.base l:=by
  intro l
  induction l with
  |nil=>intro _ _; trivial
  |cons env r J=>
   intro F U;obtain⟨Y,⟨L,o,hf,hn,O,hd⟩,M⟩:=U;have q:L∈X.fs:=F L (by unfold frs; rw[Qxq,hf]; exact Qql);obtain⟨sl,e⟩:=I.base.slot L o O (I.ok.frf L q) q λz=>I.ok.exfs L z q;exact⟨Y,⟨L,_,hf,hn,e,hd⟩,J (λb j=>F b (by unfold frs; rw[Qxq,hf]; exact Qqh _ j)) M⟩
 exact all X.outer (λ_ j=>j) I.ok.funs
theorem Inv.stack(I:Inv X pins σ H s):s.heap.FunFrames X.base X.stack:=by
 rcases I.ok.stk with e|⟨e,hf⟩
 ·rw[e]; exact I.funs
 ·rw[e];obtain⟨m,hn,_⟩:=I.loc;refine .cons (by rw[I.ok.kind]; decide) hf hn ?_ I.funs;exact Heap.get?_none_of_le (Qzg I.ok.bsz I.ok.above)
theorem Inv.stkSub(I:Inv X pins σ H s):∀b∈frs X.stack,b∈X.env.locals::X.fs:=λb j=>by
 rcases I.ok.stk with e|⟨e,hf⟩
 ·rw[e]at j; exact Qqh _ j
 ·rw[e]at j;unfold frs at j;rw[Qxq,hf]at j;exact j
theorem Inv.stkFree(I:Inv X pins σ H s):∀b∈frs X.stack,H b=none:=λb j=>by
 rcases Qqv.mp (I.stkSub b j) with e|j
 ·rw[e]; exact I.free
 ·obtain⟨_,o,q,_⟩:=I.ok.funs.mem j;exact I.base.free b o q (I.ok.frf b j) λz=>I.ok.exfs b z j
theorem Inv.step{g':Array GenState}{t':Nat}{d':Drawn}{ch:List Addr}(I:Inv X pins σ H s)
  (J:∀b∈ch,(b∈X.ex\/X.s₀.heap.objs.size<=b)/\b≠X.env.locals/\(∀x c,X.env.cells.lookup x=some c->c≠b)/\∀p∈X.pn++pins,p.1≠b)
  (keep:∀b o,b≠X.env.locals->b ∉ X.fs->b ∉ ch->s.heap.get? b=some o->H b=none->h'.get? b=some o)
  (slot:∀b o,b≠X.env.locals->b∈X.fs->b ∉ ch->s.heap.get? b=some o->H b=none->∃sl,h'.get? b=some { o with slots:=sl }) (free:∀b o,b ∉ ch->s.heap.get? b=some o->H b=none->H' b=none)
  (there:∀b o,b ∉ ch->s.heap.get? b=some o->∃o',h'.get? b=some o')
  (tups:∀b xs,H b=some (.tup xs)->H' b=some (.tup xs)) (frzs:∀b o u,H b=some (.frz o u)->H' b=some (.frz o u)) (tbls:∀b ps,H b=some (.tbl ps)->∃more,H' b=some (.tbl (ps++more)))
  (ns:∀m,s.heap.Ns X.env.locals m->h'.Ns X.env.locals m) (hok:HOk X.prog X.w H' h') (hg:Ze g') :
  Inv X pins σ H' { s with heap:=h',gens:=g',drawn:=d',toks:=t' }:=by
 have Z:∀b o,X.s₀.heap.get? b=some o->b≠X.env.locals:=λb o e=>Qq6 (Qq4 (Qqb e) I.ok.above);have M:∀b o,X.s₀.heap.get? b=some o->b ∉ X.ex->b ∉ ch:=λb o e j U=>by
  rcases (J b U).1 with z|z
  ·exact j z
  ·exact absurd (Qq4 (Qqb e) z) (Qz8 _)
 have L:∀x c,X.env.cells.lookup x=some c->∀v,s.heap.IsCell c v->h'.IsCell c v:=λx c e v ⟨o,Y,hd⟩=>by
  have F:c ∉ ch:=λz=>(J c z).2.2.1 x c e rfl
  by_cases hc:c∈X.fs
  ·obtain⟨sl,q⟩:=slot c o (I.cne x c e) hc F Y (I.freeC x c e);exact⟨_,q,hd⟩
  ·exact⟨o,keep c o (I.cne x c e) hc F Y (I.freeC x c e),hd⟩
 refine⟨I.ok,I.os,hg,⟨λb o e n U j=>?_,λb o e n U j=>?_,λb o e n j=>?_,λb o e j=>?_,λb xs e=>tups b xs (I.base.tups b xs e),λb o xs e=>frzs b o xs (I.base.frzs b o xs e),λb ps e=>?_⟩,?_,λx c e=>?_,?_,λx c e=>?_,λp hp=>?_,hok,I.len⟩
 ·exact keep b o (Z b o e) U (M b o e j) (I.base.keep b o e n U j) (I.base.free b o e n j)
 ·obtain⟨sl,O⟩:=I.base.slot b o e n U j;obtain⟨a0,e2⟩:=slot b _ (Z b o e) U (M b o e j) O (I.base.free b o e n j);exact⟨a0,e2⟩
 ·obtain⟨o',O⟩:=I.base.there b o e j;exact free b o' (M b o e j) O (I.base.free b o e n j)
 ·obtain⟨o',O⟩:=I.base.there b o e j;exact there b o' (M b o e j) O
 ·obtain⟨m1,O⟩:=I.base.tbls b ps e;obtain⟨m2,e2⟩:=tbls b _ O;exact⟨m1++m2,by rw[e2,Array.append_assoc]⟩
 ·obtain⟨m,hn,hl⟩:=I.loc;refine⟨m,ns m hn,λi x v O e2 e3=>?_⟩;obtain⟨u,r,l⟩:=hl i x v O e2 e3;refine⟨u,r,?_⟩;rcases l with l|⟨k,c,e,z⟩
  ·exact .inl l
  ·exact .inr ⟨k,c,e,L x c e _ z⟩
 ·obtain⟨v,z⟩:=I.cell x c e;exact⟨v,L x c e v z⟩
 ·obtain⟨m,⟨o,_,_,Y,_⟩,_⟩:=I.loc;exact free _ o (λz=>(J _ z).2.1 rfl) Y I.free
 ·obtain⟨v,o,Y,hd⟩:=I.cell x c e;exact free c o (λz=>(J c z).2.2.1 x c e rfl) Y (I.freeC x c e)
 ·obtain⟨e,n,ne,nf,d⟩:=I.pin p hp;have F:p.1 ∉ ch:=λz=>(J p.1 z).2.2.2 p hp rfl;exact⟨keep p.1 p.2 ne nf F e n,free p.1 p.2 F e n,ne,nf,d⟩
theorem Inv.un{t':Nat}(I:Inv X pins σ H s)(u:Un X.fs [] H H' s.heap h')(hok:HOk X.prog X.w H' h'):Inv X pins σ H' { s with heap:=h',toks:=t' }:=by
 obtain⟨m,⟨o,es,U,L,r⟩,_⟩:=id I.loc;obtain⟨sl,O⟩:=u.any L I.free (by simp)
 exact I.step (g':=s.gens) (d':=s.drawn) (ch:=[]) (λ_ z=>nomatch z) (λb o _ q _ e n=>u.keep b o e n q (by simp)) (λb o _ q _ e n=>u.slot b o e n q (by simp)) (λb o _ e n=>u.free b o e n (by simp)) (λb o _ e=>u.there b o e (by simp)) u.tups u.frzs u.tbls (λm' M=>by
  obtain⟨o',F,J,j,r'⟩:=M;rw[L]at j; cases j
  exact⟨_,F,J,O,r'⟩) hok I.bare
theorem Inv.call{g':Array GenState}{t':Nat}{d':Drawn}{ch:List Addr}(I:Inv X pins σ H s)(u:Un (frs X.stack) ch H H' s.heap h')(hok:HOk X.prog X.w H' h')(Y:Ze g')
  (F:∀b∈ch,(b∈X.ex\/X.s₀.heap.objs.size<=b)/\b≠X.env.locals/\(∀x c,X.env.cells.lookup x=some c->c≠b)/\∀p∈X.pn++pins,p.1≠b) :
  Inv X pins σ H' { s with heap:=h',gens:=g',drawn:=d',toks:=t' }:=by
 obtain⟨m,⟨o,es,ep,O,r⟩,_⟩:=id I.loc;obtain⟨sl,J⟩:=u.any O I.free λz=>(F _ z).2.1 rfl
 exact I.step (ch:=ch) F (λb o J Z j e n=>u.keep b o e n (λz=>(Qqv.mp (I.stkSub b z)).elim J Z) j) (λb o _ _ j e n=>u.any e n j) (λb o j e n=>u.free b o e n j) (λb o j e=>u.there b o e j) u.tups u.frzs u.tbls (λm' U=>by
  obtain⟨o',L,M,q,r'⟩:=U;rw[O]at q; cases q
  exact⟨_,L,M,J,r'⟩) hok Y
theorem Inv.turned{t':Nat}{it:Addr}(I:Inv X pins σ H s)(k:∀b o,b≠it->s.heap.get? b=some o->h'.get? b=some o)(M:H it=none)(J:it≠X.env.locals)
  (h1:it∈X.ex\/X.s₀.heap.objs.size<=it) (Z:∀x c,X.env.cells.lookup x=some c->c≠it) (Y:∀p∈X.pn++pins,p.1≠it):Inv X pins σ H { s with heap:=h',toks:=t' }:=by
 have F:∀b u,H b=some u->b≠it:=λb u e z=>by rw[z,M]at e; cases e
 refine I.step (g':=s.gens) (d':=s.drawn) (ch:=[it]) (λb U=>?_) (λb o _ _ j e _=>k b o (λz=>j (by simp[z])) e) (λb o _ _ j e _=>⟨o.slots,k b o (λz=>j (by simp[z])) e⟩) (λ_ _ _ _ n=>n)
  (λb o j e=>⟨o,k b o (λz=>j (by simp[z])) e⟩) (λ_ _ e=>e) (λ_ _ _ e=>e) (λb ps e=>⟨#[],by rw[e]; simp⟩) (λm O=>?_) (λb u e=>?_) I.bare
 ·have e:b=it:=by simpa using U
  subst e;exact⟨h1,J,Z,Y⟩
 ·obtain⟨o,es,ep,L,r⟩:=O;exact⟨o,es,ep,k _ o (Ne.symm J) L,r⟩
 ·refine(I.hok b u e).stay (λc v j q=>k c v ?_ q) (λ_ q=>q) λ_ _ q=>q;rcases j with z|z
  ·rw[z]; exact F b u e
  ·exact F c _ z
theorem Inv.tok(I:Inv X pins σ H s)(t:Nat):Inv X pins σ H { s with toks:=t }:=I.un (h':=s.heap) (t':=t) Un.refl I.hok
theorem Inv.kept{t':Nat}(I:Inv X pins σ H s)(k:∀b u,s.heap.get? b=some u->h'.get? b=some u):Inv X pins σ H { s with heap:=h',toks:=t' }:=I.un (Un.kept k) (I.hok.kept k)
theorem Inv.laid{a:Addr}{o:HO}{t':Nat}(I:Inv X pins σ H s)(k:∀b u,s.heap.get? b=some u->h'.get? b=some u)(j:s.heap.objs.size<=a)(new:ObjOk X.prog X.w (upd H a o) h' a o):
  Inv X pins σ (upd H a o) { s with heap:=h',toks:=t' }:=I.un (Un.laid k j (I.hok.fresh j)) (I.hok.laid k j new)
theorem Inv.write{x e:Addr}{o:HO}{t':Nat}(I:Inv X pins σ H s)(q:Mut (H x))(z:e=x\/H e=some (.own x))(k:∀b u,b≠e->s.heap.get? b=some u->h'.get? b=some u)(j:∃u,h'.get? e=some u)
  (new:ObjOk X.prog X.w (upd H x o) h' x o):Inv X pins σ (upd H x o) { s with heap:=h',toks:=t' }:=I.un (Un.write q z k j) (I.hok.write q z k j new)
theorem Inv.pins_of{j:List (Addr×Obj)}(I:Inv X pins σ H s)(h:∀p∈j,s.heap.get? p.1=some p.2/\H p.1=none/\p.1≠X.env.locals/\p.1 ∉ X.fs/\∀v,p.2.data≠.cell v):Inv X j σ H s:=
 ⟨I.ok,I.os,I.bare,I.base,I.loc,I.cell,I.free,I.freeC,λp q=>(Qqi.mp q).elim (λz=>I.pin p (Qzz _ z)) (h p),I.hok,I.len⟩
theorem qyt{N:List Str}(q:N.Nodup){i j:Nat}{x:Str}(a:N[i]?=some x)(b:N[j]?=some x):i=j:=by
 obtain⟨h1,F⟩:=Qqx.mp a;obtain⟨h2,z⟩:=Qqx.mp b;exact(List.getElem_inj q).mp (F.trans z.symm)
theorem qvd{M:Model}{A:Qw}{E:Value->Qz->Prop}{i:Nat}{x:Str}{v:V}{u:Value}{Q:Unit->Qz->Prop}(I:Inv X pins σ H s)(hN:X.N.Nodup)(hi:X.N[i]?=some x)(O:Loc X.env.scope x)(r:RelV v u)
  (h:∀s',Inv X pins (σ.set i (some v)) H s'->(∃a,Heap.SameBut a s.heap s'.heap/\(a=X.env.locals\/X.env.cells.lookup x=some a))->Q () s') (hf:X.fn x=true\/X.env.scope.names.lookup x=some .local):wpAny M A (storeName X.env x u) Q E s:=by
 obtain⟨m,hn,hl⟩:=id I.loc;have a4:(X.env.scope.kind==.class||(X.env.scope.kind==.module&&X.env.locals != X.env.globals))=false:=by rw[I.ok.kind]; rfl
 have a0:i<σ.length:=by rw[I.len]; exact(Qqx.mp hi).1
 have cne:=I.cne;have tracked:∀{a:Addr}{h':Heap},(∃o,s.heap.get? a=some o/\H a=none)->Heap.SameBut a s.heap h'->HOk X.prog X.w H h':=λ{a h'} ha F b ob e=>by
  obtain⟨_,_,U⟩:=ha;refine(I.hok b ob e).stay (λc w' L q=>(F.2 c ?_).trans q) (λ_ q=>q) λ_ _ q=>q;rintro rfl;rcases L with rfl|L
  ·rw[U]at e; cases e
  ·rw[U]at L; cases L
 rcases O with Z|Z
 ·refine wpAny_storeName_local Z hn (λh' a8 F=>?_) a4;obtain⟨oL,_,_,a7,_⟩:=id hn;refine h _ ⟨I.ok,I.os,I.bare,⟨λb o e n hb O=>?_,λb o e n hb O=>?_,I.base.free,λb o e O=>?_,I.base.tups,I.base.frzs,I.base.tbls⟩,⟨_,a8,λj y v' J Y e3=>?_⟩,λy c e=>?_,I.free,I.freeC,λp hp=>?_,tracked ⟨oL,a7,I.free⟩ F,by simpa using I.len⟩ ⟨_,F,.inl rfl⟩
  ·exact(F.2 b (Qq6 (Qq4 (Qqb e) I.ok.above))).trans (I.base.keep b o e n hb O)
  ·obtain⟨sl,J⟩:=I.base.slot b o e n hb O;exact⟨sl,(F.2 b (Qq6 (Qq4 (Qqb e) I.ok.above))).trans J⟩
  ·obtain⟨o',J⟩:=I.base.there b o e O;exact⟨o',(F.2 b (Qq6 (Qq4 (Qqb e) I.ok.above))).trans J⟩
  ·by_cases hj:j=i
   ·subst hj;rw[hi]at J; cases J;rw[Qq9 a0]at Y;cases Y;exact⟨u,r,.inl ⟨Z,by simp⟩⟩
   ·rw[Qqn (Ne.symm hj)]at Y;obtain⟨u',r',q⟩:=hl j y v' J Y e3;refine⟨u',r',?_⟩;rcases q with⟨k,e⟩|⟨k,c,e,z⟩
    ·refine .inl ⟨k,?_⟩;have:y≠x:=λe=>hj (qyt hN J (e▸hi));simp[this,e]
    ·exact .inr ⟨k,c,e,z.sameBut F (cne y c e)⟩
  ·obtain⟨w',z⟩:=I.cell y c e;exact⟨w',z.sameBut F (cne y c e)⟩
  ·obtain⟨e,n,ne,nf,d⟩:=I.pin p hp;exact⟨(F.2 p.1 ne).trans e,n,ne,nf,d⟩
 ·have a1:X.fn x=true:=by
   rcases hf with z|z
   ·exact z
   ·rw[z]at Z; cases Z
  obtain⟨c,L⟩:=I.ok.has x (.inl Z);obtain⟨w',z⟩:=I.cell x c L;refine wpAny_storeName_cell I.ok.kind Z L z (λh' a6 F=>?_);obtain⟨oc,a3,a2⟩:=id z;refine h { s with heap:=h' } ⟨I.ok,I.os,I.bare,⟨λb o e n hb O=>?_,λb o e n hb O=>?_,I.base.free,λb o e O=>?_,I.base.tups,I.base.frzs,I.base.tbls⟩,⟨m,hn.sameBut F (Ne.symm (cne x c L)),λj y v' J Y e3=>?_⟩,λy c' e=>?_,I.free,I.freeC,λp hp=>?_,tracked ⟨oc,a3,I.freeC x c L⟩ F,by simpa using I.len⟩ ⟨c,F,.inr L⟩
  ·exact(F.2 b (Qq6 (Qq4 (Qqb e) (I.ok.cab x c a1 L)))).trans (I.base.keep b o e n hb O)
  ·obtain⟨sl,J⟩:=I.base.slot b o e n hb O;exact⟨sl,(F.2 b (Qq6 (Qq4 (Qqb e) (I.ok.cab x c a1 L)))).trans J⟩
  ·obtain⟨o',J⟩:=I.base.there b o e O;exact⟨o',(F.2 b (Qq6 (Qq4 (Qqb e) (I.ok.cab x c a1 L)))).trans J⟩
  ·by_cases hj:j=i
   ·subst hj;rw[hi]at J; cases J;rw[Qq9 a0]at Y;cases Y;exact⟨u,r,.inr ⟨.inl Z,c,L,a6⟩⟩
   ·rw[Qqn (Ne.symm hj)]at Y;obtain⟨u',r',q⟩:=hl j y v' J Y e3;refine⟨u',r',?_⟩;rcases q with q|⟨k,c',e,z'⟩
    ·exact .inl q
    ·refine .inr ⟨k,c',e,z'.sameBut F ?_⟩;rintro rfl;exact hj (qyt hN J (I.ok.inj _ _ _ e L▸hi))
  ·by_cases a5:c'=c
   ·subst a5; exact⟨_,a6⟩
   ·obtain⟨w2,z2⟩:=I.cell y c' e;exact⟨w2,z2.sameBut F a5⟩
  ·obtain⟨e,n,ne,nf,d⟩:=I.pin p hp;refine⟨(F.2 p.1 ?_).trans e,n,ne,nf,d⟩;intro q;rw[q,a3]at e;have q':oc=p.2:=Option.some.inj e;exact d w' (by rw[<- q']; exact a2)
theorem qyc{M:Model}{A:Qw}{E:Value->Qz->Prop}{i:Nat}{x:Str}{v:V}{u:Value}{Q:Unit->Qz->Prop}(I:Inv X pins σ H s)(F:X.N.Nodup)(q:X.N[i]?=some x)(j:Loc X.env.scope x)(r:RelV v u)
  (h:∀s',Inv X pins (σ.set i (some v)) H s'->Q () s') (z:X.fn x=true\/X.env.scope.names.lookup x=some .local):wpAny M A (storeName X.env x u) Q E s:=
 qvd I F q j r (λs' J _=>h s' J) z
theorem Inv.call'{s':Qz}{ch:List Addr}(I:Inv X pins σ H s)(z:s'.os=s.os)(u:Un (frs X.stack) ch H H' s.heap s'.heap)(hok:HOk X.prog X.w H' s'.heap)(F:Ze s'.gens)
  (j:∀b∈ch,(b∈X.ex\/X.s₀.heap.objs.size<=b)/\b≠X.env.locals/\(∀x c,X.env.cells.lookup x=some c->c≠b)/\∀p∈X.pn++pins,p.1≠b):Inv X pins σ H' s':=by
 obtain⟨h',J,L,q,o'⟩:=s';have e:o'=s.os:=z;subst e;exact I.call (g':=J) (t':=q) (d':=L) u hok F j
end
abbrev XK:=Value->Option Addr->Hp->Prop
abbrev St:=List (Option V)
abbrev VK:=V->Hp->Prop
abbrev TE:=St->Hp->VK->Prop
abbrev TT:=St->Hp->(Bool->Hp->Prop)->Prop
abbrev TA:=St->Hp->(List V->Hp->Prop)->Prop
structure Ends where
 nx:St->Hp->Prop
 rt:VK
 bk:St->Hp->Prop:=λ_ _=>False
 ct:St->Hp->Prop:=λ_ _=>False
abbrev TS:=Ends->St->Hp->Prop
def EP(X:Cx)(pins:List (Addr×Obj))(σ:St)(Q:VK)(u:Value)(s':Qz):Prop:=∃v H',Inv X pins σ H' s'/\RelV v u/\Q v H'
def TP(X:Cx)(pins:List (Addr×Obj))(σ:St)(Q:Bool->Hp->Prop)(b:Bool)(s':Qz):Prop:=∃H',Inv X pins σ H' s'/\Q b H'
def AP(X:Cx)(pins:List (Addr×Obj))(σ:St)(Q:List V->Hp->Prop)(us:List Value)(s':Qz):Prop:=∃vs H',Inv X pins σ H' s'/\Vals vs us/\Q vs H'
def SP(X:Cx)(pins:List (Addr×Obj))(D:Ends)(f:Flow)(s':Qz):Prop:=
 match f with
 |.next=>∃σ' H',Inv X pins σ' H' s'/\D.nx σ' H'
 |.brk=>∃σ' H',Inv X pins σ' H' s'/\D.bk σ' H'
 |.cont=>∃σ' H',Inv X pins σ' H' s'/\D.ct σ' H'
 |.ret u=>∃v σ' H',Inv X pins σ' H' s'/\RelV v u/\D.rt v H'
def PE(X:Cx)(e:Qx)(t:TE):Prop:=
 ∀(pins:List (Addr×Obj)) (s:Qz) (σ:St) (H:Hp) (Q:VK),Inv X pins σ H s->t σ H Q->wpAny (model X.prog X.w) X.A (eval e X.env) (EP X pins σ Q) X.xe s
def PT(X:Cx)(e:Qx)(t:TT):Prop:=
 ∀(pins:List (Addr×Obj)) (s:Qz) (σ:St) (H:Hp) (Q:Bool->Hp->Prop),Inv X pins σ H s->t σ H Q->wpAny (model X.prog X.w) X.A (isTrue e X.env (eval e X.env)) (TP X pins σ Q) X.xe s
def PW(X:Cx)(e:Qx)(t:TT):Prop:=
 ∀(whole:Sem Value) (pins:List (Addr×Obj)) (s:Qz) (σ:St) (H:Hp) (Q:Bool->Hp->Prop),Inv X pins σ H s->t σ H Q->wpAny (model X.prog X.w) X.A (isTrue e X.env whole) (TP X pins σ Q) X.xe s
theorem PW.pt{X:Cx}{e:Qx}{t:TT}(h:PW X e t):PT X e t:=h _
def PA(X:Cx)(es:List Qx)(t:TA):Prop:=
 ∀(pos:Pos) (pins:List (Addr×Obj)) (s:Qz) (σ:St) (H:Hp) (Q:List V->Hp->Prop),Inv X pins σ H s->t σ H Q->wpAny (model X.prog X.w) X.A (spliced (backTo pos (starEach es X.env))) (AP X pins σ Q) X.xe s
def PS(X:Cx)(st:Stmt)(t:TS):Prop:=
 ∀(pins:List (Addr×Obj)) (s:Qz) (σ:St) (H:Hp) (D:Ends),Inv X pins σ H s->t D σ H->wpAny (model X.prog X.w) X.A (exec st X.env) (SP X pins D) X.xe s
def PSs(X:Cx)(st:List Stmt)(t:TS):Prop:=
 ∀(pins:List (Addr×Obj)) (s:Qz) (σ:St) (H:Hp) (D:Ends),Inv X pins σ H s->t D σ H->wpAny (model X.prog X.w) X.A (execs st X.env) (SP X pins D) X.xe s
theorem thn{α:Type}{t:Sem α}{Q j:α->Qz->Prop}{M:Model}{A:Qw}{E:Value->Qz->Prop}{s:Qz}(h:wpAny M A t Q E s)(q:∀a s,Q a s->j a s):wpAny M A t j E s:=Qb h q λ_ _ x=>x
end L2
namespace L2
open PySem PySem.Spec PyProof.Rows
section
variable {X:Cx}
theorem bin{a b:Qx}{L tb:TE}(ha:PE X a L)(hb:PE X b tb){j:List (Addr×Obj)}{s:Qz}{q:St}{H:Hp}{R:V->V->Hp->Prop}(I:Inv X j q H s)(h:L q H λx H1=>tb q H1 λy H2=>R x y H2)
  {α:Type}{Q:α->Qz->Prop}{f:Value->Value->Sem α}
  (hf:∀v u J x y H2,Inv X j q H2 J->RelV x v->RelV y u->R x y H2->wpAny (model X.prog X.w) X.A (f v u) Q X.xe J) :
  wpAny (model X.prog X.w) X.A (eval a X.env) (λv F=>wpAny (model X.prog X.w) X.A (eval b X.env) (λu z=>wpAny (model X.prog X.w) X.A (f v u) Q X.xe z) X.xe F) X.xe s:=by
 refine thn (ha j s q H _ I h) λv M ⟨x,H1,I1,U,Z⟩=>?_;refine thn (hb j M q H1 _ I1 Z) λu J ⟨y,H2,I2,O,Y⟩=>?_;exact hf v u J x y H2 I2 U O Y
noncomputable def tVar(i:Nat):TE:=λσ H Q=>∃v,σ[i]?=some (some v)/\Q v H
noncomputable def tC(v:V):TE:=λ_ H Q=>Q v H
theorem qgs{i:Nat}{x:Str}{pos:Pos}(U:X.N[i]?=some x)(L:Vis X.env.scope x)(hd:(x==("__debug__" : Str))=false:=by decide)(F:(x==("__classdict__" : Str))=false:=by decide):PE X (.Name x pos) (tVar i):=by
 intro pins s σ H Q I h;obtain⟨v,e,h⟩:=h;obtain⟨m,hn,O⟩:=I.loc;obtain⟨u,r,l⟩:=O i x v U e L;have z:EP X pins σ Q u s:=⟨v,H,I,r,h⟩
 rcases l with⟨q,M⟩|⟨q,c,J,j⟩
 ·exact wpAny_Name (wpAny_loadName_local I.ok.kind q hn M z) hd
 ·rcases q with q|q
  ·exact wpAny_Name (wpAny_loadName_cell I.ok.kind q J j z) hd
  ·exact wpAny_Name (wpAny_loadName_free I.ok.kind q J j z F) hd
theorem pe_int{i j pos}:PE X (.Constant (.int i) j pos) (tC (.int i)):=λ_ _ _ H _ I h=>wpAny_Constant_int ⟨.int i,H,I.tok _,⟨_,rfl⟩,h⟩
theorem pe_bl{b j pos}:PE X (.Constant (.bool b) j pos) (tC (.bl b)):=λ_ _ _ H _ I h=>Constant_bool ⟨.bl b,H,I,rfl,h⟩
theorem pe_non{j pos}:PE X (.Constant .none j pos) (tC .non):=λ_ _ _ H _ I h=>Constant_none ⟨.non,H,I,rfl,h⟩
theorem pe_str{x j pos}:PE X (.Constant (.str x) j pos) (tC (.str x)):=λ_ _ _ H _ I h=>Calls.Constant_str ⟨.str x,H,I.tok _,⟨_,rfl⟩,h⟩
def Gl(X:Cx)(x:Str):Prop:=X.env.kindOf x=some .globalImplicit
theorem qw0{E:Value->Qz->Prop}{j:List (Addr×Obj)}{s:Qz}{q:St}{H:Hp}{x:Str}{u:Value}{pos:Pos}{Q:Value->Qz->Prop}(I:Inv X j q H s)(F:Gl X x)(z:X.mg x=some u)(h:Q u s)
  (hd:(x==("__debug__" : Str))=false:=by decide):wpAny (model X.prog X.w) X.A (eval (.Name x pos) X.env) Q E s:=
 Calls.Name_function_global I.ok.kind F (Calls.loadGlobal_global (by rw[I.ok.glob]; exact I.mod.glob.keeps I.bk) z h) hd
theorem qkc{E:Value->Qz->Prop}{j:List (Addr×Obj)}{s:Qz}{q:St}{H:Hp}{x:Str}{u:Value}{pos:Pos}{Q:Value->Qz->Prop}(I:Inv X j q H s)(L:Gl X x)(J:X.mg x=none)(z:Qa x=some u)(h:Q u s)
  (F:x ≠ "__name__":=by decide) (hd:(x==("__debug__" : Str))=false:=by decide):wpAny (model X.prog X.w) X.A (eval (.Name x pos) X.env) Q E s:=by
 obtain⟨M,h1,h2⟩:=I.mod.blt;exact Calls.Name_function_global I.ok.kind L (Calls.loadGlobal_builtin (by rw[I.ok.glob]; exact I.mod.glob.keeps I.bk) J (by rw[I.ok.blt]; exact h1.keeps I.bk) ((h2 x F).trans z) h) hd
theorem qwp{x:Str}{v:V}{u:Value}{pos:Pos}(q:Gl X x)(j:X.mg x=some u)(r:RelV v u)(hd:(x==("__debug__" : Str))=false:=by decide):PE X (.Name x pos) (tC v):=
 λ_ _ _ H _ I h=>qw0 I q j ⟨v,H,I,r,h⟩ hd
theorem qjx{x:Str}{v:V}{u:Value}{pos:Pos}(F:Gl X x)(z:X.mg x=none)(j:Qa x=some u)(r:RelV v u)(q:x ≠ "__name__":=by decide)(hd:(x==("__debug__" : Str))=false:=by decide):PE X (.Name x pos) (tC v):=
 λ_ _ _ H _ I h=>qkc I F z j ⟨v,H,I,r,h⟩ q hd
def t2I(ta tb:TE)(k:Int->Int->Hp->Prop):St->Hp->Prop:=λσ H=>ta σ H λx H1=>tb σ H1 λy H2=>∃i j,x=.int i/\y=.int j/\k i j H2
variable {a b:Qx}{ta tb:TE}{pos:Pos}
def PC(X:Cx)(op:Qr)(a b:Qx)(t:TE):Prop:=
 ∀(pins:List (Addr×Obj)) (s:Qz) (σ:St) (H:Hp) (Q:VK),Inv X pins σ H s->t σ H Q->
  wpAny (model X.prog X.w) X.A (eval a X.env) (λv s₁=>wpAny (model X.prog X.w) X.A (eval b X.env) (λu s₂=>wpAny (model X.prog X.w) X.A (Qd op v u) (EP X pins σ Q) X.xe s₂) X.xe s₁) X.xe s
theorem nobehind(b:Qx){op:Qr}(h:op≠.In)(j:op≠.NotIn):Qf op b=false:=by
 have z:(op==CmpOp.In)=false:=by cases op<;>first|rfl|exact absurd rfl h
 have q:(op==CmpOp.NotIn)=false:=by cases op<;>first|rfl|exact absurd rfl j
 cases b<;>simp[Qf,z,q]
noncomputable def tCmp(p:Int->Int->Bool)(ta tb:TE):TE:=λσ H Q=>t2I ta tb (λi j H2=>Q (.bl (p i j)) H2) σ H
noncomputable def tB(t:TE):TT:=λσ H Q=>t σ H λx H1=>∃c,x=.bl c/\Q c H1
theorem qyp{op:Qr}{t:TE}(h:PC X op a b t)(q:Qf op b=false):PE X (.Compare a [op] [b] pos) t:=λpins s σ H Q I j=>wpAny_Compare1 (h pins s σ H Q I j) q
theorem qym{op:Qr}{t:TE}(h:PC X op a b t)(j:Qf op b=false):PT X (.Compare a [op] [b] pos) (tB t):=by
 intro pins s σ H Q I J;refine wpAny_isTrue_Compare1 (thn (h pins s σ H _ I J) λv U j=>thn j λu O h2=>thn h2 λc M ⟨x,H1,L,z,F⟩=>?_) j;obtain⟨d,rfl,q⟩:=F;cases z;exact Qc ⟨H1,L,q⟩
variable {tA tB':TT}{rest:List Qx}
noncomputable def tAnd(t u:TT):TT:=λσ H Q=>t σ H λc H1=>if c=true then u σ H1 Q else Q false H1
noncomputable def tOr(t u:TT):TT:=λσ H Q=>t σ H λc H1=>if c=true then Q true H1 else u σ H1 Q
noncomputable def tNot(t:TT):TT:=λσ H Q=>t σ H λc H1=>Q (!c) H1
theorem qik(j:PT X a tA):PW X (.BoolOp .And [a] pos) tA:=by
 intro q pins s σ H Q I h;refine isTrue_and (thn (j pins s σ H Q I h) λc z e=>?_)
 cases c with
 |true=>exact isTrue_and_nil e
 |false=>exact e
theorem pw_or1(j:PT X a tA):PW X (.BoolOp .Or [a] pos) tA:=by
 intro q pins s σ H Q I h;refine isTrue_or (thn (j pins s σ H Q I h) λc z e=>?_)
 cases c with
 |false=>exact isTrue_or_nil e
 |true=>exact e
theorem qgn(L:PT X a tA)(J:PW X (.BoolOp .And (b::rest) pos) tB'):PW X (.BoolOp .And (a::b::rest) pos) (tAnd tA tB'):=by
 intro z pins s σ H Q I h;refine isTrue_and (thn (L pins s σ H _ I h) λc F ⟨H1,q,j⟩=>?_)
 cases c with
 |true=>exact J z pins F σ H1 Q q j
 |false=>exact⟨H1,q,j⟩
theorem pw_or(L:PT X a tA)(J:PW X (.BoolOp .Or (b::rest) pos) tB'):PW X (.BoolOp .Or (a::b::rest) pos) (tOr tA tB'):=by
 intro z pins s σ H Q I h;refine isTrue_or (thn (L pins s σ H _ I h) λc F ⟨H1,q,j⟩=>?_)
 cases c with
 |true=>exact⟨H1,q,j⟩
 |false=>exact J z pins F σ H1 Q q j
theorem pt_not(j:PT X a tA):PT X (.UnaryOp .Not a pos) (tNot tA):=by
 intro pins s σ H Q I h;exact isTrue_not (j pins s σ H (λc H1=>Q (!c) H1) I h)
noncomputable def tAndV(ta tb:TE):TE:=λσ H Q=>ta σ H λx H1=>∃c,x=.bl c/\if c=true then tb σ H1 Q else Q (.bl false) H1
noncomputable def tOrV(ta tb:TE):TE:=λσ H Q=>ta σ H λx H1=>∃c,x=.bl c/\if c=true then Q (.bl true) H1 else tb σ H1 Q
noncomputable def tNotV(ta:TE):TE:=λσ H Q=>ta σ H λx H1=>∃c,x=.bl c/\Q (.bl (!c)) H1
theorem qgu{op}{t:TE}(h:PE X a t):PE X (.BoolOp op [a] pos) t:=λpins s σ H Q I j=>BoolOp_one (h pins s σ H Q I j)
theorem qg0(L:PE X a ta)(J:PE X (.BoolOp .And (b::rest) pos) tb):PE X (.BoolOp .And (a::b::rest) pos) (tAndV ta tb):=by
 intro pins s σ H Q I h;refine BoolOp_and (thn (L pins s σ H _ I h) λv z ⟨x,H1,q,F,j⟩=>?_);obtain⟨c,rfl,j⟩:=j;cases F;refine Qc ?_
 cases c with
 |true=>exact J pins z σ H1 Q q j
 |false=>exact⟨.bl false,H1,q,rfl,j⟩
theorem pe_or(L:PE X a ta)(J:PE X (.BoolOp .Or (b::rest) pos) tb):PE X (.BoolOp .Or (a::b::rest) pos) (tOrV ta tb):=by
 intro pins s σ H Q I h;refine BoolOp_or (thn (L pins s σ H _ I h) λv z ⟨x,H1,q,F,j⟩=>?_);obtain⟨c,rfl,j⟩:=j;cases F;refine Qc ?_
 cases c with
 |false=>exact J pins z σ H1 Q q j
 |true=>exact⟨.bl true,H1,q,rfl,j⟩
theorem pe_not(z:PE X a ta):PE X (.UnaryOp .Not a pos) (tNotV ta):=by
 intro pins s σ H Q I h;refine UnaryOp_ (thn (z pins s σ H _ I h) λv J ⟨x,H1,F,q,j⟩=>?_);obtain⟨c,rfl,j⟩:=j;cases q;exact not_of (Qc ⟨.bl (!c),H1,F,rfl,j⟩)
noncomputable def tIf(t:TT)(ta tb:TE):TE:=λσ H Q=>t σ H λc H1=>if c=true then ta σ H1 Q else tb σ H1 Q
theorem qfc{c:Qx}(F:PT X c tA)(L:PE X a ta)(J:PE X b tb):PE X (.IfExp c a b pos) (tIf tA ta tb):=by
 intro pins s σ H Q I h;refine wpAny_IfExp (thn (F pins s σ H _ I h) λd j ⟨H1,z,q⟩=>?_)
 cases d with
 |true=>exact L pins j σ H1 Q z q
 |false=>exact J pins j σ H1 Q z q
end
end L2
namespace L2
open PySem PySem.Spec PyProof.Rows
def SqL(K:Qqq)(H:Hp)(a:Addr)(xs:List V):Prop:=
 Rd H a (.lst xs)\/
  ∃(o:Obj) (its:Array Value) (n:Nat),K.lookup a=some o/\o.cls=.type "list"/\o.dict=none/\o.data=.seq its n/\its.size<=sizeLine/\Vals xs its.toList
def SqT(K:Qqq)(H:Hp)(a:Addr)(xs:List V):Prop:=
 Rd H a (.tup xs)\/
  ∃(o:Obj) (its:Array Value) (n:Nat),K.lookup a=some o/\o.cls=.type "tuple"/\o.data=.seq its n/\its.size<=sizeLine/\Vals xs its.toList
noncomputable def absV:Value->Option V
 |.none=>some .non
 |.bool b=>some (.bl b)
 |.int i _=>some (.int i)
 |.str x _=>some (.str x)
 |.bytes b _=>some (.byt b)
 |.float b _=>some (.flt b)
 |.ref a=>some (.ref a)
 |.type n=>some (.ty n)
 |_=>none
theorem RelV.abs{x:V}{u:Value}(r:RelV x u):absV u=some x:=by
 cases x with
 |non=>cases r; rfl
 |bl _=>cases r; rfl
 |int _=>obtain⟨t,rfl⟩:=r; rfl
 |str _=>obtain⟨t,rfl⟩:=r; rfl
 |byt _=>obtain⟨t,rfl⟩:=r; rfl
 |flt _=>obtain⟨t,rfl⟩:=r; rfl
 |ref _=>cases r; rfl
 |ty _=>cases r; rfl
theorem RelV.inj{x y:V}{u:Value}(r:RelV x u)(q:RelV y u):x=y:=Option.some.inj (r.abs.symm.trans q.abs)
theorem Vals.inj:∀{xs ys:List V}{us:List Value},Vals xs us->Vals ys us->xs=ys
 |_,_,_,.nil,.nil=>rfl
 |_,_,_,.cons r t,.cons r' t'=>by rw[r.inj r',Vals.inj t t']
section
variable {X:Cx}{pins:List (Addr×Obj)}{σ:St}{H:Hp}{s:Qz}{a:Addr}{xs ys:List V}
theorem SqL.of{K:Qqq}(h:H a=some (.lst xs)):SqL K H a xs:=.inl (.inl h)
theorem SqT.of{K:Qqq}(h:H a=some (.tup xs)):SqT K H a xs:=.inl (.inl h)
theorem Inv.list(I:Inv X pins σ H s)(h:SqL X.K H a xs):∃j:List Value,Vals xs j/\PlainL s.heap a j.toArray/\xs.length<=sizeLine:=by
 rcases h with h|⟨o,j,n,F,J,hd,q,L,r⟩
 ·obtain⟨z,j,n,r,e⟩:=h.ok I.hok;exact⟨j,r,⟨_,n,e,rfl,rfl,rfl⟩,z⟩
 ·refine⟨j.toList,r,⟨o,n,I.kIn a o F,J,hd,by simpa using q⟩,?_⟩;have e:=r.length;simp only[Qzi]at e;omega
theorem Inv.tuple(I:Inv X pins σ H s)(h:SqT X.K H a xs):∃j:List Value,Vals xs j/\IsTup s.heap a j.toArray/\xs.length<=sizeLine:=by
 rcases h with h|⟨o,j,n,F,J,q,L,r⟩
 ·obtain⟨z,j,r,p⟩:=h.ok I.hok;exact⟨j,r,p,z⟩
 ·refine⟨j.toList,r,⟨o,I.kIn a o F,J,n,by simpa using q⟩,?_⟩;have e:=r.length;simp only[Qzi]at e;omega
theorem Inv.list_inj(I:Inv X pins σ H s)(h:SqL X.K H a xs)(h':SqL X.K H a ys):xs=ys:=by
 obtain⟨j,r,⟨o,n,e,_,_,d⟩,_⟩:=I.list h;obtain⟨its',r',⟨o',J,q,_,_,z⟩,_⟩:=I.list h';rw[e]at q; cases q;rw[d]at z;injection z with F _;have:j=its':=by simpa using congrArg Array.toList F
 subst this;exact r.inj r'
theorem Inv.tuple_inj(I:Inv X pins σ H s)(h:SqT X.K H a xs)(h':SqT X.K H a ys):xs=ys:=by
 obtain⟨j,r,⟨o,e,_,n,d⟩,_⟩:=I.tuple h;obtain⟨its',r',⟨o',q,_,J,z⟩,_⟩:=I.tuple h';rw[e]at q; cases q;rw[d]at z;injection z with F _;have:j=its':=by simpa using congrArg Array.toList F
 subst this;exact r.inj r'
end
noncomputable abbrev Cx.wish(X:Cx)(E:Value->Qz->Prop):Cx:={ X with xe:=E }
noncomputable abbrev Cx.nox(X:Cx):Cx:=X.wish λ_ _=>False
theorem Cx.Ok.wish{X:Cx}(ok:X.Ok)(E:Value->Qz->Prop):(X.wish E).Ok:=
 ⟨ok.mod,ok.kind,ok.glob,ok.blt,ok.above,ok.inj,ok.has,ok.cab,ok.hd,ok.frames,ok.stk,ok.exf,ok.bs,ok.bsz,ok.noex,ok.exfs,ok.funs,ok.frf⟩
theorem Cx.Ok.unwish{X:Cx}{E:Value->Qz->Prop}(ok:(X.wish E).Ok):X.Ok:=
 ⟨ok.mod,ok.kind,ok.glob,ok.blt,ok.above,ok.inj,ok.has,ok.cab,ok.hd,ok.frames,ok.stk,ok.exf,ok.bs,ok.bsz,ok.noex,ok.exfs,ok.funs,ok.frf⟩
section
variable {X:Cx}{pins:List (Addr×Obj)}{σ:St}{H:Hp}{s:Qz}{E:Value->Qz->Prop}
theorem Inv.wish(I:Inv X pins σ H s)(E:Value->Qz->Prop):Inv (X.wish E) pins σ H s:=⟨I.ok.wish E,I.os,I.bare,I.base,I.loc,I.cell,I.free,I.freeC,I.pin,I.hok,I.len⟩
theorem Inv.unwish(I:Inv (X.wish E) pins σ H s):Inv X pins σ H s:=⟨I.ok.unwish,I.os,I.bare,I.base,I.loc,I.cell,I.free,I.freeC,I.pin,I.hok,I.len⟩
theorem SP.unwish{D:Ends}{f:Flow}{s':Qz}(h:SP (X.wish E) pins D f s'):SP X pins D f s':=by
 cases f with
 |next=>obtain⟨j,H',I,q⟩:=h; exact⟨j,H',I.unwish,q⟩
 |brk=>obtain⟨j,H',I,q⟩:=h; exact⟨j,H',I.unwish,q⟩
 |cont=>obtain⟨j,H',I,q⟩:=h; exact⟨j,H',I.unwish,q⟩
 |ret u=>obtain⟨v,j,H',I,r,q⟩:=h; exact⟨v,j,H',I.unwish,r,q⟩
theorem PE.nox{e:Qx}{t:TE}(h:PE X.nox e t):PE X e t:=λpins s σ H Q I j=>
 Qb (h pins s σ H Q (I.wish _) j) (λ_ _ ⟨v,H',F,r,q⟩=>⟨v,H',F.unwish,r,q⟩) λ_ _ z=>False.elim z
theorem PT.nox{e:Qx}{t:TT}(h:PT X.nox e t):PT X e t:=λpins s σ H Q I j=>
 Qb (h pins s σ H Q (I.wish _) j) (λ_ _ ⟨H',F,q⟩=>⟨H',F.unwish,q⟩) λ_ _ z=>False.elim z
theorem PSs.nox{st:List Stmt}{t:TS}(h:PSs X.nox st t):PSs X st t:=λpins s σ H D I j=>
 Qb (h pins s σ H D (I.wish _) j) (λ_ _ q=>q.unwish) λ_ _ z=>False.elim z
end
section
variable {X:Cx}{st:Stmt}{rest:List Stmt}{t u:TS}{e:Qx}{te:TE}{pos:Pos}
noncomputable def tNext:TS:=λD σ H=>D.nx σ H
noncomputable def tSeq(t u:TS):TS:=λD σ H=>t { D with nx:=u D } σ H
theorem pss_nil:PSs X [] tNext:=λ_ _ σ H _ I h=>wpAny_execs_nil ⟨σ,H,I,h⟩
theorem qyn(J:PS X st t)(F:PSs X rest u):PSs X (st::rest) (tSeq t u):=by
 intro pins s σ H D I h;refine wpAny_execs_cons (thn (J pins s σ H { D with nx:=u D } I h) λf z q=>?_)
 cases f with
 |next=>
  obtain⟨j,H',L,q⟩:=q;exact F pins z j H' D L q
 |ret v=>exact q
 |brk=>exact q
 |cont=>exact q
theorem Inv.quiet{j:List (Addr×Obj)}{q:St}{H:Hp}{s:Qz}(I:Inv X j q H s):interactive X.env=false:=by simp[interactive,I.ok.kind]
theorem ps_doc{x j pos pos'}:PS X (.Expr (.Constant (.str x) j pos) pos') tNext:=λ_ s σ H _ I h=>wpAny_Expr (Calls.Constant_str (show SP X _ _ .next { s with toks:=s.toks+1 } from⟨σ,H,I.tok _,h⟩)) I.quiet
noncomputable def tDrop(te:TE):TS:=λD σ H=>te σ H λ_ H1=>D.nx σ H1
theorem qiy(z:PE X e te)(q:swapsWith e none pos.line X.env=pure false):PS X (.Expr e pos) (tDrop te):=by
 intro pins s σ H D I h;exact wpAny_Expr_any (thn (z pins s σ H _ I h) λv J ⟨x,H1,F,L,j⟩=>⟨σ,H1,F,j⟩) I.quiet q
noncomputable def tRet(te:TE):TS:=λD σ H=>te σ H D.rt
theorem ps_ret(z:PE X e te):PS X (.Return (some e) pos) (tRet te):=by
 intro pins s σ H D I h;exact wpAny_Return_some (thn (z pins s σ H _ I h) λv J ⟨x,H1,F,j,q⟩=>⟨x,σ,H1,F,j,q⟩)
noncomputable def tIfS(c:TT)(t u:TS):TS:=λD σ H=>c σ H λb H1=>if b=true then t D σ H1 else u D σ H1
theorem ps_if{c:Qx}{a b:List Stmt}{j:TT}(J:PT X c j)(M:PSs X a t)(L:PSs X b u):PS X (.If c a b pos) (tIfS j t u):=by
 intro pins s σ H D I h;refine wpAny_If (thn (J pins s σ H _ I h) λd q ⟨H1,F,z⟩=>?_)
 cases d with
 |true=>exact M pins q σ H1 D F z
 |false=>exact L pins q σ H1 D F z
end
abbrev TG:=V->St->Hp->(St->Hp->Prop)->Prop
abbrev TGs:=List V->St->Hp->(St->Hp->Prop)->Prop
def PG(X:Cx)(target:Qx)(t:TG):Prop:=
 ∀(pins:List (Addr×Obj)) (s:Qz) (σ:St) (H:Hp) (v:V) (u:Value) (Q:St->Hp->Prop),Inv X pins σ H s->RelV v u->t v σ H Q->
  wpAny (model X.prog X.w) X.A (assign target X.env u) (λ_ s'=>∃σ' H',Inv X pins σ' H' s'/\Q σ' H') X.xe s
def PGs(X:Cx)(ts:List Qx)(t:TGs):Prop:=
 ∀(pins:List (Addr×Obj)) (s:Qz) (σ:St) (H:Hp) (vs:List V) (us:List Value) (Q:St->Hp->Prop),Inv X pins σ H s->Vals vs us->t vs σ H Q->
  wpAny (model X.prog X.w) X.A (assignInOrder ((Q6 ts X.env).map (·.2)) us) (λ_ s'=>∃σ' H',Inv X pins σ' H' s'/\Q σ' H') X.xe s
section
variable {X:Cx}{pos:Pos}
noncomputable def qw3(i:Nat):TG:=λv σ H Q=>Q (σ.set i (some v)) H
theorem qcf{i:Nat}{x:Str}(F:X.N.Nodup)(q:X.N[i]?=some x)(j:Loc X.env.scope x)(z:X.fn x=true\/X.env.scope.names.lookup x=some .local):PG X (.Name x pos) (qw3 i):=by
 intro pins s σ H v u Q I r h;exact wpAny_assign_Name (qyc I F q j r (λs' J=>⟨_,H,J,h⟩) z)
noncomputable def gNil:TGs:=λvs σ H Q=>vs=[]/\Q σ H
noncomputable def gCons(t:TG)(u:TGs):TGs:=λvs σ H Q=>∃v r,vs=v::r/\t v σ H λσ' H'=>u r σ' H' Q
theorem qig:PGs X [] gNil:=by
 intro pins s σ H vs j Q I r h;obtain⟨e,h⟩:=h;subst e;cases r;exact assignInOrder_nil ⟨σ,H,I,h⟩
theorem qfy{e:Qx}{es:List Qx}{t:TG}{u:TGs}(M:PG X e t)(L:PGs X es u)
  (J:(Q6 (e::es) X.env).map (·.2)=assign e X.env::(Q6 es X.env).map (·.2):=by rfl):PGs X (e::es) (gCons t u):=by
 intro pins s σ H vs Z Q I r h;obtain⟨v,Y,O,h⟩:=h;subst O
 cases r with
 |cons r z=>
  rw[J];refine assignInOrder_cons (thn (M pins s σ H _ _ _ I r h) λ_ q ⟨j,H1,U,F⟩=>?_);exact L pins q j H1 _ _ Q U z F
noncomputable def gTup(K:Qqq)(n:Nat)(t:TGs):TG:=λv σ H Q=>∃a xs,v=.ref a/\SqT K H a xs/\xs.length=n/\t xs σ H Q
theorem pg_tup{es:List Qx}{k:Nat}{t:TGs}{n:Nat}(Y:X.calm=true)(h:PGs X es t)
  (O:(Q6 es X.env).length=n:=by rfl) (q:(Q6 es X.env).findIdx? (·.1)=none:=by rfl):PG X (.Tuple es k pos) (gTup X.K n t):=by
 intro pins s σ H v u Q I r j;obtain⟨a,xs,Z,M,U,j⟩:=j;subst Z;cases r;obtain⟨F,z,L,hz⟩:=I.tuple M;refine assign_Tuple_tuple (I.ok.hd Y) L (by simp[O,<- U,z.length]) q λh' J=>?_;have I1:Inv X pins σ H { s with heap:=h' }:=I.kept (t':=s.toks) λb o e=>J b o (Qq6 (Qqb e)) e;exact h pins _ σ H xs _ Q I1 (by simpa using z) j
noncomputable def tAsg(te:TE)(g:TG):TS:=λD σ H=>te σ H λx H1=>g x σ H1 D.nx
theorem qgo{i:Nat}{x:Str}{e:Qx}{q:TE}{j:Pos}(Y:X.N.Nodup)(M:X.N[i]?=some x)(J:Loc X.env.scope x)(U:PE X e q)(L:swapsWith e (some (.Name x j)) pos.line X.env=pure false:=by rfl)(O:X.fn x=true\/X.env.scope.names.lookup x=some .local):
  PS X (.Assign [.Name x j] e pos) (tAsg q (qw3 i)):=by
 intro pins s σ H D I h;refine wpAny_Assign_Name (thn (U pins s σ H _ I h) λv s1 ⟨y,H1,I1,z,F⟩=>?_) L;exact qyc I1 Y M J z (λs2 Z=>⟨_,H1,Z,F⟩) O
end
section
variable {X:Cx}{pos:Pos}
end
structure It where
 go:Nat->Hp->Prop
 yld:Nat->Hp->V->Hp->Prop
 stop:Nat->Hp->Prop
def FpOk(X:Cx)(pins:List (Addr×Obj))(H:Hp)(b:Addr):Prop:=
 H b=none/\b≠X.env.locals/\b ∉ X.fs/\(b∈X.ex\/X.s₀.heap.objs.size<=b)/\(∀x c,X.env.cells.lookup x=some c->c≠b)/\∀p∈X.pn++pins,p.1≠b
theorem Inv.fpOk{X:Cx}{j:List (Addr×Obj)}{J:St}{H H':Hp}{s:Qz}{b:Addr}(I:Inv X j J H s)(F:s.heap.objs.size<=b)(M:H' b=none):FpOk X j H' b:=by
 refine⟨M,Qxh (Qq4 I.lt F),I.nofs F,.inr (Qzg I.sz F),λx c e z=>?_,λp L z=>?_⟩
 ·obtain⟨v,q⟩:=I.cell x c e;exact absurd (Qq4 q.lt (by rw[z]; exact F)) (Qz8 _)
 ·exact absurd (Qq4 (Qqb (I.pin p L).1) (by rw[z]; exact F)) (Qz8 _)
structure Turn (P:Program) (w:Qk) (K:Qqq) (tg:Qx) (J:It) (fp:List Addr) (it:Addr) (tn:Nat->Heap->Prop):Prop where
 mem:it∈fp
 obj:∀i h,tn i h->∀b∈fp,∃o,h.get? b=some o/\∀v,o.data≠.cell v
 keep:∀i h h',tn i h->(∀b∈fp,∀o,h.get? b=some o->h'.get? b=some o)->tn i h'
 item:∀(X:Cx),X.prog=P->X.w=w->X.K=K->X.calm=true->∀(i:Nat) (pins:List (Addr×Obj)) (s:Qz) (σ:St) (H:Hp) (E:Value->Qz->Prop),Inv X pins σ H s->(∀b∈fp,FpOk X pins H b)->tn i s.heap->J.go i H->
  wpAny (model P w) X.A (pyNext (.ref it)) (λr s1=>∃u,r=some u/\
   wpAny (model P w) X.A (Zg tg (.ref it) u) (λ_ s2=>∃x H',Inv X pins σ H' s2/\RelV x u/\J.yld i H x H'/\tn (i+1) s2.heap/\∀b∈fp,H' b=none) E s1) E s
 done:∀(X:Cx),X.prog=P->X.w=w->X.K=K->X.calm=true->∀(i:Nat) (pins:List (Addr×Obj)) (s:Qz) (σ:St) (H:Hp) (E:Value->Qz->Prop),Inv X pins σ H s->(∀b∈fp,FpOk X pins H b)->tn i s.heap->J.stop i H->
  wpAny (model P w) X.A (pyNext (.ref it)) (λr s1=>r=none/\Inv X pins σ H s1) E s
 self:∀(A:Qw) (i:Nat) (s:Qz) (Q:Value->Qz->Prop) (E:Value->Qz->Prop),tn i s.heap->Q (.ref it) s->wpAny (model P w) A (pyIter (.ref it)) Q E s
abbrev TI:=St->Hp->(It->Hp->Prop)->Prop
def PIE(X:Cx)(pins:List (Addr×Obj))(σ:St)(tg:Qx)(R:It->Hp->Prop)(itv:Value)(s2:Qz):Prop:=
 ∃(it:Addr) (fp:List Addr) (tn:Nat->Heap->Prop) (J:It) (H':Hp),itv=.ref it/\Inv X pins σ H' s2/\Turn X.prog X.w X.K tg J fp it tn/\tn 0 s2.heap/\(∀b∈fp,FpOk X pins H' b)/\R J H'
def PI(X:Cx)(tg iter:Qx)(wi:TI):Prop:=
 ∀(pins:List (Addr×Obj)) (s:Qz) (σ:St) (H:Hp) (R:It->Hp->Prop),Inv X pins σ H s->wi σ H R->
  wpAny (model X.prog X.w) X.A (eval iter X.env) (λv s1=>wpAny (model X.prog X.w) X.A (pyIter v) (PIE X pins σ tg R) X.xe s1) X.xe s
theorem qft{M:Model}{A:Qw}{E:Value->Qz->Prop}{s:Qz}{q:Qx}{it:Addr}{u:Value}{o:Obj}{n:String}{vs:Array Value}{Q:Unit->Qz->Prop}(z:s.heap.get? it=some o)(J:o.cls=.type n)(hd:o.data=.fields vs)
  (F:["enumerate","zip","dict_itemiterator","dict_reverseitemiterator","odict_iterator","itertools.zip_longest","itertools.pairwise"].contains n=false) (j:Q () s):wpAny M A (Zg q (.ref it) u) Q E s:=by
 unfold Zg
 cases q<;>first
  |exact Qj j
  |(cases u<;>first
    |exact Qj j
    |(refine Qq (wpAny_load z ?_)
      rw[J,hd];show wpAny M A (if (["enumerate","zip","dict_itemiterator","dict_reverseitemiterator","odict_iterator","itertools.zip_longest","itertools.pairwise"].contains n&&vs[0]?==some (rawInt _))=true then _ else _) Q E s;rw[Zs (by intro h; rw[F,Bool.false_and]at h; cases h)]
      exact Qj j))
noncomputable def Itl(K:Qqq)(a:Addr):It:=
 ⟨λi H=>∃xs x,SqL K H a xs/\xs[i]?=some x,λi H x H'=>H'=H/\∀xs,SqL K H a xs->xs[i]?=some x,λi H=>∃xs,SqL K H a xs/\xs.length<=i⟩
noncomputable def Itt(K:Qqq)(a:Addr):It:=
 ⟨λi H=>∃xs x,SqT K H a xs/\xs[i]?=some x,λi H x H'=>H'=H/\∀xs,SqT K H a xs->xs[i]?=some x,λi H=>∃xs,SqT K H a xs/\xs.length<=i⟩
noncomputable def Itr(lo:Int)(n:Nat):It:=⟨λi _=>i<n,λi H x H'=>H'=H/\x=.int (lo+i),λi _=>n<=i⟩
theorem qbi{P:Program}{w:Qk}{K:Qqq}{tg:Qx}(a it:Addr):Turn P w K tg (Itl K a) [it] it (λi h=>h.IsListIter it a i) where
 mem:=by simp
 obj:=λi h st b j=>by
  have e:b=it:=by simpa using j
  subst e;obtain⟨o,e,c,d⟩:=st;exact⟨o,e,λv z=>by rw[d]at z; cases z⟩
 keep:=λi h h' st k=>st.at λo e=>k it (by simp) o e
 item:=by
  intro X U M Y hc i pins s σ H E I hf st O;subst U M Y;obtain⟨xs,x,q,L⟩:=O;obtain⟨J,F,p,hz⟩:=I.list q;obtain⟨u,hu,ru⟩:=F.get L;obtain⟨f0,f1,f2,f3,f4,Z⟩:=hf it (by simp);refine wpAny_pyNext_list_item st p.isList (x:=u) (by simpa using hu) λh' st' sb=>?_;have I1:Inv X pins σ H { s with heap:=h' }:=I.turned (t':=s.toks) (λb o j e=>(sb.2 b j).trans e) f0 f1 f3 f4 Z;obtain⟨o,e,c,d⟩:=id st';exact⟨u,rfl,qft (s:={ s with heap:=h' }) e c d (by decide) ⟨x,H,I1,ru,⟨rfl,λys hy=>by rw[I.list_inj hy q]; exact L⟩,st',λb j=>(hf b j).1⟩⟩
 done:=by
  intro X U M Y hc i pins s σ H E I hf st O;subst U M Y;obtain⟨xs,q,L⟩:=O;obtain⟨J,F,p,hz⟩:=I.list q;obtain⟨f0,f1,f2,f3,f4,Z⟩:=hf it (by simp);have hl:=F.length;exact wpAny_pyNext_list_end (I.ok.hd hc) st p.isList (by simp; omega) λh' eb=>⟨rfl,I.turned (t':=s.toks) (λb o j e=>eb b o j e) f0 f1 f3 f4 Z⟩
 self:=λ_ _ _ _ _ st h=>wpAny_pyIter_listiter st h
theorem qag{P:Program}{w:Qk}{K:Qqq}{tg:Qx}(a it:Addr):Turn P w K tg (Itt K a) [it] it (λi h=>h.IsTupleIter it a i) where
 mem:=by simp
 obj:=λi h st b q=>by
  have e:b=it:=by simpa using q
  subst e;obtain⟨o,e,c,d⟩:=st;exact⟨o,e,λv z=>by rw[d]at z; cases z⟩
 keep:=λi h h' st k=>st.at λo e=>k it (by simp) o e
 item:=by
  intro X U M Y hc i pins s σ H E I hf st O;subst U M Y;obtain⟨xs,x,F,L⟩:=O;obtain⟨j,J,p,hz⟩:=I.tuple F;obtain⟨u,hu,ru⟩:=J.get L;obtain⟨f0,f1,f2,f3,f4,Z⟩:=hf it (by simp);refine wpAny_pyNext_tuple_item st (show s.heap.IsTuple a j.toArray from p) (x:=u) (by simpa using hu) λh' st' sb=>?_;have I1:Inv X pins σ H { s with heap:=h' }:=I.turned (t':=s.toks) (λb o q e=>(sb.2 b q).trans e) f0 f1 f3 f4 Z;obtain⟨o,e,c,d⟩:=id st';exact⟨u,rfl,qft (s:={ s with heap:=h' }) e c d (by decide) ⟨x,H,I1,ru,⟨rfl,λys hy=>by rw[I.tuple_inj hy F]; exact L⟩,st',λb q=>(hf b q).1⟩⟩
 done:=by
  intro X U M Y hc i pins s σ H E I hf st O;subst U M Y;obtain⟨xs,F,L⟩:=O;obtain⟨j,J,p,hz⟩:=I.tuple F;obtain⟨f0,f1,f2,f3,f4,Z⟩:=hf it (by simp);have hl:=J.length;exact wpAny_pyNext_tuple_end (I.ok.hd hc) st (show s.heap.IsTuple a j.toArray from p) (by simp; omega) λh' eb=>⟨rfl,I.turned (t':=s.toks) (λb o q e=>eb b o q e) f0 f1 f3 f4 Z⟩
 self:=λ_ _ _ _ _ st h=>wpAny_pyIter_tupleiter st h
theorem qah{P:Program}{w:Qk}{K:Qqq}{tg:Qx}(it:Addr)(lo:Int)(n:Nat):Turn P w K tg (Itr lo n) [it] it (λi h=>IsRangeIter h it (lo+(i:Nat)*1) ((n:Int) - (i:Nat)) 1) where
 mem:=by simp
 obj:=λi h st b j=>by
  have e:b=it:=by simpa using j
  subst e
  exact⟨_,st,λv z=>by
   have z':Data.fields _=Data.cell v:=z
   cases z'⟩
 keep:=λi h h' st k=>k it (by simp) _ st
 item:=by
  intro X L q M J i pins s σ H E I hf st F;subst L q M;obtain⟨f0,Z,f2,Y,U,O⟩:=hf it (by simp);have W:=Walks.range (prog:=X.prog) (w:=X.w) (I.ok.hd J) it lo 1 n;refine W.item i s _ _ F st λv h' tk hv st' kk=>?_;obtain⟨t,rfl⟩:=hv;have I1:Inv X pins σ H { s with heap:=h',toks:=tk }:=I.turned (λb o j e=>kk b o (by simpa using j) e) f0 Z Y U O;refine⟨_,rfl,qft (s:={ s with heap:=h',toks:=tk }) (n:="range_iterator") st' rfl rfl (by decide) ⟨.int (lo+i),H,I1,⟨t,?_⟩,⟨rfl,rfl⟩,st',λb j=>(hf b j).1⟩⟩;rw[Int.mul_one]
 done:=by
  intro X L q M J i pins s σ H E I hf st F;subst L q M;obtain⟨f0,Z,f2,Y,U,O⟩:=hf it (by simp);exact wpAny_pyNext_range_end (I.ok.hd J) st (by have:n<=i:=F; omega) λh' eb=>⟨rfl,I.turned (t':=s.toks) (λb o j e=>eb b o j e) f0 Z Y U O⟩
 self:=λ_ _ _ _ _ st h=>wpAny_pyIter_rangeiter st h
end L2
namespace L2
open PySem PySem.Spec PyProof.Rows
section
variable {X:Cx}{tg:Qx}
theorem qyl{z:List (Addr×Obj)}{F:St}{H:Hp}{s:Qz}{R:It->Hp->Prop}{E:Value->Qz->Prop}{lo j:Int}{t u v:Tok}{J:Nat}(I:Inv X z F H s)(Z:-(2 ^ 62)<=lo)(Y:lo<2 ^ 62)(U:-(2 ^ 62)<=j)(O:j<2 ^ 62)
  (q:R (Itr lo (j - lo).toNat) H):wpAny (model X.prog X.w) X.A (pyIter (.ref s.heap.objs.size)) (PIE X z F tg R) E { s with heap:=s.heap.push { cls:=.type "range",data:=.fields #[.int lo t,.int j u,.int 1 v] },toks:=J }:=by
 refine wpAny_pyIter_range (IsRange.new ..) (small_one Z Y U O) ?_;have L:Inv X z F H { s with heap:=s.heap.push { cls:=.type "range",data:=.fields #[.int lo t,.int j u,.int 1 v] },toks:=J }:=I.kept λb o e=>Qqz _ e
 refine⟨(s.heap.push { cls:=.type "range",data:=.fields #[.int lo t,.int j u,.int 1 v] }).objs.size,[(s.heap.push { cls:=.type "range",data:=.fields #[.int lo t,.int j u,.int 1 v] }).objs.size],_,_,H,rfl,
  L.kept (t':=J) λb o e=>Qqz _ e,qah _ lo (j - lo).toNat,?_,λb M=>?_,q⟩
 ·have e1:lo+((0:Nat):Int)*1=lo:=by simp
  have e2:(((j - lo).toNat:Nat):Int) - ((0:Nat):Int)=Builtin.Range.rangeSize lo j 1:=by rw[rangeSize_one]; split<;>omega
  show IsRangeIter _ _ (lo+((0:Nat):Int)*1) ((((j - lo).toNat:Nat):Int) - ((0:Nat):Int)) 1;rw[e1,e2];exact Qqg _ rfl
 ·have e:b=(s.heap.push { cls:=.type "range",data:=.fields #[.int lo t,.int j u,.int 1 v] }).objs.size:=by simpa using M
  subst e;exact L.fpOk (Qqk _) (L.hok.fresh (Qqk _))
noncomputable def iRng1(ta:TA):TI:=λσ H R=>ta σ H λvs H1=>∃j:Int,vs=[.int j]/\-(2 ^ 62)<=j/\j<2 ^ 62/\R (Itr 0 j.toNat) H1
noncomputable def iRng2(ta:TA):TI:=λσ H R=>ta σ H λvs H1=>∃i j:Int,vs=[.int i,.int j]/\(-(2 ^ 62)<=i/\i<2 ^ 62/\-(2 ^ 62)<=j/\j<2 ^ 62)/\R (Itr i (j - i).toNat) H1
theorem qce{a:Qx}{F:TA}{p pos:Pos}(Y:Gl X "range")(U:X.mg "range" = none)(Z:PA X [a] F)(O:starEach [a] X.env=[(false,eval a X.env)]:=by rfl):PI X tg (.Call (.Name "range" p) [a] [] pos) (iRng1 F):=by
 intro pins s σ H R I h;refine Call_ (qkc I Y U boot_range (PyProof.Rows.callWith_type1 (thn (Z pos pins s σ H _ I h) λus s1 ⟨vs,H1,I1,L,z⟩=>?_) O rfl));obtain⟨j,e,z,M,q⟩:=z;subst e
 cases L with
 |cons r J=>
  cases J;obtain⟨t,rfl⟩:=r;exact call_range_1 (qyl I1 (by omega) (by omega) z M (by simpa using q))
theorem qcd{a b:Qx}{L:TA}{p pos:Pos}(hg:Gl X "range")(hm:X.mg "range" = none)(ha:PA X [a,b] L)(Z:starEach [a,b] X.env=[(false,eval a X.env),(false,eval b X.env)]:=by rfl)(z:starEach [b] X.env=[(false,eval b X.env)]:=by rfl):
  PI X tg (.Call (.Name "range" p) [a,b] [] pos) (iRng2 L):=by
 intro pins s σ H R I h;refine Call_ (qkc I hg hm boot_range (PyProof.Rows.callWith_type1 (thn (ha pos pins s σ H _ I h) λus s1 ⟨vs,H1,I1,M,J⟩=>?_) (by rw[Z,z]) (by rw[z]; rfl)));obtain⟨i,j,e,⟨J,Y,U,O⟩,q⟩:=J;subst e
 cases M with
 |cons r F=>
  cases F with
  |cons r' F=>
   cases F;obtain⟨t,rfl⟩:=r;obtain⟨t',rfl⟩:=r';exact call_range_2 (qyl I1 J Y U O q)
noncomputable def tFor(wi:TI)(g:TG)(tb:TS):TS:=λD σ H=>wi σ H λJ H1=>∃W:Nat->Nat->St->Hp->Prop,(∃m,W 0 m σ H1)/\∀i m σ H,W i m σ H->
 (J.stop i H/\D.nx σ H)\/(J.go i H/\∃N:St->Hp->Prop,(∀σ' H',N σ' H'->∃m',m'<m/\W (i+1) m' σ' H')/\∀x H',J.yld i H x H'->g x σ H' λσ2 H2=>tb { D with nx:=N,ct:=N,bk:=D.nx } σ2 H2)
noncomputable def qvn(fp:List Addr)(h:Heap):List (Addr×Obj):=fp.filterMap λb=>(h.get? b).map λo=>(b,o)
theorem qqr{j:List Addr}{h:Heap}{b:Addr}{o:Obj}(q:b∈j)(e:h.get? b=some o):(b,o)∈qvn j h:=Qxi.mpr ⟨b,q,by rw[e]; rfl⟩
theorem qcp{j:List Addr}{h:Heap}{p:Addr×Obj}(z:p∈qvn j h):p.1∈j/\h.get? p.1=some p.2:=by
 obtain⟨b,F,e⟩:=Qxi.mp z
 cases q:h.get? b with
 |none=>rw[q]at e; cases e
 |some o=>
  rw[q]at e;have J:(b,o)=p:=Option.some.inj e;subst J;exact⟨F,q⟩
theorem Inv.pinned{j:List (Addr×Obj)}{F:St}{H:Hp}{s:Qz}{q:List Addr}(I:Inv X j F H s)(U:∀b∈q,FpOk X j H b)(O:∀b∈q,∃o,s.heap.get? b=some o/\∀v,o.data≠.cell v):Inv X (j++qvn q s.heap) F H s:=
 I.pins_of λp M=>(Qqi.mp M).elim (λz=>I.pin p (Qq3 _ z)) λz=>by
  obtain⟨J,e⟩:=qcp z;obtain⟨f0,Z,Y,_⟩:=U p.1 J;obtain⟨o,L,d⟩:=O p.1 J;rw[e]at L; cases L;exact⟨e,f0,Z,Y,d⟩
theorem Inv.unpinned{j pl:List (Addr×Obj)}{q:St}{H:Hp}{s:Qz}(I:Inv X (j++pl) q H s):Inv X j q H s:=I.pins_of λp z=>I.pin p (Qq3 _ (Qzz _ z))
theorem qgp{L:Qx}{body:List Stmt}{wi:TI}{g:TG}{tb:TS}{pos:Pos}(hp:PassesOwn (model X.prog X.w) X.A X.env X.xe)(hc:X.calm=true)(hi:PI X tg L wi)(hg:PG X tg g)(M:PSs X body tb)
  (hs:∀x,foldedSetIterable L X.env x=pure x):PS X (.For tg L body [] pos) (tFor wi g tb):=by
 intro pins s σ H D I h;refine wpAny_For (thn (hi pins s σ H _ I h) λv s1 h1=>thn h1 λa8 s2 h2=>?_) hs;obtain⟨it,fp,tn,J,H2,e,I2,T,a5,f2,W,⟨m0,w0⟩,a1⟩:=h2;subst e;have F:∀{H':Hp},(∀b∈fp,H' b=none)->∀b∈fp,FpOk X pins H' b:=λhn b M=>⟨hn b M,(f2 b M).2⟩
 refine codeAny_forLoop_any (λn s'=>∃i z H',Inv X pins z H' s'/\tn i s'.heap/\(∀b∈fp,H' b=none)/\W i n z H') ?_ m0 ⟨0,σ,H2,I2,a5,λb M=>(f2 b M).1,w0⟩;rintro n s3 ⟨i,q,H3,I3,a2,a3,w3⟩;rcases a1 i n q H3 w3 with⟨stop,qn⟩|⟨go,N,hN,step⟩
 ·refine Zx hp (thn (T.done X rfl rfl rfl hc i pins s3 q H3 X.xe I3 (F a3) a2 stop) λr s4 ⟨hr,I4⟩=>?_);subst hr;exact wpAny_execs_nil ⟨q,H3,I4,qn⟩
 ·refine Zx hp (thn (T.item X rfl rfl rfl hc i pins s3 q H3 X.xe I3 (F a3) a2 go) λr s4 ⟨u,hr,h4⟩=>?_);subst hr;refine Zx hp (thn h4 λ_ s5 ⟨x,H5,I5,r5,y5,a0,a6⟩=>?_);have a7:=I5.pinned (F a6) (T.obj _ _ a0);refine Zx hp (thn (hg _ s5 q H5 x u _ a7 r5 (step x H5 y5)) λ_ s6 ⟨a4,H6,I6,q6⟩=>?_);refine Zx hp (thn (M _ s6 a4 H6 _ I6 q6) λf s7 Z=>?_);have O:∀{j:St}{Y:Hp},Inv X (pins++qvn fp s5.heap) j Y s7->N j Y->∃m,m<n/\∃i z H',Inv X pins z H' s7/\tn i s7.heap/\(∀b∈fp,H' b=none)/\W i m z H':=λ{j Y} U n7=>by
   obtain⟨m',hm,w7⟩:=hN j Y n7;refine⟨m',hm,i+1,j,Y,U.unpinned,T.keep _ _ _ a0 λb M o e=>(U.pin (b,o) (Qq3 _ (Qq3 _ (qqr M e)))).1,λb M=>?_,w7⟩;obtain⟨o,e,d⟩:=T.obj _ _ a0 b M;exact(U.pin (b,o) (Qq3 _ (Qq3 _ (qqr M e)))).2.1
  cases f with
  |next=>obtain⟨j,Y,U,n7⟩:=Z; exact O U n7
  |cont=>obtain⟨j,Y,U,n7⟩:=Z; exact O U n7
  |brk=>obtain⟨j,Y,U,Z⟩:=Z; exact⟨j,Y,U.unpinned,Z⟩
  |ret v=>obtain⟨x7,j,Y,U,r7,Z⟩:=Z; exact⟨x7,j,Y,U.unpinned,r7,Z⟩
end
end L2
namespace L2
open PySem PySem.Spec PyProof.Rows
abbrev R2:=V->V->Hp->VK->Prop
def OpR(X:Cx)(f:Value->Value->Sem Value)(r:R2):Prop:=
 ∀(pins:List (Addr×Obj)) (s:Qz) (σ:St) (H:Hp) (x y:V) (v u:Value) (Q:VK),Inv X pins σ H s->RelV x v->RelV y u->r x y H Q->
  wpAny (model X.prog X.w) X.A (f v u) (EP X pins σ Q) X.xe s
def UnR(X:Cx)(f:Value->Sem Value)(r:V->Hp->VK->Prop):Prop:=
 ∀(pins:List (Addr×Obj)) (s:Qz) (σ:St) (H:Hp) (x:V) (v:Value) (Q:VK),Inv X pins σ H s->RelV x v->r x H Q->
  wpAny (model X.prog X.w) X.A (f v) (EP X pins σ Q) X.xe s
def CallR(X:Cx)(f:Value)(r:List V->Hp->VK->Prop):Prop:=
 ∀(pins:List (Addr×Obj)) (s:Qz) (σ:St) (H:Hp) (xs:List V) (us:List Value) (Q:VK),Inv X pins σ H s->Vals xs us->r xs H Q->
  wpAny (model X.prog X.w) X.A (call f us) (EP X pins σ Q) X.xe s
def TruR(X:Cx)(r:V->Hp->(Bool->Hp->Prop)->Prop):Prop:=
 ∀(pins:List (Addr×Obj)) (s:Qz) (σ:St) (H:Hp) (x:V) (v:Value) (Q:Bool->Hp->Prop),Inv X pins σ H s->RelV x v->r x H Q->
  wpAny (model X.prog X.w) X.A (truthy v) (TP X pins σ Q) X.xe s
noncomputable def tOp(r:R2)(ta tb:TE):TE:=λσ H Q=>ta σ H λx H1=>tb σ H1 λy H2=>r x y H2 Q
noncomputable def tUn(r:V->Hp->VK->Prop)(ta:TE):TE:=λσ H Q=>ta σ H λx H1=>r x H1 Q
noncomputable def rI(C:Int->Int->Prop)(g:Int->Int->V):R2:=λx y H Q=>∃i j,x=.int i/\y=.int j/\C i j/\Q (g i j) H
noncomputable def rI0(g:Int->Int->V):R2:=λx y H Q=>∃i j,x=.int i/\y=.int j/\Q (g i j) H
def rU(g:Int->V):V->Hp->VK->Prop:=λx H Q=>∃i,x=.int i/\Q (g i) H
section
variable {X:Cx}{a b c:Qx}{ta tb tc:TE}{pos:Pos}
theorem binT(ha:PE X a ta)(hb:PE X b tb){j:List (Addr×Obj)}{s:Qz}{q:St}{H:Hp}{R:V->V->Hp->Prop}(I:Inv X j q H s)
  (h:ta q H λx H1=>tb q H1 λy H2=>R x y H2){Q:Value->Qz->Prop}{f:Value->Value->Sem Value}
  (Z:∀v u J x y H2,Inv X j q H2 J->RelV x v->RelV y u->R x y H2->wpAny (model X.prog X.w) X.A (f v u) Q X.xe J) :
  wpAny (model X.prog X.w) X.A (eval a X.env) (λv F=>wpAny (model X.prog X.w) X.A (eval b X.env) (λu z=>wpAny (model X.prog X.w) X.A (f v u) Q X.xe z) X.xe F) X.xe s:=by
 refine thn (ha j s q H _ I h) λv L ⟨x,H1,I1,O,Y⟩=>?_;refine thn (hb j L q H1 _ I1 Y) λu J ⟨y,H2,I2,M,U⟩=>?_;exact Z v u J x y H2 I2 O M U
theorem pe_op{op:Zd}{r:R2}(J:OpR X (Q3 op) r)(M:PE X a ta)(L:PE X b tb):PE X (.BinOp a op b pos) (tOp r ta tb):=by
 intro pins s σ H Q I h;exact wpAny_BinOp (binT M L I h λv u j x y H2 O F z q=>J pins j σ H2 x y v u Q O F z q)
theorem pe_un{op:UnaryOp}{r:V->Hp->VK->Prop}(F:UnR X (unaryOp op) r)(J:PE X a ta):PE X (.UnaryOp op a pos) (tUn r ta):=by
 intro pins s σ H Q I h;exact UnaryOp_ (thn (J pins s σ H _ I h) λv j ⟨x,H1,L,q,z⟩=>F pins j σ H1 x v Q L q z)
theorem opI{f:Value->Value->Sem Value}{C:Int->Int->Prop}{g:Int->Int->Int}
  (z:∀(i j:Int) (t u:Tok) (s:Qz) (Q:Value->Qz->Prop) (E:Value->Qz->Prop),C i j->Q (.int (g i j) s.toks) { s with toks:=s.toks+1 }->wpAny (model X.prog X.w) X.A (f (.int i t) (.int j u)) Q E s) :
  OpR X f (rI C λi j=>.int (g i j)):=by
 intro pins s σ H x y v u Q I L J h;obtain⟨i,j,rfl,rfl,M,q⟩:=h;obtain⟨t,rfl⟩:=L;obtain⟨F,rfl⟩:=J;exact z i j t F s _ _ M ⟨.int (g i j),H,I.tok _,⟨_,rfl⟩,q⟩
theorem opI0{f:Value->Value->Sem Value}{g:Int->Int->Int}
  (z:∀(i j:Int) (t u:Tok) (s:Qz) (Q:Value->Qz->Prop) (E:Value->Qz->Prop),Q (.int (g i j) s.toks) { s with toks:=s.toks+1 }->wpAny (model X.prog X.w) X.A (f (.int i t) (.int j u)) Q E s) :
  OpR X f (rI0 λi j=>.int (g i j)):=by
 intro pins s σ H x y v u Q I L J h;obtain⟨i,j,rfl,rfl,q⟩:=h;obtain⟨t,rfl⟩:=L;obtain⟨F,rfl⟩:=J;exact z i j t F s _ _ ⟨.int (g i j),H,I.tok _,⟨_,rfl⟩,q⟩
theorem opB0{f:Value->Value->Sem Value}{g:Int->Int->Bool}
  (z:∀(i j:Int) (t u:Tok) (s:Qz) (Q:Value->Qz->Prop) (E:Value->Qz->Prop),Q (.bool (g i j)) s->wpAny (model X.prog X.w) X.A (f (.int i t) (.int j u)) Q E s) :
  OpR X f (rI0 λi j=>.bl (g i j)):=by
 intro pins s σ H x y v u Q I L J h;obtain⟨i,j,rfl,rfl,q⟩:=h;obtain⟨t,rfl⟩:=L;obtain⟨F,rfl⟩:=J;exact z i j t F s _ _ ⟨.bl (g i j),H,I,rfl,q⟩
def CPow(i j:Int):Prop:=0<=j/\j<=1000000/\i.natAbs<2 ^ 64
def CMul(i j:Int):Prop:=(-(2 ^ 64)<i/\i<2 ^ 64)\/(-(2 ^ 64)<j/\j<2 ^ 64)
theorem CMul.ok{i j:Int}(h:CMul i j):IntMulOk i j:=by
 rcases h with⟨h1,h2⟩|⟨h1,h2⟩
 ·exact .of_left (intBits_le_64 h1 h2)
 ·exact .of_right (intBits_le_64 h1 h2)
theorem op_add:OpR X (Q3 .Add) (rI0 λi j=>.int (i+j)):=opI0 λ_ _ _ _ _ _ _ q=>add_int q
theorem qcm:OpR X (Q3 .Sub) (rI0 λi j=>.int (i - j)):=opI0 λ_ _ _ _ _ _ _ q=>sub_int q
theorem op_mul:OpR X (Q3 .Mult) (rI CMul λi j=>.int (i*j)):=opI λ_ _ _ _ _ _ _ z q=>mul_int q z.ok
theorem op_mod:OpR X (Q3 .Mod) (rI (λ_ j=>0<j) λi j=>.int (i % j)):=opI λi j _ _ _ _ _ z q=>by
 have h1:(0:Int)<j:=z;exact mod_int' (by omega) (by rw[Int.fmod_eq_emod_of_nonneg i (by omega)]; exact q)
theorem op_pow:OpR X (Q3 .Pow) (rI CPow λi j=>.int (i ^ j.toNat)):=opI λ_ _ _ _ _ _ _ z q=>pow_int_small z.1 z.2.1 z.2.2 q
theorem unI{f:Value->Sem Value}{g:Int->Int}
  (j:∀(i:Int) (t:Tok) (s:Qz) (Q:Value->Qz->Prop) (E:Value->Qz->Prop),Q (.int (g i) s.toks) { s with toks:=s.toks+1 }->wpAny (model X.prog X.w) X.A (f (.int i t)) Q E s) :
  UnR X f (rU λi=>.int (g i)):=by
 intro pins s σ H x v Q I z h;obtain⟨i,rfl,q⟩:=h;obtain⟨t,rfl⟩:=z;exact j i t s _ _ ⟨.int (g i),H,I.tok _,⟨_,rfl⟩,q⟩
theorem un_neg:UnR X (unaryOp .USub) (rU λi=>.int (-i)):=unI λ_ _ _ _ _ q=>neg_int q
end
section
variable {X:Cx}{a b c:Qx}{ta tb tc:TE}{pos:Pos}
theorem qhx{j:List (Addr×Obj)}{z:St}{H:Hp}{s:Qz}{Q:VK}{k F:Bool}(I:Inv X j z H s)(q:Q (.bl k) H)(e:k=F):EP X j z Q (.bool F) s:=by
 subst e;exact⟨.bl k,H,I,rfl,q⟩
theorem op_lt:OpR X (Qd .Lt) (rI0 λi j=>.bl (decide (i<j))):=opB0 λ_ _ _ _ _ _ _ q=>lt_int q
theorem op_le:OpR X (Qd .LtE) (rI0 λi j=>.bl (decide (i<=j))):=opB0 λ_ _ _ _ _ _ _ q=>le_int q
theorem op_gt:OpR X (Qd .Gt) (rI0 λi j=>.bl (decide (j<i))):=opB0 λ_ _ _ _ _ _ _ q=>gt_int q
theorem op_ge:OpR X (Qd .GtE) (rI0 λi j=>.bl (decide (j<=i))):=opB0 λ_ _ _ _ _ _ _ q=>ge_int q
theorem op_isN:OpR X (Qd .Is) (λx y H Q=>y=.non/\Q (.bl (decide (x=.non))) H):=by
 intro pins s σ H x y v u Q I j z h;obtain⟨rfl,q⟩:=h;cases z;refine is_none_gen (qhx I q ?_)
 cases x<;>first
  |(cases j; rfl)
  |(obtain⟨t,rfl⟩:=j; rfl)
theorem qi1:OpR X (Qd .IsNot) (λx y H Q=>y=.non/\Q (.bl (!decide (x=.non))) H):=by
 intro pins s σ H x y v u Q I j z h;obtain⟨rfl,q⟩:=h;cases z;refine isnot_none_gen (qhx I q ?_)
 cases x<;>first
  |(cases j; rfl)
  |(obtain⟨t,rfl⟩:=j; rfl)
theorem OpR.or{f:Value->Value->Sem Value}{r F:R2}(h:OpR X f r)(h':OpR X f F):OpR X f (λx y H Q=>r x y H Q\/F x y H Q):=by
 intro pins s σ H x y v u Q I z j q;rcases q with q|q
 ·exact h pins s σ H x y v u Q I z j q
 ·exact h' pins s σ H x y v u Q I z j q
theorem qio{op:Qr}{r:R2}(J:OpR X (Qd op) r)(O:PE X a ta)(M:PE X b tb)(L:Qf op b=false):PE X (.Compare a [op] [b] pos) (tOp r ta tb):=by
 intro pins s σ H Q I h;exact wpAny_Compare1 (binT O M I h λv u j x y H2 U F z q=>J pins j σ H2 x y v u Q U F z q) L
noncomputable def tTest(t:TE):TT:=λσ H Q=>t σ H λx H'=>∃k,x=.bl k/\Q k H'
theorem qiv{op:Qr}{r:R2}(Y:OpR X (Qd op) r)(ha:PE X a ta)(hb:PE X b tb)(Z:Qf op b=false):PT X (.Compare a [op] [b] pos) (tTest (tOp r ta tb)):=by
 intro pins s σ H Q I h
 refine wpAny_isTrue_Compare1 (thn (ha pins s σ H _ I h) λv q ⟨x,H1,I1,L,U⟩=>thn (hb pins q σ H1 _ I1 U) λu j ⟨y,H2,I2,J,O⟩=>
  thn (Y pins j σ H2 x y v u _ I2 L J O) λc s3 ⟨z,H3,I3,F,k,e,M⟩=>?_) Z
 subst e;cases F;exact Qc ⟨H3,I3,M⟩
noncomputable def qgh(r r':R2)(ta tb tc:TE):TE:=λσ H Q=>ta σ H λx H1=>tb σ H1 λy H2=>r x y H2 λz H3=>∃k,z=.bl k/\
 (if k=true then tc σ H3 λw' H4=>r' y w' H4 Q else Q (.bl false) H3)
theorem qff{op j:Qr}{r J:R2}(ho:OpR X (Qd op) r)(q:OpR X (Qd j) J)(ha:PE X a ta)(hb:PE X b tb)(hc:PE X c tc)
  (hm:lastMarks [op,j] [b,c]=false):PE X (.Compare a [op,j] [b,c] pos) (qgh r J ta tb tc):=by
 intro pins s σ H Q I h
 refine Compare_chain (thn (ha pins s σ H _ I h) λv s1 ⟨x,H1,I1,r1,q1⟩=>chain_link (thn (hb pins s1 σ H1 _ I1 q1) λu s2 ⟨y,H2,I2,F,q2⟩=>
  thn (ho pins s2 σ H2 x y v u _ I2 r1 F q2) λd s3 ⟨z,O,M,r3,k,e,L⟩=>?_)) hm
 subst e;cases r3;refine Qc ?_
 cases k with
 |false=>exact ite_ff ⟨.bl false,O,M,rfl,L⟩
 |true=>exact ite_tt (chain_last (thn (hc pins s3 σ O _ M L) λY Z ⟨U,H4,I4,r4,q4⟩=>q pins Z σ H4 y U u Y Q I4 F r4 q4))
theorem qfx{op j:Qr}{r J:R2}(ho:OpR X (Qd op) r)(q:OpR X (Qd j) J)(ha:PE X a ta)(hb:PE X b tb)(hc:PE X c tc)
  (hm:lastMarks [op,j] [b,c]=false):PT X (.Compare a [op,j] [b,c] pos) (tTest (qgh r J ta tb tc)):=by
 intro pins s σ H Q I h
 refine isTrue_chain (thn (ha pins s σ H _ I h) λv s1 ⟨x,H1,I1,r1,q1⟩=>test_link (thn (hb pins s1 σ H1 _ I1 q1) λu s2 ⟨y,H2,I2,F,q2⟩=>
  thn (ho pins s2 σ H2 x y v u _ I2 r1 F q2) λd s3 ⟨z,O,M,r3,k,e,L⟩=>?_)) hm
 subst e;cases r3;refine Qc ?_
 cases k with
 |false=>
  obtain⟨k',e',q'⟩:=L;cases e';exact ite_ff ⟨O,M,q'⟩
 |true=>
  refine ite_tt (test_last (thn (hc pins s3 σ O _ M L) λY Z ⟨U,H4,I4,r4,q4⟩=>thn (q pins Z σ H4 y U u Y _ I4 F r4 q4) λd' s5 ⟨z2,H5,I5,r5,k2,e2,q5⟩=>?_));subst e2;cases r5;exact Qc ⟨H5,I5,q5⟩
def TruV(K:Qqq)(x:V)(H:Hp)(k:Bool):Prop:=
 match x with
 |.non=>k=false
 |.bl b=>k=b
 |.int i=>k=(i != 0)
 |.str y=>y.length<=sizeLine/\k=((y.length:Int) != 0)
 |.byt y=>y.size<=sizeLine/\k=((y.size:Int) != 0)
 |.ref p=>(∃xs,SqL K H p xs/\k = !xs.isEmpty)\/(∃xs,SqT K H p xs/\k = !xs.isEmpty)\/∃kvs,H p=some (.dK kvs)/\k = !kvs.isEmpty
 |_=>False
theorem qa9{j:Type}{kvs:List (j×V)}{vs:List (j×Value)}(r:KV kvs vs):(!vs.isEmpty) = !kvs.isEmpty:=by
 cases r<;>rfl
theorem qkd{xs:List V}{j:List Value}(r:Vals xs j):(!j.toArray.isEmpty) = !xs.isEmpty:=by
 cases r<;>simp
theorem qy2:(sizeLine:Nat)<2 ^ 63:=by rw[Q2]; decide
theorem tru_ok:TruR X (λx H Q=>∃k,TruV X.K x H k/\Q k H):=by
 intro pins s σ H x v Q I F h;obtain⟨k,e,q⟩:=h;have Z:=qy2;have Y:sizeLine=16777216:=Q2
 cases x with
 |non=>
  cases F;have j:k=false:=e;subst j;exact truthy_none ⟨H,I,q⟩
 |bl b=>
  cases F;have j:k=b:=e;subst j;exact Qc ⟨H,I,q⟩
 |int i=>
  obtain⟨t,rfl⟩:=F;have j:k=(i != 0):=e;subst j;exact PySem.P.truthy_int ⟨H,I,q⟩
 |str y=>
  obtain⟨t,rfl⟩:=F;obtain⟨O,j⟩:y.length<=sizeLine/\k=((y.length:Int) != 0):=e;subst j;exact PySem.P.truthy_str (by omega) ⟨H,I.tok _,q⟩
 |byt y=>
  obtain⟨t,rfl⟩:=F;obtain⟨O,j⟩:y.size<=sizeLine/\k=((y.size:Int) != 0):=e;subst j;exact PySem.W.truthy_bytes (by omega) ⟨H,I.tok _,q⟩
 |ref p=>
  cases F;have j:(∃xs,SqL X.K H p xs/\k = !xs.isEmpty)\/(∃xs,SqT X.K H p xs/\k = !xs.isEmpty)\/∃kvs,H p=some (.dK kvs)/\k = !kvs.isEmpty:=e;rcases j with⟨xs,J,j⟩|⟨xs,J,j⟩|⟨kvs,J,j⟩
  ·subst j;obtain⟨L,r,pl,M⟩:=I.list J;have z:=r.length;exact wpAny_truthy_list pl.isList (by simp only[Qqj]; omega) ⟨H,I.tok _,by rw[qkd r]; exact q⟩
  ·subst j;obtain⟨L,r,pl,M⟩:=I.tuple J;have z:=r.length;exact truthy_tuple pl (by simp only[Qqj]; omega) ⟨H,I.tok _,by rw[qkd r]; exact q⟩
  ·subst j;obtain⟨M,U,vs,r,m⟩:kvs.length<=sizeLine/\(p==Qo)=false/\∃vs,KV kvs vs/\s.heap.DictOf (mixKind X.prog X.w) p vs:=I.hok p _ J;have z:kvs.length=vs.length:=Paired.length r;exact wpAny_truthy_dict U m (by omega) ⟨H,I.tok _,by rw[qa9 r]; exact q⟩
 |_=>exact(show False from e).elim
theorem qqo(L:PE X a ta)(J:∀j,isTrue a X.env j=(do let v <- j; standAt a.pos; holding [v] (truthy v))):
  PT X a (λσ H Q=>ta σ H λx H'=>∃k,TruV X.K x H' k/\Q k H'):=by
 intro pins s σ H Q I h;exact isTrue_plain (thn (L pins s σ H _ I h) λv q ⟨x,H1,M,z,F⟩=>tru_ok pins q σ H1 x v Q M z F) (J _)
theorem vals1{x:V}{us:List Value}(r:Vals [x] us):∃u,us=[u]/\RelV x u:=by
 cases r with
 |cons q j=>cases j; exact⟨_,rfl,q⟩
theorem vals2{x y:V}{us:List Value}(r:Vals [x,y] us):∃u w',us=[u,w']/\RelV x u/\RelV y w':=by
 cases r with
 |cons F z=>
  cases z with
  |cons q j=>cases j; exact⟨_,_,rfl,F,q⟩
theorem qd3(F:X.calm=true):CallR X (.builtin "min") (λxs H Q=>∃i j,xs=[.int i,.int j]/\Q (.int (if j<i then j else i)) H):=by
 intro pins s σ H xs L Q I r h;obtain⟨i,j,rfl,q⟩:=h;obtain⟨u,J,rfl,⟨t,rfl⟩,⟨M,rfl⟩⟩:=vals2 r;refine min_two_ints (I.ok.hd F) λh' tk k=>⟨_,H,I.kept k,?_,q⟩
 by_cases z:j<i
 ·rw[Zt z,Zt z]; exact⟨_,rfl⟩
 ·rw[Zs z,Zs z]; exact⟨_,rfl⟩
end
end L2
namespace L2
open PySem PySem.Spec PyProof.Rows
structure ObjM (h:Heap) (x dx C:Addr) (mA:Str->Option Value):Prop where
 obj:h.get? x=some (PySem.W.instObj C dx)
 ns:h.Ns1 dx mA
 ne:dx≠x
theorem qc2{h:Heap}{L:Addr}{J:Str->Option Value}(n:h.Ns1 L J):∃F,h.get? L=some F/\∀name,PySem.W.lookIn name F=some (J name):=by
 obtain⟨o,es,ep,O,hd,Y,_,U⟩:=n;refine⟨o,O,λname=>?_⟩;have e:=U name;unfold nsFind findBy at e;rw[<- Array.find?_toList]at e;unfold PySem.W.lookIn;rw[hd];dsimp only
 split
 ·rename_i y q;rw[q]at e;exact congrArg some e
 ·rename_i q;rw[q]at e;have a:es.toList.any (·.refKey)=false:=by
   rw[Qjw];intro y M;obtain⟨z,t,j⟩:=Y y (Array.mem_toList_iff.mp M);simp[DictEntry.refKey,j]
  have Z:¬ es.toList.any (·.refKey)=true:=by rw[a]; exact Qqo
  rw[Zs Z];exact congrArg some e
theorem ObjM.look{h:Heap}{x z C:Addr}{q:Str->Option Value}(I:ObjM h x z C q):∃j,PySem.W.InstAt h x (PySem.W.instObj C z) C (some j)/\∀name,PySem.W.lookIn name j=some (q name):=
 let ⟨j,F,J⟩:=qc2 I.ns
 ⟨j,⟨I.obj,rfl,rfl,F⟩,J⟩
section
variable {prog:Program}{w:Qk}{A:Qw}{E:Value->Qz->Prop}{s:Qz}{K:Qqq}{x dx C f:Addr}{mA:Str->Option Value}{name:Str}{v:Value}
theorem qlo{expr:Bool}{Q:Value->Qz->Prop}(X:K.In s.heap)(I:ObjM s.heap x dx C mA)(L:PySem.W.plainGet K C name=true)(F:PySem.W.hasDictIn K C=true)
  (M:PySem.W.findIn K (.ref C) name=some none) (q:mA name=some v) (j:PySem.W.handedIn v=true) (h:Q v { s with toks:=s.toks+1 }) :
  wpAny (model prog w) A (getAttr (.ref x) name expr) Q E s:=by
 obtain⟨O,J,z⟩:=I.look;exact PySem.W.get_value X J (Qjq L).1 (PySem.W.findObj_own F M rfl (by rw[z,q])) j h
theorem qfu{pl:Sem Bool}{Q:Value×List Value->Qz->Prop}(X:K.In s.heap)(I:ObjM s.heap x dx C mA)(j:PySem.W.plainGet K C name=true)
  (M:PySem.W.findIn K (.ref C) name=some (some (.ref f))) (F:PySem.W.isFn K (.ref f)=true) (z:mA name=none) (h:Q (.ref f,[.ref x]) s) :
  wpAny (model prog w) A (Zm (.ref x) name pl) Q E s:=by
 obtain⟨q,J,L⟩:=I.look;exact PySem.W.method_fn X J (Qjq j).1 (Qjq j).2 M (beq_iff_eq.mp F) (by show(PySem.W.lookIn name q).map (·.isSome)=some false; rw[L,z]; rfl) h
theorem qh8{ns:List Str}{Q:Unit->Qz->Prop}(X:K.In s.heap)(I:ObjM s.heap x dx C mA)
  (Z:PySem.W.findIn K (.ref C) "__setattr__" = some (some (.builtin "object.__setattr__"))) (hp:PySem.W.plainOver K C=true) (Y:PySem.W.takerIn K C name=some none) (hh:PySem.W.hasDictIn K C=true)
  (U:PySem.Within mA ns) (hsz:ns.length<=sizeLine)
  (h:∀h',ObjM h' x dx C (λy=>if y=name then some v else mA y)->Heap.SameBut dx s.heap h'->Q () { s with heap:=h',toks:=s.toks+2 }) :
  wpAny (model prog w) A (setAttr (.ref x) name v) Q E s:=by
 obtain⟨od,J,hl⟩:=I.look;refine PySem.W.set_plain X J Z (PySem.W.osa_open (s:={ s with toks:=s.toks+1 }) (r:=none) X J hp Y λb=>?_);obtain⟨cd,hc,L⟩:=PySem.W.any_some hh;have O:s.heap.get? x=some ⟨.ref C,some dx,.plain,#[]⟩:=I.obj;refine Qq (Qj (Qq (Qq (wpAny_loadPart O (Qq (PySem.W.Looks.here (s:={ s with toks:=s.toks+1 }) (PySem.W.looks_clsIn X hc) ?_))))));rw[L];refine Qj (a:=some dx) (Qq (Qj (Qq ?_)));refine wpAny_nsSet1 (s:={ s with toks:=s.toks+1 }) I.ns λh' q j=>?_;obtain⟨oD,a0,a1,z,F,M⟩:=q.count (PySem.Within.cons name v U);refine Qq (wpAny_lookBehind z (by rw[F]; exact pastItsLine_dict (Qzg M (by rw[Qqe]; omega))) ?_);exact Qj (h _ ⟨(j.2 _ (Ne.symm I.ne)).trans I.obj,q,I.ne⟩ j)
theorem qfl{R:Result->Qz->Prop}{vs:List Value}{j:List (Str×Value)}(X:K.In s.heap)(q:PySem.W.makesIn K C=true)
  (z:PySem.W.findIn K (.ref C) "__init__" = some (some (.ref f))) (F:PySem.W.typeIn K (.ref f)=some (.type "function"))
  (h:Zy (model prog w) (A.under (.builtin "type.__call__" ⟨.ref C::vs,j⟩)) (.call (.ref f) ⟨.ref (s.heap.objs.size+1)::vs,j⟩) (PySem.W.InitBack (s.heap.objs.size+1) R)
   { s with heap:=(s.heap.push PySem.W.emptyDict).push (PySem.W.instObj C s.heap.objs.size) }) :
  Zy (model prog w) A (.call (.ref C) ⟨vs,j⟩) R s:=by
 obtain⟨J,g,d,t,os⟩:=s;exact PySem.W.make_core (PySem.W.makes_of X q) (PySem.W.looks_findIn X z) (λself=>PySem.W.bind_fn X self F) (.inl rfl) h
end
noncomputable def putF(f:Str)(v:V):List (Str×V)->List (Str×V)
 |[]=>[(f,v)]
 |(g,x)::r=>if g=f then(g,v)::r else(g,x)::putF f v r
theorem qjy(f g:Str)(v:V):∀fs:List (Str×V),(putF f v fs).lookup g=if g=f then some v else fs.lookup g
 |[]=>by
  show List.lookup g [(f,v)]=_
  by_cases h:g=f
  ·have j:(g==f)=true:=beq_iff_eq.mpr h;simp only[List.lookup,j,Zt h]
  ·have j:(g==f)=false:=beq_eq_false_iff_ne.mpr h;simp only[List.lookup,j,Zs h]
 |(k,x)::r=>by
  have z:=qjy f g v r;rw[show putF f v ((k,x)::r)=(if k=f then(k,v)::r else(k,x)::putF f v r) from rfl]
  by_cases q:k=f
  ·rw[Zt q]
   by_cases h:g=k
   ·have j:(g==k)=true:=beq_iff_eq.mpr h;simp only[List.lookup,j,Zt (h.trans q)]
   ·have j:(g==k)=false:=beq_eq_false_iff_ne.mpr h;simp only[List.lookup,j,Zs (λe:g=f=>h (e.trans q.symm))]
  ·rw[Zs q]
   by_cases h:g=k
   ·have j:(g==k)=true:=beq_iff_eq.mpr h;simp only[List.lookup,j,Zs (λe:g=f=>q (h.symm.trans e))]
   ·have j:(g==k)=false:=beq_eq_false_iff_ne.mpr h;simp only[List.lookup,j];exact z
theorem qjc(f:Str)(v:V):∀fs:List (Str×V),f∈(putF f v fs).map (·.1)/\∀g,g∈fs.map (·.1)->g∈(putF f v fs).map (·.1)
 |[]=>⟨by simp[putF],λg h=>by simp at h⟩
 |(k,x)::r=>by
  obtain⟨z,q⟩:=qjc f v r;rw[show putF f v ((k,x)::r)=(if k=f then(k,v)::r else(k,x)::putF f v r) from rfl]
  by_cases j:k=f
  ·rw[Zt j];subst j;exact⟨by simp,λg h=>by simpa using h⟩
  ·rw[Zs j];refine⟨?_,λg h=>?_⟩
   ·rw[Qqd];exact Qqh _ z
   ·rw[Qqd]at h ⊢;rcases Qqv.mp h with e|e
    ·exact Qqv.mpr (.inl e)
    ·exact Qqh _ (q g e)
theorem qja(f:Str)(v:V):∀fs:List (Str×V),(putF f v fs).length<=fs.length+1
 |[]=>by simp[putF]
 |(k,x)::r=>by
  have q:=qja f v r;rw[show putF f v ((k,x)::r)=(if k=f then(k,v)::r else(k,x)::putF f v r) from rfl]
  by_cases j:k=f
  ·rw[Zt j,Qqe,Qqe]; omega
  ·rw[Zs j,Qqe,Qqe]; omega
theorem RelO.some_of{v:V}{o:Option Value}(r:RelO (some v) o):∃u,o=some u/\RelV v u:=by
 cases o with
 |none=>exact(show False from r).elim
 |some u=>exact⟨u,rfl,r⟩
theorem RelO.none_of{o:Option Value}(r:RelO none o):o=none:=by
 cases o with
 |none=>rfl
 |some u=>exact(show False from r).elim
theorem qdb{v:V}{u:Value}(r:RelV v u):PySem.W.handedIn u=true:=by
 cases v with
 |non=>cases (show u=Value.none from r); rfl
 |bl b=>cases (show u=Value.bool b from r); rfl
 |int i=>obtain⟨t,e⟩:=(show ∃t,u=Value.int i t from r); cases e; rfl
 |str x=>obtain⟨t,e⟩:=(show ∃t,u=Value.str x t from r); cases e; rfl
 |byt b=>obtain⟨t,e⟩:=(show ∃t,u=Value.bytes b t from r); cases e; rfl
 |flt b=>obtain⟨t,e⟩:=(show ∃t,u=Value.float b t from r); cases e; rfl
 |ref a=>cases (show u=Value.ref a from r); rfl
 |ty n=>cases (show u=Value.type n from r); rfl
section
variable {P:Program}{w:Qk}{H H':Hp}{h h':Heap}{a C dx:Addr}{fs fs':List (Str×V)}
theorem qqx(hok:HOk P w H h)(e:H a=some (.ins C dx fs)):∃mA,ObjM h a dx C mA/\(∀f,RelO (fs.lookup f) (mA f))/\PySem.Within mA (fs.map (·.1))/\fs.length<=1000/\H dx=some (.own a):=by
 obtain⟨d,z,ne,ob,mA,n,r,q⟩:=(show ObjOk P w H h a (.ins C dx fs) from hok a _ e)
 exact⟨mA,⟨ob,n,ne⟩,r,q,z,d⟩
end
structure Cls (K:Qqq) (C:Addr):Prop where
 pg:PySem.W.plainGet K C Str.empty=true
 hd:PySem.W.hasDictIn K C=true
 po:PySem.W.plainOver K C=true
 sa:PySem.W.findIn K (.ref C) "__setattr__" = some (some (.builtin "object.__setattr__"))
theorem Cls.get{K:Qqq}{C:Addr}(c:Cls K C)(f:Str):PySem.W.plainGet K C f=true:=c.pg
def NoAttr(K:Qqq)(C:Addr)(f:Str):Prop:=PySem.W.findIn K (.ref C) f=some none
theorem NoAttr.taker{K:Qqq}{C:Addr}{f:Str}(n:NoAttr K C f):PySem.W.takerIn K C f=some none:=by
 unfold PySem.W.takerIn;rw[show PySem.W.findIn K (.ref C) f=some none from n]
 rfl
structure Con (K:Qqq) (C:Addr) (f:Str) (v:V) (u:Value):Prop where
 at_:PySem.W.findIn K (.ref C) f=some (some u)
 rel:RelV v u
 get:PySem.W.specialIn K u "__get__" = some none
 cp:PySem.W.copiedNames.contains f=false
structure Meth (K:Qqq) (C:Addr) (m:Str) (f:Addr):Prop where
 at_:PySem.W.findIn K (.ref C) m=some (some (.ref f))
 fn:PySem.W.isFn K (.ref f)=true
 kp:Qzy K (.ref f)=true
section
variable {X:Cx}{pins:List (Addr×Obj)}{σ:St}{H:Hp}{s:Qz}{a C dx:Addr}{fs:List (Str×V)}{f:Str}{v:V}{A:Qw}{E:Value->Qz->Prop}
theorem qbz{b:Bool}{Q:Value->Qz->Prop}(I:Inv X pins σ H s)(e:H a=some (.ins C dx fs))(c:Cls X.K C)(n:NoAttr X.K C f)(l:fs.lookup f=some v)
  (h:∀u s',Inv X pins σ H s'->RelV v u->Q u s'):wpAny (model X.prog X.w) A (getAttr (.ref a) f b) Q E s:=by
 obtain⟨mA,O,r,_,_,_⟩:=qqx I.hok e;obtain⟨u,q,j⟩:=RelO.some_of (v:=v) (o:=mA f) (by rw[<- l]; exact r f);exact qlo I.kIn O (c.get f) c.hd n q (qdb j) (h u _ (I.tok _) j)
theorem qxa{m:Str}{g:Addr}{pl:Sem Bool}{Q:Value×List Value->Qz->Prop}(I:Inv X pins σ H s)(e:H a=some (.ins C dx fs))(c:Cls X.K C)(k:Meth X.K C m g)(l:fs.lookup m=none)
  (h:Q (.ref g,[.ref a]) s):wpAny (model X.prog X.w) A (Zm (.ref a) m pl) Q E s:=by
 obtain⟨mA,O,r,_,_,_⟩:=qqx I.hok e;have hn:mA m=none:=RelO.none_of (by rw[<- l]; exact r m);exact qfu I.kIn O (c.get m) k.at_ k.fn hn h
theorem qap{y:V}{u:Value}{Q:Unit->Qz->Prop}(I:Inv X pins σ H s)(e:H a=some (.ins C dx fs))(c:Cls X.K C)(n:NoAttr X.K C f)(hl:fs.length<1000)(M:RelV y u)
  (h:∀s',Inv X pins σ (upd H a (.ins C dx (putF f y fs))) s'->Q () s'):wpAny (model X.prog X.w) A (setAttr (.ref a) f u) Q E s:=by
 obtain⟨mA,O,r,F,_,J⟩:=qqx I.hok e;have U:(fs.map (·.1)).length<=sizeLine:=by rw[Qqw,Q2]; omega
 refine qh8 I.kIn O c.sa c.po n.taker c.hd F U λh' j L=>h _ ?_;have hd:∃o,h'.get? dx=some o:=let ⟨o,_,_,e',_⟩:=j.ns; ⟨o,e'⟩;refine I.write (x:=a) (e:=dx) (by rw[e]; exact True.intro) (.inr J) (λb q Z z=>(L.2 b Z).trans z) hd ?_;refine⟨by rw[qzq O.ne]; exact J,?_,O.ne,j.obj,_,j.ns,λg=>?_,λg Y=>?_⟩
 ·have:=qja f y fs; omega
 ·show RelO ((putF f y fs).lookup g) (if g=f then some u else mA g);rw[qjy]
  by_cases q:g=f
  ·rw[Zt q,Zt q]; exact M
  ·rw[Zs q,Zs q]; exact r g
 ·by_cases q:g=f
  ·rw[q]; exact(qjc f y fs).1
  ·refine(qjc f y fs).2 g (F g λz=>Y ?_);show(if g=f then some u else mA g)=none;rw[Zs q]; exact z
theorem Inv.made(I:Inv X pins σ H s):Inv X pins σ (upd (upd H s.heap.objs.size (.own (s.heap.objs.size+1))) (s.heap.objs.size+1) (.ins C s.heap.objs.size []))
  { s with heap:=(s.heap.push PySem.W.emptyDict).push (PySem.W.instObj C s.heap.objs.size) }:=by
 have j:(s.heap.push PySem.W.emptyDict).get? s.heap.objs.size=some PySem.W.emptyDict:=Qqg s.heap rfl;have L:((s.heap.push PySem.W.emptyDict).push (PySem.W.instObj C s.heap.objs.size)).get? (s.heap.objs.size+1)=some (PySem.W.instObj C s.heap.objs.size):=by
  have:=Qqg (s.heap.push PySem.W.emptyDict) (o:=PySem.W.instObj C s.heap.objs.size) rfl;rwa [Qxz]at this
 have J:(s.heap.push PySem.W.emptyDict).Ns s.heap.objs.size (λ_=>none):=⟨PySem.W.emptyDict,#[],_,j,rfl,(λe F=>absurd F (by simp)),λ_=>rfl⟩
 have M:=I.laid (a:=s.heap.objs.size) (o:=.own (s.heap.objs.size+1)) (h':=s.heap.push PySem.W.emptyDict) (t':=s.toks) (λb u q=>Qqz _ q) (Qqk _) ⟨_,j⟩;refine M.laid (a:=s.heap.objs.size+1) (o:=.ins C s.heap.objs.size []) (t':=s.toks) (λb u q=>Qqz _ q) (Nat.le_of_eq (Qxz _ _)) ?_;have ne:s.heap.objs.size≠s.heap.objs.size+1:=Qq6 (Qzo _);refine⟨by rw[qzq ne,qzk],Qz1 _,ne,L,λ_=>none,(Heap.Ns1.of_empty J).at λo q=>Qqz _ q,λ_=>True.intro,λy z=>absurd rfl z⟩
theorem ql9{prog:Program}{w:Qk}{env:Env}{e:Qx}{f:Str}{pos:Pos}{s:Qz}{Q:Value->Qz->Prop}(q:attributeBase e f env (eval e env)=eval e env)
  (h:wpAny (model prog w) A (eval e env) (λo j=>wpAny (model prog w) A (getAttr o f true) Q E j) E s):wpAny (model prog w) A (eval (.Attribute e f pos) env) Q E s:=
 Attribute_any_ h (by rw[arm_eval_Attribute,q])
end
noncomputable def tFld(K:Qqq)(ta:TE)(f:Str):TE:=λσ H Q=>ta σ H λx H1=>∃a C dx fs v,x=.ref a/\H1 a=some (.ins C dx fs)/\Cls K C/\NoAttr K C f/\fs.lookup f=some v/\Q v H1
noncomputable def sFld(K:Qqq)(ta tv:TE)(f:Str):TS:=λD σ H=>tv σ H λy H1=>ta σ H1 λx H2=>∃a C dx fs,x=.ref a/\H2 a=some (.ins C dx fs)/\Cls K C/\NoAttr K C f/\fs.length<1000/\
 D.nx σ (upd H2 a (.ins C dx (putF f y fs)))
section
variable {X:Cx}{o e value:Qx}{f:Str}{pos pos' tpos:Pos}{ta tv:TE}
theorem pe_fld(F:PE X e ta)(J:attributeBase e f X.env (eval e X.env)=eval e X.env):PE X (.Attribute e f pos) (tFld X.K ta f):=by
 intro pins s σ H Q I h;refine ql9 J (thn (F pins s σ H _ I h) λu Z ⟨x,H1,O,j,a,C,dx,fs,v,ex,L,c,n,l,q⟩=>?_);subst ex;obtain rfl:u=Value.ref a:=j;exact qbz O L c n l λU Y M z=>⟨v,H1,M,z,q⟩
theorem ps_fld(U:PE X o ta)(M:PE X value tv)(O:swapsWith value (some (.Attribute o f pos')) pos.line X.env=pure false):PS X (.Assign [.Attribute o f pos'] value pos) (sFld X.K ta tv f):=by
 intro pins s σ H D I h;refine plainObj_wpAny_Assign_Attribute (thn (M pins s σ H _ I h) λu j ⟨y,H1,I1,z,q⟩=>thn (U pins j σ H1 _ I1 q) λL s2 ⟨x,H2,I2,F,a,C,dx,fs,ex,Y,c,n,l,J⟩=>?_) O;subst ex;obtain rfl:L=Value.ref a:=F;exact qap I2 Y c n l z λs3 Z=>⟨σ,_,Z,J⟩
theorem qi8{pl:Sem Bool}{m:Str}{F:Pos}{j:List Qx}{z:List (Addr×Obj)}{s:Qz}{J:St}{H:Hp}{Q:Value->Qz->Prop}{M:TE}(he:PE X e M)(I:Inv X z J H s)
  (h:M J H λx H1=>∃a C dx fs g,x=.ref a/\H1 a=some (.ins C dx fs)/\Cls X.K C/\Meth X.K C m g/\fs.lookup m=none/\
   ∀L,Inv X z J H1 L->wpAny (model X.prog X.w) X.A (callWith pos (.ref g) [.ref a] (backTo pos (starEach j X.env)) (backToKw pos (keywordEach [] X.env))) Q X.xe L)
  (Z:eval (.Call (.Attribute e m F) j [] pos) X.env=(do
   let O <- eval e X.env
   standAt F.atName
   let (f,first) <- holding [O] (Zm O m pl)
   callWith pos f first (backTo pos (starEach j X.env)) (backToKw pos (keywordEach [] X.env)))) :
  wpAny (model X.prog X.w) X.A (eval (.Call (.Attribute e m F) j [] pos) X.env) Q X.xe s:=by
 refine Qx0 (pl:=pl) (thn (he z s J H _ I h) λu L ⟨x,H1,U,Y,a,C,dx,fs,g,ex,ea,c,k,l,q⟩=>?_) Z;subst ex;obtain rfl:u=Value.ref a:=Y;exact qxa U ea c k l (q L U)
end
section
variable {X:Cx}{pins:List (Addr×Obj)}{σ:St}{H:Hp}{s:Qz}{A:Qw}{E:Value->Qz->Prop}{Q:Value->Qz->Prop}{c:Value}{b:Bool}
inductive TyOf (K:Qqq) (H:Hp):V->Value->Prop where
 |non:TyOf K H .non (.type "NoneType")
 |bl (x:Bool):TyOf K H (.bl x) (.type "bool")
 |int (i:Int):TyOf K H (.int i) (.type "int")
 |str (x:Str):TyOf K H (.str x) (.type "str")
 |flt (x:UInt64):TyOf K H (.flt x) (.type "float")
 |lst {a:Addr}{xs:List V}(e:H a=some (.lst xs)):TyOf K H (.ref a) (.type "list")
 |frz {a:Addr}{o:Obj}{xs:List V}(e:H a=some (.frz o (.lst xs))):TyOf K H (.ref a) (.type "list")
 |tup {a:Addr}{xs:List V}(e:H a=some (.tup xs)):TyOf K H (.ref a) (.type "tuple")
 |dK {a:Addr}{kvs:List (Key×V)}(e:H a=some (.dK kvs)):TyOf K H (.ref a) (.type "dict")
 |dT {a:Addr}{kvs:List (List Key×V)}(e:H a=some (.dT kvs)):TyOf K H (.ref a) (.type "dict")
 |ins {a C dx:Addr}{fs:List (Str×V)}(e:H a=some (.ins C dx fs)) (cl:Cls K C) (ha:PySem.W.findIn K (.ref C) "__class__" = some (some (.builtin "object.__class__")))
   (hn:PySem.W.specialIn K (.builtin "object.__class__") "__get__" = some (some (.builtin "getset_descriptor.__get__"))) (htk:PySem.W.takesIn K (.builtin "object.__class__")=some true)
   (hm:PySem.W.mroIn K C (.type "object")=some true):TyOf K H (.ref a) (.ref C)
end
end L2
namespace L2
open PySem PySem.Spec PyProof.Rows
structure Room (k:Nat) (A:Qw):Prop where
 hd:A.handled=none
 dp:A.depth+3*k+5<recursionLimit
 un:A.units+16*k+200<cLine
theorem Room.mono{j k:Nat}{A:Qw}(r:Room k A)(h:j<=k):Room j A:=⟨r.hd,by have:=r.dp; omega,by have:=r.un; omega⟩
theorem Room.deeper{k:Nat}{A:Qw}(r:Room (k+1) A)(env:Env):Room k (A.deeper env):=
 ⟨r.hd,by have:=r.dp; show A.depth+1+3*k+5<_; omega,by have:=r.un; show A.units+3+16*k+200<_; omega⟩
theorem Room.in1{k:Nat}{A:Qw}(r:Room (k+1) A):Room k A.in1:=
 ⟨r.hd,by have:=r.dp; show A.depth+3*k+5<_; omega,by have:=r.un; show A.units+1+16*k+200<_; omega⟩
theorem qa7{A:Qw}{C:Addr}{us:List Value}{j:List (Str×Value)}:(A.under (.builtin "type.__call__" ⟨.ref C::us,j⟩)).depth=A.depth+1:=by
 first|rfl|simp[Around.under,Code.weight,Code.isCreation,Code.isGuard,Code.isCaller,Code.frames,Code.isFrame,guardIds]
theorem qa6{A:Qw}{C:Addr}{us:List Value}{j:List (Str×Value)}:(A.under (.builtin "type.__call__" ⟨.ref C::us,j⟩)).units=A.units+1:=by
 first|rfl|simp[Around.under,Code.cUnits,Code.frames,Code.isFrame]
theorem Room.make{k:Nat}{A:Qw}(r:Room (k+1) A)(C:Addr)(us:List Value)(j:List (Str×Value)):Room k (A.under (.builtin "type.__call__" ⟨.ref C::us,j⟩)):=
 ⟨r.hd,by have:=r.dp; rw[qa7]; omega,by have:=r.un; rw[qa6]; omega⟩
theorem Room.depth{k:Nat}{A:Qw}(r:Room k A):A.depth<recursionLimit:=by have:=r.dp; omega
theorem Room.units{k:Nat}{A:Qw}(r:Room k A):A.units+64<cLine:=by have:=r.un; omega
noncomputable def tNil:TA:=λ_ H Q=>Q [] H
noncomputable def qh1(ta:TE)(tr:TA):TA:=λσ H Q=>ta σ H λx H1=>tr σ H1 λxs H2=>Q (x::xs) H2
section
variable {X:Cx}{e:Qx}{es:List Qx}{te:TE}{t:TA}{pos:Pos}
theorem pa_nil:PA X [] tNil:=λ_ _ _ _ H Q I h=>Calls.spliced_nil ⟨[],H,I,.nil,h⟩
theorem qqi(O:PE X e te)(M:PA X es t)(L:starEach (e::es) X.env=(false,eval e X.env)::starEach es X.env:=by rfl):PA X (e::es) (qh1 te t):=by
 intro pos pins s σ H Q I h;rw[L];show wpAny _ _ (spliced ((false,eval e X.env)::backTo pos (starEach es X.env))) _ _ s;refine Calls.spliced_cons (thn (O pins s σ H _ I h) λu j ⟨x,H1,Y,z,J⟩=>?_);exact thn (M pos pins j σ H1 _ Y J) λZ s2 ⟨xs,H2,U,q,F⟩=>⟨x::xs,H2,U,.cons z q,F⟩
noncomputable def tTup(t:TA):TE:=λσ H Q=>t σ H λxs H1=>xs.length<=sizeLine/\∀p,H1 p=none->Q (.ref p) (upd H1 p (.tup xs))
noncomputable def tLst(t:TA):TE:=λσ H Q=>t σ H λxs H1=>xs.length<=sizeLine/\∀p,H1 p=none->Q (.ref p) (upd H1 p (.lst xs))
theorem qgt{J}(h:PA X es t):PE X (.Tuple es J pos) (tTup t):=by
 intro pins s σ H Q I M;refine wpAny_Tuple_spliced (thn (h pos pins s σ H _ I M) λL j ⟨xs,H1,F,r,z,q⟩=>⟨by rw[<- r.length]; exact z,?_⟩);have hf:H1 j.heap.objs.size=none:=F.hok.fresh (Qqk _);refine⟨.ref j.heap.objs.size,upd H1 j.heap.objs.size (.tup xs),F.laid (t':=j.toks) (λb u e=>Qqz _ e) (Qqk _) ?_,rfl,q _ hf⟩;exact⟨z,L,r,⟨_,Qqg _ rfl,rfl,_,rfl⟩⟩
theorem pe_lst(h:PA X es t):PE X (.List es pos) (tLst t):=by
 intro pins s σ H Q I L;refine wpAny_List_spliced (thn (h pos pins s σ H _ I L) λJ j ⟨xs,H1,F,r,z,q⟩=>⟨by rw[<- r.length]; exact z,?_⟩);have hf:H1 j.heap.objs.size=none:=F.hok.fresh (Qqk _);refine⟨.ref j.heap.objs.size,upd H1 j.heap.objs.size (.lst xs),F.laid (t':=j.toks) (λb u e=>Qqz _ e) (Qqk _) ?_,rfl,q _ hf⟩;exact⟨z,J,0,r,Qqg _ rfl⟩
end
abbrev Sp:=List V->Hp->VK->XK->Prop
abbrev CXT:=List Env->Hp->Qz->XK->Value->Qz->Prop
structure Env0 (P:Program) (w:Qk) (K:Qqq) (mg:Str->Option Value) (base:Heap) (A:Qw) (outer:List Env) (s:Qz) (H:Hp):Prop where
 frames:A.frames=some outer
 mod:Mod K mg base
 bs:∀b o,base.get? b=some o->s.heap.get? b=some o/\H b=none
 bsz:base.objs.size<=s.heap.objs.size
 funs:s.heap.FunFrames base outer
 frf:∀b∈frs outer,H b=none
 hok:HOk P w H s.heap
 bare:Ze s.gens
def CE(outer:List Env)(P:Program)(w:Qk)(H:Hp)(s:Qz)(Q:VK)(u:Value)(s':Qz):Prop:=
 ∃v H',s'.os=s.os/\Ze s'.gens/\Un (frs outer) [] H H' s.heap s'.heap/\HOk P w H' s'.heap/\RelV v u/\Q v H'
def CR(CX:CXT)(outer:List Env)(P:Program)(w:Qk)(H:Hp)(s:Qz)(Q:VK)(E:XK)(r:Result)(s':Qz):Prop:=
 match r with
 |.ok (.ret u)=>CE outer P w H s Q u s'
 |.ok _=>False
 |.error e=>CX outer H s E e s'
structure FnOk (P:Program) (w:Qk) (K:Qqq) (mg:Str->Option Value) (base:Heap) (CX:CXT) (k:Nat) (f:Addr) (fd:Qh) (ps:List Str) (sp:Sp):Prop where
 len:∀vs H Q E,sp vs H Q E->vs.length=ps.length
 run:∀(A:Qw) (outer:List Env) (s:Qz) (H:Hp) (args:Args) (us:List Value) (vs:List V) (Q:VK) (E:XK),Room k A->Env0 P w K mg base A outer s H->BindsTo s fd args (ps.zip us)->Vals vs us->sp vs H Q E->
  Zy (model P w) A (.call (.ref f) args) (CR CX outer P w H s Q E) s
theorem FnOk.mono{P:Program}{w:Qk}{K:Qqq}{mg:Str->Option Value}{base:Heap}{CX:CXT}{j k:Nat}{f:Addr}{z:Qh}{ps:List Str}{sp:Sp}(F:FnOk P w K mg base CX j f z ps sp)(h:j<=k):
  FnOk P w K mg base CX k f z ps sp:=⟨F.len,λA outer s H q J vs Q E L=>F.run A outer s H q J vs Q E (L.mono h)⟩
theorem FnOk.imp{P:Program}{w:Qk}{K:Qqq}{mg:Str->Option Value}{base:Heap}{CX:CXT}{k:Nat}{f:Addr}{z:Qh}{ps:List Str}{sp sp':Sp}(F:FnOk P w K mg base CX k f z ps sp)
  (h:∀vs H Q E,sp' vs H Q E->sp vs H Q E):FnOk P w K mg base CX k f z ps sp':=
 ⟨λvs H Q E q=>F.len vs H Q E (h _ _ _ _ q),λA outer s H j J vs Q E O U Y L M=>F.run A outer s H j J vs Q E O U Y L (h _ _ _ _ M)⟩
theorem Env0.make{P:Program}{w:Qk}{K:Qqq}{mg:Str->Option Value}{base:Heap}{A:Qw}{outer:List Env}{s:Qz}{H:Hp}(e:Env0 P w K mg base A outer s H)(C:Addr)(us:List Value)(j:List (Str×Value)):
  Env0 P w K mg base (A.under (.builtin "type.__call__" ⟨.ref C::us,j⟩)) outer s H:=⟨by first|exact e.frames|(simpa[Around.under,Code.envs,Code.isFrame,pushEnvs] using e.frames),e.mod,e.bs,e.bsz,e.funs,e.frf,e.hok,e.bare⟩
theorem Env0.in1{P:Program}{w:Qk}{K:Qqq}{mg:Str->Option Value}{base:Heap}{A:Qw}{outer:List Env}{s:Qz}{H:Hp}(e:Env0 P w K mg base A outer s H):
  Env0 P w K mg base A.in1 outer s H:=⟨e.frames,e.mod,e.bs,e.bsz,e.funs,e.frf,e.hok,e.bare⟩
section
variable {X:Cx}{pins:List (Addr×Obj)}{σ:St}{H:Hp}{s s':Qz}
theorem Inv.env0(I:Inv X pins σ H s):Env0 X.prog X.w X.K X.mg X.base X.A X.stack s H:=
 ⟨I.ok.frames,I.ok.mod,I.bs,Qzg I.ok.bsz I.sz,I.stack,I.stkFree,I.hok,I.bare⟩
theorem Inv.after{Q:VK}{u:Value}(I:Inv X pins σ H s)(h:CE X.stack X.prog X.w H s Q u s'):EP X pins σ Q u s':=by
 obtain⟨v,H',os,bare,un,hok,r,q⟩:=h;obtain⟨F,g,d,t,j⟩:=s';obtain rfl:j=s.os:=os;exact⟨v,H',I.call (h':=F) (g':=g) (d':=d) (t':=t) (ch:=[]) un hok bare (λb z=>absurd z (by simp)),r,q⟩
end
noncomputable def tCall(sp:Sp)(dvs:List V)(E:XK)(t:TA):TE:=λσ H Q=>t σ H λvs H1=>sp (vs++dvs) H1 Q E
noncomputable def qhu(C:Addr)(m:Str)(sp:Sp)(dvs:List V)(E:XK)(ta:TE)(t:TA):TE:=λσ H Q=>ta σ H λx H1=>∃a dx fs,x=.ref a/\H1 a=some (.ins C dx fs)/\fs.lookup m=none/\
 t σ H1 λvs H2=>sp (x::(vs++dvs)) H2 Q E
noncomputable def tMake(C:Addr)(sp:Sp)(dvs:List V)(E:XK)(t:TA):TE:=λσ H Q=>t σ H λvs H1=>∀x dx,H1 x=none->H1 dx=none->dx≠x->
 sp (.ref x::(vs++dvs)) (upd (upd H1 dx (.own x)) x (.ins C dx [])) (λv H2=>v=.non/\Q (.ref x) H2) E
def Binds(K:Qqq)(fd:Qh)(ps:List Str)(ds:List Value):Prop:=
 ∀(s:Qz) (us:List Value),K.In s.heap->(us++ds).length=ps.length->BindsTo s fd ⟨us,[]⟩ (ps.zip (us++ds))
theorem Binds.all{K:Qqq}{z:Qh}{ps:List Str}(h:∀j:List Value,j.length=ps.length->bindArgs z ⟨j,[]⟩=pure (ps.zip j)):Binds K z ps []:=λs j _ q=>by
 rw[Qzm]at q ⊢;exact .of_eq (h j q)
def qjs(CX:CXT)(X:Cx)(E:XK):Prop:=∀(pins:List (Addr×Obj)) (σ:St) (H:Hp) (s:Qz) (e:Value) (s':Qz),Inv X pins σ H s->CX X.stack H s E e s'->X.xe e s'
section
variable {X:Cx}{CX:CXT}{k:Nat}{f C:Addr}{fd:Qh}{ps:List Str}{sp:Sp}{dvs:List V}{ds:List Value}{E:XK}{x m:Str}{p pos apos:Pos}{e o:Qx}{es:List Qx}{ta:TE}{t:TA}
theorem qcw{j:List (Addr×Obj)}{z:St}{H:Hp}{s:Qz}{Q:VK}{us:List Value}{vs:List V}(F:FnOk X.prog X.w X.K X.mg X.base CX k f fd ps sp)(M:Room k X.A)(U:Binds X.K fd ps ds)(hd:Vals dvs ds)(L:qjs CX X E)
  (I:Inv X j z H s) (r:Vals vs us) (h:sp (vs++dvs) H Q E):wpAny (model X.prog X.w) X.A (call (.ref f) us) (EP X j z Q) X.xe s:=by
 have J:Vals (vs++dvs) (us++ds):=r.append hd;have O:(us++ds).length=ps.length:=by rw[<- J.length]; exact F.len _ _ _ _ h
 refine wpAny_call (Q8 (F.run X.A X.stack s H ⟨us,[]⟩ (us++ds) (vs++dvs) Q E M I.env0 (U s us I.kIn O) J h) λr s' q=>?_)
 cases r with
 |error e=>exact L j z H s e s' I q
 |ok Y=>
  cases Y with
  |ret u=>exact I.after q
  |next=>exact False.elim q
  |brk=>exact False.elim q
  |cont=>exact False.elim q
theorem qip(F:FnOk X.prog X.w X.K X.mg X.base CX k f fd ps sp)(M:Room k X.A)(Y:Gl X x)(O:X.mg x=some (.ref f))(U:Qzy X.K (.ref f)=true)(hb:Binds X.K fd ps ds)(hd:Vals dvs ds)(L:qjs CX X E)
  (ha:PA X (e::es) t) (z:(x==("__debug__" : Str))=false:=by decide) (Z:starEach (e::es) X.env=(false,eval e X.env)::starEach es X.env:=by rfl) (j:(backTo pos (starEach es X.env)).any (·.1)=false:=by rfl) :
  PE X (.Call (.Name x p) (e::es) [] pos) (tCall sp dvs E t):=by
 intro pins s σ H Q I h;refine Zv (qw0 I Y O ?_ z);refine Qjx (h₀:=X.base) I.ok.mod.kin U (thn (ha pos pins s σ H _ I h) λus s1 ⟨vs,H1,J,r,q⟩=>⟨J.kIn,?_⟩) Z j;exact qcw F M hb hd L J r q
theorem qih{pl:Sem Bool}(he:PE X o ta)(c:Cls X.K C)(L:Meth X.K C m f)(F:FnOk X.prog X.w X.K X.mg X.base CX k f fd ps sp)(hr:Room k X.A)(hb:Binds X.K fd ps ds)(hd:Vals dvs ds)(hx:qjs CX X E)(ha:PA X (e::es) t)
  (j:starEach (e::es) X.env=(false,eval e X.env)::starEach es X.env:=by rfl) (z:(backTo pos (starEach es X.env)).any (·.1)=false:=by rfl)
  (ht:eval (.Call (.Attribute o m apos) (e::es) [] pos) X.env=(do
   let J <- eval o X.env
   standAt apos.atName
   let (f,first) <- holding [J] (Zm J m pl)
   callWith pos f first (backTo pos (starEach (e::es) X.env)) (backToKw pos (keywordEach [] X.env))):=by rfl) :
  PE X (.Call (.Attribute o m apos) (e::es) [] pos) (qhu C m sp dvs E ta t):=by
 intro pins s σ H Q I h;refine Qx0 (pl:=pl) (thn (he pins s σ H _ I h) λu Y ⟨x,H1,O,Z,a,dx,fs,ex,ea,l,q⟩=>?_) ht;subst ex;obtain rfl:u=Value.ref a:=Z;refine qxa O ea c L l ?_;refine Qjx (first:=[.ref a]) (h₀:=X.base) I.ok.mod.kin L.kp (thn (ha pos pins Y σ H1 _ O q) λU s2 ⟨vs,H2,M,r,q2⟩=>⟨M.kIn,?_⟩) j z;exact qcw (us:=.ref a::U) (vs:=.ref a::vs) F hr hb hd hx M (.cons rfl r) q2
theorem qfb{pl:Sem Bool}(Y:PE X o ta)(c:Cls X.K C)(J:Meth X.K C m f)(F:FnOk X.prog X.w X.K X.mg X.base CX k f fd ps sp)(U:Room k X.A)(Z:Binds X.K fd ps ds)(hd:Vals dvs ds)(M:qjs CX X E)
  (O:eval (.Call (.Attribute o m apos) [] [] pos) X.env=(do
   let z <- eval o X.env
   standAt apos.atName
   let (f,first) <- holding [z] (Zm z m pl)
   callWith pos f first (backTo pos (starEach [] X.env)) (backToKw pos (keywordEach [] X.env))):=by rfl) :
  PE X (.Call (.Attribute o m apos) [] [] pos) (qhu C m sp dvs E ta tNil):=by
 intro pins s σ H Q I h;refine Qx0 (pl:=pl) (thn (Y pins s σ H _ I h) λu s1 ⟨x,H1,j,L,a,dx,fs,ex,ea,l,q⟩=>?_) O;subst ex;obtain rfl:u=Value.ref a:=L;refine qxa j ea c J l ?_;exact PySem.W.callWith_K0 (first:=[.ref a]) j.kIn J.kp (qcw (us:=[.ref a]) (vs:=[.ref a]) F U Z hd M j (.cons rfl .nil) q)
structure Mk (K:Qqq) (C f:Addr):Prop where
 makes:PySem.W.makesIn K C=true
 init:PySem.W.findIn K (.ref C) "__init__" = some (some (.ref f))
 fn:PySem.W.isFn K (.ref f)=true
 kp:Qzy K (.ref C)=true
theorem qfz{j:List (Addr×Obj)}{J:St}{H:Hp}{s:Qz}{Q:VK}{us:List Value}{vs:List V}(M:Mk X.K C f)(F:FnOk X.prog X.w X.K X.mg X.base CX k f fd ps sp)(hr:Room (k+1) X.A)(hb:Binds X.K fd ps ds)(hd:Vals dvs ds)
  (Z:qjs CX X E) (I:Inv X j J H s) (r:Vals vs us)
  (h:∀x dx,H x=none->H dx=none->dx≠x->sp (.ref x::(vs++dvs)) (upd (upd H dx (.own x)) x (.ins C dx [])) (λv H2=>v=.non/\Q (.ref x) H2) E) :
  wpAny (model X.prog X.w) X.A (call (.ref C) us) (EP X j J Q) X.xe s:=by
 have O:=h (s.heap.objs.size+1) s.heap.objs.size (I.hok.fresh (Qxb _)) (I.hok.fresh (Qqk _)) (Qq6 (Qzo _));have z:=Inv.made (C:=C) I;have L:Vals (V.ref (s.heap.objs.size+1)::(vs++dvs)) (Value.ref (s.heap.objs.size+1)::(us++ds)):=.cons rfl (r.append hd);have hl:(Value.ref (s.heap.objs.size+1)::us++ds).length=ps.length:=by
  have e:=L.length;rw[F.len _ _ _ _ O]at e;exact e.symm
 refine wpAny_call (qfl (f:=f) I.kIn M.makes M.init (beq_iff_eq.mp M.fn) (Q8 (F.run _ X.stack _ _ ⟨Value.ref (s.heap.objs.size+1)::us,[]⟩ (Value.ref (s.heap.objs.size+1)::(us++ds)) _ _ E (hr.make C us [])
  (z.env0.make C us []) (hb _ (Value.ref (s.heap.objs.size+1)::us) z.kIn hl) L O) λr s' q=>?_))
 cases r with
 |error e=>exact Z j J _ _ e s' z q
 |ok fl=>
  cases fl with
  |ret u=>
   obtain⟨v,H',I3,U,ev,Y⟩:=z.after q;subst ev;exact⟨U,⟨V.ref (s.heap.objs.size+1),H',I3,rfl,Y⟩⟩
  |next=>exact False.elim q
  |brk=>exact False.elim q
  |cont=>exact False.elim q
theorem qii(M:Mk X.K C f)(F:FnOk X.prog X.w X.K X.mg X.base CX k f fd ps sp)(O:Room (k+1) X.A)(Y:Gl X x)(U:X.mg x=some (.ref C))(hb:Binds X.K fd ps ds)(hd:Vals dvs ds)(L:qjs CX X E)
  (ha:PA X (e::es) t) (z:(x==("__debug__" : Str))=false:=by decide) (Z:starEach (e::es) X.env=(false,eval e X.env)::starEach es X.env:=by rfl) (j:(backTo pos (starEach es X.env)).any (·.1)=false:=by rfl) :
  PE X (.Call (.Name x p) (e::es) [] pos) (tMake C sp dvs E t):=by
 intro pins s σ H Q I h;refine Zv (qw0 I Y U ?_ z);refine Qjx (h₀:=X.base) I.ok.mod.kin M.kp (thn (ha pos pins s σ H _ I h) λus s1 ⟨vs,H1,J,r,q⟩=>⟨J.kIn,?_⟩) Z j;exact qfz M F O hb hd L J r q
end
section
variable {X:Cx}{CX:CXT}{k:Nat}{f C:Addr}{fd:Qh}{ps ks:List Str}{sp:Sp}{E:XK}{x m:Str}{p pos apos kpos:Pos}{e o:Qx}{es:List Qx}{kws:List Zi}{te ta:TE}{t tk:TA}{nm:Option Str}
structure KBinds (K:Qqq) (fd:Qh) (ps ks:List Str) (g:List Value->List Value->List Value) (gV:List V->List V->List V):Prop where
 to:∀(s:Qz) (us ws:List Value),K.In s.heap->(g us ws).length=ps.length->BindsTo s fd ⟨us,ks.zip ws⟩ (ps.zip (g us ws))
 rel:∀{vs:List V}{us:List Value}{zs:List V}{ws:List Value},Vals vs us->Vals zs ws->Vals (gV vs zs) (g us ws)
variable {g:List Value->List Value->List Value}{gV:List V->List V->List V}
end
structure FnScope (N P:List Str) (sc:Scope):Prop where
 kind:sc.kind=.function
 co:sc.isCoroutine=false
 gen:sc.isGenerator=false
 nd:N.Nodup
 pre:N.take P.length=P
 par:∀x∈P,sc.names.lookup x=some .local\/sc.names.lookup x=some .cell
 nofree:∀y∈sc.names,y.2≠.free
theorem qwf{j:Str->Option Qi}{x:Str}:∀{binds:List (Str×Value)}{m:Str->Option Value},(∀v,(x,v) ∉ binds)->bindL j binds m x=m x
 |[],_,_=>rfl
 |(n,v)::r,m,h=>by
  unfold bindL;rw[qwf λw q=>h w (Qqh _ q)]
  split
  ·have:x≠n:=by rintro rfl; exact h v Qql
   simp[this]
  ·rfl
theorem qwh{j:Str->Option Qi}{x:Str}:∀{binds:List (Str×Value)}{m:Str->Option Value},(∀v,(x,v) ∉ binds)->bindC j binds m x=m x
 |[],_,_=>rfl
 |(n,v)::r,m,h=>by
  unfold bindC;rw[qwh λw q=>h w (Qqh _ q)]
  split
  ·rfl
  ·have:x≠n:=by rintro rfl; exact h v Qql
   simp[this]
theorem qwg{j:Str->Option Qi}{x:Str}{v:Value}:∀{P:List Str}{vs:List Value}{i:Nat}{m:Str->Option Value},P.Nodup->P[i]?=some x->vs[i]?=some v->j x=some .local->
  bindL j (P.zip vs) m x=some v
 |[],_,_,_,_,h,_,_=>by simp at h
 |_::_,[],_,_,_,_,h,_=>by simp at h
 |p::P,w::vs,0,m,nd,h1,h2,q=>by
  simp at h1 h2; subst h1; subst h2;show bindL j ((p,w)::P.zip vs) m p=_;unfold bindL;rw[qwf λv z=>(Qq5.mp nd).1 (Qj0 z).1,Zt q];simp
 |p::P,w::vs,i+1,m,nd,h1,h2,q=>by
  show bindL j ((p,w)::P.zip vs) m x=_;unfold bindL;exact qwg (i:=i) (Qq5.mp nd).2 (by simpa using h1) (by simpa using h2) q
theorem qwi{j:Str->Option Qi}{x:Str}{v:Value}:∀{P:List Str}{vs:List Value}{i:Nat}{m:Str->Option Value},P.Nodup->P[i]?=some x->vs[i]?=some v->j x≠some .local->
  bindC j (P.zip vs) m x=some v
 |[],_,_,_,_,h,_,_=>by simp at h
 |_::_,[],_,_,_,_,h,_=>by simp at h
 |p::P,w::vs,0,m,nd,h1,h2,q=>by
  simp at h1 h2; subst h1; subst h2;show bindC j ((p,w)::P.zip vs) m p=_;unfold bindC;rw[qwh λv z=>(Qq5.mp nd).1 (Qj0 z).1,Zs q];simp
 |p::P,w::vs,i+1,m,nd,h1,h2,q=>by
  show bindC j ((p,w)::P.zip vs) m x=_;unfold bindC;exact qwi (i:=i) (Qq5.mp nd).2 (by simpa using h1) (by simpa using h2) q
noncomputable def start(N:List Str)(vs:List V):St:=vs.map some++List.replicate (N.length - vs.length) none
noncomputable def cxOf(CX:CXT)(P:Program)(w:Qk)(K:Qqq)(mg:Str->Option Value)(base:Heap)(N:List Str)(qual:Str)(scope:Scope)(f:Addr)(cd:Value)(A:Qw)(outer:List Env)(s:Qz)(H:Hp)(E:XK):Cx where
 prog:=P
 w:=w
 K:=K
 mg:=mg
 base:=base
 A:=A.deeper (envOfC qual scope s.heap.objs.size f cd)
 N:=N
 s₀:=s
 H₀:=H
 env:=envOfC qual scope s.heap.objs.size f cd
 outer:=outer
 stack:=envOfC qual scope s.heap.objs.size f cd::outer
 ex:=[]
 calm:=true
 fn:=λ_=>true
 pn:=[]
 xe:=λe s'=>wpAny (model P w) (A.deeper (envOfC qual scope s.heap.objs.size f cd)) (leaving (envOfC qual scope s.heap.objs.size f cd) e) (λ_ s''=>CX outer H s E e s'') (λe' s''=>CX outer H s E e' s'') s'
theorem qad{sc:Scope}{n:Nat}{x:Str}(h:sc.names.lookup x=some .cell):∃c,(cellsFrom n sc.names []).lookup x=some c:=by
 have q:=Qj1 sc.names n [] (.inl h);exact Qzq.mp q
theorem qdw{CX:CXT}{P:Program}{w:Qk}{K:Qqq}{mg:Str->Option Value}{base:Heap}{N ps:List Str}{F:Str}{j:Scope}{f:Addr}{Y:Value}{A:Qw}{outer:List Env}{s s1:Qz}{H:Hp}{E:XK}{us:List Value}{vs:List V}
  (S:FnScope N ps j) (hd:A.handled=none) (J:Env0 P w K mg base A outer s H) (hl:vs.length=ps.length) (r:Vals vs us)
  (x:InCallC s s.heap.objs.size (bindL (envOfC F j s.heap.objs.size f Y).kindOf (ps.zip us) λ_=>none) (cellsFrom (s.heap.objs.size+1) j.names []) (bindC (envOfC F j s.heap.objs.size f Y).kindOf (ps.zip us) λ_=>none) s1) :
  Inv (cxOf CX P w K mg base N F j f Y A outer s H E) [] (start N vs) H s1:=by
 have a0:ps.length<=N.length:=by have:=congrArg List.length S.pre; rw[Qzb]at this; omega
 obtain⟨h1,tk,rfl,hk⟩:=x.done;have L:∀b:Addr,b ∉ (cxOf CX P w K mg base N F j f Y A outer s H E).ex:=λb z=>absurd (show b∈([]:List Addr) from z) (by simp)
 refine⟨⟨J.mod,S.kind,rfl,rfl,Qqk _,λy z c h1 h2=>?_,λy M=>?_,λy c _ h=>?_,λ_=>hd,Around.frames_deeper J.frames,.inr ⟨rfl,rfl⟩,λb z=>absurd z (L b),J.bs,J.bsz,λb _ _=>L b,λb z=>absurd z (L b),J.funs,J.frf⟩,
  rfl,J.bare,Un.kept hk,⟨_,x.toInCall.ns,λi y v h1 h2 h3=>?_⟩,λy c h=>⟨_,x.cell y c h⟩,J.hok.fresh (Qqk _),λy c h=>?_,λp U=>absurd (show p∈([]:List (Addr×Obj)) from U) (by simp),J.hok.kept hk,?_⟩
 ·exact name_of_addr x.apart (PySem.mem_of_lookup h1) (PySem.mem_of_lookup h2)
 ·have M:j.names.lookup y=some .cell\/j.names.lookup y=some .free:=M;rcases M with M|M
  ·exact qad M
  ·exact absurd rfl (S.nofree _ (PySem.mem_of_lookup M))
 ·exact Qx4 (x.above y c (PySem.mem_of_lookup h))
 ·have hi:i<vs.length:=by
   unfold start at h2
   by_cases hi:i<vs.length
   ·exact hi
   ·rw[Qza (by simpa using hi)]at h2;rw[Qjs]at h2
    split at h2<;>cases h2
  have ha:vs[i]?=some v:=by
   unfold start at h2;rw[Qqt (by simpa using hi),Qqf]at h2
   cases e:vs[i]? with
   |none=>rw[e]at h2; cases h2
   |some a=>rw[e]at h2; cases h2; rfl
  obtain⟨u,Z,rv⟩:=r.get ha;have U:ps[i]?=some y:=by
   rw[<- S.pre,List.getElem?_take_of_lt (by omega)]; exact h1
  have O:ps.Nodup:=by rw[<- S.pre]; exact S.nd.sublist (List.take_sublist _ _)
  refine⟨u,rv,?_⟩;rcases S.par y (Qq1 U) with k|k
  ·exact .inl ⟨k,qwg O U Z k⟩
  ·obtain⟨c,e⟩:=qad (n:=s.heap.objs.size+1) k;refine .inr ⟨.inl k,c,e,?_⟩;have q:=x.cell y c e;rw[qwi O U Z (by show j.names.lookup y≠_; rw[k]; decide)]at q;exact q
 ·exact J.hok.fresh (Qx4 (x.above y c (PySem.mem_of_lookup h)))
 ·unfold start;show _=N.length;rw[Qqu,Qqw,Qx1];omega
theorem fn_of{CX:CXT}{P:Program}{w:Qk}{K:Qqq}{mg:Str->Option Value}{base:Heap}{k:Nat}{f:Addr}{name z:Str}{L:Arguments}{body:List Stmt}{j:Scope}{dV kV doc pm F ct oc:Value}{an od:Option Addr}
  {a1:Array (Option Value)}{N ps:List Str}{sp:Sp}(lk:K.lookup f=some ⟨oc,od,.func (PySem.W.fnOf name z L body j dV kV doc pm an F ct),a1⟩) (a2:PySem.W.codeIn K F z=true) (S:FnScope N ps j)
  (len:∀vs H Q E,sp vs H Q E->vs.length=ps.length)
  (U:∀(A:Qw) (outer:List Env) (s:Qz) (H:Hp) (vs:List V) (Q:VK) (E:XK),Room k (A.deeper (envOfC z j s.heap.objs.size f F))->sp vs H Q E->
   ∃t,PSs (cxOf CX P w K mg base N z j f F A outer s H E) body t/\t { nx:=λ_ H'=>Q .non H',rt:=Q } (start N vs) H) :
  FnOk P w K mg base CX (k+1) f (PySem.W.fnOf name z L body j dV kV doc pm an F ct) ps sp:=by
 refine⟨len,λA outer s H a3 us vs Q E hr e0 hb r Z=>?_⟩;have hl:=len _ _ _ _ Z;have KX:K.In s.heap:=e0.mod.kin.keeps λb o e=>(e0.bs b o e).1;have lim:s.heap.NoLimit:=e0.mod.nolimit.keeps λb o e=>(e0.bs b o e).1;have O:∀y∈ps.zip us,j.names.lookup y.1=some .local\/(j.names.lookup y.1=some .cell/\((cellsFrom (s.heap.objs.size+1) j.names []).lookup y.1).isSome=true):=λ⟨n,v⟩ hy=>by
  rcases S.par n (Qj0 hy).1 with q|q
  ·exact .inl q
  ·exact .inr ⟨q,Qj1 _ _ _ (.inl q)⟩
 refine codeAny_call_function hr.depth (KX _ _ lk) rfl S.co S.gen rfl (PySem.W.codeRec_of KX a2) (hb _ _ _ _ ?_);refine wpAny_newFunctionEnv_cells S.kind O λenv he s1 x=>?_;subst he;refine⟨lim.keeps x.toInCall.keep,codeAny_func ?_⟩;obtain⟨t,ht,hq⟩:=U A outer s H vs Q E (hr.deeper _) Z;have I:Inv (cxOf CX P w K mg base N z j f F A outer s H E) [] (start N vs) H s1:=qdw S hr.hd e0 hl r x;refine Qb (ht [] s1 (start N vs) H _ I hq) (λfl s' Y=>?_) λe s' Y=>Y;have a0:∀{M:St}{H':Hp}{v:V}{u:Value},Inv (cxOf CX P w K mg base N z j f F A outer s H E) [] M H' s'->RelV v u->Q v H'->CE outer P w H s Q u s':=
  λ{M H' v u} J rv q=>⟨v,H',J.os,J.bare,J.base,J.hok,rv,q⟩
 cases fl with
 |ret u=>
  obtain⟨v,M,H',J,rv,q⟩:=Y;exact a0 J rv q
 |next=>
  obtain⟨M,H',J,q⟩:=Y;exact a0 (v:=V.non) (u:=Value.none) J rfl q
 |brk=>
  obtain⟨_,_,_,q⟩:=Y;exact False.elim q
 |cont=>
  obtain⟨_,_,_,q⟩:=Y;exact False.elim q
end L2
namespace L2
open PySem PySem.Spec PyProof.Rows
section
variable {X:Cx}{x:Str}{p pos:Pos}{e:Qx}{es:List Qx}{t:TA}{id T:String}{r:List V->Hp->VK->Prop}
noncomputable def tCB(r:List V->Hp->VK->Prop)(t:TA):TE:=λσ H Q=>t σ H λvs H1=>r vs H1 Q
theorem qz8(hc:CallR X (.builtin id) r)(Y:Gl X x)(U:X.mg x=none)(M:Qa x=some (.builtin id))(ha:PA X (e::es) t)(O:x ≠ "__name__":=by decide)(q:(x==("__debug__" : Str))=false:=by decide)
  (Z:starEach (e::es) X.env=(false,eval e X.env)::starEach es X.env:=by rfl) (j:(backTo pos (starEach es X.env)).any (·.1)=false:=by rfl):PE X (.Call (.Name x p) (e::es) [] pos) (tCB r t):=by
 intro pins s σ H Q I h;refine Zv (qkc I Y U M ?_ O q);exact PyProof.Rows.callWith_builtin1 (thn (ha pos pins s σ H _ I h) λz F ⟨vs,H1,I1,J,L⟩=>hc pins F σ H1 vs z Q I1 J L) Z j
theorem qjq(hc:CallR X (.type T) r)(Y:Gl X x)(U:X.mg x=none)(M:Qa x=some (.type T))(ha:PA X (e::es) t)(O:x ≠ "__name__":=by decide)(q:(x==("__debug__" : Str))=false:=by decide)
  (Z:starEach (e::es) X.env=(false,eval e X.env)::starEach es X.env:=by rfl) (j:(backTo pos (starEach es X.env)).any (·.1)=false:=by rfl):PE X (.Call (.Name x p) (e::es) [] pos) (tCB r t):=by
 intro pins s σ H Q I h;refine Zv (qkc I Y U M ?_ O q);exact PyProof.Rows.callWith_type1 (thn (ha pos pins s σ H _ I h) λz F ⟨vs,H1,I1,J,L⟩=>hc pins F σ H1 vs z Q I1 J L) Z j
end
end L2
namespace HT
open PySem PyProof.Rows
section
open PySem.SeqAt
open PySem.AutoSeq1 (wpAny_loadPart')
open PySem.MeetsSeq PySem.MeetsSeq2 PySem.MeetsSeq3
end
section
variable {prog:Program}{w:Qk}{A:Qw}{E:Value->Qz->Prop}{s:Qz}
theorem cat_tup{t b:Addr}{vs ws:List Value}{Q:Value->Qz->Prop}(ht:IsTup s.heap t vs.toArray)(hb:IsTup s.heap b ws.toArray)(Y:vs≠[])
  (h1:ws=[]->Q (.ref t) s) (h2:ws≠[]->Q (.ref s.heap.objs.size) { s with heap:=s.heap.push { cls:=.type "tuple",data:=.seq (vs++ws).toArray } })
  (hsz:vs.length+ws.length<=sizeLine):wpAny (model prog w) A (Q3 .Add (.ref t) (.ref b)) Q E s:=by
 obtain⟨⟨cls,dd,data,sl⟩,M,Z,n,hd⟩:=id ht;obtain⟨⟨a0,J,O,q⟩,j,F,U,z⟩:=id hb;simp only at Z hd F z;subst Z hd F z;have e:vs.toArray++ws.toArray=(vs++ws).toArray:=by simp
 by_cases L:ws=[]
 ·exact concat_meets ⟨_,M,rfl⟩ ⟨_,j,rfl⟩ noFill_tuple_add seq_tuple_add PySem.F.slot_tuple_add PySem.F.entry_tuple_add (PySem.F.args_tuple_add_2 _ _)
   (tuple_addW1 t b vs.toArray ws.toArray n U dd J sl q (by simpa using Y) (by simp[L])) ⟨M,j,h1 L⟩
 ·refine concat_meets ⟨_,M,rfl⟩ ⟨_,j,rfl⟩ noFill_tuple_add seq_tuple_add PySem.F.slot_tuple_add PySem.F.entry_tuple_add (PySem.F.args_tuple_add_2 _ _)
   (tuple_addW2 t b vs.toArray ws.toArray n U dd J sl q (by simpa using Y) (by simpa using L) (by rw[Qqj,Qqj]; exact hsz)) ⟨M,j,?_⟩
  rw[e];exact h2 L
noncomputable def sIx(n d:Nat):Option Int->Nat
 |none=>d
 |some v=>if v<0 then(v+(n:Int)).toNat else min v.toNat n
theorem sIx_le(n d:Nat)(hd:d<=n)(o:Option Int):sIx n d o<=n:=by
 cases o with
 |none=>exact hd
 |some v=>
  show(if v<0 then(v+(n:Int)).toNat else min v.toNat n)<=n
  by_cases j:v<0
  ·rw[Zt j]; omega
  ·rw[Zs j]; exact Nat.min_le_right _ _
theorem qdt(v:Int)(n d:Nat):(if v<0 then max (v+(n:Int)) 0 else min v (n:Int))=((sIx n d (some v):Nat):Int):=by
 show(if v<0 then max (v+(n:Int)) 0 else min v (n:Int))=(((if v<0 then(v+(n:Int)).toNat else min v.toNat n):Nat):Int)
 by_cases j:v<0
 ·simp only[Zt j]; omega
 ·simp only[Zs j]; omega
theorem qbd(lo j:Option Int)(n:Nat):Builtin.Slice.sliceAdjust lo j 1 (n:Int)=(((sIx n 0 lo:Nat):Int),((sIx n n j:Nat):Int)):=by
 have h1:¬ ((1:Int)<0):=by omega
 unfold Builtin.Slice.sliceAdjust;simp only[h1,if_false];refine Prod.ext ?_ ?_
 ·cases lo with
  |none=>rfl
  |some v=>exact qdt v n 0
 ·cases j with
  |none=>rfl
  |some v=>exact qdt v n n
theorem qat(i j:Nat):Builtin.Slice.slicePlaces (i:Int) (j:Int) 1=j - i:=by
 unfold Builtin.Slice.slicePlaces;have h1:(1:Int) > 0:=by omega
 simp only[h1,if_true,Int.ediv_one]
 split<;>omega
theorem qkx{v:Value}{o:Option Int}{Q:Option Int->Qz->Prop}(p:IsPart v o)(h:Q o s):wpAny (model prog w) A (Builtin.Slice.slicePartIndex v) Q E s:=by
 cases p with
 |none=>exact slicePart_none h
 |int i t=>exact slicePart_int h
theorem sliceApplied_gen{sl:Addr}{vl F:Value}{lo q:Option Int}{n:Nat}{Q:Int×Int×Nat->Qz->Prop}(L:s.heap.IsSliceOf sl vl F .none)(pl:IsPart vl lo)(J:IsPart F q)
  (h:Q (((sIx n 0 lo:Nat):Int),1,sIx n n q - sIx n 0 lo) s):wpAny (model prog w) A (Builtin.Slice.sliceApplied (.ref sl) (pure (n:Int))) Q E s:=by
 obtain⟨os,j,M,z⟩:=id L;unfold Builtin.Slice.sliceApplied Builtin.Slice.sliceFields;refine Qq (Qq (Qg j z (x:=vl) rfl (Qq (Qg j z (x:=F) rfl (Qq (Qg j z (x:=.none) rfl (Qj ?_)))))));refine Qq (slicePart_none ?_);show wpAny _ _ (if ((1:Int)==0)=true then _ else _) _ _ s;rw[Zs (by decide)];refine Qq (qkx pl (Qq (qkx J (Qq (Qj ?_)))));show wpAny _ _ (match Builtin.Slice.sliceAdjust lo q 1 (n:Int) with|(lo,q)=>pure (lo,(1:Int),Builtin.Slice.slicePlaces lo q 1)) _ _ s;rw[qbd lo q n];show wpAny _ _ (pure (((sIx n 0 lo:Nat):Int),(1:Int),Builtin.Slice.slicePlaces ((sIx n 0 lo:Nat):Int) ((sIx n n q:Nat):Int) 1)) _ _ s;rw[qat];exact Qj h
theorem qfw(xs:Array Value)(i k:Nat):((List.range k).filterMap λ(m:Nat)=>xs[((i:Int)+(m:Int)*1).toNat]?).toArray=((xs.toList.drop i).take k).toArray:=by
 have e:(λ(m:Nat)=>xs[((i:Int)+(m:Int)*1).toNat]?)=λm=>xs[i+m]?:=by
  funext m
  have:((i:Int)+(m:Int)*1).toNat=i+m:=by omega
  rw[this]
 rw[e];have:=pick_run xs i k;rw[Qjj]at this;have j:((λx=>xs[x]?)∘λx=>i+x)=λm=>xs[i+m]?:=rfl;rw[j]at this;rw[this]
theorem getItem_tuple_cut{t sl:Addr}{items:Array Value}{vl U:Value}{lo z:Option Int}{Q:Value->Qz->Prop}(F:IsTup s.heap t items)(Y:s.heap.IsSliceOf sl vl U .none)(pl:IsPart vl lo)(Z:IsPart U z)
  (hw:¬ (sIx items.size 0 lo=0/\sIx items.size items.size z=items.size))
  (h:Q (.ref s.heap.objs.size) { s with heap:=s.heap.push { cls:=.type "tuple",data:=.seq ((items.toList.drop (sIx items.size 0 lo)).take (sIx items.size items.size z - sIx items.size 0 lo)).toArray } })
  (hsz:items.size<=sizeLine):wpAny (model prog w) A (Q9 (.ref t) (.ref sl)) Q E s:=by
 have j:sizeOk (.seq ((items.toList.drop (sIx items.size 0 lo)).take (sIx items.size items.size z - sIx items.size 0 lo)).toArray):=by
  show((items.toList.drop (sIx items.size 0 lo)).take (sIx items.size items.size z - sIx items.size 0 lo)).toArray.size<=sizeLine;rw[Qqj,Qzb,Qxt,Qzi];omega
 have hj:sIx items.size items.size z<=items.size:=sIx_le _ _ (Qqk _) z;obtain⟨os,J,M,a0⟩:=id Y;have O:s.TypeIs (.ref sl) "slice":=⟨os,J,M⟩
 unfold Q9
 try with_reducible refine Q4 ?_
 first|refine Qq (Qj ?_)|skip
 refine Qq (wpAny_sequenceKey F.typeIs (by decide) ?_)
 refine Qq (Qm (name:=Str.ofString "__getitem__") F.typeIs PyProof.Rows.slot_tuple_getitem
  (Qs PyProof.Rows.slot_tuple_getitem F.typeIs entry_tuple_getitem ?_ (args_tuple_getitem _ _)))
 show wpAny _ _ (Builtin.Tuple.tupleItemsOf (.ref t) >>= _) _ _ s;refine Qq (tupleItemsOf_ F ?_);refine Qq (wpAny_typeOf O ?_);rw[Zt (by decide)];refine Qq (sliceApplied_gen Y pl Z ?_);have L:¬ ((((sIx items.size 0 lo:Nat):Int)==0&&(1:Int)==1&&(sIx items.size items.size z - sIx items.size 0 lo)==items.size)=true):=by
  intro q;rw[Qqc,Qqc]at q;have q1:((sIx items.size 0 lo:Nat):Int)=0:=eq_of_beq q.1.1;have q2:sIx items.size items.size z - sIx items.size 0 lo=items.size:=eq_of_beq q.2;exact hw ⟨by omega,by omega⟩
 show wpAny _ _ (if (((sIx items.size 0 lo:Nat):Int)==0&&(1:Int)==1&&(sIx items.size items.size z - sIx items.size 0 lo)==items.size)=true then _ else _) _ _ s;rw[Zs L,qfw]
 first
  |exact Qq (m:=Builtin.Tuple.tupleExact _) (Qn (Qj ⟨_,rfl,Qj h⟩) j)
  |exact Qq (m:=Builtin.Tuple.tupleExact _) (Qn (Qq (Qj (Qj ⟨_,rfl,Qj h⟩))) j)
  |exact Qq (Qq (m:=Builtin.Tuple.tupleExact _) (Qn (Qj (Qj ⟨_,rfl,Qj h⟩)) j))
  |exact Qq (Qq (m:=Builtin.Tuple.tupleExact _) (Qn (Qj ⟨_,rfl,Qj h⟩) j))
end
end HT
namespace L2
open PySem PySem.Spec PyProof.Rows
abbrev TO:=St->Hp->(Option Int->Hp->Prop)->Prop
def PO(X:Cx)(e:Option Qx)(t:TO):Prop:=
 ∀(pins:List (Addr×Obj)) (s:Qz) (σ:St) (H:Hp) (Q:Option Int->Hp->Prop),Inv X pins σ H s->t σ H Q->
  wpAny (model X.prog X.w) X.A (evalPart e X.env) (λu s'=>∃o H',Inv X pins σ H' s'/\IsPart u o/\Q o H') X.xe s
noncomputable def qht:TO:=λ_ H Q=>Q none H
noncomputable def tPart(t:TE):TO:=λσ H Q=>t σ H λx H1=>∃i,x=.int i/\Q (some i) H1
theorem intsAre_of{ns:List Int}:∀{us:List Value},Vals (ns.map V.int) us->Zf us ns:=by
 induction ns with
 |nil=>intro us r; rw[Qxx]at r; cases r; exact .nil
 |cons n ns z=>
  intro us r;rw[Qqd]at r
  cases r with
  |cons q j=>
   obtain⟨t,e⟩:=q;subst e;exact .cons n t (z j)
section
variable {X:Cx}{e:Qx}{te:TE}{lo hi:Option Qx}{tl th:TO}{pos p2:Pos}
theorem qid:PO X none qht:=by
 intro pins s σ H Q I h;rw[evalPart_none];exact Qj ⟨none,H,I,.none,h⟩
theorem qic(h:PE X e te):PO X (some e) (tPart te):=by
 intro pins s σ H Q I F;rw[evalPart_some];refine thn (h pins s σ H _ I F) λu L ⟨x,H1,J,j,z⟩=>?_;obtain⟨i,rfl,q⟩:=z;obtain⟨t,rfl⟩:=j;exact⟨some i,H1,J,.int i t,q⟩
def SlR(X:Cx)(r:V->Option Int->Option Int->Hp->VK->Prop):Prop:=
 ∀(pins:List (Addr×Obj)) (s:Qz) (σ:St) (H:Hp) (x:V) (v vl vu:Value) (lo hi:Option Int) (sl:Addr) (Q:VK),Inv X pins σ H s->RelV x v->s.heap.IsSliceOf sl vl vu .none->IsPart vl lo->IsPart vu hi->r x lo hi H Q->
  ∃T id,typeLookup (.type T) "__getitem__" = pure (some (.builtin id))/\s.TypeIs v T/\wpAny (model X.prog X.w) X.A (Q9 v (.ref sl)) (EP X pins σ Q) X.xe s
theorem SlR.or{r F:V->Option Int->Option Int->Hp->VK->Prop}(h:SlR X r)(h':SlR X F):SlR X (λx lo hi H Q=>r x lo hi H Q\/F x lo hi H Q):=by
 intro pins s σ H x v vl j lo hi sl Q I z L pl J q;rcases q with q|q
 ·exact h pins s σ H x v vl j lo hi sl Q I z L pl J q
 ·exact h' pins s σ H x v vl j lo hi sl Q I z L pl J q
noncomputable def tSl(r:V->Option Int->Option Int->Hp->VK->Prop)(te:TE)(tl th:TO):TE:=λσ H Q=>te σ H λx H1=>tl σ H1 λl H2=>th σ H2 λu H3=>r x l u H3 Q
theorem qfa{r:V->Option Int->Option Int->Hp->VK->Prop}(hr:SlR X r)(he:PE X e te)(hl:PO X lo tl)(hu:PO X hi th):PE X (.Subscript e (.Slice lo hi none p2) pos) (tSl r te tl th):=by
 intro pins s σ H Q I h;refine Subscript_ (thn (he pins s σ H _ I h) λv L ⟨x,H1,I1,M,Y⟩=>?_);refine wpAny_Slice (thn (hl pins L σ H1 _ I1 Y) λvl J ⟨l,H2,I2,pl,U⟩=>thn (hu pins J σ H2 _ I2 U) λz j ⟨u,F,I3,Z,O⟩=>?_);rw[evalPart_none];refine Qj ?_;have I4:Inv X pins σ F { j with heap:=j.heap.push { cls:=.type "slice",data:=.fields #[vl,z,.none] } }:=I3.kept (t':=j.toks) λb ob q=>Qqz _ q;obtain⟨T,id,hT,ht,hg⟩:=hr pins { j with heap:=j.heap.push { cls:=.type "slice",data:=.fields #[vl,z,.none] } } σ F x v vl z l u j.heap.objs.size Q I4 M (Heap.IsSliceOf.new ..) pl Z O;show wpAny (model X.prog X.w) X.A (subscriptTail e (.Slice lo hi none p2) v (.ref j.heap.objs.size)) (EP X pins σ Q) X.xe { j with heap:=j.heap.push { cls:=.type "slice",data:=.fields #[vl,z,.none] } };exact tail_any (ops:=[.ref j.heap.objs.size,v]) ht hT hg (by with_unfolding_all rfl)
noncomputable def cutV(xs:List V)(lo hi:Option Int):List V:=(xs.drop (HT.sIx xs.length 0 lo)).take (HT.sIx xs.length xs.length hi - HT.sIx xs.length 0 lo)
theorem qjn(xs:List V)(lo j:Option Int):(cutV xs lo j).length<=xs.length:=by
 unfold cutV;rw[Qzb,Qxt];omega
def rSlT(K:Qqq):V->Option Int->Option Int->Hp->VK->Prop:=λx lo hi H Q=>∃a xs,x=.ref a/\SqT K H a xs/\
 ¬ (HT.sIx xs.length 0 lo=0/\HT.sIx xs.length xs.length hi=xs.length)/\∀p,H p=none->Q (.ref p) (upd H p (.tup (cutV xs lo hi)))
theorem sl_tup:SlR X (rSlT X.K):=by
 intro pins s σ H x v vl Z lo hi sl Q I L Y pl M h;obtain⟨a,xs,rfl,O,U,q⟩:=h;cases L;obtain⟨z,r,J,F⟩:=I.tuple O;have j:z.toArray.size=xs.length:=by rw[Qqj]; exact r.length.symm
 refine⟨"tuple",_,PyProof.Rows.slot_tuple_getitem.lookup,J.typeIs,?_⟩;refine HT.getItem_tuple_cut J Y pl M (by rw[j]; exact U) ?_ (by rw[j]; exact F);rw[j];refine⟨.ref s.heap.objs.size,_,I.laid (t':=s.toks) (o:=.tup (cutV xs lo hi)) (λb ob q=>Qqz _ q) (Qqk _) ?_,rfl,q _ (I.hok.fresh (Qqk _))⟩;exact⟨Qzg (qjn xs lo hi) F,_,(r.drop (HT.sIx xs.length 0 lo)).take (HT.sIx xs.length xs.length hi - HT.sIx xs.length 0 lo),IsTup.new _ _⟩
noncomputable def rCatT(K:Qqq):R2:=λx y H Q=>∃a b xs ys,x=.ref a/\y=.ref b/\SqT K H a xs/\SqT K H b ys/\xs≠[]/\xs.length+ys.length<=sizeLine/\
 (ys=[]->Q (.ref a) H)/\(ys≠[]->∀p,H p=none->Q (.ref p) (upd H p (.tup (xs++ys))))
theorem Vals.nil_iff{xs:List V}{us:List Value}(r:Vals xs us):us=[]↔xs=[]:=by
 cases r with
 |nil=>simp
 |cons _ _=>simp
theorem qi2:OpR X (Q3 .Add) (rCatT X.K):=by
 intro pins s σ H x y v u Q I O M h;obtain⟨a,b,xs,ys,rfl,rfl,ha,hb,hx,L,Y,U⟩:=h;cases O;cases M;obtain⟨Z,F,p1,_⟩:=I.tuple ha;obtain⟨J,j,p2,_⟩:=I.tuple hb;refine HT.cat_tup p1 p2 (λz=>hx (F.nil_iff.mp z)) (λz=>⟨.ref a,H,I,rfl,Y (j.nil_iff.mp z)⟩) (λz=>?_) (by rw[<- F.length,<- j.length]; exact L);refine⟨.ref s.heap.objs.size,_,I.laid (t':=s.toks) (o:=.tup (xs++ys)) (λb ob q=>Qqz _ q) (Qqk _) ?_,rfl,U (λw=>z (j.nil_iff.mpr w)) _ (I.hok.fresh (Qqk _))⟩;exact⟨by rw[Qqu]; exact L,_,F.append j,IsTup.new _ _⟩
end
end L2
namespace L2
open PySem PySem.Spec PyProof.Rows
noncomputable def ixN(n:Nat)(i:Int):Option Nat:=if 0<=i then(if i<n then some i.toNat else none) else if -(n:Int)<=i then some (i+n).toNat else none
noncomputable def atI{α:Type}(xs:List α)(i:Int):Option α:=(ixN xs.length i).bind λj=>xs[j]?
theorem qld{n:Nat}{i:Int}{j:Nat}(h:ixN n i=some j):seqIndex? i n=some j/\j<n/\-(n:Int)<=i/\i<n:=by
 unfold ixN at h
 by_cases q:0<=i
 ·rw[Zt q]at h
  by_cases h1:i<n
  ·rw[Zt h1]at h;have e:i.toNat=j:=Option.some.inj h;exact⟨by rw[seqIndex_of q h1,e],by omega,by omega,h1⟩
  ·rw[Zs h1]at h; cases h
 ·rw[Zs q]at h
  by_cases h1:-(n:Int)<=i
  ·rw[Zt h1]at h;have e:(i+n).toNat=j:=Option.some.inj h;exact⟨by rw[seqIndex_neg (by omega) h1,e],by omega,h1,by omega⟩
  ·rw[Zs h1]at h; cases h
theorem qeb{α:Type}{xs:List α}{i:Int}{v:α}(h:atI xs i=some v):∃j,seqIndex? i xs.length=some j/\xs[j]?=some v/\j<xs.length/\-(xs.length:Int)<=i/\i<xs.length:=by
 unfold atI at h
 cases e:ixN xs.length i with
 |none=>rw[e]at h; cases h
 |some j=>
  rw[e]at h;obtain⟨h1,h2,z,q⟩:=qld e;exact⟨j,h1,h,h2,z,q⟩
def qyq(b:Qx):Prop:=∀o i,subscripted b false o i=operate [o,i] (Q9 o i)
def IxR(X:Cx)(r:R2):Prop:=
 ∀(value slice:Qx) (pins:List (Addr×Obj)) (s:Qz) (σ:St) (H:Hp) (x y:V) (v u:Value) (Q:VK),Inv X pins σ H s->RelV x v->RelV y u->r x y H Q->
  subscripted slice false v u=operate [v,u] (Q9 v u)->wpAny (model X.prog X.w) X.A (subscriptTail value slice v u) (EP X pins σ Q) X.xe s
def MtR(X:Cx)(id:String)(r:V->List V->Hp->VK->Prop):Prop:=
 ∀(pins:List (Addr×Obj)) (s:Qz) (σ:St) (H:Hp) (x:V) (xs:List V) (v:Value) (us:List Value) (Q:VK),Inv X pins σ H s->RelV x v->Vals xs us->r x xs H Q->
  wpAny (model X.prog X.w) X.A (call (.builtin id) (v::us)) (EP X pins σ Q) X.xe s
section
variable {X:Cx}{a b:Qx}{ta tb:TE}{pos:Pos}
theorem IxR.or{r J:R2}(h:IxR X r)(h':IxR X J):IxR X (λx y H Q=>r x y H Q\/J x y H Q):=by
 intro value j pins s σ H x y v u Q I F z q L;rcases q with q|q
 ·exact h value j pins s σ H x y v u Q I F z q L
 ·exact h' value j pins s σ H x y v u Q I F z q L
theorem MtR.or{id:String}{r J:V->List V->Hp->VK->Prop}(h:MtR X id r)(h':MtR X id J):MtR X id (λx xs H Q=>r x xs H Q\/J x xs H Q):=by
 intro pins s σ H x xs v j Q I z F q;rcases q with q|q
 ·exact h pins s σ H x xs v j Q I z F q
 ·exact h' pins s σ H x xs v j Q I z F q
theorem pe_ix{r:R2}(L:IxR X r)(O:PE X a ta)(M:PE X b tb)(J:qyq b):PE X (.Subscript a b pos) (tOp r ta tb):=by
 intro pins s σ H Q I h;exact Subscript_ (binT O M I h λv u j x y H2 U F z q=>L a b pins j σ H2 x y v u Q U F z q (J _ _))
noncomputable def rIxL(K:Qqq):R2:=λx y H Q=>∃p xs i v,x=.ref p/\y=.int i/\SqL K H p xs/\atI xs i=some v/\Q v H
noncomputable def rIxT(K:Qqq):R2:=λx y H Q=>∃p xs i v,x=.ref p/\y=.int i/\SqT K H p xs/\atI xs i=some v/\Q v H
theorem qlc:IxR X (rIxL X.K):=by
 intro value J pins s σ H x y v u Q I rx ry h U;obtain⟨p,xs,i,z,rfl,rfl,hq,he,q⟩:=h;cases rx;obtain⟨t,rfl⟩:=ry;obtain⟨M,r,pl,hz⟩:=I.list hq;obtain⟨j,h1,h2,h3,h4,h5⟩:=qeb he;obtain⟨w,Z,L⟩:=r.get h2;have hl:=r.length;have hn:=qy2;have F:EP X pins σ Q w s:=⟨z,H,I,L,q⟩
 by_cases Y:0<=i
 ·have O:i.toNat=j:=by
   rw[seqIndex_of Y h5]at h1;exact Option.some.inj h1
  exact item_listR pl.isList Y (by omega) (by rw[O]; simpa using Z) F U
 ·have O:(i+(M.toArray.size:Int)).toNat=j:=by
   rw[seqIndex_neg (by omega) h4]at h1;rw[Qqj,<- hl];exact Option.some.inj h1
  exact subscriptTail_builtinR (x:=w) pl.isList.typeIs slot_list_getitem.lookup
   (wpAny_getItem_list_neg (Q:=λr s'=>r=w/\EP X pins σ Q r s') pl.isList (by omega) (by rw[Qqj]<;>omega) (by omega) (by rw[O]; simpa using Z) ⟨rfl,F⟩) U
theorem ix_tup:IxR X (rIxT X.K):=by
 intro value F pins s σ H x y v u Q I O M h Y;obtain⟨p,xs,i,z,rfl,rfl,Z,he,q⟩:=h;cases O;obtain⟨t,rfl⟩:=M;obtain⟨U,r,pl,hz⟩:=I.tuple Z;obtain⟨j,h1,h2,h3,h4,h5⟩:=qeb he;obtain⟨w,ew,J⟩:=r.get h2;have hl:=r.length;have hn:=qy2;have L:EP X pins σ Q w s:=⟨z,H,I,J,q⟩
 exact subscriptTail_builtinR (x:=w) pl.typeIs slot_tuple_getitem.lookup
  (getItem_tuple (j:=j) (Q:=λr s'=>r=w/\EP X pins σ Q r s') pl (by omega) (by omega) (by rw[Qqj,<- hl]; exact h1) (by simpa using ew) ⟨rfl,L⟩) Y
theorem Inv.lst{q:List (Addr×Obj)}{F:St}{H:Hp}{s:Qz}{p:Addr}{xs:List V}(I:Inv X q F H s)(h:H p=some (.lst xs)):
  ∃(j:List Value) (n:Nat),Vals xs j/\s.heap.get? p=some { cls:=.type "list",data:=.seq j.toArray n }/\xs.length<=sizeLine:=by
 obtain⟨z,j,n,r,e⟩:=I.hok p _ h;exact⟨j,n,r,e,z⟩
theorem qvh(lo j:Option Int)(n:Nat):(Zq lo j none n).1=((HT.sIx n 0 lo:Nat):Int)/\(Zq lo j none n).2.1=((HT.sIx n n j:Nat):Int)/\(Zq lo j none n).2.2=1:=by
 refine⟨?_,?_,rfl⟩
 ·cases lo with
  |none=>simp[Zq,HT.sIx]
  |some i=>
   simp only[Zq,HT.sIx,Option.getD_none,show(1:Int) > 0 by decide,if_true]
   by_cases h:i<0
   ·simp only[h,if_true]<;>omega
   ·simp only[h,if_false]<;>omega
 ·cases j with
  |none=>simp[Zq,HT.sIx]
  |some i=>
   simp only[Zq,HT.sIx,Option.getD_none,show(1:Int) > 0 by decide,if_true]
   by_cases h:i<0
   ·simp only[h,if_true]<;>omega
   ·simp only[h,if_false]<;>omega
theorem qkr(j:List Value)(lo q:Option Int):slicePick j.toArray lo q none=((j.drop (HT.sIx j.length 0 lo)).take (HT.sIx j.length j.length q - HT.sIx j.length 0 lo)).toArray:=by
 obtain⟨h1,h2,z⟩:=qvh lo q j.toArray.size;unfold slicePick;rw[h1,h2,z];simp only[sliceRange_one,pick_run,Qqj]<;>rfl
def rSlL(K:Qqq):V->Option Int->Option Int->Hp->VK->Prop:=λx lo hi H Q=>∃a xs,x=.ref a/\SqL K H a xs/\∀p,H p=none->Q (.ref p) (upd H p (.lst (cutV xs lo hi)))
theorem qh4:SlR X (rSlL X.K):=by
 intro pins s σ H x v vl Y lo hi sl Q I F U pl J h;obtain⟨a,xs,rfl,O,q⟩:=h;cases F;obtain⟨L,r,z,M⟩:=I.list O;have j:=r.length;refine⟨"list",_,slot_list_getitem.lookup,z.isList.typeIs,?_⟩;refine wpAny_getItem_list_slice z.isList U pl J .none (by simp) ?_ (by rw[Qqj]<;>omega);rw[qkr,<- j];refine⟨.ref s.heap.objs.size,_,I.laid (t':=s.toks) (o:=.lst (cutV xs lo hi)) (λb ob q=>Qqz _ q) (Qqk _) ?_,rfl,q _ (I.hok.fresh (Qqk _))⟩;exact⟨Qzg (qjn xs lo hi) M,_,0,(r.drop (HT.sIx xs.length 0 lo)).take (HT.sIx xs.length xs.length hi - HT.sIx xs.length 0 lo),Qqg _ rfl⟩
theorem qxm:CallR X (.builtin "len") (λxs H Q=>∃p ys,xs=[.ref p]/\(SqL X.K H p ys\/SqT X.K H p ys)/\Q (.int ys.length) H):=by
 intro pins s σ H xs M Q I r h;obtain⟨p,ys,rfl,z,q⟩:=h;obtain⟨u,rfl,J⟩:=vals1 r;cases J;have hn:=qy2;rcases z with z|z
 ·obtain⟨F,r',pl,L⟩:=I.list z;have j:=r'.length;exact Calls.call_len_list pl.isList (by simp only[Qqj]<;>omega) ⟨.int ys.length,H,I.tok _,⟨s.toks+1,by rw[Qqj,j]⟩,q⟩
 ·obtain⟨F,r',pl,L⟩:=I.tuple z;have j:=r'.length;exact len_tuple pl (by simp only[Qqj]<;>omega) ⟨.int ys.length,H,I.tok _,⟨s.toks+1,by rw[Qqj,j]⟩,q⟩
theorem CallR.or{f:Value}{r F:List V->Hp->VK->Prop}(h:CallR X f r)(h':CallR X f F):CallR X f (λxs H Q=>r xs H Q\/F xs H Q):=by
 intro pins s σ H xs j Q I z q;rcases q with q|q
 ·exact h pins s σ H xs j Q I z q
 ·exact h' pins s σ H xs j Q I z q
theorem qxl:CallR X (.type "list") (λxs H Q=>∃p ys,xs=[.ref p]/\(SqL X.K H p ys\/SqT X.K H p ys)/\∀l,H l=none->Q (.ref l) (upd H l (.lst ys))):=by
 intro pins s σ H xs Z Q I r h;obtain⟨p,ys,rfl,J,q⟩:=h;obtain⟨u,rfl,Y⟩:=vals1 r;cases Y;have M:∀(j:List Value),Vals ys j->ys.length<=sizeLine->∀(h':Heap) (z:Nat),(∀b o',s.heap.get? b=some o'->h'.get? b=some o')->
   h'.get? s.heap.objs.size=some { cls:=.type "list",dict:=none,data:=.seq j.toArray z,slots:=#[] }->EP X pins σ Q (.ref s.heap.objs.size) { s with heap:=h' }:=λj r' F h' z kp e=>
  ⟨.ref s.heap.objs.size,_,I.laid (t':=s.toks) kp (Qqk _) (show ObjOk X.prog X.w _ h' _ (.lst ys) from⟨F,j,z,r',e⟩),rfl,q _ (I.hok.fresh (Qqk _))⟩
 rcases J with J|J
 ·obtain⟨j,r',pl,F⟩:=I.list J;have L:=r'.length;obtain⟨o,O,U,n,hd⟩:=pl.isList;exact call_list_seq p (.inl rfl) O U hd (λh' z kp e=>M j r' F h' z kp e) (by simp only[Qqj]<;>omega)
 ·obtain⟨j,r',pl,F⟩:=I.tuple J;have L:=r'.length;obtain⟨o,O,U,n,hd⟩:=pl;exact call_list_seq p (.inr rfl) O U hd (λh' z kp e=>M j r' F h' z kp e) (by simp only[Qqj]<;>omega)
theorem qxv:CallR X (.type "tuple") (λxs H Q=>∃p ys,xs=[.ref p]/\((SqL X.K H p ys/\∀l,H l=none->Q (.ref l) (upd H l (.tup ys)))\/(SqT X.K H p ys/\Q (.ref p) H))):=by
 intro pins s σ H xs U Q I r h;obtain⟨p,ys,rfl,h⟩:=h;obtain⟨u,rfl,M⟩:=vals1 r;cases M;rcases h with⟨z,q⟩|⟨z,q⟩
 ·obtain⟨j,r',pl,F⟩:=I.list z;have J:=r'.length;refine call_tuple_list pl.isList (λh' kp=>?_) (by simp only[Qqj]<;>omega);have L:Inv X pins σ H { s with heap:=h' }:=I.kept (t':=s.toks) kp;have O:Inv X pins σ (upd H h'.objs.size (.tup ys)) { s with heap:=h'.push { cls:=.type "tuple",data:=.seq j.toArray } }:=
   L.laid (t':=s.toks) (λb o e=>Qqz _ e) (Qqk _) (show ObjOk X.prog X.w _ _ _ (.tup ys) from⟨F,j,r',IsTup.new _ _⟩)
  exact⟨.ref h'.objs.size,_,O,rfl,q _ (L.hok.fresh (Qqk _))⟩
 ·obtain⟨j,r',pl,F⟩:=I.tuple z;exact call_tuple_same pl ⟨.ref p,H,I,rfl,q⟩
def tyV(K:Qqq)(T:String)(x:V)(H:Hp):Prop:=match x with
 |.str _=>T = "str"
 |.int _=>T = "int"
 |.ref p=>(T = "list"/\∃xs,SqL K H p xs)\/(T = "tuple"/\∃o,K.lookup p=some o/\o.cls=.type "tuple"/\o.dict=none)\/
   (T = "dict"/\((∃kvs,H p=some (.dK kvs))\/∃kvs,H p=some (.dT kvs)))\/(T = "set"/\∃S n,H p=some (.set S n))
 |_=>False
theorem tyV_is{q:List (Addr×Obj)}{J:St}{H:Hp}{s:Qz}{T:String}{x:V}{v:Value}(I:Inv X q J H s)(r:RelV x v)(ty:tyV X.K T x H):
  s.TypeIs v T/\∀a,v=.ref a->∃ob,s.heap.get? a=some ob/\ob.dict=none:=by
 cases x with
 |str z=>
  obtain⟨t,rfl⟩:=r;cases (show T = "str" from ty);exact⟨typeIs_str s z t,λ_ e=>nomatch e⟩
 |int i=>
  obtain⟨t,rfl⟩:=r;cases (show T = "int" from ty);exact⟨typeIs_int s i t,λ_ e=>nomatch e⟩
 |ref p=>
  cases r;rcases ty with⟨rfl,xs,M⟩|⟨rfl,o,j,O,hd⟩|⟨rfl,j⟩|⟨rfl,S,n,j⟩
  ·obtain⟨L,_,pl,_⟩:=I.list M;refine⟨pl.isList.typeIs,λa e=>?_⟩;cases e;obtain⟨o,n,e,c,hd,_⟩:=pl;exact⟨o,e,hd⟩
  ·refine⟨⟨o,I.kIn p o j,O⟩,λa e=>?_⟩;cases e;exact⟨o,I.kIn _ o j,hd⟩
  ·have z:∃o,s.heap.get? p=some o/\o.ExactDict:=by
    rcases j with⟨kvs,j⟩|⟨kvs,j⟩
    ·obtain⟨_,_,_,_,o,_,_,e,ex,_⟩:=I.hok p _ j;exact⟨o,e,ex⟩
    ·obtain⟨_,_,_,_,o,_,_,e,ex,_⟩:=I.hok p _ j;exact⟨o,e,ex⟩
   obtain⟨o,e,ex⟩:=z;refine⟨⟨o,e,ex.1⟩,λa F=>?_⟩;cases F;exact⟨o,e,ex.2.1⟩
  ·obtain⟨o,_,_,_,e,ex,_⟩:=I.hok p _ j;refine⟨⟨o,e,ex.1⟩,λa F=>?_⟩;cases F;exact⟨o,e,ex.2.1⟩
 |_=>exact False.elim ty
noncomputable def tBM(K:Qqq)(T:String)(r:V->List V->Hp->VK->Prop)(to:TE)(t:TA):TE:=λσ H Q=>to σ H λx H1=>tyV K T x H1/\t σ H1 λxs H2=>r x xs H2 Q
variable {o e:Qx}{es:List Qx}{to:TE}{t:TA}{name:Str}{apos cpos:Pos}{T id:String}{r:V->List V->Hp->VK->Prop}
theorem qfg(pa:PlainAttrs T)(slot:Slot T name id)(J:typeOf (.builtin id)=pure (.type "method_descriptor"))(hm:MtR X id r)(ho:PE X o to)(ha:PA X (e::es) t)
  (z:attributeBase o name X.env (eval o X.env)=eval o X.env:=by rfl)
  (F:((backTo cpos (starEach (e::es) X.env)).all (λx=>!x.1)&&(backToKw cpos (keywordEach [] X.env)).all (λx=>x.1.isSome)
   && decide ((e::es).length+([]:List Zi).length+(if ([]:List Zi).isEmpty then 0 else 1)<30))=true:=by rfl)
  (q:(apos.endLine==cpos.line)=true:=by rfl) (hs:starEach (e::es) X.env=(false,eval e X.env)::starEach es X.env:=by rfl) (j:(backTo cpos (starEach es X.env)).any (·.1)=false:=by rfl) :
  PE X (.Call (.Attribute o name apos) (e::es) [] cpos) (tBM X.K T r to t):=by
 intro pins s σ H Q I h;refine wpAny_Call_method_late z F q rfl (thn (ho pins s σ H _ I h) λv Z ⟨x,H1,O,L,ty,q1⟩=>?_);obtain⟨h1,h2⟩:=tyV_is O L ty;refine⟨T,id,pa,slot,J,h1,h2,?_⟩;have M:=ha cpos pins Z σ H1 _ O q1;rw[hs]at M ⊢;refine Calls.callWith_builtin (by show(false||(backTo cpos (starEach es X.env)).any (·.1))=false; rw[j]<;>rfl) (Calls.evalArgs_plain ?_);exact thn M λU Y ⟨vs,H2,I2,r2,q2⟩=>hm pins Y σ H2 x vs v U Q I2 L r2 q2
end
end L2
namespace L2
open PySem PySem.Spec PyProof.Rows
def MtM(X:Cx)(id:String)(r:V->List V->Hp->VK->Prop):Prop:=
 ∀(pins:List (Addr×Obj)) (s:Qz) (σ:St) (H:Hp) (x:V) (xs:List V) (v:Value) (us:List Value) (Q:VK),Inv X pins σ H s->RelV x v->Vals xs us->r x xs H Q->
  wpAny (model X.prog X.w) X.A (call (.builtin id) (v::us)) (EP X pins σ Q) X.xe s
theorem Vals.one:∀{x:V}{us:List Value},Vals [x] us->∃u,us=[u]/\RelV x u
 |_,_,.cons r .nil=>⟨_,rfl,r⟩
theorem Vals.two:∀{x y:V}{us:List Value},Vals [x,y] us->∃u v,us=[u,v]/\RelV x u/\RelV y v
 |_,_,_,.cons r (.cons q .nil)=>⟨_,_,rfl,r,q⟩
theorem Vals.zero:∀{us:List Value},Vals [] us->us=[]
 |_,.nil=>rfl
theorem Vals.rep{xs:List V}{us:List Value}(h:Vals xs us):∀k:Nat,Vals (List.replicate k xs).flatten (List.replicate k us).flatten
 |0=>.nil
 |k+1=>by
  rw[Qzl,Qzl,Qz7,Qz7];exact Vals.append h (Vals.rep h k)
theorem foldl_rep(its:List Value):∀(k:Nat) (j:List Value),
  List.foldl (λq x2=>q++x2) j.toArray (List.replicate k its.toArray)=(j++(List.replicate k its).flatten).toArray
 |0,j=>by simp
 |k+1,j=>by
  have e:j.toArray++its.toArray=(j++its).toArray:=by simp
  have z:(j++its)++(List.replicate k its).flatten=j++(List.replicate (k+1) its).flatten:=by
   rw[Qzl,Qz7,Qjy]
  rw[<- z,<- foldl_rep its k (j++its),<- e,Qzl,Qx5]
section
variable {X:Cx}{pins:List (Addr×Obj)}{σ:St}{H:Hp}{s:Qz}{l b:Addr}{xs ys zs:List V}
theorem Inv.lset{j its':List Value}{n:Nat}{f:Array Value->Array Value}{t':Nat}(I:Inv X pins σ H s)(M:H l=some (.lst xs))
  (e:s.heap.get? l=some { cls:=.type "list",data:=.seq j.toArray n }) (J:f j.toArray=its'.toArray) (z:Vals ys its') (hz:ys.length<=sizeLine) :
  Inv X pins σ (upd H l (.lst ys)) { s with heap:=s.heap.update l (Obj.mapSeq f),toks:=t' }:=by
 have q:=PySem.IsL.update e f;rw[J]at q;refine I.write (x:=l) (e:=l) (by rw[M]; exact trivial) (.inl rfl) (λO u L F=>(Qxp s.heap (Obj.mapSeq f) (Ne.symm L)).trans F) ⟨_,q⟩ ?_;exact⟨hz,its',_,z,q⟩
theorem Inv.lnew{j:List Value}{t':Nat}(I:Inv X pins σ H s)(z:Vals ys j)(hz:ys.length<=sizeLine):
  Inv X pins σ (upd H s.heap.objs.size (.lst ys)) { s with heap:=s.heap.push { cls:=.type "list",data:=.seq j.toArray },toks:=t' }:=
 I.laid (λ_ _ q=>Qqz _ q) (Qqk _) ⟨hz,j,0,z,Qqg _ rfl⟩
theorem Inv.fresh(I:Inv X pins σ H s):H s.heap.objs.size=none:=I.hok.fresh (Qqk _)
theorem Inv.lstM(I:Inv X pins σ H s)(q:H l=some (.lst xs)):xs.length<=sizeLine/\∃(j:List Value) (n:Nat),Vals xs j/\xs.length=j.length/\s.heap.get? l=some { cls:=.type "list",data:=.seq j.toArray n }:=by
 obtain⟨z,j,n,r,e⟩:=I.hok l _ q;exact⟨z,j,n,r,r.length,e⟩
theorem qys{n:Nat}(h:n<=sizeLine):Builtin.List.listTooLong n=false:=by
 unfold Builtin.List.listTooLong;exact Zr (by omega)
end
section
variable {X:Cx}
def qij:V->List V->Hp->VK->Prop:=λx vs H Q=>∃l xs y,x=.ref l/\vs=[y]/\H l=some (.lst xs)/\xs.length<sizeLine/\Q .non (upd H l (.lst (xs++[y])))
theorem qcu:MtM X "list.append" qij:=by
 intro pins s σ H x vs v U Q I L M h;obtain⟨l,xs,y,rfl,rfl,J,Y,q⟩:=h;cases L;obtain⟨u,rfl,O⟩:=M.one;obtain⟨z,j,n,r,Z,e⟩:=I.lstM J;refine Q0 F.slot_list_append ⟨_,e,rfl⟩ F.entry_list_append (F.args_list_append_2 _ _) (PySem.list_append l j.toArray n u (by rw[Qqj]; omega)) ⟨e,?_⟩;refine⟨.non,_,I.lset (its':=j++[u]) J e (by simp) (r.append (.cons O .nil)) ?_,rfl,q⟩;rw[Qqu,Qxj];omega
theorem len_rep{α:Type}(xs:List α)(k:Nat):(List.replicate k xs).flatten.length=k*xs.length:=by
 induction k with
 |zero=>simp
 |succ k j=>rw[Qzl,Qz7,Qqu,j,Nat.succ_mul,Nat.add_comm]
end
section
variable {prog:Program}{w:Qk}{A:Qw}{E:Value->Qz->Prop}{s:Qz}
end
section
variable {X:Cx}
end
end L2
namespace Att
open PySem PySem.W PySem.Calls PyProof.Rows
theorem qjh{P:Qp}{h:Heap}:∀(ns:List Int) (vs:List Value),WellAll P h vs (ns.map WData.int)->Zf vs ns:=by
 intro ns
 induction ns with
 |nil=>
  intro vs w;rw[Qxx]at w;cases w;exact .nil
 |cons n ns j=>
  intro vs w;rw[Qqd]at w
  cases w with
  |cons a b=>
   cases a;exact .cons _ _ (j _ b)
theorem qck{l:OpenLaw}{n:Nat}(hn:l.most=some n){P:Qp}{h:Heap}{args:List WData}{j:List Value}
  (z:l.row.toRowW.claim.pre args=true) (O:WellAll P h j args) :
  ∃a vs ns,j=[Value.ref a]/\args=[WData.list (ns.map WData.int)]/\h.get? a=some { cls:=.type "list",data:=.seq vs.toArray }/\Zf vs ns/\ns.length<=n:=by
 have U:WShape.hasAll [] args [.list .int]=true:=(pre_splitW z).1;have Y:l.pre.holds [] { args:=args }=true:=(pre_splitW z).2;obtain⟨d,r,rfl,h1,h2⟩:=hasAllW_cons U;obtain rfl:=hasAllW_nil h2;obtain⟨xs,rfl,h3⟩:=hasW_list h1;obtain⟨ns,rfl⟩:=items_int h3;have F:ns.length<=n:=by
  unfold OpenLaw.pre at Y;have M:(WTm.not (.lt (.lit (.int (n:Int))) (.len (.arg 0)))).holds [] { args:=[.list (ns.map .int)] }=true:=by
   have M:=(holds_andW Y).1;rw[hn]at M;exact M
  have L:=condW_of M (w_not (w_lt w_lit (w_len_list (w_arg rfl))));rw[Qqw]at L;refine Nat.le_of_not_lt λq=>?_;have Z:(n:Int)<((ns.length:Nat):Int):=by omega
  first
   |(rw[Zp Z]at L; exact absurd L (by decide))
   |(simp at L; omega)
 cases O with
 |cons w1 w2=>
  cases w2
  cases w1 with
  |list ho J=>exact⟨_,_,ns,rfl,rfl,ho,qjh ns _ J,F⟩
theorem qcc(l:OpenLaw)(args:List WData):l.row.toRowW.claim.post args (.bool true) args=true:=
 postW_of (r:=l.row.toRowW) (X:=(true==true))
  (show WShape.has [] (.bool true) .bool=true by first|rfl|decide|simp[WShape.has,WShape.arms,WShape.armsAll])
  (show(WTm.eq .res (.lit (.bool true))).value [] { args:=args,res:=some (.bool true),after:=args }=some (.bool (true==true)) from w_eq_bool (w_res rfl) w_lit) rfl
theorem attach_call{l:OpenLaw}{n:Nat}{q:Program}{loose:List Str}{XP:(Str->Option Value)->Heap->Prop}{YP:Qk->Heap->Prop}{d:DefRec}
  (hn:l.most=some n) (a1:d.params.defaults=[])
  (call:∀(w:Qk) (s₀ j:Qz) (mg U:Str->Option Value) (fa:Addr) (o:Obj) (O M doc:Value) (a:Addr) (vs:List Value) (ns:List Int),
   Ground q loose [] XP w s₀ mg U j.heap->YP w j.heap->
   j.heap.get? fa=some o->o.data=.func (docDef d.name d.params d.body d.scope O M doc)->j.heap.CodeRec M d.name->mg d.name=some (.ref fa)->
   j.heap.get? a=some { cls:=.type "list",data:=.seq vs.toArray }->Zf vs ns->ns.length<=n->j.gens=#[]->
   Zy (model l.prog w) Zl (.call (.ref fa) ⟨[.ref a],[]⟩) (λr s'=>r=.ok (.ret (.bool true))/\OldK j.heap s'.heap/\s'.os=j.os/\Ze s'.gens) j) :
  WalkO q loose XP YP l.row.toRowW d [] (λf vs=>PySem.call f vs):=by
 intro w s₀ j mg U G Y fa o O M doc dV kV ho hd a2 hD a0 hg a5 a3 as F a4 a6 Z a7;obtain rfl:dV=.none:=Dflts.none hD a1;obtain rfl:kV=.none:=Dflts.noKw hD;obtain⟨a,vs,ns,rfl,rfl,J,z,L⟩:=qck hn F Z;refine enter_call (Q8 (call w s₀ j mg U fa o O M doc a vs ns G Y ho (fd_plain hd) a2 a0 J z L hg) λr s' hq=>?_);obtain⟨rfl,h2,h3,h4⟩:=hq;exact⟨.inl ⟨.bool true,.bool true,[],rfl,λ_=>rfl,.bool true,qcc l _,λ_=>⟨List.Pairwise.nil,λ_ hm=>(nomatch hm)⟩⟩,h2,h3,h4⟩
section
variable {prog:Program}{w:Qk}{A:Qw}{E:Value->Qz->Prop}{s:Qz}{K:Frag}
end
end Att
namespace L2
open PySem PySem.Spec PyProof.Rows
theorem qq4:∀{vs:List Value}{ns:List Int},Zf vs ns->Vals (ns.map V.int) vs
 |_,_,.nil=>.nil
 |_,_,.cons n t h=>.cons ⟨t,rfl⟩ (qq4 h)
def Only(H:Hp):Prop:=∀b,H b=none\/∃o xs,H b=some (.frz o (.lst xs))
theorem qfn{P:Program}{w:Qk}{K:Qqq}{mg mb:Str->Option Value}{CX:CXT}{k:Nat}{fa a:Addr}{fd:Qh}{x:Str}{sp:Sp}{s₁:Qz}{vs:List Value}{ns:List Int}
  (KX:K.In s₁.heap) (a0:s₁.heap.Ns Qv mg) (J:s₁.heap.Ns builtinsNs mb) (a5:∀x:Str,x ≠ "__name__"->mb x=Qa x) (a1:s₁.heap.NoLimit) (hg:s₁.gens=#[])
  (ha:s₁.heap.get? a=some { cls:=.type "list",data:=.seq vs.toArray }) (hi:Zf vs ns) (hl:ns.length<=sizeLine) (hr:Room k Zl)
  (F:∀base:Heap,K.In base->base.Ns Qv mg->FnOk P w K mg base CX k fa fd [x] sp) (O:∀(s:Qz) (u:Value),BindsTo s fd ⟨[u],[]⟩ [(x,u)])
  (a4:∀H:Hp,Only H->SqL K H a (ns.map V.int)->sp [.ref a] H (λv _=>v=.bl true) λ_ _ _=>False)
  (a6:∀H e s',CX [] H s₁ (λ_ _ _=>False) e s'->False) :
  Zy (model P w) Zl (.call (.ref fa) ⟨[.ref a],[]⟩) (λr s'=>r=.ok (.ret (.bool true))/\OldK s₁.heap s'.heap/\s'.os=s₁.os/\Ze s'.gens) s₁:=by
 have rv:=qq4 hi;have Y:=hi.length;have M:∀H:Hp,Only H->SqL K H a (ns.map V.int)->HOk P w H s₁.heap->(∀b,H b≠none->b=a)->(H a≠none->K.lookup a=none)->
   Zy (model P w) Zl (.call (.ref fa) ⟨[.ref a],[]⟩) (λr s'=>r=.ok (.ret (.bool true))/\OldK s₁.heap s'.heap/\s'.os=s₁.os/\Ze s'.gens) s₁:=by
  intro H hO hS hok hA hK;have j:∀{b:Addr}{o:Obj},s₁.heap.get? b=some o->H b=none->(hidT s₁.heap H).get? b=some o:=λe n=>qfs e n;have a3:∀{b:Addr}{o:Obj}{es:Array Qt}{ep:Nat},s₁.heap.get? b=some o->o.data=.dict es ep->H b=none:=λ{b o es ep} e d=>by
   cases q:H b with
   |none=>rfl
   |some u=>
    have e':b=a:=hA b (by rw[q]; simp);subst e';rw[ha]at e; cases e;have d':Data.seq vs.toArray _=Data.dict es ep:=d;cases d'
  have L:∀{b:Addr}{m:Str->Option Value},s₁.heap.Ns b m->(hidT s₁.heap H).Ns b m:=λ{b m} ⟨o,es,ep,e,d,r⟩=>⟨o,es,ep,j e (a3 e d),d,r⟩
  have a2:K.In (hidT s₁.heap H):=λb o e=>j (KX b o e) (by
   cases q:H b with
   |none=>rfl
   |some u=>
    have e':b=a:=hA b (by rw[q]; simp);subst e'
    rw[hK (by rw[q]; simp)]at e; cases e)
  have hM:Mod K mg (hidT s₁.heap H):=⟨a2,L a0,⟨mb,L J,a5⟩,let ⟨mc,h1,h2⟩:=a1; ⟨mc,L h1,h2⟩⟩
  have e0:Env0 P w K mg (hidT s₁.heap H) Zl [] s₁ H:=⟨rfl,hM,λb o e=>qi6 e,Nat.le_of_eq (qda _ _),trivial,λb J=>absurd (show b∈([]:List Addr) from J) (by simp),hok,.of_eq hg⟩
  refine Q8 ((F _ a2 (L a0)).run Zl [] s₁ H ⟨[.ref a],[]⟩ [.ref a] [.ref a] _ _ hr e0 (O s₁ (.ref a)) (.cons rfl .nil) (a4 H hO hS)) λr s' h=>?_
  cases r with
  |error e=>exact(a6 H e s' h).elim
  |ok fl=>
   cases fl with
   |next=>exact False.elim h
   |brk=>exact False.elim h
   |cont=>exact False.elim h
   |ret u=>
    obtain⟨v,H',os,bare,un,Z,r',q⟩:=h;have q':v=.bl true:=q;subst q';obtain rfl:u=Value.bool true:=r';refine⟨rfl,OldK.of_keep λb o e=>?_,os,bare⟩
    cases q:H b with
    |none=>exact un.keep b o e q (by intro z; exact absurd (show b∈([]:List Addr) from z) (by simp)) (by simp)
    |some u=>
     rcases hO b with z|⟨ob,xs,z⟩
     ·rw[q]at z; cases z
     ·have z2:=un.frzs b ob _ z;obtain⟨e1,_⟩:=hok b _ z;obtain⟨e2,_⟩:=Z b _ z2;rw[e]at e1; cases e1;exact e2
 cases hk:K.lookup a with
 |some o=>
  have e:=KX a o hk;rw[ha]at e;cases e;refine M (λ_=>none) (λ_=>.inl rfl) (.inr ⟨_,vs.toArray,_,hk,rfl,rfl,rfl,by rw[Qqj,Y]; exact hl,by simpa using rv⟩) (λb u z=>by have U:(none:Option HO)=some u:=z; cases U) (λb z=>absurd rfl z) λz=>absurd rfl z
 |none=>
  refine M (λb=>if b=a then some (.frz { cls:=.type "list",data:=.seq vs.toArray } (.lst (ns.map V.int))) else none) (λb=>?_) (.inl (.inr ⟨{ cls:=.type "list",data:=.seq vs.toArray },Zt rfl⟩)) (λb u z=>?_) (λb z=>?_) λ_=>hk
  ·by_cases J:b=a
   ·exact .inr ⟨_,_,Zt J⟩
   ·exact .inl (Zs J)
  ·by_cases J:b=a
   ·have U:=(Zt J).symm.trans z;cases U;subst J;exact⟨ha,by rw[Qqw]; exact hl,vs,_,rv,ha⟩
   ·have U:=(Zs J).symm.trans z;cases U
  ·by_cases J:b=a
   ·exact J
   ·exact absurd (Zs J) z
end L2
namespace L2
open PySem PySem.Spec PyProof.Rows
theorem walk_of{l:PySem.W.OpenLaw}{n k:Nat}{q:Program}{loose:List Str}{XP:(Str->Option Value)->Heap->Prop}{YP:Qk->Heap->Prop}{d:DefRec}{K:Qp->Qqq}{CX:Qk->CXT}{sp:Qk->Sp}{x:Str}
  (hn:l.most=some n) (O:n<=sizeLine) (Z:d.params.defaults=[]) (hr:Room k Zl)
  (hY:∀(w:Qk) (h:Heap),YP w h->(K w.params).In h)
  (F:∀(w:Qk) (mg:Str->Option Value) (fa:Addr) (h:Heap),(K w.params).In h->h.Ns Qv mg->mg d.name=some (.ref fa)->
   ∃fd:Qh,(∀(s:Qz) (u:Value),BindsTo s fd ⟨[u],[]⟩ [(x,u)])/\
    ∀base:Heap,(K w.params).In base->base.Ns Qv mg->FnOk l.prog w (K w.params) mg base (CX w) k fa fd [x] (sp w))
  (M:∀(w:Qk) (H:Hp) (a:Addr) (ns:List Int),ns.length<=n->Only H->SqL (K w.params) H a (ns.map V.int)->sp w [.ref a] H (λv _=>v=.bl true) λ_ _ _=>False)
  (a0:∀(w:Qk) (H:Hp) (s:Qz) (e:Value) (s':Qz),CX w [] H s (λ_ _ _=>False) e s'->False) :
  PySem.W.WalkO q loose XP YP l.row.toRowW d [] (λf vs=>PySem.call f vs):=by
 refine Att.attach_call hn Z λw s₀ J mg mb fa o pm cd doc a vs ns G Y ho hd a1 U L z j hg=>?_;have KX:=hY w _ Y;obtain⟨fd,hb,hF⟩:=F w mg fa _ KX G.T.g U;exact qfn KX G.T.g G.T.b G.T.builtins G.T.nolimit hg L z (Qzg j O) hr hF hb (λH hO hS=>M w H a ns j hO hS) λH e s'=>a0 w H J e s'
end L2
namespace L2
open PySem PySem.Spec PyProof.Rows
noncomputable abbrev CX0:CXT:=λ_ _ _ _ _ _=>False
noncomputable abbrev E0:XK:=λ_ _ _=>False
theorem qfh{X:Cx}:qjs CX0 X E0:=λ_ _ _ _ _ _ _ h=>h.elim
structure Fun (K:Qqq) (x qual:Str) (st:Stmt) (f:Addr) (fd:Qh):Prop where
 ex:∃(oc:Value) (od:Option Addr) (kV doc pm:Value) (an:Option Addr) (cdv ct:Value) (osl:Array (Option Value)),
  fd=PySem.W.fnOf x qual (qzt st) (qzm st) (qzx st) .none kV doc pm an cdv ct/\K.lookup f=some ⟨oc,od,.func fd,osl⟩/\PySem.W.codeIn K cdv qual=true
 kp:Qzy K (.ref f)=true
section
variable {P:Program}{w:Qk}{K:Qqq}{mg:Str->Option Value}{base:Heap}
theorem Fun.ok{x j:Str}{st:Stmt}{f:Addr}{O:Qh}{N ps:List Str}{k:Nat}{sp:Sp}(F:Fun K x j st f O)(S:FnScope N ps (qzx st))(len:∀vs H Q E,sp vs H Q E->vs.length=ps.length)
  (J:∀(z:Value) (A:Qw) (outer:List Env) (s:Qz) (H:Hp) (vs:List V) (Q:VK) (E:XK),Room k (A.deeper (envOfC j (qzx st) s.heap.objs.size f z))->sp vs H Q E->
   ∃t,PSs (cxOf CX0 P w K mg base N j (qzx st) f z A outer s H E).nox (qzm st) t/\t { nx:=λ_ H'=>Q .non H',rt:=Q } (start N vs) H):FnOk P w K mg base CX0 (k+1) f O ps sp:=by
 obtain⟨oc,od,kV,doc,Z,an,z,ct,U,rfl,lk,M⟩:=F.ex;refine fn_of lk M S len λA outer s H vs Q E Y L=>?_;obtain⟨t,h,q⟩:=J z A outer s H vs Q E Y L;exact⟨t,h.nox,q⟩
theorem Fun.binds{x j:Str}{st:Stmt}{f:Addr}{J:Qh}{ps:List Str}(F:Fun K x j st f J)
  (h:∀(kV doc z:Value) (an:Option Addr) (q ct:Value) (us:List Value),us.length=ps.length->bindArgs (PySem.W.fnOf x j (qzt st) (qzm st) (qzx st) .none kV doc z an q ct) ⟨us,[]⟩=pure (ps.zip us)):Binds K J ps []:=by
 obtain⟨U,O,kV,doc,z,an,q,ct,L,rfl,lk,M⟩:=F.ex;exact .all (h kV doc z an q ct)
theorem qwq{x j:Str}{st:Stmt}{f:Addr}{L:Value}{J an:Option Addr}{z:Array (Option Value)}{kV doc F q ct:Value}(l:K.lookup f=some ⟨L,J,.func (PySem.W.fnOf x j (qzt st) (qzm st) (qzx st) .none kV doc F an q ct),z⟩)
  (c:PySem.W.codeIn K q j=true) (k:Qzy K (.ref f)=true):Fun K x j st f (PySem.W.fnOf x j (qzt st) (qzm st) (qzx st) .none kV doc F an q ct):=⟨⟨L,J,kV,doc,F,an,q,ct,z,rfl,l,c⟩,k⟩
end
theorem qcx{n:Nat}(h:n<=1000):n<sizeLine:=Nat.lt_of_le_of_lt h (by decide)
section
variable {X:Cx}
theorem pv(i:Nat){x:Str}{pos:Pos}(z:X.N[i]?=some x)(q:Vis X.env.scope x)(hd:(x==("__debug__" : Str))=false:=by decide)
  (j:(x==("__classdict__" : Str))=false:=by decide):PE X (.Name x pos) (tVar i):=qgs z q hd j
end
def Same(H H':Hp):Prop:=∀b o,H b=some o->H' b=some o
theorem Same.refl(H:Hp):Same H H:=λ_ _ h=>h
theorem Same.trans{H j H2:Hp}(a:Same H j)(b:Same j H2):Same H H2:=λc o h=>b c o (a c o h)
theorem Same.free{H H':Hp}(e:Same H H'){l:Addr}(h:H' l=Option.none):H l=Option.none:=by
 cases q:H l with
 |none=>rfl
 |some o=>
  rw[e l o q]at h;cases h
theorem Same.seq{K:Qqq}{H H':Hp}{a:Addr}{xs:List V}(e:Same H H')(h:SqL K H a xs):SqL K H' a xs:=by
 rcases h with (h|⟨o,h⟩)|h
 ·exact .inl (.inl (e _ _ h))
 ·exact .inl (.inr ⟨o,e _ _ h⟩)
 ·exact .inr h
end L2
end
section
namespace L2
open PySem PySem.Spec PyProof.Rows
section
variable {κ:Type} [DecidableEq κ]
noncomputable def valV(kvs:List (κ×V))(k:κ):Option V:=(kvs.find? λkv=>decide (kv.1=k)).map (·.2)
noncomputable def putK(kvs:List (κ×V))(k:κ)(v:V):List (κ×V):=
 if (kvs.any λkv=>decide (kv.1=k))=true then kvs.map (λkv=>if kv.1=k then(kv.1,v) else kv) else kvs++[(k,v)]
noncomputable def dropK(kvs:List (κ×V))(k:κ):List (κ×V):=kvs.filter λkv=>decide (kv.1≠k)
theorem qxp{p:κ×V}{r:List (κ×V)}{k:κ}(e:p.1=k):valV (p::r) k=some p.2:=by simp[valV,Qzx,e]
theorem qxr{p:κ×V}{r:List (κ×V)}{k:κ}(e:¬ p.1=k):valV (p::r) k=valV r k:=by simp[valV,Qzx,e]
theorem qyj(k:κ):∀kvs:List (κ×V),(kvs.any λj=>decide (j.1=k))=(valV kvs k).isSome
 |[]=>rfl
 |p::r=>by
  rw[Qz9]
  by_cases e:p.1=k
  ·simp only[qxp e,Zp e,Bool.true_or,Option.isSome_some]
  ·rw[qxr e,Zr e,Bool.false_or]; exact qyj k r
theorem qq1(kvs:List (κ×V))(k:κ)(v:V):(putK kvs k v).length<=kvs.length+1:=by
 unfold putK
 split
 ·rw[Qqw]; omega
 ·rw[Qqu,Qqe,Qxg]; omega
theorem RelO.isSome_eq{o:Option V}{u:Option Value}(r:RelO o u):o.isSome=u.isSome:=by
 cases o with
 |none=>cases u with
  |none=>rfl
  |some _=>exact(show False from r).elim
 |some _=>cases u with
  |none=>exact(show False from r).elim
  |some _=>rfl
theorem RelO.getD{o:Option V}{u:Option Value}{d:V}{d':Value}(r:RelO o u)(rd:RelV d d'):RelV (o.getD d) (u.getD d'):=by
 cases o with
 |none=>cases u with
  |none=>exact rd
  |some _=>exact(show False from r).elim
 |some _=>cases u with
  |none=>exact(show False from r).elim
  |some _=>exact r
theorem KV.val{kvs:List (κ×V)}{vs:List (κ×Value)}(r:KV kvs vs)(k:κ):RelO (valV kvs k) (valueAt vs k):=by
 unfold KV at r
 induction r with
 |nil=>exact True.intro
 |@cons p q ps j h t J=>
  obtain⟨h1,h2⟩:=h
  by_cases e:p.1=k
  ·have F:q.1=k:=h1.symm.trans e;have b:valueAt (q::j) k=some q.2:=by simp[valueAt,Qzx,F]
   rw[qxp e,b]; exact h2
  ·have F:¬ q.1=k:=λz=>e (h1.trans z);have b:valueAt (q::j) k=valueAt j k:=by simp[valueAt,Qzx,F]
   rw[qxr e,b]; exact J
theorem KV.any{kvs:List (κ×V)}{vs:List (κ×Value)}(r:KV kvs vs)(k:κ):(kvs.any λj=>decide (j.1=k))=vs.any λj=>decide (j.1=k):=by
 unfold KV at r
 induction r with
 |nil=>rfl
 |cons h t q=>rw[Qz9,Qz9,q,h.1]
theorem KV.repl{kvs:List (κ×V)}{vs:List (κ×Value)}(r:KV kvs vs)(k:κ){y:V}{u:Value}(F:RelV y u):
  KV (kvs.map λj=>if j.1=k then(j.1,y) else j) (vs.map λj=>if j.1=k then(j.1,u) else j):=by
 unfold KV at r ⊢
 induction r with
 |nil=>exact .nil
 |@cons p q ps L h t J=>
  rw[Qqd,Qqd];refine .cons ?_ J;obtain⟨h1,h2⟩:=h
  by_cases e:p.1=k
  ·rw[Zt e,Zt (h1.symm.trans e)]; exact⟨h1,F⟩
  ·rw[Zs e,Zs (λz=>e (h1.trans z))]; exact⟨h1,h2⟩
theorem KV.put{kvs:List (κ×V)}{vs:List (κ×Value)}(r:KV kvs vs)(k:κ){y:V}{u:Value}(j:RelV y u):KV (putK kvs k y) (stored vs k u):=by
 unfold putK stored;rw[r.any k]
 by_cases e:(vs.any λq=>decide (q.1=k))=true
 ·rw[Zt e,Zt e]; exact r.repl k j
 ·rw[Zs e,Zs e]; exact Paired.snoc r ⟨rfl,j⟩
theorem KV.drop{kvs:List (κ×V)}{vs:List (κ×Value)}(r:KV kvs vs)(k:κ):KV (dropK kvs k) (without vs k):=by
 unfold KV at r ⊢;unfold dropK without
 induction r with
 |nil=>exact .nil
 |@cons p q ps J h t j=>
  obtain⟨h1,h2⟩:=h;rw[Qz3,Qz3]
  by_cases e:p.1=k
  ·have a:¬ decide (p.1≠k)=true:=by simp[e]
   have b:¬ decide (q.1≠k)=true:=by simp[h1.symm.trans e]
   rw[Zs a,Zs b]; exact j
  ·have F:¬ q.1=k:=λz=>e (h1.trans z);have a:decide (p.1≠k)=true:=by simp[e]
   have b:decide (q.1≠k)=true:=by simp[F]
   rw[Zt a,Zt b]; exact .cons ⟨h1,h2⟩ j
theorem KV.keys{kvs:List (κ×V)}{vs:List (κ×Value)}(r:KV kvs vs):kvs.map (·.1)=vs.map (·.1):=by
 unfold KV at r
 induction r with
 |nil=>rfl
 |cons h t j=>rw[Qqd,Qqd,j,h.1]
theorem KV.length{kvs:List (κ×V)}{vs:List (κ×Value)}(r:KV kvs vs):kvs.length=vs.length:=Paired.length r
end
theorem qk6{P:Program}{w:Qk}{k:Key}{u:Value}(r:RelV (kV k) u):(mixKind P w).is k u=true:=by
 cases k with
 |inl i=>obtain⟨t,e⟩:=(show ∃t,u=Value.int i t from r); subst e; exact qwt P w i t
 |inr x=>obtain⟨t,e⟩:=(show ∃t,u=Value.str x t from r); subst e; exact qq0 P w x t
theorem qv6{P:Program}{w:Qk}:∀{ks:List Key}{us:List Value},Vals (ks.map kV) us->ItemsAre (mixKind P w) ks us
 |[],_,r=>by rw[Qxx]at r; cases r; exact .nil
 |k::ks,_,r=>by
  rw[Qqd]at r
  cases r with
  |cons h t=>exact .cons (qk6 h) (qv6 t)
abbrev KT(H:Hp):List (List Key×V)->List (List Key×Addr×Value)->Prop:=Paired λp q=>p.1=q.1/\H q.2.1=some (.tup (p.1.map kV))/\RelV p.2 q.2.2
theorem KT.val{H:Hp}{kvs:List (List Key×V)}{xs:List (List Key×Addr×Value)}(r:KT H kvs xs)(k:List Key):RelO (valV kvs k) ((atKey xs k).map (·.2)):=by
 induction r with
 |nil=>exact True.intro
 |@cons p q ps j h t J=>
  obtain⟨h1,_,h2⟩:=h
  by_cases e:p.1=k
  ·have F:q.1=k:=h1.symm.trans e;have b:atKey (q::j) k=some q.2:=by simp[atKey,Qzx,F]
   rw[qxp e,b]; exact h2
  ·have F:¬ q.1=k:=λz=>e (h1.trans z);have b:atKey (q::j) k=atKey j k:=by simp[atKey,Qzx,F]
   rw[qxr e,b]; exact J
theorem KT.repl{H:Hp}{kvs:List (List Key×V)}{xs:List (List Key×Addr×Value)}(r:KT H kvs xs)(k:List Key){y:V}{u:Value}(F:RelV y u):
  KT H (kvs.map λj=>if j.1=k then(j.1,y) else j) (xs.map (putAt k u)):=by
 induction r with
 |nil=>exact .nil
 |@cons p q ps M h t J=>
  rw[Qqd,Qqd];refine .cons ?_ J;obtain⟨h1,h2,L⟩:=h;unfold putAt
  by_cases e:p.1=k
  ·rw[Zt e,Zt (h1.symm.trans e)]; exact⟨h1,h2,F⟩
  ·rw[Zs e,Zs (λz=>e (h1.trans z))]; exact⟨h1,h2,L⟩
theorem KT.put{H:Hp}{kvs:List (List Key×V)}{xs:List (List Key×Addr×Value)}(r:KT H kvs xs)(k:List Key){b:Addr}{y:V}{u:Value}(F:H b=some (.tup (k.map kV)))(j:RelV y u):
  KT H (putK kvs k y) (storedH xs k b u):=by
 have e:(kvs.any λz=>decide (z.1=k))=(atKey xs k).isSome:=by
  rw[qyj,(r.val k).isSome_eq,Qja]
 unfold putK storedH;rw[e]
 by_cases q:(atKey xs k).isSome=true
 ·rw[Zt q,Zt q]; exact r.repl k j
 ·rw[Zs q,Zs q]; exact Paired.snoc r ⟨rfl,F,j⟩
theorem KT.keeps{H H':Hp}{kvs:List (List Key×V)}{xs:List (List Key×Addr×Value)}(r:KT H kvs xs)(j:∀b ys,H b=some (.tup ys)->H' b=some (.tup ys)):KT H' kvs xs:=
 Paired.mapP r λ_ _ z=>⟨z.1,j _ _ z.2.1,z.2.2⟩
section
variable {P:Program}{w:Qk}{H:Hp}{h:Heap}{a:Addr}
theorem rd_of{u:HO}(ok:HOk P w H h)(e:Rd H a u):ObjOk P w H h a u:=e.ok ok
theorem qbv{kvs:List (Key×V)}(ok:HOk P w H h)(e:Rd H a (.dK kvs)):kvs.length<=sizeLine/\(a==Qo)=false/\∃vs,KV kvs vs/\h.DictOf (mixKind P w) a vs:=
 show ObjOk P w H h a (.dK kvs) from rd_of ok e
theorem dk_of{kvs:List (Key×V)}(ok:HOk P w H h)(e:H a=some (.dK kvs)):kvs.length<=sizeLine/\(a==Qo)=false/\∃vs,KV kvs vs/\h.DictOf (mixKind P w) a vs:=qbv ok (.inl e)
theorem qq9{ks:List Key}(ok:HOk P w H h)(e:H a=some (.tup (ks.map kV))):(tupleKind (mixKind P w)).is h ks a:=by
 obtain⟨_,j,r,o,h1,h2,n,q⟩:=(show ObjOk P w H h a (.tup (ks.map kV)) from ok a _ e)
 exact⟨o,j.toArray,n,h1,h2,q,by simpa using qv6 r⟩
theorem qdl{kvs:List (List Key×V)}(ok:HOk P w H h)(e:Rd H a (.dT kvs)):kvs.length<=sizeLine/\(a==Qo)=false/\
  ∃xs,KT H kvs xs/\h.DictOfH (tupleKind (mixKind P w)) a xs:=by
 obtain⟨z,y,xs,r,o,es,U,h1,h2,O,M,L⟩:=(show ObjOk P w H h a (.dT kvs) from rd_of ok e)
 refine⟨z,y,xs,r,o,es,U,h1,h2,O,M,λx j=>?_,L⟩;have all:∀{l:List (List Key×V)}{m:List (List Key×Addr×Value)},KT H l m->∀x∈m,(tupleKind (mixKind P w)).is h x.1 x.2.1:=by
  intro l m q
  induction q with
  |nil=>intro x j; exact nomatch j
  |@cons p q ps Y F t J=>
   intro x j;rcases Qqv.mp j with e|j
   ·subst e;exact qq9 ok (by rw[<- F.1]; exact F.2.1)
   ·exact J x j
 exact all r x j
theorem dt_of{kvs:List (List Key×V)}(ok:HOk P w H h)(e:H a=some (.dT kvs)):kvs.length<=sizeLine/\(a==Qo)=false/\
  ∃xs,KT H kvs xs/\h.DictOfH (tupleKind (mixKind P w)) a xs:=qdl ok (.inl e)
end
def DGet(H:Hp)(a:Addr)(y:V)(r:Option V):Prop:=
 (∃kvs k,Rd H a (.dK kvs)/\y=kV k/\r=valV kvs k)\/∃kvs k b,Rd H a (.dT kvs)/\y=.ref b/\H b=some (.tup (k.map kV))/\r=valV kvs k
def DPut(H:Hp)(a:Addr)(y v:V)(H':Hp):Prop:=
 (∃kvs k,H a=some (.dK kvs)/\y=kV k/\kvs.length<sizeLine/\H'=upd H a (.dK (putK kvs k v)))\/
 ∃kvs k b,H a=some (.dT kvs)/\y=.ref b/\H b=some (.tup (k.map kV))/\kvs.length<sizeLine/\H'=upd H a (.dT (putK kvs k v))
theorem DGet.k{H:Hp}{a:Addr}{kvs:List (Key×V)}{k:Key}(e:H a=some (.dK kvs)):DGet H a (kV k) (valV kvs k):=.inl ⟨kvs,k,.inl e,rfl,rfl⟩
theorem DGet.t{H:Hp}{a b:Addr}{kvs:List (List Key×V)}{k:List Key}(e:H a=some (.dT kvs))(j:H b=some (.tup (k.map kV))):DGet H a (.ref b) (valV kvs k):=.inr ⟨kvs,k,b,.inl e,rfl,j,rfl⟩
theorem DPut.k{H:Hp}{a:Addr}{kvs:List (Key×V)}{k:Key}{v:V}(e:H a=some (.dK kvs))(j:kvs.length<sizeLine):DPut H a (kV k) v (upd H a (.dK (putK kvs k v))):=.inl ⟨kvs,k,e,rfl,j,rfl⟩
theorem DPut.t{H:Hp}{a b:Addr}{kvs:List (List Key×V)}{k:List Key}{v:V}(e:H a=some (.dT kvs))(q:H b=some (.tup (k.map kV)))(j:kvs.length<sizeLine):
  DPut H a (.ref b) v (upd H a (.dT (putK kvs k v))):=.inr ⟨kvs,k,b,e,rfl,q,j,rfl⟩
section
variable {X:Cx}{pins:List (Addr×Obj)}{σ:St}{H:Hp}{s:Qz}{a:Addr}{y v:V}{u r:Value}{o:Option V}{A:Qw}{E:Value->Qz->Prop}
theorem Inv.big(I:Inv X pins σ H s):Qo<s.heap.objs.size:=by
 have h:Qv<s.heap.objs.size:=(I.mod.glob.keeps I.bk).lt;exact Nat.lt_trans (by decide) h
theorem qdr{Q:Value->Qz->Prop}(U:A.units+1<cLine)(I:Inv X pins σ H s)(g:DGet H a y (some v))(O:RelV y u)(h:∀q s',Inv X pins σ H s'->RelV v q->Q q s'):
  wpAny (model X.prog X.w) A (Q9 (.ref a) u) Q E s:=by
 rcases g with⟨kvs,k,e,L,l⟩|⟨kvs,k,b,e,L,Z,l⟩
 ·subst L;obtain⟨z,hd,vs,rel,M⟩:=qbv I.hok e;obtain⟨q,F,j⟩:=RelO.some_of (v:=v) (o:=valueAt vs k) (by rw[l]; exact rel.val k);exact wpAny_getItem_of (qk6 O) M.mapOf F (h q _ (I.tok _) j)
 ·subst L;cases (show u=Value.ref b from O);obtain⟨z,hd,xs,rel,M⟩:=qdl I.hok e;obtain⟨q,F,j⟩:=RelO.some_of (v:=v) (o:=(atKey xs k).map (·.2)) (by rw[l]; exact rel.val k);obtain⟨p,Y,J⟩:=Qqr.mp F;refine wpAny_getItem_heap (Zw U) (qq9 I.hok Z) M Y ?_;rw[J];exact h q _ (I.tok _) j
theorem d_in{Q:Value->Qz->Prop}(L:A.units+1<cLine)(I:Inv X pins σ H s)(g:DGet H a y o)(J:RelV y u)(h:∀s',Inv X pins σ H s'->Q (.bool o.isSome) s'):
  wpAny (model X.prog X.w) A (Qd .In u (.ref a)) Q E s:=by
 rcases g with⟨kvs,k,e,j,l⟩|⟨kvs,k,b,e,j,M,l⟩
 ·subst j;obtain⟨z,hd,vs,rel,F⟩:=qbv I.hok e;refine wpAny_in_of (qk6 J) hd F.mapOf ?_;rw[<- (rel.val k).isSome_eq,<- l];exact h _ (I.tok _)
 ·subst j;cases (show u=Value.ref b from J);obtain⟨z,hd,xs,rel,F⟩:=qdl I.hok e;refine wpAny_in_heap (Zw L) (qq9 I.hok M) hd F ?_;have q:=(rel.val k).isSome_eq;rw[Qja]at q;rw[<- q,<- l];exact h _ (I.tok _)
theorem ql5{Q:Value->Qz->Prop}(L:A.units+1<cLine)(I:Inv X pins σ H s)(g:DGet H a y o)(J:RelV y u)(h:∀s',Inv X pins σ H s'->Q (.bool (!o.isSome)) s'):
  wpAny (model X.prog X.w) A (Qd .NotIn u (.ref a)) Q E s:=by
 rcases g with⟨kvs,k,e,j,l⟩|⟨kvs,k,b,e,j,M,l⟩
 ·subst j;obtain⟨z,hd,vs,rel,F⟩:=qbv I.hok e;refine wpAny_notIn_of (qk6 J) hd F.mapOf ?_;rw[<- (rel.val k).isSome_eq,<- l];exact h _ (I.tok _)
 ·subst j;cases (show u=Value.ref b from J);obtain⟨z,hd,xs,rel,F⟩:=qdl I.hok e;refine wpAny_notIn_heap (Zw L) (qq9 I.hok M) hd F ?_;have q:=(rel.val k).isSome_eq;rw[Qja]at q;rw[<- q,<- l];exact h _ (I.tok _)
theorem qw7{h':Heap}{t':Nat}{ob:HO}(I:Inv X pins σ H s)(j:Mut (H a))(F:Heap.SameBut a s.heap h')(J:∃q,h'.get? a=some q)(new:ObjOk X.prog X.w (upd H a ob) h' a ob):
  Inv X pins σ (upd H a ob) { s with heap:=h',toks:=t' }:=
 I.write (x:=a) (e:=a) j (.inl rfl) (λb q L z=>(F.2 b L).trans z) J new
theorem dk_new{P:Program}{w:Qk}{H':Hp}{h':Heap}{kvs:List (Key×V)}{vs:List (Key×Value)}(z:kvs.length<=sizeLine)(hd:(a==Qo)=false)(rel:KV kvs vs)(j:h'.DictOf (mixKind P w) a vs):
  ObjOk P w H' h' a (.dK kvs):=⟨z,hd,vs,rel,j⟩
theorem qdp{H':Hp}{Q:Unit->Qz->Prop}(hu:A.units+1<cLine)(I:Inv X pins σ H s)(g:DPut H a y v H')(Z:RelV y u)(rv:RelV v r)(h:∀s',Inv X pins σ H' s'->Q () s'):
  wpAny (model X.prog X.w) A (setItem (.ref a) u r) Q E s:=by
 rcases g with⟨kvs,k,e,O,l,U⟩|⟨kvs,k,b,e,O,eb,l,U⟩
 ·subst O U;obtain⟨z,hd,vs,rel,Y⟩:=dk_of I.hok e;have J:vs.length<=sizeLine:=by rw[<- rel.length]; exact z
  have M:(putK kvs k v).length<=sizeLine:=by have:=qq1 kvs k v; omega
  refine wpAny_setItem_pairs (hsz:=J) (qk6 Z) Y λh' j L=>h _ ?_;have he:∃q,h'.get? a=some q:=let ⟨q,_,_,F,_⟩:=j; ⟨q,F⟩;exact qw7 I (by rw[e]; exact True.intro) L he (dk_new M hd (rel.put k rv) j)
 ·subst O U;cases (show u=Value.ref b from Z);obtain⟨z,hd,xs,rel,Y⟩:=dt_of I.hok e;have J:xs.length<=sizeLine:=by rw[<- Paired.length rel]; exact z
  have M:(putK kvs k v).length<=sizeLine:=by have:=qq1 kvs k v; omega
  refine wpAny_setItem_heap (hsz:=J) (Zw hu) (qq9 I.hok eb) Y λh' j L=>h _ ?_;obtain⟨q,es,ep,F,h2,h3,h4,_,h5⟩:=j;refine qw7 I (by rw[e]; exact True.intro) L ⟨q,F⟩ ⟨M,hd,_,(rel.put k eb rv).keeps λc ys ec=>?_,q,es,ep,F,h2,h3,h4,h5⟩;rw[qzq (qzp ec e (λz=>nomatch z))];exact ec
end
section
variable {X:Cx}{pins:List (Addr×Obj)}{σ:St}{H:Hp}{s:Qz}{a:Addr}{kvs:List (Key×V)}{k:Key}{u:Value}{A:Qw}{E:Value->Qz->Prop}
end
def NoSl(i:Qx):Prop:=∀ov iv,subscripted i false ov iv=operate [ov,iv] (Q9 ov iv)
theorem qb3{prog:Program}{w:Qk}{A:Qw}{E:Value->Qz->Prop}{s:Qz}{env:Env}{q j:Qx}{pos:Pos}{T id:String}{Q:Value->Qz->Prop}
  (Z:typeLookup (.type T) "__getitem__" = pure (some (.builtin id))) (Y:NoSl j)
  (h:wpAny (model prog w) A (eval q env) (λo J=>wpAny (model prog w) A (eval j env) (λi s₂=>s₂.TypeIs o T/\wpAny (model prog w) A (Q9 o i) Q E s₂) E J) E s) :
  wpAny (model prog w) A (eval (.Subscript q j pos) env) Q E s:=by
 refine Subscript_ (Qb h (λo J O=>Qb O (λi s₂ z=>?_) λ_ _ x=>x) λ_ _ x=>x);obtain⟨U,z⟩:=z;unfold subscriptTail;refine Qq ?_;rw[getitemInPython_of_ne U.not_modules];refine Qq (wpAny_specialOf U Z ?_);have L:wpAny (model prog w) A (subscripted j false o i) (λr F=>wpAny (model prog w) A (letTemporaryGo q o r >>= λ_=>pure r) Q E F) E s₂:=by
  rw[Y o i];exact wpAny_operating (Qb z (λr F M=>Qq (wpAny_letTemporaryGo (Qj M))) λ_ _ x=>x)
 first
  |exact Qj (Qq L)
  |exact Qq (Qj (Qq L))
  |exact Qq L
theorem qw6{X:Cx}{j:List (Addr×Obj)}{z:St}{H:Hp}{s:Qz}{a:Addr}{y:V}{o:Option V}(I:Inv X j z H s)(g:DGet H a y o):s.TypeIs (.ref a) "dict":=by
 rcases g with⟨kvs,k,e,_,_⟩|⟨kvs,k,b,e,_,_,_⟩
 ·obtain⟨_,_,vs,_,q⟩:=qbv I.hok e;exact q.typeIs
 ·obtain⟨_,_,xs,_,q⟩:=qdl I.hok e;exact q.typeIs
noncomputable def tDGet(td ty:TE):TE:=λσ H Q=>td σ H λx H1=>ty σ H1 λy H2=>∃a v,x=.ref a/\DGet H2 a y (some v)/\Q v H2
noncomputable def tDIn(ty td:TE):TE:=λσ H Q=>ty σ H λy H1=>td σ H1 λx H2=>∃a o,x=.ref a/\DGet H2 a y o/\Q (.bl o.isSome) H2
noncomputable def qb1(ty td:TE):TE:=λσ H Q=>ty σ H λy H1=>td σ H1 λx H2=>∃a o,x=.ref a/\DGet H2 a y o/\Q (.bl (!o.isSome)) H2
noncomputable def sDPut(td ty tv:TE):TS:=λD σ H=>tv σ H λv H1=>td σ H1 λx H2=>ty σ H2 λy H3=>∃a H4,x=.ref a/\DPut H3 a y v H4/\D.nx σ H4
section
variable {X:Cx}{o i e value:Qx}{pos pos' tpos:Pos}{td ty tv:TE}
theorem qin(O:X.A.units+1<cLine)(Y:PE X o td)(Z:PE X i ty)(U:NoSl i):PE X (.Subscript o i pos) (tDGet td ty):=by
 intro pins s σ H Q I h;refine qb3 PySem.F.slot_dict_getitem.lookup U (thn (Y pins s σ H _ I h) λu z ⟨x,H1,I1,J,M⟩=>thn (Z pins z σ H1 _ I1 M) λiv s2 ⟨y,H2,q,F,a,v,ex,g,L⟩=>?_);subst ex;obtain rfl:u=Value.ref a:=J;exact⟨qw6 q g,qdr O q g F λw' s3 I3 j=>⟨v,H2,I3,j,L⟩⟩
theorem pc_din(M:X.A.units+1<cLine)(U:PE X i ty)(O:PE X o td):PC X .In i o (tDIn ty td):=by
 intro pins s σ H Q I h;refine thn (U pins s σ H _ I h) λiv j ⟨y,H1,I1,q,J⟩=>thn (O pins j σ H1 _ I1 J) λu s2 ⟨x,H2,Z,z,a,L,ex,g,F⟩=>?_;subst ex;obtain rfl:u=Value.ref a:=z;exact d_in M Z g q λs3 Y=>⟨.bl L.isSome,H2,Y,rfl,F⟩
theorem qch(M:X.A.units+1<cLine)(U:PE X i ty)(O:PE X o td):PC X .NotIn i o (qb1 ty td):=by
 intro pins s σ H Q I h;refine thn (U pins s σ H _ I h) λiv j ⟨y,H1,I1,q,J⟩=>thn (O pins j σ H1 _ I1 J) λu s2 ⟨x,H2,Z,z,a,L,ex,g,F⟩=>?_;subst ex;obtain rfl:u=Value.ref a:=z;exact ql5 M Z g q λs3 Y=>⟨.bl (!L.isSome),H2,Y,rfl,F⟩
theorem qia(Y:X.A.units+1<cLine)(ho:PE X o td)(hi:PE X i ty)(U:PE X value tv)(Z:swapsWith value (some (.Subscript o i pos')) pos.line X.env=pure false):
  PS X (.Assign [.Subscript o i pos'] value pos) (sDPut td ty tv):=by
 intro pins s σ H D I h;refine wpAny_Assign_Subscript (thn (U pins s σ H _ I h) λr q ⟨v,H1,I1,J,O⟩=>thn (ho pins q σ H1 _ I1 O) λu j ⟨x,H2,I2,F,M⟩=>thn (hi pins j σ H2 _ I2 M) λiv s3 ⟨y,H3,I3,z,a,H4,ex,g,L⟩=>?_) Z;subst ex;obtain rfl:u=Value.ref a:=F;exact qdp Y I3 g z J λs4 I4=>⟨σ,H4,I4,L⟩
end
theorem qaa{P:Program}{w:Qk}{H:Hp}(h:Heap)(j:Qo<h.objs.size):ObjOk P w H (h.push { cls:=.type "dict",data:=.dict #[] }) h.objs.size (.dK []):=
 ⟨Qz1 _,beq_eq_false_iff_ne.mpr (Ne.symm (Qq6 j)),[],.nil,Heap.DictOf.new h⟩
noncomputable def tDNewK:TE:=λ_ H Q=>∀p,H p=none->Q (.ref p) (upd H p (.dK []))
section
variable {X:Cx}{pos:Pos}
theorem pe_dnewK:PE X (.Dict [] [] pos) tDNewK:=λpins s σ H Q I h=>
 wpAny_Dict_empty ⟨.ref s.heap.objs.size,_,I.laid (a:=s.heap.objs.size) (o:=.dK []) (t':=s.toks) (λ_ _ q=>Qqz _ q) (Qqk _) (qaa s.heap I.big),rfl,h _ (I.hok.fresh (Qqk _))⟩
end
noncomputable def qyb:List (TE×TE)->St->Hp->(List (V×V)->Hp->Prop)->Prop
 |[],_,H,Q=>Q [] H
 |(tk,tv)::r,σ,H,Q=>tk σ H λx H1=>tv σ H1 λy H2=>qyb r σ H2 λps H3=>Q ((x,y)::ps) H3
abbrev VV:List (V×V)->List (Value×Value)->Prop:=Paired λp q=>RelV p.1 q.1/\RelV p.2 q.2
def PPs(X:Cx)(pos:Pos)(keys:List (Option Qx))(values:List Qx)(trs:List (TE×TE)):Prop:=
 ∀(pins:List (Addr×Obj)) (s:Qz) (σ:St) (H:Hp) (Q:List (V×V)->Hp->Prop),Inv X pins σ H s->qyb trs σ H Q->
  wpAny (model X.prog X.w) X.A (evalPairs (pairTrees keys values X.env pos)) (λvs s'=>∃ps H',Inv X pins σ H' s'/\VV ps vs/\Q ps H') X.xe s
theorem qib{X:Cx}{pos:Pos}:PPs X pos [] [] []:=λpins s σ H Q I h=>pairTrees_nil_walk ⟨[],H,I,.nil,h⟩
theorem qfk{X:Cx}{pos:Pos}{k v:Qx}{ks:List (Option Qx)}{vs:List Qx}{z q:TE}{j:List (TE×TE)}(hk:PE X k z)(Z:PE X v q)(hr:PPs X pos ks vs j):
  PPs X pos (some k::ks) (v::vs) ((z,q)::j):=λpins s σ H Q I h=>
 pairTrees_cons_walk (thn (hk pins s σ H _ I h) λu J ⟨x,H1,I1,M,Y⟩=>thn (Z pins J σ H1 _ I1 Y) λw2 F ⟨y,H2,I2,L,U⟩=>
  thn (hr pins F σ H2 _ I2 U) λws s3 ⟨ps,H3,I3,rel,O⟩=>⟨(x,y)::ps,H3,I3,.cons ⟨M,L⟩ rel,O⟩)
noncomputable def qka(kvs more:List (Key×V)):List (Key×V):=more.foldl (λacc kv=>putK acc kv.1 kv.2) kvs
theorem KV.merge:∀{more:List (Key×V)}{j:List (Key×Value)}{kvs:List (Key×V)}{vs:List (Key×Value)},KV more j->KV kvs vs->KV (qka kvs more) (merged vs j):=by
 intro more j kvs vs r;unfold KV at r
 induction r generalizing kvs vs with
 |nil=>intro q; exact q
 |@cons p q ps F h t z=>
  intro r0;have e:KV (putK kvs p.1 p.2) (stored vs q.1 q.2):=by
   have:=r0.put p.1 h.2;rw[<- h.1]; exact this
  exact z e
theorem qq8:∀(more kvs:List (Key×V)),(qka kvs more).length<=kvs.length+more.length
 |[],kvs=>by show kvs.length<=kvs.length+0; omega
 |p::r,kvs=>by
  have h1:=qq8 r (putK kvs p.1 p.2);have h2:=qq1 kvs p.1 p.2;show(qka (putK kvs p.1 p.2) r).length<=_;rw[Qqe]; omega
theorem qkh{P:Program}{w:Qk}:∀{kvs:List (Key×V)}{z:List (Value×Value)},VV (kvs.map λF=>(kV F.1,F.2)) z->∃j,Carries (mixKind P w) z j/\KV kvs j
 |[],_,r=>by rw[Qxx]at r; cases r; exact⟨[],True.intro,.nil⟩
 |p::kvs,_,r=>by
  rw[Qqd]at r
  cases r with
  |@cons a b J bs h t=>
   obtain⟨j,c,q⟩:=qkh (P:=P) (w:=w) t;obtain⟨b1,b2⟩:=b;exact⟨(p.1,b2)::j,⟨qk6 h.1,rfl,c⟩,.cons ⟨rfl,h.2⟩ q⟩
noncomputable def tDisp(trs:List (TE×TE)):TE:=λσ H Q=>∀p,H p=none->qyb trs σ (upd H p (.dK [])) λps H2=>H2 p=some (.dK [])/\∃kvs:List (Key×V),ps=kvs.map (λkv=>(kV kv.1,kv.2))/\kvs.length<=15/\Q (.ref p) (upd H2 p (.dK (qka [] kvs)))
theorem qim{X:Cx}{pos:Pos}{keys:List (Option Qx)}{j:List Qx}{F:List (TE×TE)}(h:PPs X pos keys j F)(J:keys.all (·.isSome)=true)(hl:keys.length=j.length)(h0:keys≠[])
  (M:keys.length<=15):PE X (.Dict keys j pos) (tDisp F):=by
 intro pins s σ H Q I q;have hn:=I.hok.fresh (Qqk s.heap.objs.size);have I1:=I.laid (a:=s.heap.objs.size) (o:=.dK []) (h':=s.heap.push { cls:=.type "dict",data:=.dict #[] }) (t':=s.toks) (λ_ _ q=>Qqz _ q) (Qqk _) (qaa s.heap I.big);refine wpAny_Dict_walk (knd:=mixKind X.prog X.w) J hl h0 M (thn (h pins _ σ _ _ I1 (q _ hn)) λws s2 ⟨ps,H2,O,rel,e,kvs,ep,lk,q2⟩=>?_);subst ep;obtain⟨Y,c,Z⟩:=qkh (P:=X.prog) (w:=X.w) rel;obtain⟨z,hd,U,r0,dd⟩:=dk_of O.hok e;cases r0;refine⟨Y,c,dd,λh' L hs=>⟨.ref s.heap.objs.size,_,?_,rfl,q2⟩⟩;have hz:(qka [] kvs).length<=sizeLine:=by
  have h1:=qq8 kvs [];rw[Qxg]at h1;rw[Q2]; omega
 have he:∃q,h'.get? s.heap.objs.size=some q:=let ⟨q,_,_,hq,_⟩:=L; ⟨q,hq⟩;exact qw7 O (by rw[e]; exact True.intro) hs he (dk_new hz hd (Z.merge .nil) L)
structure M1 (X:Cx) (o:Qx) (m:Str) (apos:Pos) (e:Qx) (cpos:Pos):Prop where
 base:attributeBase o m X.env (eval o X.env)=eval o X.env
 few:((backTo cpos (starEach [e] X.env)).all (λx=>!x.1)&&(backToKw cpos (keywordEach [] X.env)).all (λx=>x.1.isSome)
  && decide (([e]:List Qx).length+([]:List Zi).length+(if ([]:List Zi).isEmpty then 0 else 1)<30))=true
 line:(apos.endLine==cpos.line)=true
 trees:backTo cpos (starEach [e] X.env)=[(false,eval e X.env)]
structure M2 (X:Cx) (o:Qx) (m:Str) (apos:Pos) (e f:Qx) (cpos:Pos):Prop where
 base:attributeBase o m X.env (eval o X.env)=eval o X.env
 few:((backTo cpos (starEach [e,f] X.env)).all (λx=>!x.1)&&(backToKw cpos (keywordEach [] X.env)).all (λx=>x.1.isSome)
  && decide (([e,f]:List Qx).length+([]:List Zi).length+(if ([]:List Zi).isEmpty then 0 else 1)<30))=true
 line:(apos.endLine==cpos.line)=true
 trees:backTo cpos (starEach [e,f] X.env)=[(false,eval e X.env),(false,eval f X.env)]
def IsD(H:Hp)(a:Addr):Prop:=(∃kvs,Rd H a (.dK kvs))\/∃kvs,Rd H a (.dT kvs)
section
variable {X:Cx}{pins:List (Addr×Obj)}{σ:St}{H:Hp}{s:Qz}{a:Addr}{y d:V}{u r:Value}{o:Option V}{A:Qw}{E:Value->Qz->Prop}
end
section
variable {X:Cx}{o e f:Qx}{apos cpos:Pos}{td ty tx:TE}
end
section
variable {X:Cx}{pins:List (Addr×Obj)}{σ:St}{H:Hp}{s:Qz}{a:Addr}{kvs:List (Key×V)}{A:Qw}{E:Value->Qz->Prop}
end
section
variable {X:Cx}{pins:List (Addr×Obj)}{σ:St}{H:Hp}{s:Qz}{a:Addr}{y:V}{u:Value}{A:Qw}{E:Value->Qz->Prop}
end
end L2
end
section
namespace M
open PySem (Str Operator CmpOp)
inductive D where
 |non|bl (b:Bool)|int (i:Int)|str (s:Str)|tup (ds:List D)|lst (ds:List D)|loc (l:Nat)
 deriving Inhabited
inductive Cell where
 |lst (w:Bool) (ds:List D)
 |dic (w:Bool) (kvs:List (D×D))
 |obj (C:Nat) (fs:List (Str×D))
 deriving Inhabited
abbrev Store:=List Cell
abbrev Sl:=List (Option D)
noncomputable def lim:Nat:=16777216
inductive Ty where
 |non|bl|int|str|tup|lst
 deriving DecidableEq
noncomputable def Ty.name:Ty->String
 |.non=>"NoneType"
 |.bl=>"bool"
 |.int=>"int"
 |.str=>"str"
 |.tup=>"tuple"
 |.lst=>"list"
inductive B where
 |len|min|tuple|list|all|sorted|any
inductive Mt where
 |append|extend|index|insert
inductive T where
 |var (i:Nat)
 |tup (is:List Nat)
noncomputable def T.slots:T->List Nat
 |.var i=>[i]
 |.tup is=>is
inductive E where
 |var (i:Nat)
 |lit (d:D)
 |glo (x:Str) (d:D)
 |bin (op:Zd) (a b:E)
 |neg (a:E)
 |not (a:E)
 |cmp (op:Qr) (a b:E)
 |cmp2 (op op':Qr) (a b c:E)
 |and (a b:E)
 |or (a b:E)
 |ite (c a b:E)
 |tup (es:List E)
 |lst (es:List E)
 |idx (a b:E)
 |sli (a:E) (lo hi:Option E)
 |call (f:Nat) (es:List E)
 |bcall (f:B) (es:List E)
 |isi (a:E) (ts:List Ty) (many:Bool)
 |meth (a:E) (m:Mt) (es:List E)
 |gc (a:E)
 |rng1 (a:E)
 |rng2 (a b:E)
 |zip (a b:E)
 |dic (es:List E)
 |didx (a b:E)
 |din (neg:Bool) (a b:E)
 |gidx (x:Str) (ks:List Str) (ds:List D) (b:E)
 |gin (neg:Bool) (x:Str) (ks:List Str) (b:E)
 |lenset (a:E)
 |comp (t:T) (it:E) (test:Option E) (elt:E) (src:List (Option Nat))
 |attr (C:Nat) (a:E) (f:Str)
 |mcall (C f:Nat) (m:Str) (a:E) (es:List E)
 |new (C f:Nat) (es:List E)
inductive S where
 |set (t:T) (e:E)
 |dset (a i e:E)
 |setA (C:Nat) (a:E) (f:Str) (e:E)
 |ford (t:T) (a:E) (body:List S)
 |bad
 |expr (e:E)
 |ret (e:E)
 |ite (c:E) (a b:List S)
 |forr (t:T) (it:E) (body:List S)
structure Fn where
 np:Nat
 nl:Nat
 body:List S
mutual
noncomputable def eqT:D->D->Bool
 |.non,.non=>true
 |.bl a,.bl b=>a==b
 |.bl a,.int j=>(if a then 1 else 0)==j
 |.int i,.bl b=>i==(if b then 1 else 0)
 |.int i,.int j=>i==j
 |.str a,.str b=>a==b
 |.tup a,.tup b=>eqTs a b
 |_,_=>false
noncomputable def eqTs:List D->List D->Bool
 |[],[]=>true
 |a::as,b::bs=>eqT a b&&eqTs as bs
 |_,_=>false
end
mutual
/-- no place of the store within,at most n deep -/
noncomputable def flat:Nat->D->Bool
 |_,.loc _=>false
 |_,.lst _=>false
 |0,.tup _=>false
 |n+1,.tup ds=>flats n ds
 |_,_=>true
noncomputable def flats:Nat->List D->Bool
 |_,[]=>true
 |n,d::ds=>flat n d&&flats n ds
end
noncomputable def mulOk(i j:Int):Bool:=(decide (-(2 ^ 64)<i)&&decide (i<2 ^ 64))||(decide (-(2 ^ 64)<j)&&decide (j<2 ^ 64))
noncomputable def listAt(st:Store)(l:Nat):Option (List D):=match st[l]? with|some (.lst _ ds)=>some ds|_=>none
noncomputable def wlistAt(st:Store)(l:Nat):Option (List D):=match st[l]? with|some (.lst true ds)=>some ds|_=>none
noncomputable def seqAt(st:Store):D->Option (List D)
 |.loc l=>listAt st l
 |.lst ds=>some ds
 |_=>none
mutual
/-- no place of the store within -/
noncomputable def noLoc:D->Bool
 |.loc _=>false
 |.tup ds=>noLocs ds
 |.lst ds=>noLocs ds
 |_=>true
noncomputable def noLocs:List D->Bool
 |[]=>true
 |d::ds=>noLoc d&&noLocs ds
end
mutual
/-- every place of the store within is one of the first n -/
noncomputable def lt(n:Nat):D->Bool
 |.loc l=>Nat.blt l n
 |.tup ds=>lts n ds
 |.lst ds=>lts n ds
 |_=>true
noncomputable def lts(n:Nat):List D->Bool
 |[]=>true
 |d::ds=>lt n d&&lts n ds
end
noncomputable def ltC(n:Nat):Cell->Bool
 |.lst _ ds=>lts n ds
 |.dic _ kvs=>kvs.all λp=>lt n p.2
 |.obj _ fs=>fs.all λp=>lt n p.2
noncomputable def gcX(n:Nat)(p:D×Store):D×Store:=
 if noLoc p.1 then(p.1,p.2.take n) else match p.1 with
  |.loc l=>if n<=l then(match p.2[l]? with
   |some (.lst true ds)=>if noLocs ds then(.lst ds,p.2.take n) else p
   |_=>p) else p
  |_=>p
open Classical in
noncomputable def gcD(st:Store)(p:D×Store):D×Store:=
 if (p.2.take st.length).all (ltC st.length)=true then gcX st.length p else if p.2.take st.length=st then gcX st.length p else p
noncomputable def dicAt(st:Store)(l:Nat):Option (List (D×D)):=match st[l]? with|some (.dic _ kvs)=>some kvs|_=>none
noncomputable def wdicAt(st:Store)(l:Nat):Option (List (D×D)):=match st[l]? with|some (.dic true kvs)=>some kvs|_=>none
noncomputable def objAt(st:Store)(C:Nat):D->Option (List (Str×D))
 |.loc l=>match st[l]? with|some (.obj C' fs)=>if C'=C then some fs else none|_=>none
 |_=>none
noncomputable def putA(f:Str)(v:D):List (Str×D)->List (Str×D)
 |[]=>[(f,v)]
 |(g,x)::r=>if g=f then(g,v)::r else(g,x)::putA f v r
noncomputable def keysOf(kvs:List (D×D)):List D:=kvs.map (·.1)
noncomputable def dkeys(st:Store):D->Option (List D)
 |.loc l=>(dicAt st l).map keysOf
 |_=>none
noncomputable def isKey:D->Bool
 |.int _=>true
 |.str _=>true
 |_=>false
noncomputable def dget(kvs:List (D×D))(k:D):Option D:=(kvs.find? λp=>eqT p.1 k).map (·.2)
noncomputable def dput(kvs:List (D×D))(k v:D):List (D×D):=if kvs.any λp=>eqT p.1 k then kvs.map (λp=>if eqT p.1 k then(p.1,v) else p) else kvs++[(k,v)]
noncomputable def pairUp:List D->Option (List (D×D))
 |[]=>some []
 |k::v::r=>if isKey k then(pairUp r).map ((k,v)::·) else none
 |_=>none
noncomputable def dall(kvs:List (D×D)):List (D×D):=kvs.foldl (λacc p=>dput acc p.1 p.2) []
noncomputable def alloc(st:Store)(c:Cell):D×Store:=(.loc st.length,st++[c])
noncomputable def binop(st:Store):Zd->D->D->Option (D×Store)
 |.Add,.int i,.int j=>some (.int (i+j),st)
 |.Add,.tup a,.tup b=>if a.isEmpty||decide (lim<a.length+b.length) then none else some (.tup (a++b),st)
 |.Add,a,b=>(seqAt st a).bind λx=>(seqAt st b).bind λy=>if lim<x.length+y.length then none else some (alloc st (.lst true (x++y)))
 |.Sub,.int i,.int j=>some (.int (i - j),st)
 |.Mult,.int i,.int j=>if mulOk i j then some (.int (i*j),st) else none
 |.Mult,.tup a,.int k=>if decide (k < -(2 ^ 62))||decide (2 ^ 62<=k)||decide (lim<a.length*k.toNat) then none else some (.tup (List.replicate k.toNat a).flatten,st)
 |.FloorDiv,.int i,.int j=>if 0<j/\j<2 ^ 64 then some (.int (i / j),st) else none
 |.Mod,.int i,.int j=>if 0<j then some (.int (i % j),st) else none
 |.Pow,.int i,.int j=>if 0<=j/\j<=1000/\i.natAbs<2 ^ 64 then some (.int (i ^ j.toNat),st) else none
 |_,_,_=>none
noncomputable def addK(S:List (List Int))(k:List Int):List (List Int):=if k∈S then S else S++[k]
noncomputable def distinct(ks:List (List Int)):List (List Int):=ks.foldl addK []
noncomputable def keyD:D->Option (List Int)
 |.tup ds=>ds.mapM λd=>match d with|.int i=>some i|_=>none
 |_=>none
noncomputable def qk5:D->Option D
 |.tup ds=>(ds.mapM keyD).bind λks=>if ds.length<=16 then some (.int (distinct ks).length) else none
 |_=>none
noncomputable def ixN(n:Nat)(i:Int):Option Nat:=if 0<=i then(if i<n then some i.toNat else none) else if -(n:Int)<=i then some (i+n).toNat else none
noncomputable def atI{α:Type}(xs:List α)(i:Int):Option α:=(ixN xs.length i).bind λj=>xs[j]?
noncomputable def idxD(st:Store):D->D->Option D
 |.tup ds,.int i=>atI ds i
 |d,.int i=>(seqAt st d).bind λds=>atI ds i
 |_,_=>none
noncomputable def cutIx(n d:Nat):Option Int->Nat
 |none=>d
 |some v=>if v<0 then(v+(n:Int)).toNat else min v.toNat n
noncomputable def cut{α:Type}(xs:List α)(lo hi:Option Int):List α:=(xs.drop (cutIx xs.length 0 lo)).take (cutIx xs.length xs.length hi - cutIx xs.length 0 lo)
noncomputable def sliD(st:Store):D->Option Int->Option Int->Option (D×Store)
 |.tup ds,lo,hi=>some (.tup (cut ds lo hi),st)
 |d,lo,hi=>(seqAt st d).map λds=>alloc st (.lst true (cut ds lo hi))
noncomputable def inD(st:Store)(x:D):D->Option Bool
 |.tup ds=>if flat 9 x&&flats 9 ds then some (ds.any λy=>eqT y x) else none
 |d=>(seqAt st d).bind λds=>if flat 9 x&&flats 9 ds then some (ds.any λy=>eqT y x) else none
noncomputable def eqD(st:Store)(x y:D):Option Bool:=match seqAt st x,seqAt st y with
 |some a,some b=>if flats 9 a&&flats 9 b then some (eqTs a b) else none
 |_,_=>if flat 9 x&&flat 9 y then some (eqT x y) else none
noncomputable def neD(st:Store)(a b:D):Option Bool:=(eqD st a b).map (!·)
noncomputable def isNon:D->Bool
 |.non=>true
 |_=>false
noncomputable def cmpD(st:Store):Qr->D->D->Option Bool
 |.Lt,.int i,.int j=>some (decide (i<j))
 |.LtE,.int i,.int j=>some (decide (i<=j))
 |.Gt,.int i,.int j=>some (decide (j<i))
 |.GtE,.int i,.int j=>some (decide (j<=i))
 |.Eq,x,y=>eqD st x y
 |.NotEq,x,y=>neD st x y
 |.Is,x,.non=>some (isNon x)
 |.IsNot,x,.non=>some (!isNon x)
 |.In,x,y=>inD st x y
 |.NotIn,x,y=>(inD st x y).map (!·)
 |_,_,_=>none
noncomputable def tyName(st:Store):D->Option Ty
 |.non=>some .non
 |.bl _=>some .bl
 |.int _=>some .int
 |.str _=>some .str
 |.tup _=>some .tup
 |d=>(seqAt st d).map λ_=>.lst
noncomputable def tyIs(t n:Ty):Bool:=t==n||(t==.int&&n==.bl)
noncomputable def truth(st:Store):D->Option Bool
 |.non=>some false
 |.bl b=>some b
 |.int i=>some (i != 0)
 |.tup ds=>some (!ds.isEmpty)
 |d=>(seqAt st d).map λds=>!ds.isEmpty
noncomputable def insInt(x:Int):List Int->List Int
 |[]=>[x]
 |y::r=>if x<=y then x::y::r else y::insInt x r
noncomputable def sortInt:List Int->List Int
 |[]=>[]
 |x::r=>insInt x (sortInt r)
noncomputable def asInts:List D->Option (List Int)
 |[]=>some []
 |.int i::r=>(asInts r).map (i::·)
 |_=>none
noncomputable def asBools:List D->Option (List Bool)
 |[]=>some []
 |.bl i::r=>(asBools r).map (i::·)
 |_=>none
noncomputable def bLen(st:Store):List D->Option (D×Store)
 |[.tup ds]=>some (.int ds.length,st)
 |[d]=>(seqAt st d).map λds=>(.int ds.length,st)
 |_=>none
noncomputable def bMin(st:Store):List D->Option (D×Store)
 |[.int i,.int j]=>some (.int (if j<i then j else i),st)
 |_=>none
noncomputable def bTuple(st:Store):List D->Option (D×Store)
 |[.tup ds]=>some (.tup ds,st)
 |[d]=>(seqAt st d).map λds=>(.tup ds,st)
 |_=>none
noncomputable def bList(st:Store):List D->Option (D×Store)
 |[.tup ds]=>some (alloc st (.lst true ds))
 |[d]=>((seqAt st d).or (dkeys st d)).map λds=>alloc st (.lst true ds)
 |_=>none
noncomputable def bAll(st:Store):List D->Option (D×Store)
 |[d]=>(seqAt st d).bind λds=>(asBools ds).map λbs=>(.bl (bs.all id),st)
 |_=>none
noncomputable def bAny(st:Store):List D->Option (D×Store)
 |[d]=>(seqAt st d).bind λds=>(asBools ds).map λbs=>(.bl (bs.any id),st)
 |_=>none
noncomputable def bSorted(st:Store):List D->Option (D×Store)
 |[d]=>((seqAt st d).or (dkeys st d)).bind λds=>(if 64<=ds.length then none else asInts ds).map λns=>alloc st (.lst true ((sortInt ns).map .int))
 |_=>none
noncomputable def bfun(st:Store):B->List D->Option (D×Store)
 |.len=>bLen st
 |.min=>bMin st
 |.tuple=>bTuple st
 |.list=>bList st
 |.all=>bAll st
 |.sorted=>bSorted st
 |.any=>bAny st
noncomputable def mAppend(st:Store):D->List D->Option (D×Store)
 |.loc l,[d]=>(wlistAt st l).bind λds=>if ds.length<lim then some (.non,st.set l (.lst true (ds++[d]))) else none
 |_,_=>none
noncomputable def mExtend(st:Store):D->List D->Option (D×Store)
 |.loc l,[d]=>(wlistAt st l).bind λds=>(match d with|.tup es=>some es|d=>seqAt st d).bind λes=>if ds.length+es.length<=lim then some (.non,st.set l (.lst true (ds++es))) else none
 |_,_=>none
noncomputable def mIndex(st:Store):D->List D->Option (D×Store)
 |d,[x]=>(seqAt st d).bind λds=>if flat 9 x&&flats 9 ds then(ds.findIdx? λy=>eqT y x).map λ(j:Nat)=>(.int (j:Int),st) else none
 |_,_=>none
noncomputable def mInsert(st:Store):D->List D->Option (D×Store)
 |.loc l,[.int i,d]=>(wlistAt st l).bind λds=>if 0<=i/\i<=ds.length/\ds.length<lim then some (.non,st.set l (.lst true (ds.take i.toNat++d::ds.drop i.toNat))) else none
 |_,_=>none
noncomputable def mfun(st:Store):Mt->D->List D->Option (D×Store)
 |.append=>mAppend st
 |.extend=>mExtend st
 |.index=>mIndex st
 |.insert=>mInsert st
noncomputable def Mt.ofList(_:Mt):Bool:=true
noncomputable def mty(st:Store)(m:Mt):D->Bool
 |.str _=>!m.ofList
 |d=>m.ofList&&(seqAt st d).isSome
inductive Out where
 |nx (τ:Sl)
 |rt (d:D)
 |bk (τ:Sl)
 |ct (τ:Sl)
structure R where
 ev:Sl->Store->E->Option (D×Store)
 tst:Sl->Store->E->Option (Bool×Store)
 ex:Sl->Store->List S->Option (Out×Store)
 call:Nat->List D->Store->Option (D×Store)
noncomputable def evs(f:Store->E->Option (D×Store)):List E->Store->Option (List D×Store)
 |[],st=>some ([],st)
 |e::es,st=>(f st e).bind λp=>(evs f es p.2).bind λq=>some (p.1::q.1,q.2)
noncomputable def setIs:List Nat->List D->Sl->Option Sl
 |[],[],τ=>some τ
 |i::is,d::ds,τ=>if i<τ.length then setIs is ds (τ.set i (some d)) else none
 |_,_,_=>none
noncomputable def setT:T->D->Sl->Option Sl
 |.var i,d,τ=>if i<τ.length then some (τ.set i (some d)) else none
 |.tup is,.tup ds,τ=>setIs is ds τ
 |_,_,_=>none
inductive Src where
 |tup (ds:List D)
 |lst (d:D)
 |rng (lo:Int) (n:Nat)
 |zip (a b:D)
noncomputable def rowAt(st:Store):D->Option (List D)
 |.tup ds=>some ds
 |d=>seqAt st d
noncomputable def pairAt(xs ys:List D)(i:Nat):Option D:=match xs[i]?,ys[i]? with
 |some x,some y=>some (.tup [x,y])
 |_,_=>none
noncomputable def Src.at(st:Store)(i:Nat):Src->Option (Option D)
 |.tup ds=>some ds[i]?
 |.lst d=>(seqAt st d).map λds=>ds[i]?
 |.rng lo n=>some (if i<n then some (.int (lo+i)) else none)
 |.zip a b=>(rowAt st a).bind λxs=>(rowAt st b).map λys=>pairAt xs ys i
noncomputable def Src.size(st:Store):Src->Nat
 |.tup ds=>ds.length
 |.lst d=>((seqAt st d).getD []).length
 |.rng _ n=>n
 |.zip a b=>min ((rowAt st a).getD []).length ((rowAt st b).getD []).length
noncomputable def big(i:Int):Bool:=decide (i < -(2 ^ 62))||decide (2 ^ 62<=i)
noncomputable def src(r:R)(τ:Sl)(st:Store):E->Option (Src×Store)
 |.rng1 a=>(r.ev τ st a).bind λp=>match p.1 with
  |.int n=>if big n then none else some (.rng 0 n.toNat,p.2)
  |_=>none
 |.rng2 a b=>(r.ev τ st a).bind λp=>(r.ev τ p.2 b).bind λq=>match p.1,q.1 with
  |.int i,.int j=>if big i||big j then none else some (.rng i (j - i).toNat,q.2)
  |_,_=>none
 |.zip a b=>(r.ev τ st a).bind λp=>(r.ev τ p.2 b).bind λq=>(rowAt q.2 p.1).bind λ_=>(rowAt q.2 q.1).map λ_=>(.zip p.1 q.1,q.2)
 |e=>(r.ev τ st e).bind λp=>match p.1 with
  |.tup ds=>some (.tup ds,p.2)
  |d=>(seqAt p.2 d).map λ_=>(.lst d,p.2)
noncomputable def loop(it:Src)(f:Sl->Store->D->Option (Out×Store)):Nat->Nat->Sl->Store->Option (Out×Store)
 |0,_,_,_=>none
 |k+1,i,τ,st=>(it.at st i).bind λo=>match o with
  |none=>some (.nx τ,st)
  |some d=>(f τ st d).bind λp=>match p.1 with
   |.nx τ'=>loop it f k (i+1) τ' p.2
   |.ct τ'=>loop it f k (i+1) τ' p.2
   |.bk τ'=>some (.nx τ',p.2)
   |.rt v=>some (.rt v,p.2)
noncomputable def turnC(r:R)(t:T)(test:Option E)(elt:E)(τ:Sl)(st:Store)(d:D):Option (Option D×Sl×Store):=
 (setT t d τ).bind λτ'=>match test with
  |none=>(r.ev τ' st elt).map λp=>(some p.1,τ',p.2)
  |some c=>(r.tst τ' st c).bind λb=>if b.1 then(r.ev τ' b.2 elt).map λp=>(some p.1,τ',p.2) else some (none,τ',b.2)
noncomputable def loopC(it:Src)(f:Sl->Store->D->Option (Option D×Sl×Store)):Nat->Nat->List D->Sl->Store->Option (List D×Store)
 |0,_,_,_,_=>none
 |k+1,i,acc,τ,st=>(it.at st i).bind λo=>match o with
  |none=>if lim<acc.length then none else some (acc,st)
  |some d=>if lim<=acc.length then none else(f τ st d).bind λp=>loopC it f k (i+1) (match p.1 with|some x=>acc++[x]|none=>acc) p.2.1 p.2.2
noncomputable def inner(src:List (Option Nat))(τ:Sl):Sl:=src.map λo=>o.bind λi=>(τ[i]?).bind id
noncomputable def part(r:R)(τ:Sl)(st:Store):Option E->Option (Option Int×Store)
 |none=>some (none,st)
 |some e=>(r.ev τ st e).bind λp=>match p.1 with
  |.int i=>some (some i,p.2)
  |_=>none
noncomputable def dinR(r:R)(τ:Sl)(st:Store)(neg:Bool)(a b:E):Option (D×Store):=
 (r.ev τ st a).bind λp=>(r.ev τ p.2 b).bind λq=>match q.1 with
  |.loc l=>(dicAt q.2 l).bind λkvs=>if isKey p.1 then some (.bl ((dget kvs p.1).isSome != neg),q.2) else none
  |_=>none
noncomputable def ginR(r:R)(τ:Sl)(st:Store)(neg:Bool)(ks:List Str)(b:E):Option (D×Store):=
 (r.ev τ st b).bind λp=>match p.1 with
  |.str z=>some (.bl (ks.contains z != neg),p.2)
  |_=>none
noncomputable def stepEv(r:R)(τ:Sl)(st:Store):E->Option (D×Store)
 |.var i=>match τ[i]? with
  |some (some d)=>some (d,st)
  |_=>none
 |.lit d=>some (d,st)
 |.glo _ d=>some (d,st)
 |.bin op a b=>(r.ev τ st a).bind λp=>(r.ev τ p.2 b).bind λq=>binop q.2 op p.1 q.1
 |.neg a=>(r.ev τ st a).bind λp=>match p.1 with
  |.int i=>some (.int (-i),p.2)
  |_=>none
 |.not a=>(r.ev τ st a).bind λp=>match p.1 with
  |.bl b=>some (.bl (!b),p.2)
  |_=>none
 |.cmp op a b=>(r.ev τ st a).bind λp=>(r.ev τ p.2 b).bind λq=>(cmpD q.2 op p.1 q.1).map λk=>(.bl k,q.2)
 |.cmp2 op op' a b c=>(r.ev τ st a).bind λp=>(r.ev τ p.2 b).bind λq=>(cmpD q.2 op p.1 q.1).bind λk=>
   if k then(r.ev τ q.2 c).bind λu=>(cmpD u.2 op' q.1 u.1).map λk'=>(.bl k',u.2) else some (.bl false,q.2)
 |.and a b=>(r.ev τ st a).bind λp=>match p.1 with
  |.bl true=>r.ev τ p.2 b
  |.bl false=>some (.bl false,p.2)
  |_=>none
 |.or a b=>(r.ev τ st a).bind λp=>match p.1 with
  |.bl false=>r.ev τ p.2 b
  |.bl true=>some (.bl true,p.2)
  |_=>none
 |.ite c a b=>(r.tst τ st c).bind λp=>if p.1 then r.ev τ p.2 a else r.ev τ p.2 b
 |.tup es=>(evs (r.ev τ) es st).bind λp=>if lim<p.1.length then none else some (.tup p.1,p.2)
 |.lst es=>(evs (r.ev τ) es st).bind λp=>if lim<p.1.length then none else some (alloc p.2 (.lst true p.1))
 |.idx a b=>(r.ev τ st a).bind λp=>(r.ev τ p.2 b).bind λq=>(idxD q.2 p.1 q.1).map λd=>(d,q.2)
 |.sli a lo hi=>(r.ev τ st a).bind λp=>(part r τ p.2 lo).bind λl=>(part r τ l.2 hi).bind λh=>sliD h.2 p.1 l.1 h.1
 |.call f es=>(evs (r.ev τ) es st).bind λp=>r.call f p.1 p.2
 |.bcall f es=>(evs (r.ev τ) es st).bind λp=>bfun p.2 f p.1
 |.isi a ts _=>(r.ev τ st a).bind λp=>(tyName p.2 p.1).map λn=>(.bl (ts.any λt=>tyIs t n),p.2)
 |.meth a m es=>(r.ev τ st a).bind λp=>if mty p.2 m p.1 then(evs (r.ev τ) es p.2).bind λq=>mfun q.2 m p.1 q.1 else none
 |.gc a=>(r.ev τ st a).map λp=>gcD st p
 |.rng1 _=>none
 |.rng2 _ _=>none
 |.zip _ _=>none
 |.dic es=>(evs (r.ev τ) es (st++[.dic true []])).bind λp=>match wdicAt p.2 st.length with
  |some []=>(pairUp p.1).bind λkvs=>if kvs.length<=15 then some (.loc st.length,p.2.set st.length (.dic true (dall kvs))) else none
  |_=>none
 |.didx a b=>(r.ev τ st a).bind λp=>(r.ev τ p.2 b).bind λq=>match p.1 with
  |.loc l=>(dicAt q.2 l).bind λkvs=>if isKey q.1 then(dget kvs q.1).map λd=>(d,q.2) else none
  |_=>none
 |.din neg a b=>dinR r τ st neg a b
 |.gidx _ ks ds b=>(r.ev τ st b).bind λp=>match p.1 with
  |.str z=>((ks.zip ds).find? λq=>q.1==z).map λq=>(q.2,p.2)
  |_=>none
 |.gin neg _ ks b=>ginR r τ st neg ks b
 |.lenset a=>(r.ev τ st a).bind λp=>(qk5 p.1).map λd=>(d,p.2)
 |.comp t it test elt sr=>(src r τ st it).bind λp=>
   (loopC p.1 (turnC r t test elt) (p.1.size p.2+1) 0 [] (inner sr τ) p.2).map λq=>alloc q.2 (.lst true q.1)
 |.attr C a f=>(r.ev τ st a).bind λp=>(objAt p.2 C p.1).bind λfs=>(fs.lookup f).map λd=>(d,p.2)
 |.mcall C f m a es=>(r.ev τ st a).bind λp=>(objAt p.2 C p.1).bind λfs=>if (fs.lookup m).isSome then none else(evs (r.ev τ) es p.2).bind λq=>r.call f (p.1::q.1) q.2
 |.new C f es=>(evs (r.ev τ) es st).bind λp=>(r.call f (.loc p.2.length::p.1) (p.2++[.obj C []])).bind λq=>if isNon q.1 then some (.loc p.2.length,q.2) else none
noncomputable def stepTst(r:R)(τ:Sl)(st:Store):E->Option (Bool×Store)
 |.not a=>(r.tst τ st a).map λp=>(!p.1,p.2)
 |.and a b=>(r.tst τ st a).bind λp=>if p.1 then r.tst τ p.2 b else some (false,p.2)
 |.or a b=>(r.tst τ st a).bind λp=>if p.1 then some (true,p.2) else r.tst τ p.2 b
 |.ite _ _ _=>none
 |.din neg a b=>(dinR r τ st neg a b).bind λp=>(truth p.2 p.1).map λk=>(k,p.2)
 |.gin neg _ ks b=>(ginR r τ st neg ks b).bind λp=>(truth p.2 p.1).map λk=>(k,p.2)
 |.cmp op a b=>(r.ev τ st a).bind λp=>(r.ev τ p.2 b).bind λq=>(cmpD q.2 op p.1 q.1).map λk=>(k,q.2)
 |.cmp2 op op' a b c=>(r.ev τ st a).bind λp=>(r.ev τ p.2 b).bind λq=>(cmpD q.2 op p.1 q.1).bind λk=>
   if k then(r.ev τ q.2 c).bind λu=>(cmpD u.2 op' q.1 u.1).map λk'=>(k',u.2) else some (false,q.2)
 |e=>(r.ev τ st e).bind λp=>(truth p.2 p.1).map λk=>(k,p.2)
noncomputable def stepEx(r:R)(τ:Sl)(st:Store):S->Option (Out×Store)
 |.set t e=>(r.ev τ st e).bind λp=>(setT t p.1 τ).map λτ'=>(.nx τ',p.2)
 |.dset a i e=>(r.ev τ st e).bind λp=>(r.ev τ p.2 a).bind λq=>(r.ev τ q.2 i).bind λu=>match q.1 with
  |.loc l=>(wdicAt u.2 l).bind λkvs=>if isKey u.1&&decide (kvs.length<lim) then some (.nx τ,u.2.set l (.dic true (dput kvs u.1 p.1))) else none
  |_=>none
 |.setA C a f e=>(r.ev τ st e).bind λp=>(r.ev τ p.2 a).bind λq=>(objAt q.2 C q.1).bind λfs=>match q.1 with
  |.loc l=>if fs.length<900 then some (.nx τ,q.2.set l (.obj C (putA f p.1 fs))) else none
  |_=>none
 |.ford t a body=>(r.ev τ st a).bind λp=>match p.1 with
  |.loc l=>(wdicAt p.2 l).bind λkvs=>(loop (.tup (keysOf kvs)) (λτ st d=>(setT t d τ).bind λτ'=>r.ex τ' st body) (kvs.length+1) 0 τ (p.2.set l (.dic false kvs))).bind λq=>
   match q.2[l]? with
   |some (.dic false kvs')=>some (q.1,q.2.set l (.dic true kvs'))
   |_=>none
  |_=>none
 |.bad=>none
 |.expr e=>(r.ev τ st e).map λp=>(.nx τ,p.2)
 |.ret e=>(r.ev τ st e).map λp=>(.rt p.1,p.2)
 |.ite c a b=>(r.tst τ st c).bind λp=>if p.1 then r.ex τ p.2 a else r.ex τ p.2 b
 |.forr t it body=>(src r τ st it).bind λp=>
   loop p.1 (λτ st d=>(setT t d τ).bind λτ'=>r.ex τ' st body) (p.1.size p.2+1) 0 τ p.2
noncomputable def exs(f:Sl->Store->S->Option (Out×Store)):List S->Sl->Store->Option (Out×Store)
 |[],τ,st=>some (.nx τ,st)
 |s::ss,τ,st=>(f τ st s).bind λp=>match p.1 with
  |.nx τ'=>exs f ss τ' p.2
  |o=>some (o,p.2)
noncomputable def stepCall(fns:List Fn)(r:R)(f:Nat)(ds:List D)(st:Store):Option (D×Store):=
 match fns[f]? with
 |some F=>if ds.length=F.np then(r.ex (ds.map some++List.replicate (F.nl - ds.length) none) st F.body).bind λp=>match p.1 with
   |.rt d=>some (d,p.2)
   |.nx _=>some (.non,p.2)
   |_=>none
  else none
 |none=>none
noncomputable def step(c:Nat->List D->Store->Option (D×Store))(r:R):R:=⟨stepEv r,stepTst r,λτ st ss=>exs (stepEx r) ss τ st,c⟩
noncomputable def runK(c:Nat->List D->Store->Option (D×Store)):Nat->R
 |0=>⟨λ_ _ _=>none,λ_ _ _=>none,λ_ _ _=>none,c⟩
 |k+1=>step c (runK c k)
open Classical in
noncomputable def lim1{α:Type}(f:Nat->Option α):Option α:=if h:∃x,∃n,f n=some x then some h.choose else none
noncomputable def RL(c:Nat->List D->Store->Option (D×Store)):R:=⟨λτ st e=>lim1 λn=>(runK c n).ev τ st e,λτ st e=>lim1 λn=>(runK c n).tst τ st e,λτ st e=>lim1 λn=>(runK c n).ex τ st e,c⟩
noncomputable def callD(fns:List Fn):Nat->Nat->List D->Store->Option (D×Store)
 |0=>λ_ _ _=>none
 |d+1=>stepCall fns (RL (callD fns d))
noncomputable abbrev rn(fns:List Fn)(d n:Nat):R:=runK (callD fns d) n
noncomputable abbrev Lv(fns:List Fn)(d:Nat):R:=RL (callD fns d)
theorem lim1_is{α:Type}{f:Nat->Option α}{x:α}(h:lim1 f=some x):∃n,f n=some x:=by
 unfold lim1 at h
 split at h
 ·rename_i j;obtain⟨n,hn⟩:=j.choose_spec;exact⟨n,by rw[hn]; exact h⟩
 ·cases h
theorem runK_call(c:Nat->List D->Store->Option (D×Store)):∀n,(runK c n).call=c
 |0=>rfl
 |_+1=>rfl
end M
end
section
namespace M
open PySem (Str)
theorem qwx:∀(a:List S){b:List S}{f:Sl->Store->S->Option (Out×Store)}{τ τ':Sl}{s s':Store},exs f a τ s=some (.nx τ',s')->exs f (a++b) τ s=exs f b τ' s'
 |[],b,f,τ,τ',s,s',h=>by cases h; rfl
 |x::a,b,f,τ,τ',s,s',h=>by
  simp only[exs,List.cons_append]at h ⊢
  cases q:f τ s x with
  |none=>rw[q]at h; cases h
  |some p=>
   rw[q]at h;simp only[oBs]at h ⊢
   cases j:p.1 with
   |nx z=>rw[j]at h; simp only at h ⊢; exact qwx a h
   |rt d=>rw[j]at h; cases h
   |bk d=>rw[j]at h; cases h
   |ct d=>rw[j]at h; cases h
theorem qzr{x:S}{b:List S}{f:Sl->Store->S->Option (Out×Store)}{τ τ':Sl}{s s':Store}(h:f τ s x=some (.nx τ',s')):exs f (x::b) τ s=exs f b τ' s':=by
 simp only[exs,h,oBs]
theorem qw4{x:S}{b:List S}{f:Sl->Store->S->Option (Out×Store)}{τ:Sl}{s s':Store}{d:D}(h:f τ s x=some (.rt d,s')):exs f (x::b) τ s=some (.rt d,s'):=by
 simp only[exs,h,oBs]
theorem eqT_ii(a b:Int):eqT (.int a) (.int b)=(a==b):=by rw[eqT]
theorem qak(n:Nat)(a:Int):flat n (.int a)=true:=by cases n<;>rfl
theorem eqD_ii(st:Store)(a b:Int):eqD st (.int a) (.int b)=some (a==b):=by simp[eqD,seqAt,qak,eqT_ii]
theorem qv0{f:Sl->Store->D->Option (Out×Store)}{lo:Int}{n:Nat}(P:Nat->Sl->Store->Prop)(J:∀i τ st,i<n->P i τ st->∃j st',f τ st (.int (lo+i))=some (.nx j,st')/\P (i+1) j st'):
  ∀(k i:Nat) (τ:Sl) (st:Store),i+k=n->P i τ st->∃j st',loop (.rng lo n) f (k+1) i τ st=some (.nx j,st')/\P n j st'
 |0,i,τ,st,h,p=>by
  have:i=n:=by omega
  subst this;exact⟨τ,st,by simp[loop,Src.at],p⟩
 |k+1,i,τ,st,h,p=>by
  have hi:i<n:=by omega
  obtain⟨j,st',e,q⟩:=J i τ st hi p;obtain⟨z,F,M,L⟩:=qv0 P J k (i+1) j st' (by omega) q;refine⟨z,F,?_,L⟩;rw[loop];simp only[Src.at,hi,if_true,oBs,e];exact M
theorem qfm{f:Sl->Store->D->Option (Out×Store)}{lo:Int}{n:Nat}{τ:Sl}{st:Store}(P:Nat->Sl->Store->Prop)(z:P 0 τ st)(q:∀i τ st,i<n->P i τ st->∃j st',f τ st (.int (lo+i))=some (.nx j,st')/\P (i+1) j st'):
  ∃j st',loop (.rng lo n) f (n+1) 0 τ st=some (.nx j,st')/\P n j st':=qv0 P q n 0 τ st (by omega) z
end M
end
section
namespace M
open PySem (Str)
def Co{α:Type}(a:Option α)(b:Nat->Option α):Prop:=∀x,a=some x->∃n,∀m,n<=m->b m=some x
theorem Co.refl{α:Type}(a:Option α):Co a λ_=>a:=λ_ h=>⟨0,λ_ _=>h⟩
theorem Co.none{α:Type}(b:Nat->Option α):Co Option.none b:=λ_ h=>by cases h
theorem Co.bind{α j:Type}{f:Option α}{q:Nat->Option α}{g:α->Option j}{g':Nat->α->Option j}(J:Co f q)(F:∀a,Co (g a) λm=>g' m a):Co (f.bind g) λm=>(q m).bind (g' m):=λx h=>by
 cases e:f with
 |none=>rw[e]at h; cases h
 |some a=>
  rw[e]at h;obtain⟨n,hn⟩:=J a e;obtain⟨k,z⟩:=F a x h;refine⟨max n k,λm L=>?_⟩;simp only;rw[hn m (by omega)];exact z m (by omega)
theorem Co.map{α q:Type}{f:Option α}{j:Nat->Option α}(g:α->q)(F:Co f j):Co (f.map g) λm=>(j m).map g:=λx h=>by
 cases e:f with
 |none=>rw[e]at h; cases h
 |some a=>
  rw[e]at h;obtain⟨n,hn⟩:=F a e;refine⟨n,λm z=>?_⟩;simp only;rw[hn m z];exact h
theorem Co.ite{α:Type}{c:Prop} [Decidable c]{a b:Option α}{q j:Nat->Option α}(F:Co a q) (z:Co b j):Co (if c then a else b) λm=>if c then q m else j m:=by
 by_cases h:c
 ·simp only[Zt h]; exact F
 ·simp only[Zs h]; exact z
structure Le (r:R) (r':Nat->R):Prop where
 ev:∀τ st e,Co (r.ev τ st e) λm=>(r' m).ev τ st e
 tst:∀τ st e,Co (r.tst τ st e) λm=>(r' m).tst τ st e
 ex:∀τ st e,Co (r.ex τ st e) λm=>(r' m).ex τ st e
 call:∀f ds st,Co (r.call f ds st) λm=>(r' m).call f ds st
theorem qz2{f:Store->E->Option (D×Store)}{j:Nat->Store->E->Option (D×Store)}(h:∀st e,Co (f st e) λm=>j m st e):∀(es:List E) (st:Store),Co (evs f es st) λm=>evs (j m) es st
 |[],st=>.refl _
 |e::es,st=>(h st e).bind λp=>(qz2 h es p.2).bind λq=>.refl _
theorem qq7{it:Src}{f:Sl->Store->D->Option (Out×Store)}{q:Nat->Sl->Store->D->Option (Out×Store)}(h:∀τ st d,Co (f τ st d) λm=>q m τ st d):∀(k i:Nat) (τ:Sl) (st:Store),Co (loop it f k i τ st) λm=>loop it (q m) k i τ st
 |0,_,_,_=>.refl _
 |k+1,i,τ,st=>by
  unfold loop;refine(Co.refl _).bind λo=>?_
  cases o with
  |none=>exact .refl _
  |some d=>
   refine(h τ st d).bind λp=>?_
   cases z:p.1 with
   |nx j=>exact qq7 h k _ _ _
   |ct j=>exact qq7 h k _ _ _
   |bk j=>exact .refl _
   |rt v=>exact .refl _
theorem qkb{it:Src}{f:Sl->Store->D->Option (Option D×Sl×Store)}{q:Nat->Sl->Store->D->Option (Option D×Sl×Store)}(h:∀τ st d,Co (f τ st d) λm=>q m τ st d):∀(k i:Nat) (j:List D) (τ:Sl) (st:Store),Co (loopC it f k i j τ st) λm=>loopC it (q m) k i j τ st
 |0,_,_,_,_=>.refl _
 |k+1,i,j,τ,st=>by
  unfold loopC;refine(Co.refl _).bind λo=>?_
  cases o with
  |none=>exact .refl _
  |some d=>exact Co.ite (.refl _) ((h τ st d).bind λp=>qkb h k _ _ _ _)
theorem qvz{f:Sl->Store->S->Option (Out×Store)}{j:Nat->Sl->Store->S->Option (Out×Store)}(h:∀τ st s,Co (f τ st s) λm=>j m τ st s):∀(ss:List S) (τ:Sl) (st:Store),Co (exs f ss τ st) λm=>exs (j m) ss τ st
 |[],_,_=>.refl _
 |s::ss,τ,st=>by
  unfold exs;refine(h τ st s).bind λp=>?_
  cases z:p.1 with
  |nx q=>exact qvz h ss _ _
  |_=>exact .refl _
section
variable {r:R}{r':Nat->R}(h:Le r r')
include h
theorem qye(τ:Sl)(st:Store)(e:E):Co (src r τ st e) λm=>src (r' m) τ st e:=by
 cases e with
 |rng1 a=>exact(h.ev τ st a).bind λp=>.refl _
 |rng2 a b=>exact(h.ev τ st a).bind λp=>(h.ev τ _ b).bind λq=>.refl _
 |zip a b=>exact(h.ev τ st a).bind λp=>(h.ev τ _ b).bind λq=>.refl _
 |_=>exact(h.ev τ st _).bind λp=>.refl _
theorem qvo(τ:Sl)(st:Store)(e:Option E):Co (part r τ st e) λm=>part (r' m) τ st e:=by
 cases e with
 |none=>exact .refl _
 |some e=>exact(h.ev τ st e).bind λp=>.refl _
theorem qai(t:T)(test:Option E)(elt:E)(τ:Sl)(st:Store)(d:D):Co (turnC r t test elt τ st d) λm=>turnC (r' m) t test elt τ st d:=by
 unfold turnC;refine(Co.refl _).bind λj=>?_
 cases test with
 |none=>exact(h.ev _ _ _).map _
 |some c=>exact(h.tst _ _ _).bind λb=>Co.ite ((h.ev _ _ _).map _) (.refl _)
theorem qwv(τ:Sl)(st:Store)(neg:Bool)(a b:E):Co (dinR r τ st neg a b) λm=>dinR (r' m) τ st neg a b:=(h.ev τ st a).bind λp=>(h.ev τ _ b).bind λq=>.refl _
theorem qwz(τ:Sl)(st:Store)(neg:Bool)(ks:List PySem.Str)(b:E):Co (ginR r τ st neg ks b) λm=>ginR (r' m) τ st neg ks b:=(h.ev τ st b).bind λp=>.refl _
theorem qx7(τ:Sl)(st:Store)(e:E):Co (stepEv r τ st e) λm=>stepEv (r' m) τ st e:=by
 cases e with
 |var i=>exact .refl _
 |lit d=>exact .refl _
 |glo x d=>exact .refl _
 |bin z a b=>exact(h.ev τ st a).bind λp=>(h.ev τ _ b).bind λq=>.refl _
 |neg a=>exact(h.ev τ st a).bind λp=>.refl _
 |not a=>exact(h.ev τ st a).bind λp=>.refl _
 |cmp z a b=>exact(h.ev τ st a).bind λp=>(h.ev τ _ b).bind λq=>.refl _
 |cmp2 z F a b c=>exact(h.ev τ st a).bind λp=>(h.ev τ _ b).bind λq=>(Co.refl _).bind λk=>Co.ite ((h.ev τ _ c).bind λu=>.refl _) (.refl _)
 |and a b=>
  refine(h.ev τ st a).bind λp=>?_;obtain⟨d,s⟩:=p
  cases d with
  |bl k=>cases k with
   |true=>exact h.ev τ _ b
   |false=>exact .refl _
  |_=>exact .refl _
 |or a b=>
  refine(h.ev τ st a).bind λp=>?_;obtain⟨d,s⟩:=p
  cases d with
  |bl k=>cases k with
   |false=>exact h.ev τ _ b
   |true=>exact .refl _
  |_=>exact .refl _
 |ite c a b=>exact(h.tst τ st c).bind λp=>Co.ite (h.ev τ _ a) (h.ev τ _ b)
 |tup es=>exact(qz2 (h.ev τ) es st).bind λp=>.refl _
 |lst es=>exact(qz2 (h.ev τ) es st).bind λp=>.refl _
 |idx a b=>exact(h.ev τ st a).bind λp=>(h.ev τ _ b).bind λq=>.refl _
 |sli a lo hi=>exact(h.ev τ st a).bind λp=>(qvo h τ _ lo).bind λl=>(qvo h τ _ hi).bind λu=>.refl _
 |call f es=>exact(qz2 (h.ev τ) es st).bind λp=>h.call f _ _
 |bcall f es=>exact(qz2 (h.ev τ) es st).bind λp=>.refl _
 |isi a J m=>exact(h.ev τ st a).bind λp=>.refl _
 |lenset a=>exact(h.ev τ st a).bind λp=>.refl _
 |gc a=>exact(h.ev τ st a).map _
 |meth a m es=>exact(h.ev τ st a).bind λp=>Co.ite ((qz2 (h.ev τ) es _).bind λq=>.refl _) (.refl _)
 |rng1 a=>exact .refl _
 |rng2 a b=>exact .refl _
 |zip a b=>exact .refl _
 |dic es=>exact(qz2 (h.ev τ) es _).bind λp=>.refl _
 |didx a b=>exact(h.ev τ st a).bind λp=>(h.ev τ _ b).bind λq=>.refl _
 |din neg a b=>exact qwv h τ st neg a b
 |gidx x ks ds b=>exact(h.ev τ st b).bind λp=>.refl _
 |gin neg x ks b=>exact qwz h τ st neg ks b
 |comp t it j elt sr=>exact(qye h τ st it).bind λp=>(qkb (qai h t j elt) _ _ _ _ _).map _
 |attr C a f=>exact(h.ev τ st a).bind λp=>.refl _
 |mcall C f m a es=>exact(h.ev τ st a).bind λp=>(Co.refl _).bind λfs=>Co.ite (.refl _) ((qz2 (h.ev τ) es _).bind λq=>h.call f _ _)
 |new C f es=>exact(qz2 (h.ev τ) es st).bind λp=>(h.call f _ _).bind λq=>.refl _
theorem qxf(τ:Sl)(st:Store)(e:E):Co (stepTst r τ st e) λm=>stepTst (r' m) τ st e:=by
 cases e with
 |not a=>exact(h.tst τ st a).map _
 |and a b=>exact(h.tst τ st a).bind λp=>Co.ite (h.tst τ _ b) (.refl _)
 |or a b=>exact(h.tst τ st a).bind λp=>Co.ite (.refl _) (h.tst τ _ b)
 |ite _ _ _=>exact .refl _
 |din neg a b=>exact(qwv h τ st neg a b).bind λp=>.refl _
 |gin neg x ks b=>exact(qwz h τ st neg ks b).bind λp=>.refl _
 |cmp z a b=>exact(h.ev τ st a).bind λp=>(h.ev τ _ b).bind λq=>.refl _
 |cmp2 z j a b c=>exact(h.ev τ st a).bind λp=>(h.ev τ _ b).bind λq=>(Co.refl _).bind λk=>Co.ite ((h.ev τ _ c).bind λu=>.refl _) (.refl _)
 |_=>exact(h.ev τ st _).bind λp=>.refl _
theorem qx6(τ:Sl)(st:Store)(s:S):Co (stepEx r τ st s) λm=>stepEx (r' m) τ st s:=by
 cases s with
 |set t e=>exact(h.ev τ st e).bind λp=>.refl _
 |dset a i e=>exact(h.ev τ st e).bind λp=>(h.ev τ _ a).bind λq=>(h.ev τ _ i).bind λu=>.refl _
 |bad=>exact .refl _
 |setA C a f e=>exact(h.ev τ st e).bind λp=>(h.ev τ _ a).bind λq=>.refl _
 |ford t a body=>
  refine(h.ev τ st a).bind λp=>?_;obtain⟨d,s⟩:=p
  cases d with
  |loc l=>exact(Co.refl _).bind λkvs=>(qq7 (λτ st d=>(Co.refl _).bind λj=>h.ex j st body) _ _ _ _).bind λq=>.refl _
  |_=>exact .refl _
 |expr e=>exact(h.ev τ st e).map _
 |ret e=>exact(h.ev τ st e).map _
 |ite c a b=>exact(h.tst τ st c).bind λp=>Co.ite (h.ex τ _ a) (h.ex τ _ b)
 |forr t it body=>exact(qye h τ st it).bind λp=>qq7 (λτ st d=>(Co.refl _).bind λj=>h.ex j st body) _ _ _ _
theorem qb4(c:Nat->List D->Store->Option (D×Store)):Le (step c r) λm=>step c (r' m):=
 ⟨qx7 h,qxf h,λτ st j=>qvz (qx6 h) j τ st,λf ds st=>.refl _⟩
end
theorem qxu(c:Nat->List D->Store->Option (D×Store)):∀n,Le (runK c n) λ_=>runK c (n+1)
 |0=>⟨λ_ _ _=>.none _,λ_ _ _=>.none _,λ_ _ _=>.none _,λ_ _ _=>.refl _⟩
 |n+1=>qb4 (qxu c n) c
section
variable {c:Nat->List D->Store->Option (D×Store)}{n N:Nat}
theorem ev_up{τ:Sl}{st:Store}{e:E}{x:D×Store}(h:(runK c n).ev τ st e=some x)(z:n<=N):(runK c N).ev τ st e=some x:=by
 induction z with
 |refl=>exact h
 |step _ j=>obtain⟨k,q⟩:=(qxu c _).ev τ st e x j; exact q k (Qqk _)
theorem qgc{τ:Sl}{st:Store}{e:E}{x:Bool×Store}(h:(runK c n).tst τ st e=some x)(z:n<=N):(runK c N).tst τ st e=some x:=by
 induction z with
 |refl=>exact h
 |step _ j=>obtain⟨k,q⟩:=(qxu c _).tst τ st e x j; exact q k (Qqk _)
theorem ql0{τ:Sl}{st:Store}{e:List S}{x:Out×Store}(h:(runK c n).ex τ st e=some x)(z:n<=N):(runK c N).ex τ st e=some x:=by
 induction z with
 |refl=>exact h
 |step _ j=>obtain⟨k,q⟩:=(qxu c _).ex τ st e x j; exact q k (Qqk _)
end
theorem qk4{α:Type}{f:Nat->Option α}{n:Nat}{x:α}(up:∀n N x,f n=some x->n<=N->f N=some x)(h:f n=some x):lim1 f=some x:=by
 have j:∃x,∃n,f n=some x:=⟨x,n,h⟩
 unfold lim1;rw[dif_pos j];obtain⟨k,z⟩:=j.choose_spec;have F:=up _ (max n k) _ h (by omega);have q:=up _ (max n k) _ z (by omega);rw[F]at q;exact q.symm
section
variable {fns:List Fn}{d:Nat}{τ:Sl}{st:Store}
theorem call_of{f:Nat}{F:Fn}{ds:List D}{j:Store}{v:D}(n:Nat)(J:fns[f]?=some F)(z:ds.length=F.np)(q:ds.map some++List.replicate (F.nl - ds.length) none=τ)
  (h:exs (stepEx (rn fns d n)) F.body τ st=some (.rt v,j)):callD fns (d+1) f ds st=some (v,j):=by
 show stepCall fns (RL (callD fns d)) f ds st=_;unfold stepCall;rw[J];dsimp only;have e:(RL (callD fns d)).ex τ st F.body=some (.rt v,j):=qk4 (n:=n+1) (λ_ _ _ h k=>ql0 h k) h;rw[Zt z,q,e]
 rfl
theorem ev_k{c:Nat->List D->Store->Option (D×Store)}{n:Nat}(e:E):(runK c (n+1)).ev τ st e=stepEv (runK c n) τ st e:=rfl
theorem qeo{c:Nat->List D->Store->Option (D×Store)}{n:Nat}(e:E):(runK c (n+1)).tst τ st e=stepTst (runK c n) τ st e:=rfl
end
end M
end
section
namespace M
open PySem (Str)
section
variable {r:R}{s:Src}{S:Store}{rest:Sl}{elt:E}{ds:List D}
theorem qv1{es:List D}(j:∀i,s.at S i=some ds[i]?)(z:es.length=ds.length)(q:ds.length<lim)(F:∀(i:Nat) (d e:D),ds[i]?=some d->es[i]?=some e->r.ev (some d::rest) S elt=some (e,S)):
  ∀(k i:Nat) (o:Option D),i+k=ds.length->loopC s (turnC r (.var 0) none elt) (k+1) i (es.take i) (o::rest) S=some (es,S)
 |0,i,o,h=>by
  have e:i=ds.length:=by omega
  subst e;have h1:es.take ds.length=es:=Qxc (by omega);rw[loopC,j,h1];simp only[oBs,Qz5 (Qqk _)];rw[Zs (by omega)]
 |k+1,i,o,h=>by
  have hi:i<ds.length:=by omega
  have h1:ds[i]?=some ds[i]:=by simp
  have h2:es[i]?=some (es[i]'(by omega)):=by simp
  have J:=F i _ _ h1 h2;rw[loopC,j,h1];simp only[oBs];rw[Zs (by rw[Qzb]; omega)];have L:turnC r (.var 0) none elt (o::rest) S ds[i]=some (some (es[i]'(by omega)),some ds[i]::rest,S):=by
   unfold turnC;simp only[setT,Qqe,Qji,if_true,Qjk,oBs,J,oMs]
  rw[L];simp only[oBs];rw[show es.take i++[es[i]'(by omega)]=es.take (i+1) by rw[Qzf (by omega)]];exact qv1 j z q F k (i+1) _ (by omega)
theorem qxh{c:E}{p:D->Bool}(j:∀i,s.at S i=some ds[i]?)(z:ds.length<lim)(J:∀(i:Nat) (d:D),ds[i]?=some d->r.tst (some d::rest) S c=some (p d,S))(f:D->D)(M:∀(i:Nat) (d:D),ds[i]?=some d->p d=true->r.ev (some d::rest) S elt=some (f d,S)):
  ∀(k i:Nat) (o:Option D),i+k=ds.length->loopC s (turnC r (.var 0) (some c) elt) (k+1) i (((ds.take i).filter p).map f) (o::rest) S=some ((ds.filter p).map f,S)
 |0,i,o,h=>by
  have e:i=ds.length:=by omega
  subst e;rw[loopC,j,Qxc (Qqk _)];simp only[oBs,Qz5 (Qqk _)];have:=Qz6 p ds;rw[Zs (by rw[Qqw]; omega)]
 |k+1,i,o,h=>by
  have hi:i<ds.length:=by omega
  have h1:ds[i]?=some ds[i]:=by simp
  rw[loopC,j,h1];simp only[oBs];have Y:=Qz6 p (ds.take i);have U:(ds.take i).length<=ds.length:=by rw[Qzb]; omega
  rw[Zs (by rw[Qqw]; omega)];have O:ds.take (i+1)=ds.take i++[ds[i]]:=Qzf (by omega);have F:=qxh j z J f M k (i+1) (some ds[i]) (by omega)
  cases q:p ds[i] with
  |true=>
   have L:turnC r (.var 0) (some c) elt (o::rest) S ds[i]=some (some (f ds[i]),some ds[i]::rest,S):=by
    unfold turnC;simp only[setT,Qqe,Qji,if_true,Qjk,oBs,J i _ h1,q,M i _ h1 q,oMs]
   rw[L];simp only[oBs];rw[O,Qxl,Qqp]at F;simpa[q] using F
  |false=>
   have L:turnC r (.var 0) (some c) elt (o::rest) S ds[i]=some (none,some ds[i]::rest,S):=by
    unfold turnC;simp only[setT,Qqe,Qji,if_true,Qjk,oBs,J i _ h1,q,Qqm,if_false]
   rw[L];simp only[oBs];rw[O,Qxl,Qqp]at F;simpa[q] using F
end
theorem qf7{r:R}{τ:Sl}{S S':Store}{it elt:E}{sr:List (Option Nat)}{s:Src}{rest:Sl}{ds es:List D}(j:src r τ S it=some (s,S'))(L:∀i,s.at S' i=some ds[i]?)(hsz:s.size S'=ds.length)(J:inner sr τ=none::rest)(F:es.length=ds.length)(z:ds.length<lim)
  (M:∀(i:Nat) (d e:D),ds[i]?=some d->es[i]?=some e->r.ev (some d::rest) S' elt=some (e,S')):stepEv r τ S (.comp (.var 0) it none elt sr)=some (.loc S'.length,S'++[.lst true es]):=by
 have h:=qv1 (r:=r) (s:=s) (S:=S') (rest:=rest) (elt:=elt) L F z M ds.length 0 none (by omega);show((src r τ S it).bind λp=>(loopC p.1 (turnC r (.var 0) none elt) (p.1.size p.2+1) 0 [] (inner sr τ) p.2).map λq=>alloc q.2 (.lst true q.1))=_;rw[j];simp only[oBs,hsz,J];rw[show([]:List D)=es.take 0 by simp,h]
 rfl
theorem qw8{r:R}{τ:Sl}{S S':Store}{it elt c:E}{sr:List (Option Nat)}{s:Src}{rest:Sl}{ds:List D}{p:D->Bool}(f:D->D)(j:src r τ S it=some (s,S'))(J:∀i,s.at S' i=some ds[i]?)(hsz:s.size S'=ds.length)(F:inner sr τ=none::rest)(z:ds.length<lim)
  (M:∀(i:Nat) (d:D),ds[i]?=some d->r.tst (some d::rest) S' c=some (p d,S')) (L:∀(i:Nat) (d:D),ds[i]?=some d->p d=true->r.ev (some d::rest) S' elt=some (f d,S')):stepEv r τ S (.comp (.var 0) it (some c) elt sr)=some (.loc S'.length,S'++[.lst true ((ds.filter p).map f)]):=by
 have h:=qxh (r:=r) (s:=s) (S:=S') (rest:=rest) (elt:=elt) J z M f L ds.length 0 none (by omega);show((src r τ S it).bind λp=>(loopC p.1 (turnC r (.var 0) (some c) elt) (p.1.size p.2+1) 0 [] (inner sr τ) p.2).map λq=>alloc q.2 (.lst true q.1))=_;rw[j];simp only[oBs,hsz,F];simp only[Qj4,List.filter_nil,Qxx]at h;rw[h]
 rfl
theorem qae{S:Store}{q:D}{ds:List D}(h:seqAt S q=some ds)(i:Nat):(Src.lst q).at S i=some ds[i]?:=by simp[Src.at,h]
theorem qxt{S:Store}{q:D}{ds:List D}(h:seqAt S q=some ds):(Src.lst q).size S=ds.length:=by simp[Src.size,h]
theorem qea{S:Store}(lo:Int)(n:Nat)(i:Nat):(Src.rng lo n).at S i=some ((List.range n).map λ(j:Nat)=>D.int (lo+j))[i]?:=by
 simp only[Src.at,Qqf]
 by_cases h:i<n
 ·rw[Zt h,Qxf h]; rfl
 ·rw[Zs h,Qz5 (by simpa using h)]; rfl
theorem qjw{f:Sl->Store->D->Option (Out×Store)}{s:Src}{ds:List D}(P:Nat->Sl->Store->Prop)(Q:Sl->Store->Prop)(z:∀i τ st,P i τ st->s.at st i=some ds[i]?)
  (F:∀i τ st d,ds[i]?=some d->P i τ st->(∃j st',(f τ st d=some (.nx j,st')\/f τ st d=some (.ct j,st'))/\P (i+1) j st')\/∃j st',f τ st d=some (.bk j,st')/\Q j st') :
  ∀(k i:Nat) (τ:Sl) (st:Store),i+k=ds.length->P i τ st->∃j st',loop s f (k+1) i τ st=some (.nx j,st')/\(P ds.length j st'\/Q j st')
 |0,i,τ,st,h,p=>by
  have e:i=ds.length:=by omega
  subst e;refine⟨τ,st,?_,.inl p⟩;rw[loop,z _ _ _ p];simp[Qz5 (Qqk _)]
 |k+1,i,τ,st,h,p=>by
  have hi:i<ds.length:=by omega
  have h1:ds[i]?=some ds[i]:=by simp
  rw[loop,z _ _ _ p,h1];simp only[oBs];rcases F i τ st _ h1 p with⟨j,st',e|e,q⟩|⟨j,st',e,q⟩
  ·rw[e];exact qjw P Q z F k (i+1) j st' (by omega) q
  ·rw[e];exact qjw P Q z F k (i+1) j st' (by omega) q
  ·rw[e];exact⟨j,st',rfl,.inr q⟩
theorem qk2{f:Sl->Store->D->Option (Out×Store)}{s:Src}{ds:List D}{τ:Sl}{st:Store}(P:Nat->Sl->Store->Prop)(Q:Sl->Store->Prop)(F:P 0 τ st)(hsz:s.size st=ds.length)(q:∀i τ st,P i τ st->s.at st i=some ds[i]?)
  (z:∀i τ st d,ds[i]?=some d->P i τ st->(∃j st',(f τ st d=some (.nx j,st')\/f τ st d=some (.ct j,st'))/\P (i+1) j st')\/∃j st',f τ st d=some (.bk j,st')/\Q j st') :
  ∃j st',loop s f (s.size st+1) 0 τ st=some (.nx j,st')/\(P ds.length j st'\/Q j st'):=by
 rw[hsz];exact qjw P Q q z ds.length 0 τ st (by omega) F
end M
end
section
namespace M
open PySem (Str)
section
variable {st r:Store}{d:D}{ds:List D}
theorem gc_x{p:D×Store}(h:p.2.take st.length=st):gcD st p=gcX st.length p:=by
 unfold gcD;rw[Zt h,ite_self]
theorem qjv:noLoc (.tup ds)=noLocs ds:=by rw[noLoc]
theorem qcr:noLoc (.lst ds)=noLocs ds:=by rw[noLoc]
theorem qwr:noLocs (d::ds)=(noLoc d&&noLocs ds):=rfl
theorem qky:∀{ds:List D},noLocs ds=ds.all noLoc
 |[]=>rfl
 |d::ds=>by rw[qwr,Qxv,qky]
theorem qjk(h:∀d∈ds,noLoc d=true):noLocs ds=true:=by rw[qky,Qzk]; exact h
theorem qqp{α:Type}{xs:List α}{g:α->D}(h:∀x∈xs,noLoc (g x)=true):noLocs (xs.map g)=true:=qjk λd hd=>by
 obtain⟨x,j,rfl⟩:=Qqy.mp hd;exact h x j
theorem qzb(h:noLocs ds=true):gcD st (.loc st.length,st++[.lst true ds])=(.lst ds,st):=by
 rw[gc_x (by simp)];unfold gcX;rw[Zs (by simp[noLoc])];simp[h]
end
theorem qxg{r:R}{τ:Sl}{st j:Store}{c:E}{a b:List S}(h:r.tst τ st c=some (true,j)):stepEx r τ st (.ite c a b)=r.ex τ j a:=by
 show(r.tst τ st c).bind _=_;rw[h]; rfl
theorem qvf{r:R}{τ:Sl}{st j:Store}{c:E}{a b:List S}(h:r.tst τ st c=some (false,j)):stepEx r τ st (.ite c a b)=r.ex τ j b:=by
 show(r.tst τ st c).bind _=_;rw[h]; rfl
noncomputable def cDraw:List S:=[
 .set (.var 4) (.lit (.int 0)),
 .set (.var 5) (.lit (.int 1)),
 .ite (.cmp .Gt (.bcall .len [(.var 0)]) (.lit (.int 0))) [.set (.var 4) (.idx (.var 0) (.bin .Mod (.var 1) (.bcall .len [(.var 0)]))),.set (.var 5) (.bin .FloorDiv (.var 1) (.bcall .len [(.var 0)]))] [],
 .set (.var 6) (.var 4),
 .forr (.var 7) (.rng1 (.var 2)) [.set (.var 6) (.bin .FloorDiv (.var 6) (.bin .Pow (.lit (.int 10)) (.lit (.int 10))))],
 .ite (.and (.cmp .Eq (.var 5) (.lit (.int 0))) (.and (.cmp .GtE (.var 4) (.bin .Pow (.lit (.int 10)) (.lit (.int 18)))) (.cmp .Gt (.var 6) (.lit (.int 0))))) [.ret (.bin .Mod (.bin .Mod (.var 6) (.bin .Pow (.lit (.int 10)) (.lit (.int 10)))) (.var 3))] [],
 .set (.var 8) (.bin .Mod (.bin .Add (.bin .Add (.bin .Add (.bin .Mult (.var 4) (.lit (.int 7919))) (.bin .Mult (.var 1) (.lit (.int 104729)))) (.bin .Mult (.var 2) (.lit (.int 1299709)))) (.lit (.int 31))) (.lit (.int 1000000007))),
 .set (.var 9) (.bin .Mod (.bin .Add (.bin .Mult (.var 8) (.lit (.int 48271))) (.bin .FloorDiv (.var 4) (.lit (.int 1009)))) (.lit (.int 998244353))),
 .set (.var 9) (.bin .Mod (.bin .Add (.bin .Mult (.var 9) (.bin .Add (.bin .Mod (.var 8) (.lit (.int 9973))) (.lit (.int 1)))) (.var 2)) (.lit (.int 1000000009))),
 .ret (.bin .Mod (.bin .Mod (.bin .Add (.bin .Add (.bin .Mult (.var 8) (.lit (.int 69621))) (.bin .Mult (.var 9) (.lit (.int 40692)))) (.bin .FloorDiv (.var 9) (.lit (.int 1013)))) (.lit (.int 2147483647))) (.var 3))]
noncomputable def qf2:Fn:=⟨4,10,cDraw⟩
theorem qws{a b:Int}(q:-(2 ^ 64)<b)(j:b<2 ^ 64):mulOk a b=true:=by unfold mulOk; simp; omega
noncomputable def qxo(ns:List Int)(k:Int):Int×Int:=if ns=[] then(0,1) else(ns.getD (k % (ns.length:Int)).toNat 0,k / ns.length)
noncomputable def qj3:Nat->Int->Int
 |0,c=>c
 |n+1,c=>qj3 n c / 10000000000
noncomputable def drawF(c k j many:Int):Int:=(λone=>(λtwo=>(λtwo'=>(one*69621+two'*40692+two' / 1013) % 2147483647 % many) ((two*(one % 9973+1)+j) % 1000000009)) ((one*48271+c / 1009) % 998244353)) ((c*7919+k*104729+j*1299709+31) % 1000000007)
noncomputable def qz6(ns:List Int)(k j many:Int):Int:=
 if (qxo ns k).2=0/\1000000000000000000<=(qxo ns k).1/\0<qj3 j.toNat (qxo ns k).1 then qj3 j.toNat (qxo ns k).1 % 10000000000 % many else drawF (qxo ns k).1 k j many
theorem qvx(ns:List Int)(k j:Int){many:Int}(h:0<many):0<=qz6 ns k j many:=by
 unfold qz6
 split
 ·exact Int.emod_nonneg _ (by omega)
 ·exact Int.emod_nonneg _ (by omega)
theorem qvj(ns:List Int)(k j:Int){many:Int}(h:0<many):qz6 ns k j many<many:=by
 unfold qz6
 split
 ·exact Int.emod_lt_of_pos _ h
 ·exact Int.emod_lt_of_pos _ h
section
variable {c:Nat->List D->Store->Option (D×Store)}{n:Nat}{τ:Sl}{st:Store}
theorem evB{op:PySem.Operator}{A B:E}{a b r:D}(z:(runK c n).ev τ st A=some (a,st))(q:(runK c n).ev τ st B=some (b,st))(j:binop st op a b=some (r,st)):(runK c (n+1)).ev τ st (.bin op A B)=some (r,st):=by
 rw[ev_k];simp only[stepEv,z,q,oBs,j]
theorem evX{a b:E}{x y r:D}(q:(runK c n).ev τ st a=some (x,st))(j:(runK c n).ev τ st b=some (y,st))(h:idxD st x y=some r):(runK c (n+1)).ev τ st (.idx a b)=some (r,st):=by
 rw[ev_k];simp only[stepEv,q,j,oBs,h,oMs]
theorem stS{τ':Sl}{i:Nat}{e:E}{d:D}(q:(runK c n).ev τ st e=some (d,st))(j:setT (.var i) d τ=some τ'):stepEx (runK c n) τ st (.set (.var i) e)=some (.nx τ',st):=by
 simp only[stepEx,q,oBs,j,oMs]
theorem stR{e:E}{d:D}(j:(runK c n).ev τ st e=some (d,st)):stepEx (runK c n) τ st (.ret e)=some (.rt d,st):=by
 simp only[stepEx,j,oMs]
theorem tCmp{op:PySem.CmpOp}{a b:E}{x y:D}{k:Bool}(q:(runK c n).ev τ st a=some (x,st))(j:(runK c n).ev τ st b=some (y,st))(h:cmpD st op x y=some k):(runK c (n+1)).tst τ st (.cmp op a b)=some (k,st):=by
 rw[qeo];simp only[stepTst,q,j,oBs,h,oMs]
theorem tAnd{a b:E}{x y:Bool}(q:(runK c n).tst τ st a=some (x,st))(j:(runK c n).tst τ st b=some (y,st)):(runK c (n+1)).tst τ st (.and a b)=some (x&&y,st):=by
 rw[qeo];simp only[stepTst,q,oBs]
 cases x with
 |true=>rw[Zt rfl,j]; rfl
 |false=>rfl
end
theorem bMu(S:Store)(a:Int){b:Int}(q:-(2 ^ 64)<b)(j:b<2 ^ 64):binop S .Mult (.int a) (.int b)=some (.int (a*b),S):=by
 simp only[binop];rw[Zt (qws q j)]
theorem bMo(S:Store)(a:Int){b:Int}(h:0<b):binop S .Mod (.int a) (.int b)=some (.int (a % b),S):=by
 simp only[binop];rw[Zt h]
theorem bDi(S:Store)(a:Int){b:Int}(h:0<b)(j:b<2 ^ 64):binop S .FloorDiv (.int a) (.int b)=some (.int (a / b),S):=by
 simp only[binop];rw[Zt ⟨h,j⟩]
noncomputable abbrev dT(ns:List Int)(k j many:Int)(r:Sl):Sl:=some (.lst (ns.map D.int))::some (.int k)::some (.int j)::some (.int many)::r
theorem qbj{c:Nat->List D->Store->Option (D×Store)}(st:Store)(ns:List Int)(k j many:Int)(M:ns.length<=63):
  exs (stepEx (runK c 30)) (cDraw.take 4) (dT ns k j many [none,none,none,none,none,none]) st=some (.nx (dT ns k j many [some (.int (qxo ns k).1),some (.int (qxo ns k).2),some (.int (qxo ns k).1),none,none,none]),st):=by
 by_cases F:ns=[]
 ·subst F
  rfl
 ·have L:0<ns.length:=Qxa.mpr F;have z:0<(ns.length:Int):=by omega
  have h1:0<=k % (ns.length:Int):=Int.emod_nonneg _ (by omega);have h2:k % (ns.length:Int)<ns.length:=Int.emod_lt_of_pos _ z;have q:(k % (ns.length:Int)).toNat<ns.length:=by omega
  have J:qxo ns k=(ns[(k % (ns.length:Int)).toNat]'q,k / ns.length):=by
   unfold qxo;rw[Zs F,List.getD_eq_getElem?_getD,Qqs q]
   rfl
  rw[J];have l:∀(m:Nat) (r:Sl),(runK c (m+2)).ev (dT ns k j many r) st (.bcall .len [(.var 0)])=some (.int ns.length,st):=λm r=>by
   have v:(runK c (m+1)).ev (dT ns k j many r) st (.var 0)=some (.lst (ns.map D.int),st):=rfl;rw[ev_k];simp only[stepEv,evs,v,oBs,bfun,bLen,seqAt,oMs,Qqw]
  have x:idxD st (.lst (ns.map D.int)) (.int (k % ns.length))=some (.int (ns[(k % (ns.length:Int)).toNat]'q)):=by
   simp only[idxD,seqAt,oBs,atI,ixN,h1,if_true,Qqw,h2,Qqf,Qqs q,oMs]
  refine(qzr (τ':=dT ns k j many [some (.int 0),none,none,none,none,none]) (s':=st) rfl).trans ?_;refine(qzr (τ':=dT ns k j many [some (.int 0),some (.int 1),none,none,none,none]) (s':=st) rfl).trans ?_
  have t:=tCmp (c:=c) (n:=29) (τ:=dT ns k j many [some (.int 0),some (.int 1),none,none,none,none]) (st:=st) (op:=.Gt) (b:=.lit (.int 0)) (y:=.int 0) (k:=true) (l 27 _) rfl (by
   show some (decide ((0:Int)<ns.length))=_
   rw[Zp z])
  refine(qzr (τ':=dT ns k j many [some (.int (ns[(k % (ns.length:Int)).toNat]'q)),some (.int (k / ns.length)),none,none,none,none]) (s':=st) ((qxg t).trans ?_)).trans rfl;refine(qzr (τ':=dT ns k j many [some (.int (ns[(k % (ns.length:Int)).toNat]'q)),some (.int 1),none,none,none,none]) (s':=st) (stS (evX (n:=28) (x:=.lst (ns.map D.int)) rfl (evB (n:=27) (a:=.int k) rfl (l 25 _) (bMo _ _ z)) x) rfl)).trans ?_;exact(qzr (τ':=dT ns k j many [some (.int (ns[(k % (ns.length:Int)).toNat]'q)),some (.int (k / ns.length)),none,none,none,none]) (s':=st) (stS (evB (n:=28) (a:=.int k) rfl (l 26 _) (bDi _ _ z (by omega))) rfl)).trans rfl
theorem qw5{c:Nat->List D->Store->Option (D×Store)}(st:Store)(ns:List Int)(k j many cell q:Int)(O:0<=j)(F:j<100000):
  ∃o,stepEx (runK c 30) (dT ns k j many [some (.int cell),some (.int q),some (.int cell),none,none,none]) st (.forr (.var 7) (.rng1 (.var 2)) [.set (.var 6) (.bin .FloorDiv (.var 6) (.bin .Pow (.lit (.int 10)) (.lit (.int 10))))])=some (.nx (dT ns k j many [some (.int cell),some (.int q),some (.int (qj3 j.toNat cell)),o,none,none]),st):=by
 have J:big j=false:=by unfold big; simp; omega
 obtain⟨z,st',e,o,L,M⟩:=qfm (lo:=0) (n:=j.toNat) (τ:=dT ns k j many [some (.int cell),some (.int q),some (.int cell),none,none,none]) (st:=st)
  (f:=λτ st d=>(setT (.var 7) d τ).bind λz=>(runK c 30).ex z st [.set (.var 6) (.bin .FloorDiv (.var 6) (.bin .Pow (.lit (.int 10)) (.lit (.int 10))))])
  (λi τ s=>∃(o:Option D),τ=dT ns k j many [some (.int cell),some (.int q),some (.int (qj3 i cell)),o,none,none]/\s=st) ⟨none,rfl,rfl⟩ (by
   rintro i τ s hi ⟨o,rfl,rfl⟩;refine⟨dT ns k j many [some (.int cell),some (.int q),some (.int (qj3 i cell / 10000000000)),some (.int (0+i)),none,none],s,?_,_,rfl,rfl⟩;show exs (stepEx (runK c 29)) _ (dT ns k j many [some (.int cell),some (.int q),some (.int (qj3 i cell)),some (.int (0+i)),none,none]) s=_
   exact(qzr (τ':=dT ns k j many [some (.int cell),some (.int q),some (.int (qj3 i cell / 10000000000)),some (.int (0+i)),none,none]) (s':=s) (stS (evB (n:=28) (a:=.int (qj3 i cell)) (b:=.int 10000000000) rfl rfl (bDi _ _ (by decide) (by decide))) rfl)).trans rfl)
 rw[L,M]at e;refine⟨o,?_⟩;have v:(runK c 30).ev (dT ns k j many [some (.int cell),some (.int q),some (.int cell),none,none,none]) st (.var 2)=some (.int j,st):=rfl;simp only[stepEx,src,v,oBs,J,Qqm,if_false,Src.size];exact e
theorem qf5{fns:List Fn}{f:Nat}(U:fns[f]?=some qf2)(n:Nat)(st:Store)(ns:List Int)(k j many:Int)(M:ns.length<=63)(O:0<=j)(J:j<100000)(L:0<many):
  callD fns (n+1) f [.lst (ns.map D.int),.int k,.int j,.int many] st=some (.int (qz6 ns k j many),st):=by
 refine call_of 30 U rfl rfl ?_;show exs (stepEx (rn fns n 30)) (cDraw.take 4++cDraw.drop 4) (dT ns k j many [none,none,none,none,none,none]) st=_;rw[qwx _ (qbj st ns k j many M)];unfold qz6;generalize (qxo ns k).1=cell;generalize (qxo ns k).2=q;obtain⟨o,Y⟩:=qw5 (c:=callD fns n) st ns k j many cell q O J;refine(qzr Y).trans ?_;generalize qj3 j.toNat cell=rest;have t:=tAnd (c:=callD fns n) (n:=29) (τ:=dT ns k j many [some (.int cell),some (.int q),some (.int rest),o,none,none]) (st:=st) (tCmp (n:=28) (op:=.Eq) (a:=.var 5) (b:=.lit (.int 0)) (x:=.int q) (y:=.int 0) (k:=q==0) rfl rfl (eqD_ii st q 0)) (tAnd (n:=28) (tCmp (n:=27) (op:=.GtE) (a:=.var 4) (b:=.bin .Pow (.lit (.int 10)) (.lit (.int 18))) (x:=.int cell) (y:=.int 1000000000000000000) rfl rfl rfl) (tCmp (n:=27) (op:=.Gt) (a:=.var 6) (b:=.lit (.int 0)) (x:=.int rest) (y:=.int 0) rfl rfl rfl))
 by_cases F:q=0/\1000000000000000000<=cell/\0<rest
 ·rw[Zt F];have tb:((q==0)&&(decide (1000000000000000000<=cell)&&decide (0<rest)))=true:=by
   rw[F.1,Zp F.2.1,Zp F.2.2]; rfl
  rw[tb]at t;exact qw4 ((qxg t).trans (qw4 (stR (evB (n:=28) (b:=.int many) (evB (n:=27) (a:=.int rest) (b:=.int 10000000000) rfl rfl (bMo _ _ (by decide))) rfl (bMo _ _ L)))))
 ·rw[Zs F];have tb:((q==0)&&(decide (1000000000000000000<=cell)&&decide (0<rest)))=false:=by
   rw[<- Bool.not_eq_true,Qqc,Qqc,beq_iff_eq,decide_eq_true_iff,decide_eq_true_iff];exact F
  rw[tb]at t;refine(qzr (τ':=dT ns k j many [some (.int cell),some (.int q),some (.int rest),o,none,none]) (s':=st) ((qvf t).trans rfl)).trans ?_;unfold drawF;refine(qzr (stS (evB (n:=29) (b:=.int 1000000007) (evB (n:=28) (b:=.int 31) (evB (n:=27) (evB (n:=26) (evB (n:=25) (a:=.int cell) (b:=.int 7919) rfl rfl (bMu _ _ (by decide) (by decide))) (evB (n:=25) (a:=.int k) (b:=.int 104729) rfl rfl (bMu _ _ (by decide) (by decide))) rfl) (evB (n:=26) (a:=.int j) (b:=.int 1299709) rfl rfl (bMu _ _ (by decide) (by decide))) rfl) rfl rfl) rfl (bMo _ _ (by decide))) rfl)).trans ?_;generalize (cell*7919+k*104729+j*1299709+31) % 1000000007=one
  try dsimp only
  refine(qzr (stS (evB (n:=29) (b:=.int 998244353) (evB (n:=28) (evB (n:=27) (a:=.int one) (b:=.int 48271) rfl rfl (bMu _ _ (by decide) (by decide))) (evB (n:=27) (a:=.int cell) (b:=.int 1009) rfl rfl (bDi _ _ (by decide) (by decide))) rfl) rfl (bMo _ _ (by decide))) rfl)).trans ?_;generalize (one*48271+cell / 1009) % 998244353=two
  try dsimp only
  have h1:0<=one % 9973:=Int.emod_nonneg _ (by decide);have h2:one % 9973<9973:=Int.emod_lt_of_pos _ (by decide);refine(qzr (stS (evB (n:=29) (b:=.int 1000000009) (evB (n:=28) (b:=.int j) (evB (n:=27) (a:=.int two) rfl (evB (n:=26) (b:=.int 1) (evB (n:=25) (a:=.int one) (b:=.int 9973) rfl rfl (bMo _ _ (by decide))) rfl rfl) (bMu _ _ (by omega) (by omega))) rfl rfl) rfl (bMo _ _ (by decide))) rfl)).trans ?_;generalize (two*(one % 9973+1)+j) % 1000000009=z
  try dsimp only
  exact qw4 (stR (evB (n:=29) (b:=.int many) (evB (n:=28) (b:=.int 2147483647) (evB (n:=27) (evB (n:=26) (evB (n:=25) (a:=.int one) (b:=.int 69621) rfl rfl (bMu _ _ (by decide) (by decide))) (evB (n:=25) (a:=.int z) (b:=.int 40692) rfl rfl (bMu _ _ (by decide) (by decide))) rfl) (evB (n:=26) (a:=.int z) (b:=.int 1013) rfl rfl (bDi _ _ (by decide) (by decide))) rfl) rfl (bMo _ _ (by decide))) rfl (bMo _ _ L)))
theorem qdm{fns:List Fn}{f:Nat}(L:fns[f]?=some qf2){N:Nat}(M:1<=N){st:Store}{ns:List Int}{k j many:Int}(z:ns.length<=63)(J:0<=j)(q:j<100000)(F:0<many):
  callD fns N f [.lst (ns.map D.int),.int k,.int j,.int many] st=some (.int (qz6 ns k j many),st):=by
 have:=qf5 L (N - 1) st ns k j many z J q F;rwa [show N - 1+1=N by omega]at this
end M
end
section
namespace M
open PySem (Str)
abbrev CF:=Nat->List D->Store->Option (D×Store)
section
variable {c:CF}{n:Nat}{τ:Sl}{st:Store}{it elt:E}{sr:List (Option Nat)}{s:Src}{rest:Sl}{α:Type}
end
inductive Dp:Nat->D->Prop
 |non {k}:Dp k .non
 |bl {k b}:Dp k (.bl b)
 |int {k i}:Dp k (.int i)
 |str {k s}:Dp k (.str s)
 |tup {k ds} (h:∀d∈ds,Dp k d) (hl:ds.length<100000):Dp (k+1) (.tup ds)
 |lst {k ds} (h:∀d∈ds,Dp k d) (hl:ds.length<100000):Dp (k+1) (.lst ds)
theorem Dp.noLoc{k:Nat}{d:D}(h:Dp k d):noLoc d=true:=by
 induction h with
 |tup h q j=>rw[qjv]; exact qjk j
 |lst h q j=>rw[qcr]; exact qjk j
 |_=>rfl
section
variable {fns:List Fn}{f:Nat}
end
end M
end
section
namespace M
open PySem (Str)
section
variable {c:CF}{n:Nat}{τ:Sl}{st st':Store}
theorem tNot{e:E}{k:Bool}(h:(runK c n).tst τ st e=some (k,st)):(runK c (n+1)).tst τ st (.not e)=some (!k,st):=by
 rw[qeo];simp only[stepTst,h,oMs]
theorem tOr{a b:E}{x y:Bool}(q:(runK c n).tst τ st a=some (x,st))(j:(runK c n).tst τ st b=some (y,st)):(runK c (n+1)).tst τ st (.or a b)=some (x||y,st):=by
 rw[qeo];simp only[stepTst,q,oBs]
 cases x with
 |false=>rw[Zs Qqo,j]; rfl
 |true=>rfl
end
end M
end
section
namespace M
open PySem (Str CmpOp Operator)
inductive It where
 /-- a test comes out so -/
 |b (k:Bool)
 /-- a call answers so -/
 |c (a:D×Store)
 /-- seen by the kernel -/
 |k
 /-- what lies in a cell -/
 |r (c:Cell)
 /-- what a dict has at a key -/
 |q (o:Option D)
 /-- what lies at an index -/
 |i (d:D)
 |n
 /-- a part leaves nothing behind -/
 |g
 /-- a part leaves a list -/
 |l (ds:List D)
 /-- a loop ends so -/
 |s (o:Out×Store)
abbrev Tp:=List It
noncomputable def TM(α:Type):=Tp->(α->Tp->Prop)->Prop
noncomputable def TM.bind{α β:Type}(x:TM α)(f:α->TM β):TM β:=λt K=>x t λa t'=>f a t' K
noncomputable def TM.map{α β:Type}(x:TM α)(f:α->β):TM β:=λt K=>x t λa t'=>K (f a) t'
noncomputable def no{α:Type}:TM α:=λ_ _=>False
noncomputable def lf{α:Type}:Option α->TM α
 |some a=>λt K=>K a t
 |none=>no
noncomputable def ys{α:Type}(a:α):TM α:=λt K=>K a t
noncomputable def askB(p:Bool):TM Bool:=λt K=>match t with
 |.b k::t'=>p=k/\K k t'
 |.k::t'=>K p t'
 |_=>False
noncomputable def askC(o:Option (D×Store)):TM (D×Store):=λt K=>match t with
 |.c a::t'=>o=some a/\K a t'
 |_=>False
noncomputable def askD(o:Option (D×Store)):TM (D×Store):=λt K=>match t with
 |.c a::t'=>o=some a/\K a t'
 |t=>lf o t K
noncomputable def askE(o:Option (D×Store))(x:TM (D×Store)):TM (D×Store):=λt K=>match t with
 |.c a::t'=>o=some a/\K a t'
 |t=>x t K
noncomputable def askS(o:Option (Out×Store))(x:TM (Out×Store)):TM (Out×Store):=λt K=>match t with
 |.s a::t'=>o=some a/\K a t'
 |t=>x t K
noncomputable def askQ(o:Option D):TM (Option D):=λt K=>match t with
 |.q a::t'=>o=a/\K a t'
 |.k::t'=>K o t'
 |_=>False
noncomputable def askI(o:Option D):TM D:=λt K=>match t with
 |.i a::t'=>o=some a/\K a t'
 |.n::t'=>lf o t' K
 |t=>lf o t K
noncomputable def askR(o:Option Cell):TM Cell:=λt K=>match t with
 |.r c::t'=>o=some c/\K c t'
 |_=>False
noncomputable def rdT(n:Nat)(st:Store)(l:Nat):TM Cell:=if Nat.blt l n then lf st[l]? else askR st[l]?
noncomputable def Cell.ls:Cell->Option (List D)
 |.lst _ ds=>some ds
 |_=>none
noncomputable def Cell.wls:Cell->Option (List D)
 |.lst true ds=>some ds
 |_=>none
noncomputable def Cell.dc:Cell->Option (List (D×D))
 |.dic _ ds=>some ds
 |_=>none
noncomputable def Cell.wdc:Cell->Option (List (D×D))
 |.dic true ds=>some ds
 |_=>none
noncomputable def Cell.ob(C:Nat):Cell->Option (List (Str×D))
 |.obj C' fs=>if C'=C then some fs else none
 |_=>none
noncomputable def seqT(n:Nat)(st:Store):D->TM (List D)
 |.loc l=>(rdT n st l).bind λc=>lf c.ls
 |.lst ds=>ys ds
 |_=>no
noncomputable def rowT(n:Nat)(st:Store):D->TM (List D)
 |.tup ds=>ys ds
 |d=>seqT n st d
noncomputable def wlT(n:Nat)(st:Store)(l:Nat):TM (List D):=(rdT n st l).bind λc=>lf c.wls
noncomputable def dcT(n:Nat)(st:Store)(l:Nat):TM (List (D×D)):=(rdT n st l).bind λc=>lf c.dc
noncomputable def wdT(n:Nat)(st:Store)(l:Nat):TM (List (D×D)):=(rdT n st l).bind λc=>lf c.wdc
noncomputable def obT(n:Nat)(st:Store)(C:Nat):D->TM (List (Str×D))
 |.loc l=>(rdT n st l).bind λc=>lf (c.ob C)
 |_=>no
noncomputable def qle:Qr->D->Bool
 |.Lt,_=>true
 |.LtE,_=>true
 |.Gt,_=>true
 |.GtE,_=>true
 |.Is,_=>true
 |.IsNot,_=>true
 |.Eq,.int _=>true
 |.NotEq,.int _=>true
 |_,_=>false
noncomputable def isLs:D->Bool
 |.loc _=>true
 |.lst _=>true
 |_=>false
noncomputable def isAsk:Qr->D->D->Bool
 |.In,_,y=>isLs y
 |.NotIn,_,y=>isLs y
 |.Eq,x,_=>isLs x
 |.NotEq,x,_=>isLs x
 |_,_,_=>false
noncomputable def askO(o:Option Bool):TM Bool:=λt K=>match t with
 |.b k::t'=>o=some k/\K k t'
 |.k::t'=>lf o t' K
 |_=>False
noncomputable def cmpT(st:Store)(op:Qr)(x y:D):TM Bool:=if isAsk op x y then askO (cmpD st op x y) else(lf (cmpD st op x y)).bind λp=>if qle op x then askB p else ys p
noncomputable def qgd(n:Nat)(st:Store)(d:D):TM Bool:=match d with
 |.loc l=>(seqT n st (.loc l)).bind λds=>askB (!ds.isEmpty)
 |.lst ds=>askB (!ds.isEmpty)
 |d=>lf (truth st d)
noncomputable def addT(n:Nat)(st:Store)(a b:D):TM (D×Store):=(seqT n st a).bind λx=>(seqT n st b).bind λy=>(askB (decide (lim<x.length+y.length))).bind λk=>if k then no else ys (alloc st (.lst true (x++y)))
noncomputable def binT(n:Nat)(st:Store)(op:Zd)(a b:D):TM (D×Store):=match op,a with
 |.Add,.loc l=>addT n st (.loc l) b
 |.Add,.lst l=>addT n st (.lst l) b
 |.Mult,.int i=>match b with
  |.int j=>(askB (mulOk i j)).bind λk=>if k then ys (.int (i*j),st) else no
  |b=>lf (binop st .Mult (.int i) b)
 |.Mult,.tup l=>askD (binop st .Mult (.tup l) b)
 |.Mod,.int i=>askD (binop st .Mod (.int i) b)
 |.FloorDiv,.int i=>askD (binop st .FloorDiv (.int i) b)
 |op,a=>lf (binop st op a b)
noncomputable def qa5(n:Nat)(st:Store)(m:Mt)(d:D)(es:List D):TM (D×Store):=match m with
 |.append=>match d,es with
  |.loc l,[d]=>(wlT n st l).bind λds=>(askB (decide (ds.length<lim))).bind λb=>if b then ys (.non,st.set l (.lst true (ds++[d]))) else no
  |_,_=>no
 |.extend=>match d,es with
  |.loc l,[d]=>(wlT n st l).bind λds=>(rowT n st d).bind λes=>(askB (decide (ds.length+es.length<=lim))).bind λb=>if b then ys (.non,st.set l (.lst true (ds++es))) else no
  |_,_=>no
 |.insert=>match d,es with
  |.loc l,[.int i,d]=>(wlT n st l).bind λds=>(askB (decide (0<=i/\i<=ds.length/\ds.length<lim))).bind λb=>if b then ys (.non,st.set l (.lst true (ds.take i.toNat++d::ds.drop i.toNat))) else no
  |_,_=>no
 |.index=>match es with
  |[x]=>(seqT n st d).bind λds=>askD (if flat 9 x&&flats 9 ds then(ds.findIdx? λy=>eqT y x).map λ(j:Nat)=>(.int (j:Int),st) else none)
  |_=>no
noncomputable def mtyT(n:Nat)(st:Store)(m:Mt)(d:D):TM Bool:=match d with
 |.str _=>ys (!m.ofList)
 |.lst _=>ys m.ofList
 |.loc l=>(seqT n st (.loc l)).bind λ_=>ys m.ofList
 |_=>no
noncomputable def ql8(n:Nat)(st:Store)(f:B)(ds:List D):TM (D×Store):=match f with
 |.len=>match ds with
  |[.loc l]=>(seqT n st (.loc l)).bind λxs=>ys (.int xs.length,st)
  |ds=>lf (bfun st .len ds)
 |.list=>match ds with
  |[.loc l]=>(rdT n st l).bind λc=>(lf (c.ls.or (c.dc.map keysOf))).bind λxs=>ys (alloc st (.lst true xs))
  |ds=>lf (bfun st .list ds)
 |.tuple=>match ds with
  |[.loc l]=>(seqT n st (.loc l)).bind λxs=>ys (.tup xs,st)
  |ds=>lf (bfun st .tuple ds)
 |.min=>match ds with
  |[.int i,.int j]=>(askB (decide (j<i))).bind λk=>ys (.int (if k then j else i),st)
  |_=>no
 |f=>askD (bfun st f ds)
structure RT where
 rl:R
 ev:Sl->Store->E->TM (D×Store)
 tst:Sl->Store->E->TM (Bool×Store)
 ex:Sl->Store->List S->TM (Out×Store)
 call:Nat->List D->Store->TM (D×Store)
noncomputable def gcT(st:Store)(p:D×Store):TM (D×Store):=λt K=>match t with
 |.g::t'=>(noLoc p.1=true/\p.2.take st.length=st)/\K (p.1,st) t'
 |.l ds::t'=>gcD st p=(.lst ds,st)/\K (.lst ds,st) t'
 |.k::t'=>K (gcD st p) t'
 |_=>False
noncomputable def evsT(f:Store->E->TM (D×Store)):List E->Store->TM (List D×Store)
 |[],st=>ys ([],st)
 |e::es,st=>(f st e).bind λp=>(evsT f es p.2).bind λq=>ys (p.1::q.1,q.2)
noncomputable def srcT(n:Nat)(r:RT)(τ:Sl)(st:Store):E->TM (Src×Store)
 |.rng1 a=>(r.ev τ st a).bind λp=>match p.1 with
  |.int n=>if big n then no else ys (.rng 0 n.toNat,p.2)
  |_=>no
 |.zip a b=>(r.ev τ st a).bind λp=>(r.ev τ p.2 b).bind λq=>lf ((rowAt q.2 p.1).bind λ_=>(rowAt q.2 q.1).map λ_=>(.zip p.1 q.1,q.2))
 |.rng2 _ _=>no
 |e=>(r.ev τ st e).bind λp=>match p.1 with
  |.tup ds=>ys (.tup ds,p.2)
  |.str z=>no
  |d=>(seqT n p.2 d).map λ_=>(.lst d,p.2)
noncomputable def qc1(it:Src)(f:Sl->Store->D->TM (Out×Store)):Nat->Nat->Sl->Store->TM (Out×Store)
 |0,_,_,_=>no
 |k+1,i,τ,st=>(lf (it.at st i)).bind λo=>match o with
  |none=>ys (.nx τ,st)
  |some d=>(f τ st d).bind λp=>match p.1 with
   |.nx τ'=>qc1 it f k (i+1) τ' p.2
   |.ct τ'=>qc1 it f k (i+1) τ' p.2
   |.bk τ'=>ys (.nx τ',p.2)
   |.rt v=>ys (.rt v,p.2)
noncomputable def turnT(r:RT)(t:T)(test:Option E)(elt:E)(τ:Sl)(st:Store)(d:D):TM (Option D×Sl×Store):=
 (lf (setT t d τ)).bind λτ'=>match test with
  |none=>(r.ev τ' st elt).map λp=>(some p.1,τ',p.2)
  |some c=>(r.tst τ' st c).bind λb=>if b.1 then(r.ev τ' b.2 elt).map λp=>(some p.1,τ',p.2) else ys (none,τ',b.2)
noncomputable def qy0(it:Src)(f:Sl->Store->D->TM (Option D×Sl×Store)):Nat->Nat->List D->Sl->Store->TM (List D×Store)
 |0,_,_,_,_=>no
 |k+1,i,acc,τ,st=>(lf (it.at st i)).bind λo=>match o with
  |none=>if lim<acc.length then no else ys (acc,st)
  |some d=>if lim<=acc.length then no else(f τ st d).bind λp=>qy0 it f k (i+1) (match p.1 with|some x=>acc++[x]|none=>acc) p.2.1 p.2.2
noncomputable def qit(r:RT)(τ:Sl)(st:Store):Option E->TM (Option Int×Store)
 |none=>ys (none,st)
 |some e=>(r.ev τ st e).bind λp=>match p.1 with
  |.int i=>ys (some i,p.2)
  |_=>no
noncomputable def dgT(n:Nat)(p:D×Store)(k:D)(st:Store):TM (Option D):=match p.1 with
 |.loc l=>(dcT n st l).bind λkvs=>if isKey k then askQ (dget kvs k) else no
 |_=>no
noncomputable def qb6(n:Nat)(r:RT)(τ:Sl)(st:Store):E->TM (D×Store)
 |.var i=>lf (match τ[i]? with
  |some (some d)=>some (d,st)
  |_=>none)
 |.lit d=>ys (d,st)
 |.glo _ d=>ys (d,st)
 |.bin op a b=>(r.ev τ st a).bind λp=>(r.ev τ p.2 b).bind λq=>binT n q.2 op p.1 q.1
 |.neg a=>(r.ev τ st a).bind λp=>lf (match p.1 with
  |.int i=>some (.int (-i),p.2)
  |_=>none)
 |.not a=>(r.ev τ st a).bind λp=>lf (match p.1 with
  |.bl b=>some (.bl (!b),p.2)
  |_=>none)
 |.cmp op a b=>(r.ev τ st a).bind λp=>(r.ev τ p.2 b).bind λq=>(cmpT q.2 op p.1 q.1).map λk=>(.bl k,q.2)
 |.cmp2 op op' a b c=>(r.ev τ st a).bind λp=>(r.ev τ p.2 b).bind λq=>(cmpT q.2 op p.1 q.1).bind λk=>
   if k then(r.ev τ q.2 c).bind λu=>(cmpT u.2 op' q.1 u.1).map λk'=>(.bl k',u.2) else ys (.bl false,q.2)
 |.and a b=>(r.ev τ st a).bind λp=>match p.1 with
  |.bl true=>r.ev τ p.2 b
  |.bl false=>ys (.bl false,p.2)
  |_=>no
 |.or a b=>(r.ev τ st a).bind λp=>match p.1 with
  |.bl false=>r.ev τ p.2 b
  |.bl true=>ys (.bl true,p.2)
  |_=>no
 |.ite c a b=>(r.tst τ st c).bind λp=>if p.1 then r.ev τ p.2 a else r.ev τ p.2 b
 |.tup es=>(evsT (r.ev τ) es st).bind λp=>if lim<p.1.length then no else ys (.tup p.1,p.2)
 |.lst es=>(evsT (r.ev τ) es st).bind λp=>if lim<p.1.length then no else ys (alloc p.2 (.lst true p.1))
 |.idx a b=>(r.ev τ st a).bind λp=>(r.ev τ p.2 b).bind λq=>(askI (idxD q.2 p.1 q.1)).map λd=>(d,q.2)
 |.sli a lo hi=>(r.ev τ st a).bind λp=>(qit r τ p.2 lo).bind λl=>(qit r τ l.2 hi).bind λh=>lf (sliD h.2 p.1 l.1 h.1)
 |.call f es=>(evsT (r.ev τ) es st).bind λp=>r.call f p.1 p.2
 |.bcall f es=>(evsT (r.ev τ) es st).bind λp=>ql8 n p.2 f p.1
 |.isi a ts _=>(r.ev τ st a).bind λp=>(lf (tyName p.2 p.1)).map λn=>(.bl (ts.any λt=>tyIs t n),p.2)
 |.meth a m es=>(r.ev τ st a).bind λp=>(mtyT n p.2 m p.1).bind λk=>if k then(evsT (r.ev τ) es p.2).bind λq=>qa5 n q.2 m p.1 q.1 else no
 |.gc a=>(r.ev τ st a).bind λp=>gcT st p
 |.dic es=>(evsT (r.ev τ) es (st++[.dic true []])).bind λp=>(wdT n p.2 st.length).bind λk0=>lf (match k0 with
  |[]=>(pairUp p.1).bind λkvs=>if kvs.length<=15 then some (.loc st.length,p.2.set st.length (.dic true (dall kvs))) else none
  |_=>none)
 |.didx a b=>(r.ev τ st a).bind λp=>(r.ev τ p.2 b).bind λq=>(dgT n p q.1 q.2).bind λo=>(lf o).map λd=>(d,q.2)
 |.din neg a b=>(r.ev τ st a).bind λp=>(r.ev τ p.2 b).bind λq=>(dgT n q p.1 q.2).map λo=>(.bl (o.isSome != neg),q.2)
 |.gidx _ ks ds b=>(r.ev τ st b).bind λp=>lf (match p.1 with
  |.str z=>((ks.zip ds).find? λq=>q.1==z).map λq=>(q.2,p.2)
  |_=>none)
 |.gin neg _ ks b=>(r.ev τ st b).bind λp=>lf (match p.1 with
  |.str z=>some (.bl (ks.contains z != neg),p.2)
  |_=>none)
 |.lenset a=>(r.ev τ st a).bind λp=>(askI (qk5 p.1)).map λd=>(d,p.2)
 |.comp t it test elt sr=>askE (stepEv r.rl τ st (.comp t it test elt sr)) ((srcT n r τ st it).bind λp=>
   (qy0 p.1 (turnT r t test elt) (p.1.size p.2+1) 0 [] (inner sr τ) p.2).map λq=>alloc q.2 (.lst true q.1))
 |.attr C a f=>(r.ev τ st a).bind λp=>(obT n p.2 C p.1).bind λfs=>lf ((fs.lookup f).map λd=>(d,p.2))
 |.mcall C f m a es=>(r.ev τ st a).bind λp=>(obT n p.2 C p.1).bind λfs=>if (fs.lookup m).isSome then no else(evsT (r.ev τ) es p.2).bind λq=>r.call f (p.1::q.1) q.2
 |.new C f es=>(evsT (r.ev τ) es st).bind λp=>(r.call f (.loc p.2.length::p.1) (p.2++[.obj C []])).bind λq=>if isNon q.1 then ys (.loc p.2.length,q.2) else no
 |_=>no
noncomputable def qyd(n:Nat)(r:RT)(τ:Sl)(st:Store):E->TM (Bool×Store)
 |.not a=>(r.tst τ st a).map λp=>(!p.1,p.2)
 |.and a b=>(r.tst τ st a).bind λp=>if p.1 then r.tst τ p.2 b else ys (false,p.2)
 |.or a b=>(r.tst τ st a).bind λp=>if p.1 then ys (true,p.2) else r.tst τ p.2 b
 |.ite _ _ _=>no
 |.din neg a b=>(r.ev τ st a).bind λp=>(r.ev τ p.2 b).bind λq=>(dgT n q p.1 q.2).map λo=>(o.isSome != neg,q.2)
 |.gin neg _ ks b=>(r.ev τ st b).bind λp=>lf (match p.1 with
  |.str z=>some (ks.contains z != neg,p.2)
  |_=>none)
 |.cmp op a b=>(r.ev τ st a).bind λp=>(r.ev τ p.2 b).bind λq=>(cmpT q.2 op p.1 q.1).map λk=>(k,q.2)
 |.cmp2 op op' a b c=>(r.ev τ st a).bind λp=>(r.ev τ p.2 b).bind λq=>(cmpT q.2 op p.1 q.1).bind λk=>
   if k then(r.ev τ q.2 c).bind λu=>(cmpT u.2 op' q.1 u.1).map λk'=>(k',u.2) else ys (false,q.2)
 |e=>(r.ev τ st e).bind λp=>(qgd n p.2 p.1).map λk=>(k,p.2)
noncomputable def qkp(n:Nat)(r:RT)(τ:Sl)(st:Store):S->TM (Out×Store)
 |.set t e=>(r.ev τ st e).bind λp=>(lf (setT t p.1 τ)).map λτ'=>(.nx τ',p.2)
 |.dset a i e=>(r.ev τ st e).bind λp=>(r.ev τ p.2 a).bind λq=>(r.ev τ q.2 i).bind λu=>match q.1 with
  |.loc l=>(wdT n u.2 l).bind λkvs=>if isKey u.1 then(askB (decide (kvs.length<lim))).bind λb=>if b then ys (.nx τ,u.2.set l (.dic true (dput kvs u.1 p.1))) else no else no
  |_=>no
 |.setA C a f e=>(r.ev τ st e).bind λp=>(r.ev τ p.2 a).bind λq=>(obT n q.2 C q.1).bind λfs=>match q.1 with
  |.loc l=>if fs.length<900 then ys (.nx τ,q.2.set l (.obj C (putA f p.1 fs))) else no
  |_=>no
 |.expr e=>(r.ev τ st e).map λp=>(.nx τ,p.2)
 |.ret e=>(r.ev τ st e).map λp=>(.rt p.1,p.2)
 |.ite c a b=>(r.tst τ st c).bind λp=>if p.1 then r.ex τ p.2 a else r.ex τ p.2 b
 |.forr t it body=>askS (stepEx r.rl τ st (.forr t it body)) ((srcT n r τ st it).bind λp=>
   qc1 p.1 (λτ st d=>(lf (setT t d τ)).bind λτ'=>r.ex τ' st body) (p.1.size p.2+1) 0 τ p.2)
 |.ford t a body=>askS (stepEx r.rl τ st (.ford t a body)) no
 |_=>no
noncomputable def exsT(f:Sl->Store->S->TM (Out×Store)):List S->Sl->Store->TM (Out×Store)
 |[],τ,st=>ys (.nx τ,st)
 |s::ss,τ,st=>(f τ st s).bind λp=>match p.1 with
  |.nx τ'=>exsT f ss τ' p.2
  |o=>ys (o,p.2)
abbrev CT:=Nat->List D->Store->TM (D×Store)
noncomputable def runT(n:Nat)(R0:R)(c:CT):Nat->RT
 |0=>⟨R0,λ_ _ _=>no,λ_ _ _=>no,λ_ _ _=>no,c⟩
 |k+1=>⟨R0,qb6 n (runT n R0 c k),qyd n (runT n R0 c k),λτ st ss=>exsT (qkp n (runT n R0 c k)) ss τ st,c⟩
noncomputable def qvy(fns:List Fn)(n:Nat)(O:List Nat)(k:Nat):Nat->CT
 |0=>λ_ _ _=>no
 |d+1=>λf ds st=>if O.contains f then askC (callD fns (k+(d+1)) f ds st) else match fns[f]? with
   |some F=>if ds.length=F.np then((runT n (RL (callD fns (k+d))) (qvy fns n O k d) 40).ex (ds.map some++List.replicate (F.nl - ds.length) none) st F.body).bind λp=>(match p.1 with
     |.rt d=>ys (d,p.2)
     |.nx _=>ys (.non,p.2)
     |_=>no)
    else no
   |none=>no
def Sn{α:Type}(x:TM α)(y:Option α):Prop:=∀t K,x t K->∃a t',y=some a/\K a t'
theorem Sn.lf{α:Type}:∀(o:Option α),Sn (lf o) o
 |some a=>λt K h=>⟨a,t,rfl,h⟩
 |none=>λt K h=>h.elim
theorem Sn.ys{α:Type}(a:α):Sn (ys a) (some a):=λt K h=>⟨a,t,rfl,h⟩
theorem Sn.no{α:Type}(o:Option α):Sn no o:=λt K h=>h.elim
theorem Sn.bind{α j:Type}{x:TM α}{y:Option α}{f:α->TM j}{g:α->Option j}(h:Sn x y)(h':∀a,Sn (f a) (g a)):Sn (x.bind f) (y.bind g):=λt K e=>by
 obtain⟨a,z,rfl,q⟩:=h _ _ e;exact h' a _ _ q
theorem Sn.map{α j:Type}{x:TM α}{y:Option α}(f:α->j)(h:Sn x y):Sn (x.map f) (y.map f):=λt K e=>by
 obtain⟨a,q,rfl,z⟩:=h _ _ e;exact⟨f a,q,rfl,z⟩
theorem Sn.ite{α:Type}{c:Prop} [Decidable c]{a b:TM α}{q j:Option α}(F:Sn a q) (z:Sn b j):Sn (if c then a else b) (if c then q else j):=by
 by_cases h:c
 ·rw[Zt h,Zt h]; exact F
 ·rw[Zs h,Zs h]; exact z
theorem Sn.up{α:Type}{x:TM α}{y y':Option α}(h:∀a,y=some a->y'=some a)(e:Sn x y):Sn x y':=λt K h1=>by
 obtain⟨a,j,z,q⟩:=e t K h1;exact⟨a,j,h a z,q⟩
theorem Sn.eq{α:Type}{x:TM α}{y y':Option α}(h:y=y')(e:Sn x y):Sn x y':=h▸e
theorem bm{α j:Type}{o:Option α}{f:α->j}:(o.bind λx=>some (f x))=o.map f:=by cases o<;>rfl
theorem Sn.askB(p:Bool):Sn (askB p) (some p):=λt K h=>by
 cases t with
 |nil=>exact h.elim
 |cons i t=>
  cases i with
  |b k=>obtain⟨rfl,e⟩:=h; exact⟨_,_,rfl,e⟩
  |k=>exact⟨p,t,rfl,h⟩
  |_=>exact h.elim
theorem Sn.askC(o:Option (D×Store)):Sn (askC o) o:=λt K h=>by
 cases t with
 |nil=>exact h.elim
 |cons i t=>
  cases i with
  |c a=>exact⟨a,t,h.1,h.2⟩
  |_=>exact h.elim
theorem Sn.askD(o:Option (D×Store)):Sn (askD o) o:=λt K h=>by
 cases t with
 |nil=>exact Sn.lf o _ _ h
 |cons i t=>
  cases i with
  |c a=>exact⟨a,t,h.1,h.2⟩
  |_=>exact Sn.lf o _ _ h
theorem Sn.askE{o:Option (D×Store)}{x:TM (D×Store)}(h:Sn x o):Sn (askE o x) o:=λt K e=>by
 cases t with
 |nil=>exact h _ _ e
 |cons i t=>
  cases i with
  |c a=>exact⟨a,t,e.1,e.2⟩
  |_=>exact h _ _ e
theorem Sn.askS{o:Option (Out×Store)}{x:TM (Out×Store)}(h:Sn x o):Sn (askS o x) o:=λt K e=>by
 cases t with
 |nil=>exact h _ _ e
 |cons i t=>
  cases i with
  |s a=>exact⟨a,t,e.1,e.2⟩
  |_=>exact h _ _ e
theorem Sn.askQ(o:Option D):Sn (askQ o) (some o):=λt K h=>by
 cases t with
 |nil=>exact h.elim
 |cons i t=>
  cases i with
  |q a=>exact⟨a,t,congrArg some h.1,h.2⟩
  |k=>exact⟨o,t,rfl,h⟩
  |_=>exact h.elim
theorem Sn.askI(o:Option D):Sn (askI o) o:=λt K h=>by
 cases t with
 |nil=>exact Sn.lf o _ _ h
 |cons i t=>
  cases i with
  |i a=>exact⟨a,t,h.1,h.2⟩
  |n=>exact Sn.lf o _ _ h
  |_=>exact Sn.lf o _ _ h
theorem Sn.askR(o:Option Cell):Sn (askR o) o:=λt K h=>by
 cases t with
 |nil=>exact h.elim
 |cons i t=>
  cases i with
  |r c=>exact⟨c,t,h.1,h.2⟩
  |_=>exact h.elim
theorem Sn.rd(n:Nat)(st:Store)(l:Nat):Sn (rdT n st l) st[l]?:=by
 unfold rdT
 by_cases j:Nat.blt l n=true
 ·rw[Zt j]; exact .lf _
 ·rw[Zs j]; exact .askR _
theorem Sn.seq(n:Nat)(st:Store)(d:D):Sn (seqT n st d) (seqAt st d):=by
 cases d with
 |loc l=>exact((Sn.rd n st l).bind λc=>.lf _).eq (by show _=listAt st l; unfold listAt; cases st[l]? with|none=>rfl|some c=>cases c<;>rfl)
 |lst ds=>exact .ys _
 |_=>exact .no _
theorem Sn.row(n:Nat)(st:Store)(d:D):Sn (rowT n st d) (rowAt st d):=by
 cases d with
 |tup ds=>exact .ys _
 |non=>exact Sn.seq n st .non
 |bl b=>exact Sn.seq n st (.bl b)
 |int b=>exact Sn.seq n st (.int b)
 |str b=>exact Sn.seq n st (.str b)
 |lst b=>exact Sn.seq n st (.lst b)
 |loc b=>exact Sn.seq n st (.loc b)
theorem Sn.wl(n:Nat)(st:Store)(l:Nat):Sn (wlT n st l) (wlistAt st l):=((Sn.rd n st l).bind λc=>.lf _).eq (by
 unfold wlistAt
 cases st[l]? with
 |none=>rfl
 |some c=>cases c with
  |lst w ds=>cases w<;>rfl
  |_=>rfl)
theorem Sn.dc(n:Nat)(st:Store)(l:Nat):Sn (dcT n st l) (dicAt st l):=((Sn.rd n st l).bind λc=>.lf _).eq (by unfold dicAt; cases st[l]? with|none=>rfl|some c=>cases c<;>rfl)
theorem Sn.wd(n:Nat)(st:Store)(l:Nat):Sn (wdT n st l) (wdicAt st l):=((Sn.rd n st l).bind λc=>.lf _).eq (by
 unfold wdicAt
 cases st[l]? with
 |none=>rfl
 |some c=>cases c with
  |dic w ds=>cases w<;>rfl
  |_=>rfl)
theorem Sn.ob(n:Nat)(st:Store)(C:Nat)(d:D):Sn (obT n st C d) (objAt st C d):=by
 cases d with
 |loc l=>exact((Sn.rd n st l).bind λc=>.lf _).eq (by unfold objAt; dsimp only; cases st[l]? with|none=>rfl|some c=>cases c<;>rfl)
 |_=>exact .no _
theorem Sn.gc(st:Store)(p:D×Store):Sn (gcT st p) (some (gcD st p)):=λt K h=>by
 cases t with
 |nil=>exact h.elim
 |cons i t=>
  cases i with
  |g=>
   obtain⟨⟨h1,h2⟩,h⟩:=h;refine⟨_,t,?_,h⟩;unfold gcD gcX;rw[h2,Zt h1,Zt rfl,ite_self]
  |l ds=>exact⟨_,t,congrArg some h.1,h.2⟩
  |k=>exact⟨_,t,rfl,h⟩
  |_=>exact h.elim
theorem Sn.cond{α:Type}(p:Bool)(a:α):Sn (TM.bind (M.askB p) λb=>if b=true then M.ys a else M.no) (if p=true then some a else none):=
 (Sn.askB p).bind (g:=λb=>if b=true then some a else none) λb=>Sn.ite (c:=b=true) (Sn.ys a) (.no none)
theorem Sn.meth(n:Nat)(st:Store)(m:Mt)(d:D)(es:List D):Sn (qa5 n st m d es) (mfun st m d es):=by
 cases m with
 |append=>
  unfold qa5;dsimp only
  split
  ·refine(Sn.wl n st _).bind λds=>(Sn.cond _ _).eq ?_;simp only[decide_eq_true_eq]
  ·exact .no _
 |extend=>
  unfold qa5;dsimp only
  split
  ·rename_i l d;refine(Sn.wl n st _).bind λds=>((Sn.row n st d).bind λes=>Sn.cond _ _).eq ?_;simp only[decide_eq_true_eq];cases d<;>rfl
  ·exact .no _
 |insert=>
  unfold qa5;dsimp only
  split
  ·refine(Sn.wl n st _).bind λds=>(Sn.cond _ _).eq ?_;simp only[decide_eq_true_eq]
  ·exact .no _
 |index=>
  unfold qa5;dsimp only
  split
  ·exact(Sn.seq n st _).bind λds=>.askD _
  ·exact .no _
theorem Sn.mt(n:Nat)(st:Store)(m:Mt)(d:D){α:Type}{x:TM α}{y:Option α}(h:Sn x y):Sn (TM.bind (mtyT n st m d) λk=>if k=true then x else M.no) (if mty st m d then y else none):=by
 cases d with
 |str z=>exact λt K e=>Sn.ite (c:=(!m.ofList)=true) h (.no none) t K e
 |lst z=>
  refine((Sn.ys m.ofList).bind λk=>Sn.ite (c:=k=true) h (.no none)).eq ?_
  show(if m.ofList=true then y else none)=if (m.ofList&&true)=true then y else none
  rw[Qjv]
 |loc l=>
  have e:=((Sn.seq n st (.loc l)).bind λ_=>Sn.ys m.ofList).bind λk=>Sn.ite (c:=k=true) h (.no none);refine e.up λa e=>?_;show(if (m.ofList&&(seqAt st (.loc l)).isSome)=true then y else none)=some a
  cases j:seqAt st (.loc l) with
  |none=>rw[j]at e; cases e
  |some xs=>rw[j]at e; rw[Option.isSome_some,Qjv]; exact e
 |_=>exact λt K e=>e.elim
theorem Sn.askO(o:Option Bool):Sn (askO o) o:=λt K h=>by
 cases t with
 |nil=>exact h.elim
 |cons i t=>
  cases i with
  |b k=>exact⟨k,t,h.1,h.2⟩
  |k=>exact Sn.lf o _ _ h
  |_=>exact h.elim
theorem Sn.cmp(st:Store)(op:Qr)(x y:D):Sn (cmpT st op x y) (cmpD st op x y):=by
 unfold cmpT
 by_cases j:isAsk op x y=true
 ·rw[Zt j]; exact .askO _
 ·rw[Zs j];have h:Sn ((M.lf (cmpD st op x y)).bind λp=>if qle op x=true then M.askB p else M.ys p) ((cmpD st op x y).bind λp=>if qle op x=true then some p else some p):=(Sn.lf _).bind λp=>Sn.ite (Sn.askB p) (Sn.ys p);simpa using h
theorem Sn.truth(n:Nat)(st:Store)(d:D):Sn (qgd n st d) (truth st d):=by
 cases d with
 |loc l=>exact((Sn.seq n st (.loc l)).bind λds=>Sn.askB _).eq (by show _=(seqAt st (.loc l)).map _; rw[Option.map_eq_bind]; rfl)
 |lst l=>exact .askB _
 |non=>exact .lf (M.truth st .non)
 |bl b=>exact .lf (M.truth st (.bl b))
 |int b=>exact .lf (M.truth st (.int b))
 |str b=>exact .lf (M.truth st (.str b))
 |tup b=>exact .lf (M.truth st (.tup b))
theorem Sn.add(n:Nat)(st:Store)(a b:D):Sn (addT n st a b) ((seqAt st a).bind λx=>(seqAt st b).bind λy=>if lim<x.length+y.length then none else some (alloc st (.lst true (x++y)))):=
 (Sn.seq n st a).bind λx=>(Sn.seq n st b).bind λy=>by
  have h:=(Sn.askB (decide (lim<x.length+y.length))).bind (g:=λk=>if k=true then none else some (alloc st (.lst true (x++y)))) λk=>Sn.ite (c:=k=true) (.no none) (Sn.ys (alloc st (.lst true (x++y))));simpa only[oBs,decide_eq_true_eq] using h
theorem Sn.bin(n:Nat)(st:Store)(op:Zd)(a b:D):Sn (binT n st op a b) (binop st op a b):=by
 unfold binT
 split
 ·exact(Sn.add n st _ b).eq (by cases b<;>rfl)
 ·exact(Sn.add n st _ b).eq (by cases b<;>rfl)
 ·split
  ·exact Sn.cond _ _
  ·exact .lf _
 ·exact .askD _
 ·exact .askD _
 ·exact .askD _
 ·exact .lf _
theorem Sn.bf(n:Nat)(st:Store)(f:B)(ds:List D):Sn (ql8 n st f ds) (bfun st f ds):=by
 unfold ql8
 split
 ·split
  ·exact((Sn.seq n st _).bind λxs=>.ys _).eq (bm)
  ·exact .lf _
 ·split
  ·rename_i l;refine((Sn.rd n st l).bind λc=>(Sn.lf _).bind λxs=>.ys _).eq ?_;show _=bList st [.loc l];unfold bList seqAt listAt dkeys dicAt;dsimp only
   cases st[l]? with
   |none=>rfl
   |some c=>cases c<;>rfl
  ·exact .lf _
 ·split
  ·exact((Sn.seq n st _).bind λxs=>.ys _).eq (bm)
  ·exact .lf _
 ·split
  ·rename_i i j;refine((Sn.askB _).bind λk=>.ys _).eq ?_;show some _=some _
   by_cases h:j<i<;>simp[h]
  ·exact .no _
 ·exact .askD _
structure SnR (r:RT) (r':R):Prop where
 rl:r.rl=r'
 ev:∀τ st e,Sn (r.ev τ st e) (r'.ev τ st e)
 tst:∀τ st e,Sn (r.tst τ st e) (r'.tst τ st e)
 ex:∀τ st e,Sn (r.ex τ st e) (r'.ex τ st e)
 call:∀f ds st,Sn (r.call f ds st) (r'.call f ds st)
theorem qxj{f:Store->E->TM (D×Store)}{j:Store->E->Option (D×Store)}(h:∀st e,Sn (f st e) (j st e)):∀(es:List E) (st:Store),Sn (evsT f es st) (evs j es st)
 |[],st=>.ys _
 |e::es,st=>(h st e).bind λp=>(qxj h es p.2).bind λq=>.ys _
theorem qwu{it:Src}{f:Sl->Store->D->TM (Out×Store)}{q:Sl->Store->D->Option (Out×Store)}(h:∀τ st d,Sn (f τ st d) (q τ st d)):∀(k i:Nat) (τ:Sl) (st:Store),Sn (qc1 it f k i τ st) (loop it q k i τ st)
 |0,_,_,_=>.no _
 |k+1,i,τ,st=>by
  unfold loop qc1;refine(Sn.lf _).bind λo=>?_
  cases o with
  |none=>exact .ys _
  |some d=>
   refine(h τ st d).bind λp=>?_;obtain⟨o,s⟩:=p
   cases o with
   |nx j=>exact qwu h k _ _ _
   |ct j=>exact qwu h k _ _ _
   |bk j=>exact .ys _
   |rt v=>exact .ys _
theorem qyu{it:Src}{f:Sl->Store->D->TM (Option D×Sl×Store)}{q:Sl->Store->D->Option (Option D×Sl×Store)}(h:∀τ st d,Sn (f τ st d) (q τ st d)):∀(k i:Nat) (j:List D) (τ:Sl) (st:Store),Sn (qy0 it f k i j τ st) (loopC it q k i j τ st)
 |0,_,_,_,_=>.no _
 |k+1,i,j,τ,st=>by
  unfold loopC qy0;refine(Sn.lf _).bind λo=>?_
  cases o with
  |none=>exact Sn.ite (.no _) (.ys _)
  |some d=>exact Sn.ite (.no _) ((h τ st d).bind λp=>qyu h k _ _ _ _)
theorem qdh{f:Sl->Store->S->TM (Out×Store)}{j:Sl->Store->S->Option (Out×Store)}(h:∀τ st s,Sn (f τ st s) (j τ st s)):∀(ss:List S) (τ:Sl) (st:Store),Sn (exsT f ss τ st) (exs j ss τ st)
 |[],_,_=>.ys _
 |s::ss,τ,st=>by
  unfold exs exsT;refine(h τ st s).bind λp=>?_;obtain⟨o,q⟩:=p
  cases o with
  |nx z=>exact qdh h ss _ _
  |rt _=>exact .ys _
  |bk _=>exact .ys _
  |ct _=>exact .ys _
section
variable {n:Nat}{r:RT}{r':R}(h:SnR r r')
include h
theorem qgi(τ:Sl)(st:Store)(e:E):Sn (srcT n r τ st e) (src r' τ st e):=by
 cases e with
 |rng1 a=>
  refine(h.ev τ st a).bind λp=>?_;obtain⟨d,s⟩:=p
  cases d with
  |int n=>exact Sn.ite (.no _) (.ys _)
  |_=>exact .no _
 |rng2 a b=>exact .no _
 |zip a b=>exact(h.ev τ st a).bind λp=>(h.ev τ _ b).bind λq=>.lf _
 |_=>
  refine(h.ev τ st _).bind λp=>?_;obtain⟨d,s⟩:=p
  cases d with
  |tup n=>exact .ys _
  |str z=>exact .no _
  |_=>exact(Sn.seq n s _).map _
theorem qcl(τ:Sl)(st:Store)(e:Option E):Sn (qit r τ st e) (part r' τ st e):=by
 cases e with
 |none=>exact .ys _
 |some e=>
  refine(h.ev τ st e).bind λp=>?_;obtain⟨d,s⟩:=p
  cases d with
  |int n=>exact .ys _
  |_=>exact .no _
theorem qhe(t:T)(test:Option E)(elt:E)(τ:Sl)(st:Store)(d:D):Sn (turnT r t test elt τ st d) (turnC r' t test elt τ st d):=(Sn.lf _).bind λj=>by
 cases test with
 |none=>exact(h.ev _ _ _).map _
 |some c=>exact(h.tst _ _ _).bind λb=>Sn.ite ((h.ev _ _ _).map _) (.ys _)
omit h in
theorem ql3(p:D×Store)(k:D)(st:Store){α:Type}{f:Option D->TM α}{g:Option D->Option α}(j:∀o,Sn (f o) (g o)):Sn ((dgT n p k st).bind f) (match p.1 with
  |.loc l=>(dicAt st l).bind λkvs=>if isKey k then g (dget kvs k) else none
  |_=>none):=by
 obtain⟨d,s⟩:=p
 cases d with
 |loc l=>
  refine(((Sn.dc n st l).bind λkvs=>Sn.ite (c:=isKey k=true) (Sn.askQ (dget kvs k)) (.no none)).bind j).eq ?_;dsimp only
  cases dicAt st l with
  |none=>rfl
  |some kvs=>
   show Option.bind (if isKey k=true then some (dget kvs k) else none) g=if isKey k=true then g (dget kvs k) else none
   by_cases e:isKey k=true
   ·rw[Zt e,Zt e]; rfl
   ·rw[Zs e,Zs e]; rfl
 |_=>exact λt K e=>e.elim
theorem qb5(τ:Sl)(st:Store)(e:E):Sn (qb6 n r τ st e) (stepEv r' τ st e):=by
 cases e with
 |var i=>exact .lf _
 |lit d=>exact .ys _
 |glo x d=>exact .ys _
 |bin z a b=>exact(h.ev τ st a).bind λp=>(h.ev τ _ b).bind λq=>.bin _ _ _ _ _
 |neg a=>exact(h.ev τ st a).bind λp=>.lf _
 |not a=>exact(h.ev τ st a).bind λp=>.lf _
 |cmp z a b=>exact(h.ev τ st a).bind λp=>(h.ev τ _ b).bind λq=>(Sn.cmp _ _ _ _).map _
 |cmp2 z J a b c=>exact(h.ev τ st a).bind λp=>(h.ev τ _ b).bind λq=>(Sn.cmp _ _ _ _).bind λk=>Sn.ite ((h.ev τ _ c).bind λu=>(Sn.cmp _ _ _ _).map _) (.ys _)
 |and a b=>
  refine(h.ev τ st a).bind λp=>?_;obtain⟨d,s⟩:=p
  cases d with
  |bl k=>cases k with
   |true=>exact h.ev τ _ b
   |false=>exact .ys _
  |_=>exact .no _
 |or a b=>
  refine(h.ev τ st a).bind λp=>?_;obtain⟨d,s⟩:=p
  cases d with
  |bl k=>cases k with
   |false=>exact h.ev τ _ b
   |true=>exact .ys _
  |_=>exact .no _
 |ite c a b=>exact(h.tst τ st c).bind λp=>Sn.ite (h.ev τ _ a) (h.ev τ _ b)
 |tup es=>exact(qxj (h.ev τ) es st).bind λp=>Sn.ite (.no _) (.ys _)
 |lst es=>exact(qxj (h.ev τ) es st).bind λp=>Sn.ite (.no _) (.ys _)
 |idx a b=>exact(h.ev τ st a).bind λp=>(h.ev τ _ b).bind λq=>(Sn.askI _).map _
 |sli a lo hi=>exact(h.ev τ st a).bind λp=>(qcl h τ _ lo).bind λl=>(qcl h τ _ hi).bind λu=>.lf _
 |call f es=>exact(qxj (h.ev τ) es st).bind λp=>h.call f _ _
 |bcall f es=>exact(qxj (h.ev τ) es st).bind λp=>.bf _ _ _ _
 |isi a L m=>exact(h.ev τ st a).bind λp=>(Sn.lf _).map _
 |lenset a=>exact(h.ev τ st a).bind λp=>(Sn.askI _).map _
 |gc a=>exact((h.ev τ st a).bind λp=>Sn.gc st p).eq (bm)
 |meth a m es=>exact(h.ev τ st a).bind λp=>Sn.mt _ _ _ _ ((qxj (h.ev τ) es _).bind λq=>.meth _ _ _ _ _)
 |dic es=>
  refine(qxj (h.ev τ) es _).bind λp=>((Sn.wd n p.2 st.length).bind λF=>Sn.lf _).eq ?_
  cases wdicAt p.2 st.length with
  |none=>rfl
  |some F=>cases F<;>rfl
 |didx a b=>exact(h.ev τ st a).bind λp=>(h.ev τ _ b).bind λq=>ql3 p q.1 q.2 λo=>(Sn.lf o).map _
 |din neg a b=>exact(h.ev τ st a).bind λp=>(h.ev τ _ b).bind λq=>ql3 q p.1 q.2 (f:=λo=>ys _) λo=>Sn.ys _
 |gidx x ks ds b=>exact(h.ev τ st b).bind λp=>.lf _
 |gin neg x ks b=>exact(h.ev τ st b).bind λp=>.lf _
 |comp t it j elt sr=>
  show Sn (askE (stepEv r.rl τ st (.comp t it j elt sr)) _) _;rw[h.rl];exact Sn.askE ((qgi h τ st it).bind λp=>(qyu (qhe h t j elt) _ _ _ _ _).map _)
 |attr C a f=>exact(h.ev τ st a).bind λp=>(Sn.ob _ _ _ _).bind λfs=>.lf _
 |mcall C f m a es=>exact(h.ev τ st a).bind λp=>(Sn.ob _ _ _ _).bind λfs=>Sn.ite (.no _) ((qxj (h.ev τ) es _).bind λq=>h.call f _ _)
 |new C f es=>exact(qxj (h.ev τ) es st).bind λp=>(h.call f _ _).bind λq=>Sn.ite (.ys _) (.no _)
 |_=>exact .no _
theorem qal(τ:Sl)(st:Store)(e:E):Sn (qyd n r τ st e) (stepTst r' τ st e):=by
 cases e with
 |not a=>exact(h.tst τ st a).map _
 |and a b=>exact(h.tst τ st a).bind λp=>Sn.ite (h.tst τ _ b) (.ys _)
 |or a b=>exact(h.tst τ st a).bind λp=>Sn.ite (.ys _) (h.tst τ _ b)
 |ite _ _ _=>exact .no _
 |din neg a b=>
  refine((h.ev τ st a).bind λp=>(h.ev τ _ b).bind λq=>ql3 q p.1 q.2 (f:=λo=>ys _) λo=>Sn.ys _).eq ?_;show _=(dinR r' τ st neg a b).bind _;unfold dinR;simp only[Option.bind_assoc];refine congrArg _ (funext λp=>congrArg _ (funext λq=>?_))
  cases q.1 with
  |loc l=>
   dsimp only
   cases dicAt q.2 l with
   |none=>rfl
   |some kvs=>
    simp only[oBs]
    by_cases e:isKey p.1=true
    ·rw[Zt e,Zt e]; rfl
    ·rw[Zs e,Zs e]; rfl
  |_=>rfl
 |gin neg x ks b=>
  refine((h.ev τ st b).bind λp=>Sn.lf _).eq ?_;show _=(ginR r' τ st neg ks b).bind _;unfold ginR;simp only[Option.bind_assoc];refine congrArg _ (funext λp=>?_);cases p.1<;>rfl
 |cmp z a b=>exact(h.ev τ st a).bind λp=>(h.ev τ _ b).bind λq=>(Sn.cmp _ _ _ _).map _
 |cmp2 z j a b c=>exact(h.ev τ st a).bind λp=>(h.ev τ _ b).bind λq=>(Sn.cmp _ _ _ _).bind λk=>Sn.ite ((h.ev τ _ c).bind λu=>(Sn.cmp _ _ _ _).map _) (.ys _)
 |_=>exact(h.ev τ st _).bind λp=>(Sn.truth _ _ _).map _
theorem qve(τ:Sl)(st:Store)(s:S):Sn (qkp n r τ st s) (stepEx r' τ st s):=by
 cases s with
 |set t e=>exact(h.ev τ st e).bind λp=>(Sn.lf _).map _
 |dset a i e=>
  refine(h.ev τ st e).bind λp=>(h.ev τ _ a).bind λq=>(h.ev τ _ i).bind λu=>?_;obtain⟨d,s⟩:=q
  cases d with
  |loc l=>
   refine((Sn.wd n u.2 l).bind λkvs=>Sn.ite (c:=isKey u.1=true) (Sn.cond (decide (kvs.length<lim)) (Out.nx τ,u.2.set l (.dic true (dput kvs u.1 p.1)))) (.no none)).eq ?_;dsimp only;refine congrArg _ (funext λkvs=>?_)
   cases isKey u.1 with
   |true=>rfl
   |false=>rfl
  |_=>exact .no _
 |setA C a f e=>
  refine(h.ev τ st e).bind λp=>(h.ev τ _ a).bind λq=>(Sn.ob n _ _ _).bind λfs=>?_;obtain⟨d,s⟩:=q
  cases d with
  |loc l=>exact Sn.ite (.ys _) (.no _)
  |_=>exact .no _
 |expr e=>exact(h.ev τ st e).map _
 |ret e=>exact(h.ev τ st e).map _
 |ite c a b=>exact(h.tst τ st c).bind λp=>Sn.ite (h.ex τ _ a) (h.ex τ _ b)
 |forr t it body=>
  show Sn (askS (stepEx r.rl τ st (.forr t it body)) _) _;rw[h.rl];exact Sn.askS ((qgi h τ st it).bind λp=>qwu (λτ st d=>(Sn.lf _).bind λj=>h.ex j st body) _ _ _ _)
 |ford t a body=>
  show Sn (askS (stepEx r.rl τ st (.ford t a body)) _) _;rw[h.rl];exact Sn.askS (.no _)
 |_=>exact .no _
end
theorem qiz(c:CF):Le (RL c) λm=>runK c m:=
 ⟨λτ st e x h=>by obtain⟨n,e⟩:=lim1_is h; exact⟨n,λm j=>ev_up e j⟩,λτ st e x h=>by obtain⟨n,e⟩:=lim1_is h; exact⟨n,λm j=>qgc e j⟩,λτ st e x h=>by obtain⟨n,e⟩:=lim1_is h; exact⟨n,λm j=>ql0 e j⟩,λf ds st x h=>⟨0,λm _=>by show(runK c m).call f ds st=_; rw[runK_call]; exact h⟩⟩
theorem qj1(c:CF)(τ:Sl)(st:Store)(e:E)(x:D×Store)(h:stepEv (RL c) τ st e=some x):(RL c).ev τ st e=some x:=by
 obtain⟨n,hn⟩:=qx7 (qiz c) τ st e x h;exact qk4 (n:=n+1) (λ_ _ _ h k=>ev_up h k) (hn n (Qqk _))
theorem rl_tst(c:CF)(τ:Sl)(st:Store)(e:E)(x:Bool×Store)(h:stepTst (RL c) τ st e=some x):(RL c).tst τ st e=some x:=by
 obtain⟨n,hn⟩:=qxf (qiz c) τ st e x h;exact qk4 (n:=n+1) (λ_ _ _ h k=>qgc h k) (hn n (Qqk _))
theorem qiq(c:CF)(τ:Sl)(st:Store)(e:List S)(x:Out×Store)(h:exs (stepEx (RL c)) e τ st=some x):(RL c).ex τ st e=some x:=by
 obtain⟨n,hn⟩:=qvz (qx6 (qiz c)) e τ st x h;exact qk4 (n:=n+1) (λ_ _ _ h k=>ql0 h k) (hn n (Qqk _))
theorem qx9{n:Nat}{c:CT}{c':CF}(h:∀f ds st,Sn (c f ds st) (c' f ds st)):∀k,SnR (runT n (RL c') c k) (RL c')
 |0=>⟨rfl,λ_ _ _=>.no _,λ_ _ _=>.no _,λ_ _ _=>.no _,h⟩
 |k+1=>⟨rfl,λτ st e=>(qb5 (qx9 h k) τ st e).up (qj1 c' τ st e),λτ st e=>(qal (qx9 h k) τ st e).up (rl_tst c' τ st e),λτ st j=>(qdh (qve (qx9 h k)) j τ st).up (qiq c' τ st j),h⟩
theorem qxb{fns:List Fn}{n:Nat}{O:List Nat}{k:Nat}:∀(d f:Nat) (ds:List D) (st:Store),Sn (qvy fns n O k d f ds st) (callD fns (k+d) f ds st)
 |0,f,ds,st=>.no _
 |d+1,f,ds,st=>by
  unfold qvy
  by_cases j:O.contains f=true
  ·rw[Zt j];exact .askC _
  ·rw[Zs j];show Sn _ (stepCall fns (RL (callD fns (k+d))) f ds st);unfold stepCall
   cases hf:fns[f]? with
   |none=>exact .no _
   |some F=>
    refine Sn.ite (((qx9 (λf ds st=>qxb d f ds st) 40).ex _ _ _).bind λp=>?_) (.no _);obtain⟨o,s⟩:=p
    cases o with
    |rt _=>exact .ys _
    |nx _=>exact .ys _
    |bk _=>exact .no _
    |ct _=>exact .no _
theorem qqd{fns:List Fn}{k:Nat}{τ:Sl}{st:Store}{ss:List S}{r:Out×Store}(n:Nat)(O:List Nat)(d:Nat)(P:Prop->Prop)(t:Tp)(j:P (r=r))(h:exsT (qkp n (runT n (RL (callD fns (k+d))) (qvy fns n O k d) 40)) ss τ st t (λa _=>a=r)=P (r=r):=by kernel_rfl):exs (stepEx (RL (callD fns (k+d)))) ss τ st=some r:=by
 rw[<- h]at j;obtain⟨a,q,e,rfl⟩:=qdh (qve (qx9 (λf ds st=>qxb d f ds st) 40)) ss τ st t _ j;exact e
theorem qqm{fns:List Fn}{k:Nat}{τ:Sl}{st:Store}{ss:List S}{r:Out×Store}(n:Nat)(O:List Nat)(d:Nat)(P:Prop->Prop)(t:Tp)(j:P (r=r))(h:exsT (qkp n (runT n (RL (callD fns (k+d))) (qvy fns n O k d) 40)) ss τ st t (λa _=>a=r)=P (r=r):=by kernel_rfl):(RL (callD fns (k+d))).ex τ st ss=some r:=qiq _ _ _ _ _ (qqd n O d P t j h)
theorem qzo{fns:List Fn}{k:Nat}{τ:Sl}{st:Store}{e:E}{r:D×Store}(n:Nat)(O:List Nat)(d:Nat)(P:Prop->Prop)(t:Tp)(j:P (r=r))(h:(runT n (RL (callD fns (k+d))) (qvy fns n O k d) 40).ev τ st e t (λa _=>a=r)=P (r=r):=by kernel_rfl):(RL (callD fns (k+d))).ev τ st e=some r:=by
 rw[<- h]at j;obtain⟨a,q,e,rfl⟩:=(qx9 (λf ds st=>qxb d f ds st) 40).ev τ st e t _ j;exact e
theorem qzg{fns:List Fn}{k:Nat}{τ:Sl}{st:Store}{e:E}{r:Bool×Store}(n:Nat)(O:List Nat)(d:Nat)(P:Prop->Prop)(t:Tp)(j:P (r=r))(h:(runT n (RL (callD fns (k+d))) (qvy fns n O k d) 40).tst τ st e t (λa _=>a=r)=P (r=r):=by kernel_rfl):(RL (callD fns (k+d))).tst τ st e=some r:=by
 rw[<- h]at j;obtain⟨a,q,e,rfl⟩:=(qx9 (λf ds st=>qxb d f ds st) 40).tst τ st e t _ j;exact e
theorem qzz{fns:List Fn}{k f:Nat}{ds:List D}{st:Store}{r:D×Store}(n:Nat)(O:List Nat)(d:Nat)(P:Prop->Prop)(t:Tp)(j:P (r=r))(h:qvy fns n O k d f ds st t (λa _=>a=r)=P (r=r):=by kernel_rfl):callD fns (k+d) f ds st=some r:=by
 rw[<- h]at j;obtain⟨a,q,e,rfl⟩:=qxb d f ds st t _ j;exact e
theorem qva{fns:List Fn}{k f:Nat}{ds:List D}{st:Store}{r:D×Store}(n:Nat)(O:List Nat)(d:Nat)(q:D×Store)(P:Prop->Prop)(t:Tp)(j:P (q=r))(h:qvy fns n O k d f ds st t (λa _=>a=r)=P (q=r):=by kernel_rfl):callD fns (k+d) f ds st=some r:=by
 rw[<- h]at j;obtain⟨a,z,e,rfl⟩:=qxb d f ds st t _ j;exact e
end M
end
section
namespace MS
open PySem PySem.Spec PyProof.Rows L2
theorem qxn:fillsNumberSlot (.type "tuple") "mul" = pure false:=
 PySem.fillsNumberSlot_seq (id:="tuple.__mul__") (r:=some (.builtin "tuple.__rmul__")) F.slot_tuple_mul.lookup (by decide +kernel) F.slot_tuple_rmul.lookup (by decide +kernel)
theorem qvm:seqRepeat? (.type "tuple")=pure (some (.builtin "tuple.__mul__")):=by
 unfold seqRepeat?;rw[PySem.seqSlot_of (T:="tuple") (name:="__mul__") (id:="tuple.__mul__") F.slot_tuple_mul.lookup (by decide +kernel),PySem.seqSlot_of (T:="tuple") (name:="__rmul__") (id:="tuple.__rmul__") F.slot_tuple_rmul.lookup (by decide +kernel)]
 rfl
theorem qj4(a:Int)(t:Tok)(l:Addr)(items:Array Value)(n:Nat)(j:Option Addr)(sl:Array (Option Value)):
  Meets (Zz.«int.__rmul__» ⟨[.int a t,.ref l],[]⟩) (λ_ R s=>s.heap.get? l=some { cls:=.type "tuple",dict:=j,data:=.seq items n,slots:=sl }/\R (.ok (.ret Value.notImplemented)) s):=
 .of_wp λprog w A R s h=>by obtain⟨q,g,d,tk,os⟩:=s; obtain⟨z,h⟩:=h; wp_walk; exact⟨_,rfl,h⟩
theorem qjt(l:Addr)(items:Array Value)(n:Nat)(q:Option Addr)(sl:Array (Option Value))(x:Int)(u:Tok)(j:¬ (decide (x < -(2 ^ 63))||decide (x >= 2 ^ 63))=true)(J:(items.isEmpty||x==1)=true):
  Meets (Zz.«tuple.__mul__» ⟨[.ref l,.int x u],[]⟩) (λ_ R s=>s.heap.get? l=some { cls:=.type "tuple",dict:=q,data:=.seq items n,slots:=sl }/\R (.ok (.ret (Value.ref l))) s):=
 .of_wp λprog w A R s h=>by
  obtain⟨z,g,d,tk,os⟩:=s; obtain⟨F,h⟩:=h
  wp_walk
  simp only[Zs j]
  wp_walk
  exact⟨_,rfl,h⟩
theorem qju(l:Addr)(items:Array Value)(n:Nat)(q:Option Addr)(sl:Array (Option Value))(x:Int)(u:Tok)(j:¬ (decide (x < -(2 ^ 63))||decide (x >= 2 ^ 63))=true)(L:¬ (items.isEmpty||x==1)=true)(J:(decide (x<=0)||items.isEmpty)=true):
  Meets (Zz.«tuple.__mul__» ⟨[.ref l,.int x u],[]⟩) (λ_ R s=>s.heap.get? l=some { cls:=.type "tuple",dict:=q,data:=.seq items n,slots:=sl }/\R (.ok (.ret (Value.ref s.heap.objs.size))) { s with heap:=s.heap.push { cls:=.type "tuple",data:=.seq #[] } }):=
 .of_wp λprog w A R s h=>by
  obtain⟨z,g,d,tk,os⟩:=s; obtain⟨F,h⟩:=h
  wp_walk
  simp only[Zs j]
  wp_walk
  exact⟨_,rfl,h⟩
theorem qj0(l:Addr)(items:Array Value)(n:Nat)(F:Option Addr)(sl:Array (Option Value))(x:Int)(u:Tok)(z:¬ (decide (x < -(2 ^ 63))||decide (x >= 2 ^ 63))=true)(Y:¬ (items.isEmpty||x==1)=true)(U:¬ (decide (x<=0)||items.isEmpty)=true)
  (q:¬ ((items.size:Int)*x > (2 ^ 63 - 1) / 8)) (O:¬ Builtin.Tuple.tupleTooMany ((items.size:Int)*x)=true) (M:(List.foldl (λj x2=>j++x2) #[] (List.replicate x.toNat items)).size<=sizeLine) :
  Meets (Zz.«tuple.__mul__» ⟨[.ref l,.int x u],[]⟩) (λ_ R s=>s.heap.get? l=some { cls:=.type "tuple",dict:=F,data:=.seq items n,slots:=sl }/\R (.ok (.ret (Value.ref s.heap.objs.size))) { s with heap:=s.heap.push { cls:=.type "tuple",data:=.seq (List.foldl (λj x2=>j++x2) #[] (List.replicate x.toNat items)) } }):=
 .of_wp λprog w A R s h=>by
  obtain⟨J,g,d,tk,os⟩:=s; obtain⟨L,h⟩:=h
  wp_walk
  simp only[Zs z]
  wp_walk
  simp only[Zs q]
  wp_walk
  exact⟨_,rfl,h⟩
noncomputable def rRepT(K:Qqq):R2:=λx y H Q=>∃l k xs,x=.ref l/\y=.int k/\SqT K H l xs/\-(2 ^ 62)<=k/\k<2 ^ 62/\xs.length*k.toNat<=sizeLine/\
 (∀ys,ys=(List.replicate k.toNat xs).flatten->(ys=xs->Q (.ref l) H)/\∀p,H p=none->Q (.ref p) (upd H p (.tup ys)))
theorem qi0{X:Cx}:OpR X (Q3 .Mult) (rRepT X.K):=by
 intro pins s σ H x y v u Q I rx ry h;obtain⟨l,k,xs,rfl,rfl,hq,k1,k2,hz,q⟩:=h;cases rx;obtain⟨t,rfl⟩:=ry;obtain⟨j,r,hp,a1⟩:=I.tuple hq;obtain⟨⟨cls,M,a0,sl⟩,J,hc,n,hd⟩:=id hp;simp only at hc hd;subst hc hd;have hl:=r.length;obtain⟨qs,qn⟩:=q _ rfl;have f0:∀m:Nat,List.foldl (λx1 x2=>x1++x2) #[] (List.replicate m j.toArray)=(List.replicate m j).flatten.toArray:=λm=>by
  have:=foldl_rep j m [];rw[List.nil_append]at this;exact this
 have Z:¬ (decide (k < -(2 ^ 63))||decide (k >= 2 ^ 63))=true:=by simp; omega
 refine wpAny_binaryOp_repeat_ref (T:="tuple") (U:="int") (by decide) ⟨_,J,rfl⟩ (λs'=>typeIs_int s' k t) qxn F.fills_int_mul F.slot_int_rmul qvm F.slot_int_index.lookup
  (Q0 F.slot_int_rmul (typeIs_int s k t) F.entry_int_rmul (F.args_int_rmul_2 _ _) (qj4 k t l j.toArray n M sl) ⟨J,rfl,⟨_,J,rfl⟩,?_⟩)
 by_cases h1:(j.toArray.isEmpty||k==1)=true
 ·refine Q0 F.slot_tuple_mul ⟨_,J,rfl⟩ F.entry_tuple_mul (F.args_tuple_mul_2 _ _) (qjt l j.toArray n M sl k t Z h1) ⟨J,?_⟩;refine⟨.ref l,H,I,rfl,qs ?_⟩;rw[Qxk]at h1;rcases h1 with z|z
  ·have e1:j=[]:=by simpa using z
   have e2:xs=[]:=Qzr.mp (by rw[hl,e1]; rfl);rw[e2];simp
  ·have e1:k=1:=by simpa using z
   rw[e1];simp
 ·have Y:j≠[]:=λz=>h1 (by rw[z]; rfl)
  by_cases h2:(decide (k<=0)||j.toArray.isEmpty)=true
  ·refine Q0 F.slot_tuple_mul ⟨_,J,rfl⟩ F.entry_tuple_mul (F.args_tuple_mul_2 _ _) (qju l j.toArray n M sl k t Z h1 h2) ⟨J,?_⟩;have hk:k<=0:=by
    rw[Qxk]at h2;rcases h2 with z|z
    ·simpa using z
    ·exact absurd (by simpa using z) Y
   have e0:k.toNat=0:=by omega
   refine⟨.ref _,_,I.laid (a:=s.heap.objs.size) (o:=.tup (List.replicate k.toNat xs).flatten) (t':=s.toks) (λ_ _ e=>Qqz _ e) (Qqk _) ?_,rfl,qn _ I.fresh⟩;rw[e0];exact⟨Qz1 _,[],.nil,IsTup.new s.heap _⟩
  ·have hk:0<k:=by
    simp at h2; omega
   have L:((j.toArray.size:Nat):Int)*k=((j.length*k.toNat:Nat):Int):=by
    rw[Qqj,Int.natCast_mul]
    congr 1
    omega
   have O:j.length*k.toNat<=sizeLine:=by rw[<- hl]; exact hz
   have a2:(sizeLine:Nat)<2 ^ 60:=by rw[Q2]; decide
   refine Q0 F.slot_tuple_mul ⟨_,J,rfl⟩ F.entry_tuple_mul (F.args_tuple_mul_2 _ _) (qj0 l j.toArray n M sl k t Z h1 h2 ?_ ?_ ?_) ⟨J,?_⟩
   ·rw[L]; omega
   ·unfold Builtin.Tuple.tupleTooMany;rw[L,decide_eq_true_eq];omega
   ·rw[f0,Qqj,len_rep,Nat.mul_comm]; exact O
   ·refine⟨.ref _,_,I.laid (a:=s.heap.objs.size) (o:=.tup (List.replicate k.toNat xs).flatten) (t':=s.toks) (λ_ _ e=>Qqz _ e) (Qqk _) ?_,rfl,qn _ I.fresh⟩;rw[f0];exact⟨by rw[len_rep,Nat.mul_comm]; exact hz,_,r.rep k.toNat,IsTup.new s.heap _⟩
section
variable {prog:Program}{w:Qk}{A:Qw}{E:Value->Qz->Prop}{s:Qz}
theorem qq3{t sl:Addr}{items:Array Value}{vl M:Value}{lo z:Option Int}{Q:Value->Qz->Prop}(q:IsTup s.heap t items)(U:s.heap.IsSliceOf sl vl M .none)(pl:IsPart vl lo)(Y:IsPart M z)
  (O:HT.sIx items.size 0 lo=0/\HT.sIx items.size items.size z=items.size) (h:Q (.ref t) s):wpAny (model prog w) A (Q9 (.ref t) (.ref sl)) Q E s:=by
 obtain⟨os,F,J,Z⟩:=id U;have L:s.TypeIs (.ref sl) "slice":=⟨os,F,J⟩
 unfold Q9
 try with_reducible refine Q4 ?_
 first|refine Qq (Qj ?_)|skip
 refine Qq (wpAny_sequenceKey q.typeIs (by decide) ?_)
 refine Qq (Qm (name:=Str.ofString "__getitem__") q.typeIs PyProof.Rows.slot_tuple_getitem
  (Qs PyProof.Rows.slot_tuple_getitem q.typeIs entry_tuple_getitem ?_ (args_tuple_getitem _ _)))
 show wpAny _ _ (Builtin.Tuple.tupleItemsOf (.ref t) >>= _) _ _ s;refine Qq (tupleItemsOf_ q ?_);refine Qq (wpAny_typeOf L ?_);rw[Zt (by decide)];refine Qq (HT.sliceApplied_gen U pl Y ?_);have j:(((HT.sIx items.size 0 lo:Nat):Int)==0&&(1:Int)==1&&(HT.sIx items.size items.size z - HT.sIx items.size 0 lo)==items.size)=true:=by
  rw[O.1,O.2];simp
 show wpAny _ _ (if (((HT.sIx items.size 0 lo:Nat):Int)==0&&(1:Int)==1&&(HT.sIx items.size items.size z - HT.sIx items.size 0 lo)==items.size)=true then _ else _) _ _ s;rw[Zt j];refine Qq (m:=Builtin.Tuple.tupleIsExact _) ?_;unfold Builtin.Tuple.tupleIsExact;refine Qq (wpAny_typeOf q.typeIs (Qj ?_));rw[Zt (by decide)]
 first
  |exact Qq (Zh (Qj ⟨_,rfl,Qj h⟩))
  |exact Qq (Zh (Qq (Qj (Qj ⟨_,rfl,Qj h⟩))))
  |exact Qq (Qq (Zh (Qj (Qj ⟨_,rfl,Qj h⟩))))
end
end MS
end
section
namespace MS
open PySem PySem.Spec PyProof.Rows L2
open M (D Cell Store Sl)
def SqF(K:Qqq)(H:Hp)(a:Addr)(xs:List V):Prop:=
 (∃o,H a=some (.frz o (.lst xs)))\/∃(o:Obj) (its:Array Value) (n:Nat),K.lookup a=some o/\o.cls=.type "list"/\o.dict=none/\o.data=.seq its n/\its.size<=sizeLine/\Vals xs its.toList
mutual
noncomputable def IsD(K:Qqq)(m:List Addr)(H:Hp):D->V->Prop
 |.non,v=>v=.non
 |.bl b,v=>v=.bl b
 |.int i,v=>v=.int i
 |.str s,v=>v=.str s
 |.tup ds,v=>∃a xs,v=.ref a/\SqT K H a xs/\IsDs K m H ds xs
 |.lst ds,v=>∃a xs,v=.ref a/\SqF K H a xs/\IsDs K m H ds xs
 |.loc l,v=>∃a,m[l]?=some a/\v=.ref a
noncomputable def IsDs(K:Qqq)(m:List Addr)(H:Hp):List D->List V->Prop
 |[],xs=>xs=[]
 |d::ds,xs=>∃x r,xs=x::r/\IsD K m H d x/\IsDs K m H ds r
end
def Sub(m m':List Addr):Prop:=∀(l:Nat) (a:Addr),m[l]?=some a->m'[l]?=some a
noncomputable def Sq:HO->Prop
 |.lst _=>True
 |.tup _=>True
 |_=>False
structure Tr (H H':Hp):Prop where
 tup:∀b xs,H b=some (.tup xs)->H' b=some (.tup xs)
 frz:∀b o u,H b=some (.frz o u)->H' b=some (.frz o u)
structure Tw (H H':Hp):Prop where
 tup:∀b xs,H b=some (.tup xs)->H' b=some (.tup xs)
 frz:∀b o u,Sq u->H b=some (.frz o u)->H' b=some (.frz o u)
theorem Tr.w{H H':Hp}(t:Tr H H'):Tw H H':=⟨t.tup,λb o u _=>t.frz b o u⟩
theorem Sub.refl(m:List Addr):Sub m m:=λ_ _ h=>h
theorem Sub.trans{m j m2:List Addr}(a:Sub m j)(b:Sub j m2):Sub m m2:=λl x h=>b l x (a l x h)
theorem Sub.app(m r:List Addr):Sub m (m++r):=λl a h=>by
 rw[Qqt (Qqx.mp h).1]; exact h
theorem Tr.refl(H:Hp):Tr H H:=⟨λ_ _ h=>h,λ_ _ _ h=>h⟩
theorem Tr.trans{H j H2:Hp}(a:Tr H j)(b:Tr j H2):Tr H H2:=⟨λc xs h=>b.tup c xs (a.tup c xs h),λc o u h=>b.frz c o u (a.frz c o u h)⟩
theorem Tr.of_same{H H':Hp}(h:Same H H'):Tr H H':=⟨λb xs e=>h b _ e,λb o u e=>h b _ e⟩
theorem qzw{H:Hp}{p:Addr}{o:HO}(j:H p=none):Same H (upd H p o):=λb u e=>by
 rw[qzq (qzf e j)]; exact e
theorem Tr.put{H:Hp}{p:Addr}{xs ys:List V}(j:H p=some (.lst xs)):Tr H (upd H p (.lst ys)):=
 ⟨λb zs e=>by rw[qzq (qzp e j (by intro z; cases z))]; exact e,λb o u e=>by rw[qzq (qzp e j (by intro z; cases z))]; exact e⟩
theorem Tw.sqT{K:Qqq}{H H':Hp}{a:Addr}{xs:List V}(t:Tw H H')(h:SqT K H a xs):SqT K H' a xs:=by
 rcases h with (h|⟨o,h⟩)|h
 ·exact .inl (.inl (t.tup _ _ h))
 ·exact .inl (.inr ⟨o,t.frz _ _ _ trivial h⟩)
 ·exact .inr h
theorem SqF.sq{K:Qqq}{H:Hp}{a:Addr}{xs:List V}(h:SqF K H a xs):SqL K H a xs:=by
 rcases h with h|h
 ·exact .inl (.inr h)
 ·exact .inr h
theorem Tw.sqF{K:Qqq}{H H':Hp}{a:Addr}{xs:List V}(t:Tw H H')(h:SqF K H a xs):SqF K H' a xs:=by
 rcases h with⟨o,h⟩|h
 ·exact .inl ⟨o,t.frz _ _ _ trivial h⟩
 ·exact .inr h
theorem Tr.sqT{K:Qqq}{H H':Hp}{a:Addr}{xs:List V}(t:Tr H H')(h:SqT K H a xs):SqT K H' a xs:=t.w.sqT h
theorem Tr.sqF{K:Qqq}{H H':Hp}{a:Addr}{xs:List V}(t:Tr H H')(h:SqF K H a xs):SqF K H' a xs:=t.w.sqF h
section
variable {K:Qqq}{m m':List Addr}{H H':Hp}
mutual
theorem qqw(z:Sub m m')(j:Tw H H'):∀(d:D) (v:V),IsD K m H d v->IsD K m' H' d v
 |.non,_,h=>h
 |.bl _,_,h=>h
 |.int _,_,h=>h
 |.str _,_,h=>h
 |.tup ds,_,h=>by
  unfold IsD at h ⊢;obtain⟨a,xs,e,q,r⟩:=h;exact⟨a,xs,e,j.sqT q,qz3 z j ds xs r⟩
 |.lst ds,_,h=>by
  unfold IsD at h ⊢;obtain⟨a,xs,e,q,r⟩:=h;exact⟨a,xs,e,j.sqF q,qz3 z j ds xs r⟩
 |.loc l,_,h=>by
  unfold IsD at h ⊢;obtain⟨a,e,q⟩:=h;exact⟨a,z l a e,q⟩
theorem qz3(z:Sub m m')(j:Tw H H'):∀(ds:List D) (xs:List V),IsDs K m H ds xs->IsDs K m' H' ds xs
 |[],_,h=>h
 |d::ds,_,h=>by
  unfold IsDs at h ⊢;obtain⟨x,r,e,q,t⟩:=h;exact⟨x,r,e,qqw z j d x q,qz3 z j ds r t⟩
end
theorem qzj(q:Sub m m')(j:Tr H H')(d:D)(v:V)(h:IsD K m H d v):IsD K m' H' d v:=qqw q j.w d v h
theorem qzy(q:Sub m m')(j:Tr H H')(ds:List D)(xs:List V)(h:IsDs K m H ds xs):IsDs K m' H' ds xs:=qz3 q j.w ds xs h
theorem IsD.int{i:Int}{v:V}(h:IsD K m H (.int i) v):v=.int i:=by unfold IsD at h; exact h
theorem IsD.bl{i:Bool}{v:V}(h:IsD K m H (.bl i) v):v=.bl i:=by unfold IsD at h; exact h
theorem IsD.str{i:Str}{v:V}(h:IsD K m H (.str i) v):v=.str i:=by unfold IsD at h; exact h
theorem IsD.non{v:V}(h:IsD K m H .non v):v=.non:=by unfold IsD at h; exact h
theorem IsD.tup{ds:List D}{v:V}(h:IsD K m H (.tup ds) v):∃a xs,v=.ref a/\SqT K H a xs/\IsDs K m H ds xs:=by unfold IsD at h; exact h
theorem IsD.lst{ds:List D}{v:V}(h:IsD K m H (.lst ds) v):∃a xs,v=.ref a/\SqF K H a xs/\IsDs K m H ds xs:=by unfold IsD at h; exact h
theorem IsD.loc{l:Nat}{v:V}(h:IsD K m H (.loc l) v):∃a,m[l]?=some a/\v=.ref a:=by unfold IsD at h; exact h
theorem mkInt(i:Int):IsD K m H (.int i) (.int i):=by unfold IsD; rfl
theorem mkBl(i:Bool):IsD K m H (.bl i) (.bl i):=by unfold IsD; rfl
theorem mkStr(i:Str):IsD K m H (.str i) (.str i):=by unfold IsD; rfl
theorem qvt:IsD K m H .non .non:=by unfold IsD; rfl
theorem qq5{ds:List D}{a:Addr}{xs:List V}(h:SqT K H a xs)(q:IsDs K m H ds xs):IsD K m H (.tup ds) (.ref a):=by unfold IsD; exact⟨a,xs,rfl,h,q⟩
theorem qa4{ds:List D}{a:Addr}{xs:List V}(h:SqF K H a xs)(q:IsDs K m H ds xs):IsD K m H (.lst ds) (.ref a):=by unfold IsD; exact⟨a,xs,rfl,h,q⟩
theorem qfi{l:Nat}{a:Addr}(h:m[l]?=some a):IsD K m H (.loc l) (.ref a):=by unfold IsD; exact⟨a,h,rfl⟩
theorem IsDs.nil{xs:List V}(h:IsDs K m H [] xs):xs=[]:=by unfold IsDs at h; exact h
theorem IsDs.cons{d:D}{ds:List D}{xs:List V}(h:IsDs K m H (d::ds) xs):∃x r,xs=x::r/\IsD K m H d x/\IsDs K m H ds r:=by unfold IsDs at h; exact h
theorem qqq:IsDs K m H [] []:=by unfold IsDs; rfl
theorem qzi{d:D}{ds:List D}{x:V}{r:List V}(h:IsD K m H d x)(t:IsDs K m H ds r):IsDs K m H (d::ds) (x::r):=by unfold IsDs; exact⟨x,r,rfl,h,t⟩
theorem IsDs.one{d:D}{xs:List V}(h:IsDs K m H [d] xs):∃x,xs=[x]/\IsD K m H d x:=by
 obtain⟨x,r,rfl,q,t⟩:=h.cons;rw[t.nil];exact⟨x,rfl,q⟩
theorem IsDs.two{d e:D}{xs:List V}(h:IsDs K m H [d,e] xs):∃x y,xs=[x,y]/\IsD K m H d x/\IsD K m H e y:=by
 obtain⟨x,r,rfl,q,t⟩:=h.cons;obtain⟨y,rfl,j⟩:=t.one;exact⟨x,y,rfl,q,j⟩
theorem IsDs.length:∀{ds:List D}{xs:List V},IsDs K m H ds xs->ds.length=xs.length
 |[],_,h=>by rw[h.nil]; rfl
 |_::_,_,h=>by
  obtain⟨x,r,rfl,_,t⟩:=h.cons;rw[Qqe,Qqe,t.length]
theorem IsDs.get:∀{ds:List D}{xs:List V}{i:Nat}{d:D},IsDs K m H ds xs->ds[i]?=some d->∃x,xs[i]?=some x/\IsD K m H d x
 |[],_,_,_,_,e=>by simp at e
 |d::ds,_,0,d',h,e=>by
  obtain⟨x,r,rfl,q,_⟩:=h.cons;have F:d=d':=by simpa using e
  subst F;exact⟨x,rfl,q⟩
 |d::ds,_,i+1,d',h,e=>by
  obtain⟨x,r,rfl,_,t⟩:=h.cons;obtain⟨y,z,j⟩:=t.get (i:=i) (d:=d') (by simpa using e);exact⟨y,by simpa using z,j⟩
theorem IsDs.back:∀{ds:List D}{xs:List V}{i:Nat}{x:V},IsDs K m H ds xs->xs[i]?=some x->∃d,ds[i]?=some d/\IsD K m H d x:=λ{ds xs i x} h e=>by
 have F:=h.length;have hi:=(Qqx.mp e).1;have z:ds[i]?=some (ds[i]'(by omega)):=by simp
 obtain⟨y,j,q⟩:=h.get z;rw[e]at j;cases j;exact⟨_,z,q⟩
theorem IsDs.append:∀{ds es:List D}{xs ys:List V},IsDs K m H ds xs->IsDs K m H es ys->IsDs K m H (ds++es) (xs++ys)
 |[],_,_,_,h,q=>by rw[h.nil]; exact q
 |_::_,_,_,_,h,q=>by
  obtain⟨x,r,rfl,a,t⟩:=h.cons;exact qzi a (t.append q)
theorem IsDs.set:∀{ds:List D}{xs:List V}(i:Nat){d:D}{x:V},IsDs K m H ds xs->IsD K m H d x->IsDs K m H (ds.set i d) (xs.set i x)
 |[],_,_,_,_,h,_=>by rw[h.nil]; exact qqq
 |_::_,_,0,_,_,h,q=>by
  obtain⟨x,r,rfl,a,t⟩:=h.cons;exact qzi q t
 |_::_,_,i+1,_,_,h,q=>by
  obtain⟨x,r,rfl,a,t⟩:=h.cons;exact qzi a (t.set i q)
end
noncomputable def keyOf:D->Option Key
 |.int i=>some (.inl i)
 |.str z=>some (.inr z)
 |_=>none
noncomputable def IsKV(K:Qqq)(m:List Addr)(H:Hp):List (D×D)->List (Key×V)->Prop
 |[],xs=>xs=[]
 |p::r,xs=>∃k v xr,xs=(k,v)::xr/\keyOf p.1=some k/\IsD K m H p.2 v/\IsKV K m H r xr
theorem qqk{K:Qqq}{m q:List Addr}{H H':Hp}(F:Sub m q)(z:Tw H H'):∀(kvs:List (D×D)) (xs:List (Key×V)),IsKV K m H kvs xs->IsKV K q H' kvs xs
 |[],_,h=>h
 |p::r,_,⟨k,v,j,e,M,J,L⟩=>⟨k,v,j,e,M,qqw F z _ _ J,qqk F z r j L⟩
theorem qje{K:Qqq}{m j:List Addr}{H H':Hp}(z:Sub m j)(q:Tr H H')(kvs:List (D×D))(xs:List (Key×V))(h:IsKV K m H kvs xs):IsKV K j H' kvs xs:=qqk z q.w kvs xs h
theorem IsKV.length{K:Qqq}{m:List Addr}{H:Hp}:∀{kvs:List (D×D)}{xs:List (Key×V)},IsKV K m H kvs xs->kvs.length=xs.length
 |[],_,h=>by rw[show _=[] from h]; rfl
 |p::r,_,⟨k,v,q,e,_,_,j⟩=>by rw[e,Qqe,Qqe,j.length]
theorem qdi{a b:D}{k j:Key}(F:keyOf a=some k)(q:keyOf b=some j):M.eqT a b=decide (k=j):=by
 cases a with
 |int i=>
  cases F
  cases b with
  |int J=>cases q; rw[M.eqT]; by_cases h:i=J<;>simp[h]
  |str z=>cases q; simp[M.eqT]
  |_=>cases q
 |str z=>
  cases F
  cases b with
  |int J=>cases q; simp[M.eqT]
  |str L=>cases q; rw[M.eqT]; by_cases h:z=L<;>simp[h]
  |_=>cases q
 |_=>cases F
theorem qq9{a:D}(h:M.isKey a=true):∃k,keyOf a=some k:=by
 cases a with
 |int i=>exact⟨_,rfl⟩
 |str z=>exact⟨_,rfl⟩
 |_=>cases h
theorem qlv{K:Qqq}{m:List Addr}{H:Hp}{a:D}{k:Key}{v:V}(h:keyOf a=some k)(i:IsD K m H a v):v=kV k:=by
 cases a with
 |int j=>cases h; exact i.int
 |str z=>cases h; exact i.str
 |_=>cases h
theorem IsKV.get{K:Qqq}{m:List Addr}{H:Hp}{a:D}{j:Key}(z:keyOf a=some j):∀{kvs:List (D×D)}{xs:List (Key×V)},IsKV K m H kvs xs->(M.dget kvs a=none/\valV xs j=none)\/∃d v,M.dget kvs a=some d/\valV xs j=some v/\IsD K m H d v
 |[],_,h=>by rw[show _=[] from h]; exact .inl ⟨rfl,rfl⟩
 |p::r,_,⟨k,v,U,e,L,F,J⟩=>by
  subst e;have eq:=qdi L z
  by_cases q:k=j
  ·refine .inr ⟨p.2,v,?_,qxp (p:=(k,v)) q,F⟩;rw[Zp q]at eq;simp[M.dget,Qzx,eq]
  ·rw[Zr q]at eq;have O:M.dget (p::r) a=M.dget r a:=by simp[M.dget,Qzx,eq]
   rw[O,qxr (p:=(k,v)) q];exact J.get z
theorem IsKV.any{K:Qqq}{m:List Addr}{H:Hp}{a:D}{j:Key}(q:keyOf a=some j):∀{kvs:List (D×D)}{xs:List (Key×V)},IsKV K m H kvs xs->(kvs.any λp=>M.eqT p.1 a)=(xs.any λp=>decide (p.1=j))
 |[],_,h=>by rw[show _=[] from h]; rfl
 |p::r,_,⟨k,v,J,e,F,L,z⟩=>by
  subst e;rw[Qz9,Qz9,qdi F q,z.any q]
theorem IsKV.repl{K:Qqq}{m:List Addr}{H:Hp}{a d:D}{j:Key}{w:V}(F:keyOf a=some j)(hd:IsD K m H d w):∀{kvs:List (D×D)}{xs:List (Key×V)},IsKV K m H kvs xs->IsKV K m H (kvs.map λp=>if M.eqT p.1 a then(p.1,d) else p) (xs.map λp=>if p.1=j then(p.1,w) else p)
 |[],_,h=>by rw[show _=[] from h]; rfl
 |p::r,_,⟨k,v,O,e,z,L,J⟩=>by
  subst e;have eq:=qdi z F;rw[Qqd,Qqd]
  by_cases q:k=j
  ·rw[Zp q]at eq;rw[Zt eq,Zt q];exact⟨k,w,_,rfl,z,hd,J.repl F hd⟩
  ·rw[Zr q]at eq;rw[Zs (by rw[eq]; nofun),Zs q];exact⟨k,v,_,rfl,z,L,J.repl F hd⟩
theorem IsKV.snoc{K:Qqq}{m:List Addr}{H:Hp}{a d:D}{j:Key}{w:V}(q:keyOf a=some j)(hd:IsD K m H d w):∀{kvs:List (D×D)}{xs:List (Key×V)},IsKV K m H kvs xs->IsKV K m H (kvs++[(a,d)]) (xs++[(j,w)])
 |[],_,h=>by rw[show _=[] from h]; exact⟨j,w,[],rfl,q,hd,rfl⟩
 |p::r,_,⟨k,v,L,e,J,z,F⟩=>by
  subst e;exact⟨k,v,_,rfl,J,z,F.snoc q hd⟩
theorem IsKV.put{K:Qqq}{m:List Addr}{H:Hp}{a d:D}{j:Key}{w:V}{kvs:List (D×D)}{xs:List (Key×V)}(h:IsKV K m H kvs xs)(q:keyOf a=some j)(hd:IsD K m H d w):IsKV K m H (M.dput kvs a d) (putK xs j w):=by
 unfold M.dput putK;rw[h.any q]
 split
 ·exact h.repl q hd
 ·exact h.snoc q hd
theorem IsKV.merge{K:Qqq}{m:List Addr}{H:Hp}:∀{more:List (D×D)}{ms:List (Key×V)}{kvs:List (D×D)}{xs:List (Key×V)},IsKV K m H more ms->IsKV K m H kvs xs->IsKV K m H (more.foldl (λj p=>M.dput j p.1 p.2) kvs) (qka xs ms)
 |[],_,kvs,xs,h,q=>by rw[show _=[] from h]; exact q
 |p::r,_,kvs,xs,⟨k,v,L,e,J,z,F⟩,q=>by
  subst e;exact F.merge (q.put J z)
noncomputable def IsFs(K:Qqq)(m:List Addr)(H:Hp):List (Str×D)->List (Str×V)->Prop
 |[],ys=>ys=[]
 |p::r,ys=>∃v yr,ys=(p.1,v)::yr/\IsD K m H p.2 v/\IsFs K m H r yr
theorem qxy{K:Qqq}{m q:List Addr}{H H':Hp}(F:Sub m q)(z:Tw H H'):∀(fs:List (Str×D)) (ys:List (Str×V)),IsFs K m H fs ys->IsFs K q H' fs ys
 |[],_,h=>h
 |p::r,_,⟨v,j,e,J,L⟩=>⟨v,j,e,qqw F z _ _ J,qxy F z r j L⟩
theorem qdj{K:Qqq}{m j:List Addr}{H H':Hp}(z:Sub m j)(q:Tr H H')(fs:List (Str×D))(ys:List (Str×V))(h:IsFs K m H fs ys):IsFs K j H' fs ys:=qxy z q.w fs ys h
theorem IsFs.length{K:Qqq}{m:List Addr}{H:Hp}:∀{fs:List (Str×D)}{ys:List (Str×V)},IsFs K m H fs ys->fs.length=ys.length
 |[],_,h=>by rw[show _=[] from h]; rfl
 |p::r,_,⟨v,q,e,_,j⟩=>by rw[e,Qqe,Qqe,j.length]
theorem IsFs.get{K:Qqq}{m:List Addr}{H:Hp}(f:Str):∀{fs:List (Str×D)}{ys:List (Str×V)},IsFs K m H fs ys->(fs.lookup f=none/\ys.lookup f=none)\/∃d v,fs.lookup f=some d/\ys.lookup f=some v/\IsD K m H d v
 |[],_,h=>by rw[show _=[] from h]; exact .inl ⟨rfl,rfl⟩
 |(g,d)::r,_,⟨v,z,e,j,q⟩=>by
  subst e;rw[Qzj,Qzj]
  cases f==g with
  |true=>exact .inr ⟨d,v,rfl,rfl,j⟩
  |false=>exact q.get f
theorem IsFs.put{K:Qqq}{m:List Addr}{H:Hp}{f:Str}{d:D}{w:V}(hd:IsD K m H d w):∀{fs:List (Str×D)}{ys:List (Str×V)},IsFs K m H fs ys->IsFs K m H (M.putA f d fs) (putF f w ys)
 |[],_,h=>by rw[show _=[] from h]; exact⟨w,[],rfl,hd,rfl⟩
 |(g,x)::r,_,⟨v,q,e,z,j⟩=>by
  subst e;unfold M.putA putF
  split
  ·exact⟨w,q,rfl,hd,j⟩
  ·exact⟨v,_,rfl,z,j.put hd⟩
noncomputable def IsC(K:Qqq)(m:List Addr)(H:Hp):Cell->Addr->Prop
 |.lst true ds,a=>∃xs,H a=some (.lst xs)/\IsDs K m H ds xs
 |.lst false ds,a=>∃xs,SqF K H a xs/\IsDs K m H ds xs
 |.dic true kvs,a=>∃xs,H a=some (.dK xs)/\IsKV K m H kvs xs
 |.dic false kvs,a=>∃o xs,H a=some (.frz o (.dK xs))/\IsKV K m H kvs xs
 |.obj C fs,a=>∃dx ys,H a=some (.ins C dx ys)/\IsFs K m H fs ys
noncomputable def Wr:Cell->Bool
 |.lst w _=>w
 |_=>true
structure Rel (K:Qqq) (m:List Addr) (st:Store) (H:Hp):Prop where
 len:m.length=st.length
 nd:∀(l l':Nat) (a:Addr) (c c':Cell),m[l]?=some a->m[l']?=some a->st[l]?=some c->st[l']?=some c'->Wr c=true->Wr c'=true->l=l'
 cell:∀(l:Nat) (c:Cell) (a:Addr),st[l]?=some c->m[l]?=some a->IsC K m H c a
section
variable {K:Qqq}{m:List Addr}{st:Store}{H:Hp}
theorem Rel.addr(h:Rel K m st H){l:Nat}{c:Cell}(e:st[l]?=some c):∃a,m[l]?=some a:=by
 have j:=(Qqx.mp e).1;have:=h.len;exact⟨m[l]'(by omega),by simp⟩
theorem IsC.wr{c:Cell}{a:Addr}(h:IsC K m H c a)(w:Wr c=true):∃o,H a=some o:=by
 cases c with
 |lst j ds=>
  have e:j=true:=w;subst e;obtain⟨xs,e,_⟩:=h;exact⟨_,e⟩
 |dic j kvs=>
  cases j with
  |true=>obtain⟨xs,e,_⟩:=h; exact⟨_,e⟩
  |false=>obtain⟨o,xs,e,_⟩:=h; exact⟨_,e⟩
 |obj C fs=>
  obtain⟨dx,ys,e,_⟩:=h;exact⟨_,e⟩
theorem Rel.list(h:Rel K m st H){l:Nat}{ds:List D}{v:V}(e:M.listAt st l=some ds)(J:IsD K m H (.loc l) v):∃a xs,m[l]?=some a/\v=.ref a/\SqL K H a xs/\IsDs K m H ds xs:=by
 obtain⟨a,j,rfl⟩:=J.loc;unfold M.listAt at e
 split at e
 ·rename_i w L q;cases e;have c:=h.cell l _ a q j
  cases w with
  |true=>
   obtain⟨xs,F,z⟩:=c;exact⟨a,xs,j,rfl,SqL.of F,z⟩
  |false=>
   obtain⟨xs,F,z⟩:=c;exact⟨a,xs,j,rfl,F.sq,z⟩
 ·cases e
theorem Rel.seq(h:Rel K m st H){d:D}{ds:List D}{v:V}(e:M.seqAt st d=some ds)(j:IsD K m H d v):∃a xs,True/\v=.ref a/\SqL K H a xs/\IsDs K m H ds xs:=by
 cases d with
 |loc l=>
  obtain⟨a,xs,_,q⟩:=h.list e j;exact⟨a,xs,trivial,q⟩
 |lst es=>
  cases e;obtain⟨a,xs,e,q,r⟩:=j.lst;exact⟨a,xs,trivial,e,q.sq,r⟩
 |_=>cases e
theorem Rel.wlist(h:Rel K m st H){l:Nat}{ds:List D}{v:V}(e:M.wlistAt st l=some ds)(z:IsD K m H (.loc l) v):∃a xs,m[l]?=some a/\v=.ref a/\H a=some (.lst xs)/\IsDs K m H ds xs/\st[l]?=some (.lst true ds):=by
 obtain⟨a,j,rfl⟩:=z.loc;unfold M.wlistAt at e
 split at e
 ·rename_i L q;cases e;obtain⟨xs,J,F⟩:=h.cell l _ a q j;exact⟨a,xs,j,rfl,J,F,q⟩
 ·cases e
theorem qv9{J:List Addr}{H':Hp}(z:Sub m J)(j:Tw H H'){c:Cell}{a:Addr}(h:IsC K m H c a)(F:Wr c=true->H' a=H a):IsC K J H' c a:=by
 cases c with
 |lst w ds=>
  cases w with
  |true=>
   obtain⟨xs,e,q⟩:=h;exact⟨xs,(F rfl).trans e,qz3 z j ds xs q⟩
  |false=>
   obtain⟨xs,e,q⟩:=h;exact⟨xs,j.sqF e,qz3 z j ds xs q⟩
 |dic w kvs=>
  cases w with
  |true=>
   obtain⟨xs,e,q⟩:=h;exact⟨xs,(F rfl).trans e,qqk z j kvs xs q⟩
  |false=>
   obtain⟨o,xs,e,q⟩:=h;exact⟨o,xs,(F rfl).trans e,qqk z j kvs xs q⟩
 |obj C fs=>
  obtain⟨dx,ys,e,q⟩:=h;exact⟨dx,ys,(F rfl).trans e,qxy z j fs ys q⟩
theorem qx1{j:List Addr}{H':Hp}(F:Sub m j)(z:Tr H H'){c:Cell}{a:Addr}(h:IsC K m H c a)(q:Wr c=true->H' a=H a):IsC K j H' c a:=qv9 F z.w h q
theorem Rel.dict(h:Rel K m st H){l:Nat}{kvs:List (D×D)}{v:V}(e:M.dicAt st l=some kvs)(L:IsD K m H (.loc l) v):∃a xs,m[l]?=some a/\v=.ref a/\Rd H a (.dK xs)/\IsKV K m H kvs xs:=by
 obtain⟨a,j,rfl⟩:=L.loc;unfold M.dicAt at e
 split at e
 ·rename_i w J q;cases e;have c:=h.cell l _ a q j
  cases w with
  |true=>
   obtain⟨xs,F,z⟩:=c;exact⟨a,xs,j,rfl,.inl F,z⟩
  |false=>
   obtain⟨o,xs,F,z⟩:=c;exact⟨a,xs,j,rfl,.inr ⟨o,F⟩,z⟩
 ·cases e
theorem Rel.wdict(h:Rel K m st H){l:Nat}{kvs:List (D×D)}{v:V}(e:M.wdicAt st l=some kvs)(F:IsD K m H (.loc l) v):∃a xs,m[l]?=some a/\v=.ref a/\H a=some (.dK xs)/\IsKV K m H kvs xs/\st[l]?=some (.dic true kvs):=by
 obtain⟨a,z,rfl⟩:=F.loc;unfold M.wdicAt at e
 split at e
 ·rename_i j q;cases e;obtain⟨xs,L,J⟩:=h.cell l _ a q z;exact⟨a,xs,z,rfl,L,J,q⟩
 ·cases e
theorem Rel.inst(h:Rel K m st H){C:Nat}{d:D}{fs:List (Str×D)}{v:V}(e:M.objAt st C d=some fs)(F:IsD K m H d v):∃l a dx ys,d=.loc l/\m[l]?=some a/\v=.ref a/\H a=some (.ins C dx ys)/\IsFs K m H fs ys/\st[l]?=some (.obj C fs):=by
 cases d with
 |loc l=>
  obtain⟨a,j,rfl⟩:=F.loc;have e:(match st[l]? with|some (.obj z fs)=>if z=C then some fs else none|_=>none)=some fs:=e
  split at e
  ·rename_i z fs' q
   split at e
   ·rename_i J;cases e;subst J;obtain⟨dx,ys,O,L⟩:=h.cell l _ a q j;exact⟨l,a,dx,ys,rfl,j,rfl,O,L,q⟩
   ·cases e
  ·cases e
 |_=>cases e
theorem Rel.same(h:Rel K m st H){H':Hp}(s:Same H H'):Rel K m st H':=
 ⟨h.len,h.nd,λl c a e j=>qx1 (Sub.refl m) (Tr.of_same s) (h.cell l c a e j) λw=>by
  obtain⟨xs,q⟩:=(h.cell l c a e j).wr w
  rw[q]; exact s _ _ q⟩
theorem Rel.newC(h:Rel K m st H){p:Addr}{o:HO}{c:Cell}(O:H p=none)(hc:Wr c=true->True)(hd:IsC K (m++[p]) (upd H p o) c p):Rel K (m++[p]) (st++[c]) (upd H p o):=by
 have ht:Tr H (upd H p o):=Tr.of_same (qzw O);have F:∀(l:Nat) (e:Cell) (a:Addr),(st++[c])[l]?=some e->(m++[p])[l]?=some a->(l<st.length/\st[l]?=some e/\m[l]?=some a)\/(l=st.length/\e=c/\a=p):=by
  intro l e a J L
  by_cases hl:l<st.length
  ·rw[Qqt hl]at J;rw[Qqt (by rw[h.len]; exact hl)]at L;exact .inl ⟨hl,J,L⟩
  ·have Z:=(Qqx.mp J).1;rw[Qqu,Qxj]at Z;have e1:l=st.length:=by omega
   subst e1;rw[Qza (Qqk _)]at J;rw[Qza (by rw[h.len]; exact Qqk _),h.len]at L;have e2:c=e:=by simpa using J
   have e3:p=a:=by simpa using L
   exact .inr ⟨rfl,e2.symm,e3.symm⟩
 refine⟨by simp[h.len],λl Y a e e' e1 e2 e3 e4 w w'=>?_,λl e a J L=>?_⟩
 ·rcases F l e a e3 e1 with⟨h1,q,j⟩|⟨h1,q,j⟩<;>rcases F Y e' a e4 e2 with⟨h2,U,M⟩|⟨h2,U,M⟩
  ·exact h.nd l Y a e e' j M q U w w'
  ·obtain⟨ys,z⟩:=(h.cell l e a q j).wr w;rw[M,O]at z; cases z
  ·obtain⟨ys,z⟩:=(h.cell Y e' a U M).wr w';rw[j,O]at z; cases z
  ·rw[h1,h2]
 ·rcases F l e a J L with⟨h1,q,j⟩|⟨h1,q,j⟩
  ·refine qx1 (Sub.app m [p]) ht (h.cell l e a q j) λw=>?_;obtain⟨ys,z⟩:=(h.cell l e a q j).wr w;exact qzq (qzf z O)
  ·rw[q,j];exact hd
theorem Rel.new(h:Rel K m st H){p:Addr}{ds:List D}{xs:List V}(j:H p=none)(hd:IsDs K m H ds xs):Rel K (m++[p]) (st++[.lst true ds]) (upd H p (.lst xs)):=
 h.newC j (λ_=>trivial) ⟨xs,qzk,qzy (Sub.app m [p]) (Tr.of_same (qzw j)) ds xs hd⟩
theorem Rel.newD(h:Rel K m st H){p:Addr}{kvs:List (D×D)}{xs:List (Key×V)}(j:H p=none)(hd:IsKV K m H kvs xs):Rel K (m++[p]) (st++[.dic true kvs]) (upd H p (.dK xs)):=
 h.newC j (λ_=>trivial) ⟨xs,qzk,qje (Sub.app m [p]) (Tr.of_same (qzw j)) kvs xs hd⟩
theorem Rel.newLoc(h:Rel K m st H){p:Addr}{H':Hp}:IsD K (m++[p]) H' (.loc st.length) (.ref p):=qfi (by
 rw[Qza (by rw[h.len]; exact Qqk _),h.len]; simp)
theorem Rel.putW(h:Rel K m st H){l:Nat}{a:Addr}{c c':Cell}{o:HO}(e:st[l]?=some c)(L:Wr c=true)(ea:m[l]?=some a)(ht:Tw H (upd H a o))(hd:IsC K m (upd H a o) c' a):
  Rel K m (st.set l c') (upd H a o):=by
 have hl:=(Qqx.mp e).1;have wr:∀(j:Nat) (d:Cell),(st.set l c')[j]?=some d->(j=l/\d=c')\/(j≠l/\st[j]?=some d):=by
  intro j d q
  by_cases M:j=l
  ·subst M;rw[Qq9 hl]at q;exact .inl ⟨rfl,(Option.some.inj q).symm⟩
  ·rw[Qqn (Ne.symm M)]at q;exact .inr ⟨M,q⟩
 refine⟨by rw[Qzn]; exact h.len,λj j' b d d' U O e3 e4 w Z=>?_,λj d b q J=>?_⟩
 ·rcases wr j d e3 with⟨F,b1⟩|⟨F,b1⟩<;>rcases wr j' d' e4 with⟨Y,b2⟩|⟨Y,b2⟩
  ·rw[F,Y]
  ·subst F; exact h.nd _ _ b _ _ U O e b2 L Z
  ·subst Y; exact h.nd _ _ b _ _ U O b1 e w L
  ·exact h.nd _ _ b _ _ U O b1 b2 w Z
 ·rcases wr j d q with⟨F,b1⟩|⟨F,b1⟩
  ·subst F b1;rw[ea]at J; cases J;exact hd
  ·refine qv9 (Sub.refl m) ht (h.cell j d b b1 J) λw=>qzq λz=>?_;subst z;exact F (h.nd _ _ b _ _ J ea b1 e w L)
theorem Rel.putC(h:Rel K m st H){l:Nat}{a:Addr}{c c':Cell}{o:HO}(e:st[l]?=some c)(j:Wr c=true)(z:m[l]?=some a)(q:Tr H (upd H a o))(hd:IsC K m (upd H a o) c' a):
  Rel K m (st.set l c') (upd H a o):=h.putW e j z q.w hd
theorem Rel.put(h:Rel K m st H){l:Nat}{a:Addr}{ds j:List D}{xs ys:List V}(e:st[l]?=some (.lst true ds))(z:m[l]?=some a)(q:H a=some (.lst xs))(hd:IsDs K m H j ys):
  Rel K m (st.set l (.lst true j)) (upd H a (.lst ys)):=
 h.putC e rfl z (Tr.put q) ⟨ys,qzk,qzy (Sub.refl m) (Tr.put q) j ys hd⟩
theorem Tr.putD{H:Hp}{p:Addr}{xs ys:List (Key×V)}(j:H p=some (.dK xs)):Tr H (upd H p (.dK ys)):=
 ⟨λb zs e=>by rw[qzq (qzp e j (by intro z; cases z))]; exact e,λb o u e=>by rw[qzq (qzp e j (by intro z; cases z))]; exact e⟩
theorem Rel.putD(h:Rel K m st H){l:Nat}{a:Addr}{kvs j:List (D×D)}{xs ys:List (Key×V)}(e:st[l]?=some (.dic true kvs))(z:m[l]?=some a)(q:H a=some (.dK xs))(hd:IsKV K m H j ys):
  Rel K m (st.set l (.dic true j)) (upd H a (.dK ys)):=
 h.putC e rfl z (Tr.putD q) ⟨ys,qzk,qje (Sub.refl m) (Tr.putD q) j ys hd⟩
end
theorem Tr.putI{H:Hp}{p C q:Addr}{xs ys:List (Str×V)}(j:H p=some (.ins C q xs)):Tr H (upd H p (.ins C q ys)):=
 ⟨λb zs e=>by rw[qzq (qzp e j (by intro z; cases z))]; exact e,λb o u e=>by rw[qzq (qzp e j (by intro z; cases z))]; exact e⟩
theorem Rel.putI{K:Qqq}{m:List Addr}{st:Store}{H:Hp}(h:Rel K m st H){l:Nat}{a C q:Addr}{fs j:List (Str×D)}{xs ys:List (Str×V)}(e:st[l]?=some (.obj C fs))(F:m[l]?=some a)(z:H a=some (.ins C q xs))(hd:IsFs K m H j ys):
  Rel K m (st.set l (.obj C j)) (upd H a (.ins C q ys)):=
 h.putC e rfl F (Tr.putI z) ⟨q,ys,qzk,qdj (Sub.refl m) (Tr.putI z) j ys hd⟩
theorem Rel.newI{K:Qqq}{m:List Addr}{st:Store}{H:Hp}(h:Rel K m st H){x j C:Addr}(L:H x=none)(F:H j=none)(z:j≠x):Same H (upd (upd H j (.own x)) x (.ins C j []))/\Rel K (m++[x]) (st++[.obj C []]) (upd (upd H j (.own x)) x (.ins C j [])):=by
 have J:Same H (upd H j (.own x)):=qzw F;have q:(upd H j (.own x)) x=none:=by rw[qzq (Ne.symm z)]; exact L
 exact⟨λb u e=>qzw q b u (J b u e),(h.same J).newC q (λ_=>trivial) ⟨j,[],qzk,rfl⟩⟩
theorem Tr.ice{H:Hp}{a:Addr}{o:Obj}{xs:List (Key×V)}(h:H a=some (.dK xs)):Tr H (upd H a (.frz o (.dK xs))):=
 ⟨λb zs e=>by rw[qzq (qzp e h (by intro z; cases z))]; exact e,λb o u e=>by rw[qzq (qzp e h (by intro z; cases z))]; exact e⟩
theorem Tr.thaw{H H':Hp}{a:Addr}{o:Obj}{xs ys:List (Key×V)}(h:H a=some (.dK xs))(t:Tr (upd H a (.frz o (.dK xs))) H'):Tr H (upd H' a (.dK ys)):=
 ⟨λb zs e=>by
  have j:=qzp e h (by intro z; cases z);rw[qzq j];exact t.tup b zs (by rw[qzq j]; exact e),λb o u e=>by
  have j:=qzp e h (by intro z; cases z);rw[qzq j]
  exact t.frz b o u (by rw[qzq j]; exact e)⟩
theorem Tw.thaw{H:Hp}{a:Addr}{o:Obj}{xs ys:List (Key×V)}(h:H a=some (.frz o (.dK xs))):Tw H (upd H a (.dK ys)):=
 ⟨λb zs e=>by rw[qzq (qzp e h (by intro z; cases z))]; exact e,λb o u j e=>by rw[qzq (qzp e h (by intro z; cases z; exact j))]; exact e⟩
theorem Rel.ice{K:Qqq}{m:List Addr}{st:Store}{H:Hp}(h:Rel K m st H){l:Nat}{a:Addr}{o:Obj}{kvs:List (D×D)}{xs:List (Key×V)}(e:st[l]?=some (.dic true kvs))(q:m[l]?=some a)(j:H a=some (.dK xs))(hd:IsKV K m H kvs xs):
  Rel K m (st.set l (.dic false kvs)) (upd H a (.frz o (.dK xs))):=
 h.putC e rfl q (Tr.ice j) ⟨o,xs,qzk,qje (Sub.refl m) (Tr.ice j) kvs xs hd⟩
theorem Rel.thaw{K:Qqq}{m:List Addr}{st:Store}{H:Hp}(h:Rel K m st H){l:Nat}{a:Addr}{o:Obj}{kvs:List (D×D)}{xs:List (Key×V)}(e:st[l]?=some (.dic false kvs))(z:m[l]?=some a)(j:H a=some (.frz o (.dK xs))):
  Rel K m (st.set l (.dic true kvs)) (upd H a (.dK xs)):=by
 obtain⟨o',ys,F,q⟩:=h.cell l _ a e z;rw[j]at F;cases F;exact h.putW e rfl z (Tw.thaw j) ⟨xs,qzk,qqk (Sub.refl m) (Tw.thaw j) kvs xs q⟩
structure SlotOk (K:Qqq) (m:List Addr) (H:Hp) (τ:Sl) (σ:L2.St):Prop where
 len:τ.length=σ.length
 at_:∀(i:Nat) (d:D),τ[i]?=some (some d)->∃v,σ[i]?=some (some v)/\IsD K m H d v
theorem SlotOk.monoW{K:Qqq}{m j:List Addr}{H H':Hp}{τ:Sl}{σ:L2.St}(h:SlotOk K m H τ σ)(s:Sub m j)(t:Tw H H'):SlotOk K j H' τ σ:=
 ⟨h.len,λi d e=>let ⟨v,a,b⟩:=h.at_ i d e; ⟨v,a,qqw s t d v b⟩⟩
theorem SlotOk.mono{K:Qqq}{m j:List Addr}{H H':Hp}{τ:Sl}{σ:L2.St}(h:SlotOk K m H τ σ)(s:Sub m j)(t:Tr H H'):SlotOk K j H' τ σ:=
 ⟨h.len,λi d e=>let ⟨v,a,b⟩:=h.at_ i d e; ⟨v,a,qzj s t d v b⟩⟩
theorem SlotOk.put{K:Qqq}{m:List Addr}{H:Hp}{τ:Sl}{F:L2.St}(h:SlotOk K m H τ F){i:Nat}{d:D}{v:V}(q:IsD K m H d v):SlotOk K m H (τ.set i (some d)) (F.set i (some v)):=by
 refine⟨by rw[Qzn,Qzn]; exact h.len,λj e z=>?_⟩
 by_cases J:i=j
 ·subst J;have hi:i<τ.length:=by
   have:=(Qqx.mp z).1;rwa [Qzn]at this
  rw[Qq9 hi]at z;cases z;exact⟨v,Qq9 (by rw[<- h.len]; exact hi),q⟩
 ·rw[Qqn J]at z ⊢;exact h.at_ j e z
def Post(K:Qqq)(m:List Addr)(H:Hp)(d:D)(st':Store)(Q:VK):Prop:=∀v m' H',Sub m m'->Tr H H'->Rel K m' st' H'->IsD K m' H' d v->Q v H'
def PostB(K:Qqq)(m:List Addr)(H:Hp)(b:Bool)(st':Store)(Q:Bool->Hp->Prop):Prop:=∀m' H',Sub m m'->Tr H H'->Rel K m' st' H'->Q b H'
def PostL(K:Qqq)(m:List Addr)(H:Hp)(ds:List D)(st':Store)(Q:List V->Hp->Prop):Prop:=∀vs m' H',Sub m m'->Tr H H'->Rel K m' st' H'->IsDs K m' H' ds vs->Q vs H'
theorem Post.mono{K:Qqq}{m q:List Addr}{H z:Hp}{d:D}{j:Store}{Q:VK}(p:Post K m H d j Q)(s:Sub m q)(t:Tr H z):Post K q z d j Q:=
 λv m' H' s' F r i=>p v m' H' (s.trans s') (t.trans F) r i
theorem Post.here{K:Qqq}{m:List Addr}{H:Hp}{d:D}{j:Store}{Q:VK}{v:V}(p:Post K m H d j Q)(r:Rel K m j H)(i:IsD K m H d v):Q v H:=p v m H (Sub.refl m) (Tr.refl H) r i
noncomputable def tD(K:Qqq)(f:Sl->Store->Option (D×Store)):TE:=λσ H Q=>∃m st τ d st',Rel K m st H/\SlotOk K m H τ σ/\f τ st=some (d,st')/\Post K m H d st' Q
noncomputable def tTs(K:Qqq)(f:Sl->Store->Option (Bool×Store)):TT:=λσ H Q=>∃m st τ d st',Rel K m st H/\SlotOk K m H τ σ/\f τ st=some (d,st')/\PostB K m H d st' Q
noncomputable def tL(K:Qqq)(f:Sl->Store->Option (List D×Store)):TA:=λσ H Q=>∃m st τ d st',Rel K m st H/\SlotOk K m H τ σ/\f τ st=some (d,st')/\PostL K m H d st' Q
noncomputable def rD(K:Qqq)(g:Store->D->D->Option (D×Store)):R2:=λx y H Q=>∃m st a b d st',Rel K m st H/\IsD K m H a x/\IsD K m H b y/\g st a b=some (d,st')/\Post K m H d st' Q
def rC(K:Qqq)(g:Store->List D->Option (D×Store)):List V->Hp->VK->Prop:=λxs H Q=>∃m st ds d st',Rel K m st H/\IsDs K m H ds xs/\g st ds=some (d,st')/\Post K m H d st' Q
def rU1(K:Qqq)(g:Store->D->Option (D×Store)):V->Hp->VK->Prop:=λx H Q=>∃m st a d st',Rel K m st H/\IsD K m H a x/\g st a=some (d,st')/\Post K m H d st' Q
theorem tD.el{K:Qqq}{f:Sl->Store->Option (D×Store)}{j:L2.St}{H:Hp}{Q:VK}{P:Prop}(h:tD K f j H Q)(k:∀m st τ d st',Rel K m st H->SlotOk K m H τ j->f τ st=some (d,st')->Post K m H d st' Q->P):P:=by
 rcases h with⟨m,st,τ,d,st',a,b,c,e⟩
 exact k m st τ d st' a b c e
theorem tTs.el{K:Qqq}{f:Sl->Store->Option (Bool×Store)}{j:L2.St}{H:Hp}{Q:Bool->Hp->Prop}{P:Prop}(h:tTs K f j H Q)(k:∀m st τ d st',Rel K m st H->SlotOk K m H τ j->f τ st=some (d,st')->PostB K m H d st' Q->P):P:=by
 rcases h with⟨m,st,τ,d,st',p0,p1,p2,q⟩
 exact k m st τ d st' p0 p1 p2 q
theorem tL.el{K:Qqq}{f:Sl->Store->Option (List D×Store)}{j:L2.St}{H:Hp}{Q:List V->Hp->Prop}{P:Prop}(h:tL K f j H Q)(k:∀m st τ d st',Rel K m st H->SlotOk K m H τ j->f τ st=some (d,st')->PostL K m H d st' Q->P):P:=by
 rcases h with⟨m,st,τ,d,st',p0,p1,p2,q⟩
 exact k m st τ d st' p0 p1 p2 q
theorem rD.el{K:Qqq}{f:Store->D->D->Option (D×Store)}{x y:V}{H:Hp}{Q:VK}{P:Prop}(h:rD K f x y H Q)(k:∀m st a b d st',Rel K m st H->IsD K m H a x->IsD K m H b y->f st a b=some (d,st')->Post K m H d st' Q->P):P:=by
 rcases h with⟨m,st,a,b,d,st',p0,p1,p2,q,j⟩
 exact k m st a b d st' p0 p1 p2 q j
theorem rC.el{K:Qqq}{f:Store->List D->Option (D×Store)}{xs:List V}{H:Hp}{Q:VK}{P:Prop}(h:rC K f xs H Q)(k:∀m st ds d st',Rel K m st H->IsDs K m H ds xs->f st ds=some (d,st')->Post K m H d st' Q->P):P:=by
 rcases h with⟨m,st,ds,d,st',p0,p1,p2,j⟩
 exact k m st ds d st' p0 p1 p2 j
theorem rU1.el{K:Qqq}{f:Store->D->Option (D×Store)}{x:V}{H:Hp}{Q:VK}{P:Prop}(h:rU1 K f x H Q)(k:∀m st a d st',Rel K m st H->IsD K m H a x->f st a=some (d,st')->Post K m H d st' Q->P):P:=by
 rcases h with⟨m,st,a,d,st',p0,p1,p2,j⟩
 exact k m st a d st' p0 p1 p2 j
theorem _root_.L2.PE.imp{X:Cx}{e:Qx}{t t':TE}(h:PE X e t)(f:∀σ H Q,t' σ H Q->t σ H Q):PE X e t':=λpins s σ H Q I q=>h pins s σ H Q I (f σ H Q q)
theorem _root_.L2.PT.imp{X:Cx}{e:Qx}{t t':TT}(h:PT X e t)(f:∀σ H Q,t' σ H Q->t σ H Q):PT X e t':=λpins s σ H Q I q=>h pins s σ H Q I (f σ H Q q)
theorem _root_.L2.PW.imp{X:Cx}{e:Qx}{t t':TT}(h:PW X e t)(f:∀σ H Q,t' σ H Q->t σ H Q):PW X e t':=λw pins s σ H Q I q=>h w pins s σ H Q I (f σ H Q q)
theorem _root_.L2.PA.imp{X:Cx}{e:List Qx}{t t':TA}(h:PA X e t)(f:∀σ H Q,t' σ H Q->t σ H Q):PA X e t':=λp pins s σ H Q I q=>h p pins s σ H Q I (f σ H Q q)
theorem _root_.L2.PS.imp{X:Cx}{e:Stmt}{t t':TS}(h:PS X e t)(f:∀σ H Q,t' σ H Q->t σ H Q):PS X e t':=λpins s σ H Q I q=>h pins s σ H Q I (f Q σ H q)
theorem _root_.L2.PSs.imp{X:Cx}{e:List Stmt}{t t':TS}(h:PSs X e t)(f:∀D σ H,t' D σ H->t D σ H):PSs X e t':=λpins s σ H D I q=>h pins s σ H D I (f D σ H q)
theorem qza{α:Type}{f:Option (D×Store)}{g:D×Store->Option α}{r:α}(e:f.bind g=some r):∃d st,f=some (d,st)/\g (d,st)=some r:=by
 cases f with
 |none=>cases e
 |some p=>exact⟨p.1,p.2,rfl,e⟩
theorem orO{α:Type}{a b:Option α}{r:α}(h:a.or b=some r):a=some r\/b=some r:=by
 cases a with
 |none=>exact .inr h
 |some x=>exact .inl h
theorem mapD{α j:Type}{f:Option α}{g:α->j}{r:j}(e:f.map g=some r):∃d,f=some d/\g d=r:=by
 cases f with
 |none=>cases e
 |some p=>exact⟨p,rfl,Option.some.inj e⟩
theorem qzv{α j:Type}{f:Option α}{g:α->Option j}{r:j}(e:f.bind g=some r):∃d,f=some d/\g d=some r:=by
 cases f with
 |none=>cases e
 |some p=>exact⟨p,rfl,e⟩
section
variable {K:Qqq}
theorem qb0{fa fb:Sl->Store->Option (D×Store)}{g:Store->D->D->Option (D×Store)}{j:L2.St}{H:Hp}{Q:VK}
  (h:tD K (λτ st=>(fa τ st).bind λp=>(fb τ p.2).bind λq=>g q.2 p.1 q.1) j H Q):tOp (rD K g) (tD K fa) (tD K fb) j H Q:=by
 refine h.el λm st τ d st' R0 U e q=>?_;obtain⟨O,L,e1,e⟩:=qza e;obtain⟨M,J,e2,e⟩:=qza e
 exact⟨m,st,τ,O,L,R0,U,e1,λx m1 H1 b1 F R1 i1=>⟨m1,L,τ,M,J,R1,U.mono b1 F,e2,λy Y H2 b2 z R2 Z=>
  ⟨Y,J,O,M,d,st',R2,qzj b2 z _ _ i1,Z,e,q.mono (b1.trans b2) (F.trans z)⟩⟩⟩
theorem tD_un{fa:Sl->Store->Option (D×Store)}{g:Store->D->Option (D×Store)}{j:L2.St}{H:Hp}{Q:VK}
  (h:tD K (λτ st=>(fa τ st).bind λp=>g p.2 p.1) j H Q):tUn (rU1 K g) (tD K fa) j H Q:=by
 refine h.el λm st τ d st' Y O e q=>?_;obtain⟨F,z,M,e⟩:=qza e;exact⟨m,st,τ,F,z,Y,O,M,λx m1 H1 b1 J U L=>⟨m1,z,F,d,st',U,L,e,q.mono b1 J⟩⟩
theorem qh0{fa:Sl->Store->Option (D×Store)}{fr:Sl->Store->Option (List D×Store)}{j:L2.St}{H:Hp}{Q:List V->Hp->Prop}
  (h:tL K (λτ st=>(fa τ st).bind λp=>(fr τ p.2).bind λq=>some (p.1::q.1,q.2)) j H Q):qh1 (tD K fa) (tL K fr) j H Q:=by
 refine h.el λm st τ d st' R0 L e q=>?_;obtain⟨d1,J,Z,e⟩:=qza e;obtain⟨p,Y,e⟩:=qzv e;cases e
 exact⟨m,st,τ,d1,J,R0,L,Z,λx m1 H1 b1 F R1 U=>⟨m1,J,τ,p.1,p.2,R1,L.mono b1 F,Y,λxs M H2 b2 z R2 O=>
  q _ M H2 (b1.trans b2) (F.trans z) R2 (qzi (qzj b2 z _ _ U) O)⟩⟩
theorem tL_nil{j:L2.St}{H:Hp}{Q:List V->Hp->Prop}(h:tL K (λ_ st=>some ([],st)) j H Q):tNil j H Q:=by
 refine h.el λm st τ d st' z F e q=>?_;cases e;exact q [] m H (Sub.refl m) (Tr.refl H) z qqq
theorem qqu{fa:Sl->Store->Option (List D×Store)}{g:Store->List D->Option (D×Store)}{j:L2.St}{H:Hp}{Q:VK}
  (h:tD K (λτ st=>(fa τ st).bind λp=>g p.2 p.1) j H Q):tCB (rC K g) (tL K fa) j H Q:=by
 refine h.el λm st τ d st' O L e q=>?_;obtain⟨p,J,e⟩:=qzv e;exact⟨m,st,τ,p.1,p.2,O,L,J,λxs m1 H1 b1 z M F=>⟨m1,p.2,p.1,d,st',M,F,e,q.mono b1 z⟩⟩
end
end MS
end
section
namespace MS
open PySem PySem.Spec PyProof.Rows L2
open M (D Cell Store Sl)
section
variable {X:Cx}
theorem qqe:(sizeLine:Nat)=M.lim:=Q2
theorem qco:OpR X (Q3 .FloorDiv) (rI (λ_ j=>0<j/\j<2 ^ 64) λi j=>.int (i / j)):=opI λi j _ _ _ _ _ z q=>by
 have h1:(0:Int)<j:=z.1;have h2:j<2 ^ 64:=z.2;refine floordiv_int (by omega) (by rw[Int.fdiv_eq_ediv_of_nonneg i (by omega)]; exact q) (.inl (PyProof.noPylong_of_log2 ?_));have J:j.natAbs<2 ^ 64:=by omega
 have F:j.natAbs≠0:=by omega
 have L:j.natAbs.log2<64:=(Nat.log2_lt F).mpr J;omega
theorem _root_.MS.IsDs.rep{K:Qqq}{m:List Addr}{H:Hp}{ds:List D}{xs:List V}(h:IsDs K m H ds xs):∀k:Nat,IsDs K m H (List.replicate k ds).flatten (List.replicate k xs).flatten
 |0=>by simp only[List.replicate_zero,List.flatten_nil]; exact qqq
 |k+1=>by
  rw[Qzl,Qzl,Qz7,Qz7];exact h.append (IsDs.rep h k)
theorem qi3{j:List (Addr×Obj)}{s:Qz}{Z:L2.St}{H:Hp}{Q:VK}{l b:Addr}{xs ys:List V}(I:Inv X j Z H s)(hq:SqL X.K H l xs)(O:SqL X.K H b ys)(hz:xs.length+ys.length<=sizeLine)(q:∀p,H p=none->Q (.ref p) (upd H p (.lst (xs++ys)))):
  wpAny (model X.prog X.w) X.A (Q3 .Add (.ref l) (.ref b)) (EP X j Z Q) X.xe s:=by
 obtain⟨vs,r1,pl,_⟩:=I.list hq;obtain⟨ws,r2,M,_⟩:=I.list O;have l1:=r1.length;have l2:=r2.length;obtain⟨⟨cls,dd,a1,sl⟩,n,ho,hc,a3,hd⟩:=pl;obtain⟨⟨a2,U,Y,L⟩,n2,z,J,a0,F⟩:=M;simp only at hc hd J F;subst hc hd J F;have e:vs.toArray++ws.toArray=(vs++ws).toArray:=by simp
 refine concat_meets ⟨_,ho,rfl⟩ ⟨_,z,rfl⟩ noFill_list_add seq_list_add PySem.F.slot_list_add PySem.F.entry_list_add (PySem.F.args_list_add_2 _ _) (list_addW l b vs.toArray ws.toArray n n2 dd U sl L (by simp; omega)) ⟨ho,z,?_⟩;rw[e];exact⟨.ref _,_,I.lnew (t':=s.toks) (r1.append r2) (by rw[Qqu]; omega),rfl,q _ I.fresh⟩
theorem qi4(op:Zd):OpR X (Q3 op) (rD X.K λst a b=>M.binop st op a b):=by
 intro pins s σ H x y v u Q I O L h;refine h.el λm st a b d st' F Y U e q=>?_;have e:M.binop st op a b=some (d,st'):=e;unfold M.binop at e
 split at e
 ·cases e;exact op_add pins s σ H x y v u Q I O L ⟨_,_,Y.int,U.int,q.here F (mkInt _)⟩
 ·rename_i as bs
  split at e
  ·cases e
  ·rename_i j;cases e;rw[Qxk,decide_eq_true_eq,not_or,List.isEmpty_iff]at j;obtain⟨pa,xs,rfl,hx,J⟩:=Y.tup;obtain⟨pb,ys,rfl,hy,iy⟩:=U.tup;have l1:=J.length;have l2:=iy.length;have l3:=qqe;refine qi2 pins s σ H _ _ v u Q I O L ⟨pa,pb,xs,ys,rfl,rfl,hx,hy,?_,by omega,λz=>?_,λz p hp=>?_⟩
   ·intro z;subst z;exact j.1 (Qzr.mp l1)
   ·have Z:=J.append iy;rw[z,Qzm]at Z;exact q.here F (qq5 hx Z)
   ·have sm:=qzw (o:=.tup (xs++ys)) hp;exact q _ m _ (Sub.refl m) (Tr.of_same sm) (F.same sm) (qq5 (SqT.of qzk) (qzy (Sub.refl m) (Tr.of_same sm) _ _ (J.append iy)))
 ·rename_i la lb _ _;obtain⟨a1,e1,e⟩:=qzv e;obtain⟨a0,e2,e⟩:=qzv e
  split at e
  ·cases e
  ·rename_i j;cases e;obtain⟨pa,xs,_,rfl,hx,J⟩:=F.seq e1 Y;obtain⟨pb,ys,_,rfl,hy,iy⟩:=F.seq e2 U;have l1:=J.length;have l2:=iy.length;have l3:=qqe;cases O;cases L;refine qi3 I hx hy (by omega) λp hp=>?_;exact q _ (m++[p]) _ (Sub.app m [p]) (Tr.of_same (qzw hp)) (F.new hp (J.append iy)) F.newLoc
 ·cases e;exact qcm pins s σ H x y v u Q I O L ⟨_,_,Y.int,U.int,q.here F (mkInt _)⟩
 ·split at e
  ·rename_i j;cases e;refine op_mul pins s σ H x y v u Q I O L ⟨_,_,Y.int,U.int,?_,q.here F (mkInt _)⟩;unfold M.mulOk at j;simp only[Qxk,Qqc,decide_eq_true_eq]at j;exact j
  ·cases e
 ·rename_i as k _
  split at e
  ·cases e
  ·rename_i j;cases e;simp only[Qxk,decide_eq_true_eq,not_or]at j;obtain⟨pa,xs,rfl,hx,J⟩:=Y.tup;have l1:=J.length;have l3:=qqe;refine qi0 pins s σ H _ _ v u Q I O L ⟨pa,k,xs,rfl,U.int,hx,by omega,by omega,by rw[<- l1]; omega,λys hy=>⟨λz=>?_,λp hp=>?_⟩⟩
   ·have Z:=J.rep k.toNat
    rw[<- hy,z]at Z;exact q.here F (qq5 hx Z)
   ·have sm:=qzw (o:=.tup ys) hp;have Z:=J.rep k.toNat
    rw[<- hy]at Z;exact q _ m _ (Sub.refl m) (Tr.of_same sm) (F.same sm) (qq5 (SqT.of qzk) (qzy (Sub.refl m) (Tr.of_same sm) _ _ Z))
 ·split at e
  ·rename_i j;cases e;exact qco pins s σ H x y v u Q I O L ⟨_,_,Y.int,U.int,j,q.here F (mkInt _)⟩
  ·cases e
 ·split at e
  ·rename_i j;cases e;exact op_mod pins s σ H x y v u Q I O L ⟨_,_,Y.int,U.int,j,q.here F (mkInt _)⟩
  ·cases e
 ·split at e
  ·rename_i j;cases e;exact op_pow pins s σ H x y v u Q I O L ⟨_,_,Y.int,U.int,⟨j.1,by omega,j.2.2⟩,q.here F (mkInt _)⟩
  ·cases e
 ·cases e
theorem qzd{q:List (Addr×Obj)}{F:L2.St}{H:Hp}{s:Qz}{m:List Addr}{ds:List D}{v:V}(I:Inv X q F H s)(h:IsD X.K m H (.tup ds) v):∃a xs j,v=.ref a/\SqT X.K H a xs/\IsDs X.K m H ds xs/\Vals xs j/\IsTup s.heap a j.toArray:=by
 obtain⟨a,xs,rfl,z,J⟩:=h.tup;obtain⟨j,r,p,_⟩:=I.tuple z;exact⟨a,xs,j,rfl,z,J,r,p⟩
section
variable {pins:List (Addr×Obj)}{σ:L2.St}{H:Hp}{s:Qz}{m:List Addr}
mutual
theorem qdv(I:Inv X pins σ H s):∀(n:Nat) (d e:D) (v:V),M.flat n d=true->M.flat n e=true->IsD X.K m H d v->IsD X.K m H e v->d=e
 |n,.loc _,_,_,f,_,_,_=>by simp[M.flat]at f
 |n,.lst _,_,_,f,_,_,_=>by simp[M.flat]at f
 |n,.non,e,v,_,j,h,h'=>by
  rw[h.non]at h'
  cases e with
  |non=>rfl
  |tup ds=>obtain⟨a,xs,z,_⟩:=h'.tup; cases z
  |loc l=>simp[M.flat]at j
  |lst _=>simp[M.flat]at j
  |bl b=>cases h'.bl
  |int b=>cases h'.int
  |str b=>cases h'.str
 |n,.bl b,e,v,_,j,h,h'=>by
  rw[h.bl]at h'
  cases e with
  |non=>cases h'.non
  |tup ds=>obtain⟨a,xs,z,_⟩:=h'.tup; cases z
  |loc l=>simp[M.flat]at j
  |lst _=>simp[M.flat]at j
  |bl b=>cases h'.bl; rfl
  |int b=>cases h'.int
  |str b=>cases h'.str
 |n,.int b,e,v,_,j,h,h'=>by
  rw[h.int]at h'
  cases e with
  |non=>cases h'.non
  |tup ds=>obtain⟨a,xs,z,_⟩:=h'.tup; cases z
  |loc l=>simp[M.flat]at j
  |lst _=>simp[M.flat]at j
  |bl b=>cases h'.bl
  |int b=>cases h'.int; rfl
  |str b=>cases h'.str
 |n,.str b,e,v,_,j,h,h'=>by
  rw[h.str]at h'
  cases e with
  |non=>cases h'.non
  |tup ds=>obtain⟨a,xs,z,_⟩:=h'.tup; cases z
  |loc l=>simp[M.flat]at j
  |lst _=>simp[M.flat]at j
  |bl b=>cases h'.bl
  |int b=>cases h'.int
  |str b=>cases h'.str; rfl
 |0,.tup ds,e,v,f,j,h,h'=>by simp[M.flat]at f
 |n+1,.tup ds,e,v,f,j,h,h'=>by
  obtain⟨a,xs,rfl,L,F⟩:=h.tup
  cases e with
  |non=>cases h'.non
  |tup es=>
   obtain⟨b,ys,z,J,q⟩:=h'.tup;cases z;have:=I.tuple_inj L J;subst this;simp only[M.flat]at f j;rw[qk8 I n ds es xs f j F q]
  |loc l=>simp[M.flat]at j
  |lst _=>simp[M.flat]at j
  |bl b=>cases h'.bl
  |int b=>cases h'.int
  |str b=>cases h'.str
theorem qk8(I:Inv X pins σ H s):∀(n:Nat) (ds es:List D) (xs:List V),M.flats n ds=true->M.flats n es=true->IsDs X.K m H ds xs->IsDs X.K m H es xs->ds=es
 |n,[],es,xs,_,_,h,h'=>by
  rw[h.nil]at h';exact(Qzr.mp h'.length).symm
 |n,d::ds,es,xs,f,j,h,h'=>by
  obtain⟨x,r,rfl,q,t⟩:=h.cons
  cases es with
  |nil=>cases h'.nil
  |cons e es=>
   obtain⟨L,r',z,J,F⟩:=h'.cons;cases z;simp only[M.flats,Qqc]at f j;rw[qdv I n d e x f.1 j.1 q J,qk8 I n ds es r f.2 j.2 t F]
end
mutual
theorem qf3:∀(n:Nat) (d:D),M.flat n d=true->M.eqT d d=true
 |n,.loc _,f=>by simp[M.flat]at f
 |n,.lst _,f=>by simp[M.flat]at f
 |n,.non,_=>rfl
 |n,.bl b,_=>by simp[M.eqT]
 |n,.int b,_=>by simp[M.eqT]
 |n,.str b,_=>by simp[M.eqT]
 |0,.tup ds,f=>by simp[M.flat]at f
 |n+1,.tup ds,f=>by
  simp only[M.flat]at f;simp only[M.eqT];exact qji n ds f
theorem qji:∀(n:Nat) (ds:List D),M.flats n ds=true->M.eqTs ds ds=true
 |n,[],_=>rfl
 |n,d::ds,f=>by
  simp only[M.flats,Qqc]at f;simp only[M.eqTs,qf3 n d f.1,qji n ds f.2,Qj7]
end
noncomputable def pairE(ds es:List D)(j:Nat):Bool:=match ds[j]?,es[j]? with
 |some d,some e=>M.eqT d e
 |_,_=>true
theorem qqa:∀(ds es:List D),M.eqTs ds es=((List.range (min ds.length es.length)).all (pairE ds es)&&ds.length==es.length)
 |[],[]=>rfl
 |[],e::es=>by simp[M.eqTs]
 |d::ds,[]=>by simp[M.eqTs]
 |d::ds,e::es=>by
  simp only[M.eqTs];rw[qqa ds es,Qqe,Qqe,Nat.add_min_add_right,List.range_succ_eq_map,Qxv,List.all_map,Bool.and_assoc]
  congr 1
  congr 1
  rw[Qx6,beq_iff_eq,beq_iff_eq];omega
theorem qwj{ds es:List D}(h:ds.length=es.length):M.eqTs ds es=(List.range ds.length).all (pairE ds es):=by
 rw[qqa,h,Nat.min_self];simp
theorem qav(I:Inv X pins σ H s):∀(n:Nat) (A:Qw) (d e:D) (x y:V) (u v:Value),A.units+n<cLine->M.flat n d=true->M.flat n e=true->IsD X.K m H d x->IsD X.K m H e y->RelV x u->RelV y v->
  SeqAt.EqAt A s u v (M.eqT d e)/\SeqAt.RcAt A s u v (M.eqT d e):=by
 intro n
 induction n with
 |zero=>
  intro A d e x y u v hu f O hx z Z q;have J:A.units<cLine:=by omega
  cases d with
  |loc _=>simp[M.flat]at f
  |lst _=>simp[M.flat]at f
  |tup _=>simp[M.flat]at f
  |non=>
   cases hx.non; cases Z
   cases e with
   |loc _=>simp[M.flat]at O
   |lst _=>simp[M.flat]at O
   |tup _=>simp[M.flat]at O
   |non=>cases z.non; cases q; exact⟨SeqAt.EqAt.same _,SeqAt.RcAt.none_none⟩
   |bl b=>cases z.bl; cases q; exact⟨SeqAt.EqAt.none_bool b,SeqAt.RcAt.none_bool b⟩
   |int b=>cases z.int; obtain⟨t,rfl⟩:=q; exact⟨SeqAt.EqAt.none_int b t,SeqAt.RcAt.none_int b t⟩
   |str b=>cases z.str; obtain⟨t,rfl⟩:=q; exact⟨SeqAt.EqAt.none_str b t,SeqAt.RcAt.none_str b t⟩
  |bl a=>
   cases hx.bl; cases Z
   cases e with
   |loc _=>simp[M.flat]at O
   |lst _=>simp[M.flat]at O
   |tup _=>simp[M.flat]at O
   |non=>cases z.non; cases q; exact⟨SeqAt.EqAt.bool_none a,SeqAt.RcAt.bool_none a⟩
   |bl b=>cases z.bl; cases q; exact⟨SeqAt.EqAt.bool_bool a b,SeqAt.RcAt.bool_bool a b⟩
   |int b=>cases z.int; obtain⟨t,rfl⟩:=q; exact⟨SeqAt.EqAt.bool_int a b t,SeqAt.RcAt.bool_int a b t⟩
   |str b=>cases z.str; obtain⟨t,rfl⟩:=q; exact⟨SeqAt.EqAt.bool_str a b t,SeqAt.RcAt.bool_str a b t⟩
  |int a=>
   cases hx.int; obtain⟨F,rfl⟩:=Z
   cases e with
   |loc _=>simp[M.flat]at O
   |lst _=>simp[M.flat]at O
   |tup _=>simp[M.flat]at O
   |non=>cases z.non; cases q; exact⟨SeqAt.EqAt.int_none a F,SeqAt.RcAt.int_none a F⟩
   |bl b=>cases z.bl; cases q; exact⟨SeqAt.EqAt.int_bool a F b,SeqAt.RcAt.int_bool a F b⟩
   |int b=>cases z.int; obtain⟨t,rfl⟩:=q; exact⟨SeqAt.EqAt.int_int a F b t,SeqAt.RcAt.int_int a F b t⟩
   |str b=>cases z.str; obtain⟨t,rfl⟩:=q; exact⟨SeqAt.EqAt.int_str a F b t,SeqAt.RcAt.int_str a F b t⟩
  |str a=>
   cases hx.str; obtain⟨F,rfl⟩:=Z
   cases e with
   |loc _=>simp[M.flat]at O
   |lst _=>simp[M.flat]at O
   |tup _=>simp[M.flat]at O
   |non=>cases z.non; cases q; exact⟨SeqAt.EqAt.str_none a F,SeqAt.RcAt.str_none a F⟩
   |bl b=>cases z.bl; cases q; exact⟨SeqAt.EqAt.str_bool a F b,SeqAt.RcAt.str_bool a F b⟩
   |int b=>cases z.int; obtain⟨t,rfl⟩:=q; exact⟨SeqAt.EqAt.str_int a F b t,SeqAt.RcAt.str_int a F b t⟩
   |str b=>cases z.str; obtain⟨t,rfl⟩:=q; exact⟨SeqAt.EqAt.str_str a F b t,SeqAt.RcAt.str_str a F b t⟩
 |succ n ih=>
  intro A d e x y u v hu f O hx z Z q;have J:A.units<cLine:=by omega
  cases d with
  |loc _=>simp[M.flat]at f
  |lst _=>simp[M.flat]at f
  |tup ds=>
   obtain⟨a,xs,U,rfl,hq,ix,r1,p1⟩:=qzd I hx;cases Z
   cases e with
   |loc _=>simp[M.flat]at O
   |lst _=>simp[M.flat]at O
   |non=>cases z.non; cases q; exact⟨SeqAt.EqAt.tuple_none p1 J,SeqAt.RcAt.tuple_none p1 J⟩
   |bl b=>cases z.bl; cases q; exact⟨SeqAt.EqAt.tuple_bool b p1 J,SeqAt.RcAt.tuple_bool b p1 J⟩
   |int b=>cases z.int; obtain⟨t,rfl⟩:=q; exact⟨SeqAt.EqAt.tuple_int b t p1 J,SeqAt.RcAt.tuple_int b t p1 J⟩
   |str b=>cases z.str; obtain⟨t,rfl⟩:=q; exact⟨SeqAt.EqAt.tuple_str b t p1 J,SeqAt.RcAt.tuple_str b t p1 J⟩
   |tup es=>
    obtain⟨b,ys,L,rfl,Y,iy,r2,p2⟩:=qzd I z;cases q;have l1:=ix.length;have l2:=iy.length;have l3:=r1.length;have l4:=r2.length;simp only[M.flat]at f O;have he:∀j (h1:j<U.toArray.size) (h2:j<L.toArray.size),SeqAt.EqAt A.in1 s U.toArray[j] L.toArray[j] (pairE ds es j):=by
     intro j h1 h2;rw[Qqj]at h1 h2;have j1:j<ds.length:=by omega
     have j2:j<es.length:=by omega
     have g1:ds[j]?=some ds[j]:=by simp
     have g2:es[j]?=some es[j]:=by simp
     obtain⟨x1,k1,q1⟩:=ix.get g1;obtain⟨x2,k2,q2⟩:=iy.get g2;obtain⟨u1,w1,z1⟩:=r1.get k1;obtain⟨u2,w2,z2⟩:=r2.get k2;have fl:∀(l:List D) (k:Nat) (hk:k<l.length),M.flats n l=true->M.flat n l[k]=true:=by
      intro l
      induction l with
      |nil=>intro k hk; cases hk
      |cons c l a1=>
       intro k hk hf;simp only[M.flats,Qqc]at hf
       cases k with
       |zero=>exact hf.1
       |succ k=>exact a1 k (by simpa using hk) hf.2
     have:=(ih A.in1 ds[j] es[j] x1 x2 u1 u2 (by have hz:A.in1.units=A.units+1:=rfl; omega) (fl ds j j1 f) (fl es j j2 O) q1 q2 z1 z2).1;have e1:U.toArray[j]=u1:=by
      have:U[j]?=some U[j]:=by simp
      rw[w1]at this;simpa using (Option.some.inj this).symm
     have e2:L.toArray[j]=u2:=by
      have:L[j]?=some L[j]:=by simp
      rw[w2]at this;simpa using (Option.some.inj this).symm
     rw[e1,e2];have e3:pairE ds es j=M.eqT ds[j] es[j]:=by
      unfold pairE;rw[g1,g2]
     rw[e3];exact this
    have rc:SeqAt.RcAt A s (.ref a) (.ref b) (M.eqT (.tup ds) (.tup es)):=by
     have:=SeqAt.RcAt.tuples p1 p2 J he;simp only[M.eqT];rw[qqa,l1,l2,l3,l4];simpa using this
    refine⟨?_,rc⟩
    by_cases a0:a=b
    ·subst a0;have:=I.tuple_inj hq Y;subst this;have e0:=qk8 I n ds es xs f O ix iy;subst e0;have e1:M.eqT (.tup ds) (.tup ds)=true:=by
      simp only[M.eqT];exact qji n ds f
     rw[e1];exact SeqAt.EqAt.same _
    ·exact SeqAt.EqAt.of_refs a0 rc
  |non=>
   cases hx.non; cases Z
   cases e with
   |loc _=>simp[M.flat]at O
   |lst _=>simp[M.flat]at O
   |tup es=>
    obtain⟨b,ys,L,rfl,Y,iy,r2,p2⟩:=qzd I z;cases q;exact⟨SeqAt.EqAt.none_tuple p2 J,SeqAt.RcAt.none_tuple p2 J⟩
   |non=>cases z.non; cases q; exact⟨SeqAt.EqAt.same _,SeqAt.RcAt.none_none⟩
   |bl b=>cases z.bl; cases q; exact⟨SeqAt.EqAt.none_bool b,SeqAt.RcAt.none_bool b⟩
   |int b=>cases z.int; obtain⟨t,rfl⟩:=q; exact⟨SeqAt.EqAt.none_int b t,SeqAt.RcAt.none_int b t⟩
   |str b=>cases z.str; obtain⟨t,rfl⟩:=q; exact⟨SeqAt.EqAt.none_str b t,SeqAt.RcAt.none_str b t⟩
  |bl a=>
   cases hx.bl; cases Z
   cases e with
   |loc _=>simp[M.flat]at O
   |lst _=>simp[M.flat]at O
   |tup es=>
    obtain⟨b,ys,L,rfl,Y,iy,r2,p2⟩:=qzd I z;cases q;exact⟨SeqAt.EqAt.bool_tuple a p2 J,SeqAt.RcAt.bool_tuple a p2 J⟩
   |non=>cases z.non; cases q; exact⟨SeqAt.EqAt.bool_none a,SeqAt.RcAt.bool_none a⟩
   |bl b=>cases z.bl; cases q; exact⟨SeqAt.EqAt.bool_bool a b,SeqAt.RcAt.bool_bool a b⟩
   |int b=>cases z.int; obtain⟨t,rfl⟩:=q; exact⟨SeqAt.EqAt.bool_int a b t,SeqAt.RcAt.bool_int a b t⟩
   |str b=>cases z.str; obtain⟨t,rfl⟩:=q; exact⟨SeqAt.EqAt.bool_str a b t,SeqAt.RcAt.bool_str a b t⟩
  |int a=>
   cases hx.int; obtain⟨F,rfl⟩:=Z
   cases e with
   |loc _=>simp[M.flat]at O
   |lst _=>simp[M.flat]at O
   |tup es=>
    obtain⟨b,ys,L,rfl,Y,iy,r2,p2⟩:=qzd I z;cases q;exact⟨SeqAt.EqAt.int_tuple a F p2 J,SeqAt.RcAt.int_tuple a F p2 J⟩
   |non=>cases z.non; cases q; exact⟨SeqAt.EqAt.int_none a F,SeqAt.RcAt.int_none a F⟩
   |bl b=>cases z.bl; cases q; exact⟨SeqAt.EqAt.int_bool a F b,SeqAt.RcAt.int_bool a F b⟩
   |int b=>cases z.int; obtain⟨t,rfl⟩:=q; exact⟨SeqAt.EqAt.int_int a F b t,SeqAt.RcAt.int_int a F b t⟩
   |str b=>cases z.str; obtain⟨t,rfl⟩:=q; exact⟨SeqAt.EqAt.int_str a F b t,SeqAt.RcAt.int_str a F b t⟩
  |str a=>
   cases hx.str; obtain⟨F,rfl⟩:=Z
   cases e with
   |loc _=>simp[M.flat]at O
   |lst _=>simp[M.flat]at O
   |tup es=>
    obtain⟨b,ys,L,rfl,Y,iy,r2,p2⟩:=qzd I z;cases q;exact⟨SeqAt.EqAt.str_tuple a F p2 J,SeqAt.RcAt.str_tuple a F p2 J⟩
   |non=>cases z.non; cases q; exact⟨SeqAt.EqAt.str_none a F,SeqAt.RcAt.str_none a F⟩
   |bl b=>cases z.bl; cases q; exact⟨SeqAt.EqAt.str_bool a F b,SeqAt.RcAt.str_bool a F b⟩
   |int b=>cases z.int; obtain⟨t,rfl⟩:=q; exact⟨SeqAt.EqAt.str_int a F b t,SeqAt.RcAt.str_int a F b t⟩
   |str b=>cases z.str; obtain⟨t,rfl⟩:=q; exact⟨SeqAt.EqAt.str_str a F b t,SeqAt.RcAt.str_str a F b t⟩
theorem qqy:∀{n:Nat}{l:List D}{k:Nat}{d:D},M.flats n l=true->l[k]?=some d->M.flat n d=true
 |_,[],_,_,_,e=>by simp at e
 |n,c::l,0,d,f,e=>by
  simp only[M.flats,Qqc]at f;have j:c=d:=by simpa using e
  rw[<- j]; exact f.1
 |n,c::l,k+1,d,f,e=>by
  simp only[M.flats,Qqc]at f;exact qqy (k:=k) f.2 (by simpa using e)
end
end
end MS
end
section
namespace MS
open PySem PySem.Spec PyProof.Rows L2
section
variable {X:Cx}
end
end MS
end
section
namespace MS
open PySem PySem.Spec PyProof.Rows L2
open M (D Cell Store Sl)
section
variable {X:Cx}
section
variable {pins:List (Addr×Obj)}{σ:L2.St}{H:Hp}{s:Qz}{m:List Addr}
theorem qjr(I:Inv X pins σ H s)(A:Qw)(hu:A.units+9<cLine){d0:D}{L:V}{J:Value}(f0:M.flat 9 d0=true)(h0:IsD X.K m H d0 L)(r0:RelV L J):
  ∃e:Value->Bool,∀(ds:List D) (xs:List V) (j:List Value),M.flats 9 ds=true->IsDs X.K m H ds xs->Vals xs j->(∀w∈j,SeqAt.EqAt A s w J (e w))/\j.any e=ds.any λy=>M.eqT y d0:=by
 classical
 refine⟨λw=>decide (∃d x,M.flat 9 d=true/\IsD X.K m H d x/\RelV x w/\M.eqT d d0=true),λds=>?_⟩;have F:∀d x w,M.flat 9 d=true->IsD X.K m H d x->RelV x w->decide (∃d x,M.flat 9 d=true/\IsD X.K m H d x/\RelV x w/\M.eqT d d0=true)=M.eqT d d0:=by
  intro d x w f i r
  cases q:M.eqT d d0 with
  |true=>exact Zp ⟨d,x,f,i,r,q⟩
  |false=>
   refine Zr ?_;rintro⟨d',x',f',i',r',Z⟩;have e1:=r.inj r';subst e1;have e2:=qdv I 9 d d' x f f' i i';subst e2;rw[q]at Z;cases Z
 induction ds with
 |nil=>
  intro xs j _ U r;rw[U.nil]at r;cases r;exact⟨λw Y=>(by cases Y),rfl⟩
 |cons d ds ih=>
  intro xs j f U r;obtain⟨x,xr,rfl,q,t⟩:=U.cons;simp only[M.flats,Qqc]at f
  cases r with
  |@cons _ u _ us O r2=>
   obtain⟨a1,a2⟩:=ih xr us f.2 t r2;refine⟨λw Y=>?_,?_⟩
   ·rcases Qqv.mp Y with z|z
    ·subst z;show SeqAt.EqAt A s w J (decide _);rw[F d x w f.1 q O];exact(qav I 9 A d d0 x L w J hu f.1 f0 q h0 O r0).1
    ·exact a1 w z
   ·rw[Qz9,Qz9,a2]
    congr 1
    exact F d x u f.1 q O
end
theorem qy5{F:List (Addr×Obj)}{σ:L2.St}{H:Hp}{s:Qz}{m:List Addr}(I:Inv X F σ H s)(A:Qw)(n:Nat)(hu:A.units+n<cLine){ds es:List D}{xs ys:List V}{z q:List Value}(f:M.flats n ds=true)(fe:M.flats n es=true)(Z:IsDs X.K m H ds xs)(Y:IsDs X.K m H es ys)(U:Vals xs z)(O:Vals ys q)
  (j:Nat) (h1:j<z.toArray.size) (h2:j<q.toArray.size):SeqAt.EqAt A s z.toArray[j] q.toArray[j] (pairE ds es j):=by
 have l1:=Z.length;have l2:=Y.length;have l3:=U.length;have l4:=O.length;rw[Qqj]at h1 h2;have j1:j<ds.length:=by omega
 have j2:j<es.length:=by omega
 have L:ds[j]?=some ds[j]:=by simp
 have J:es[j]?=some es[j]:=by simp
 obtain⟨x1,k1,q1⟩:=Z.get L;obtain⟨x2,k2,q2⟩:=Y.get J;obtain⟨u1,w1,z1⟩:=U.get k1;obtain⟨u2,w2,z2⟩:=O.get k2;have this:=(qav I n A ds[j] es[j] x1 x2 u1 u2 hu (qqy f L) (qqy fe J) q1 q2 z1 z2).1;have e1:z.toArray[j]=u1:=by
  have:z[j]?=some z[j]:=by simp
  rw[w1]at this;simpa using (Option.some.inj this).symm
 have e2:q.toArray[j]=u2:=by
  have:q[j]?=some q[j]:=by simp
  rw[w2]at this;simpa using (Option.some.inj this).symm
 rw[e1,e2];have e3:pairE ds es j=M.eqT ds[j] es[j]:=by
  unfold pairE;rw[L,J]
 rw[e3];exact this
theorem op_inD(hu:X.A.units+64<cLine):OpR X (Qd .In) (rD X.K λst a b=>(M.inD st a b).map λk=>(.bl k,st)):=by
 intro pins s σ H x y v u Q I rx ry h;refine h.el λm st a b d st' Z i1 i2 e q=>?_;obtain⟨k,z,Y⟩:=mapD e;cases Y;have J:X.A.in1.units+9<cLine:=by have hz:X.A.in1.units=X.A.units+1:=rfl; omega
 cases b with
 |tup ds=>
  simp only[M.inD]at z
  split at z
  ·rename_i hf;cases z;rw[Qqc]at hf;obtain⟨p,xs,j,rfl,hq,L,r,pl⟩:=qzd I i2;cases ry;obtain⟨F,U⟩:=qjr I X.A.in1 J hf.1 i1 rx;obtain⟨h1,h2⟩:=U ds xs j hf.2 L r;refine SeqAt.in_tupleAt F pl (λw O=>h1 w (by simpa using O)) ⟨.bl _,H,I,rfl,?_⟩;rw[show j.toArray.any F=j.any F by simp,h2];exact q.here Z (mkBl _)
  ·cases z
 |loc l=>
  simp only[M.inD]at z;obtain⟨ds,Y,z⟩:=qzv z
  split at z
  ·rename_i hf;cases z;rw[Qqc]at hf;obtain⟨p,xs,_,rfl,hq,L⟩:=Z.seq Y i2;cases ry;obtain⟨j,r,pl,_⟩:=I.list hq;obtain⟨F,U⟩:=qjr I X.A.in1 J hf.1 i1 rx;obtain⟨h1,h2⟩:=U ds xs j hf.2 L r;refine SeqAt.in_listAt F pl.isList (λw O=>h1 w (by simpa using O)) ⟨.bl _,H,I,rfl,?_⟩;rw[show j.toArray.any F=j.any F by simp,h2];exact q.here Z (mkBl _)
  ·cases z
 |lst l=>
  simp only[M.inD]at z;obtain⟨ds,Y,z⟩:=qzv z
  split at z
  ·rename_i hf;cases z;rw[Qqc]at hf;obtain⟨p,xs,_,rfl,hq,L⟩:=Z.seq Y i2;cases ry;obtain⟨j,r,pl,_⟩:=I.list hq;obtain⟨F,U⟩:=qjr I X.A.in1 J hf.1 i1 rx;obtain⟨h1,h2⟩:=U ds xs j hf.2 L r;refine SeqAt.in_listAt F pl.isList (λw O=>h1 w (by simpa using O)) ⟨.bl _,H,I,rfl,?_⟩;rw[show j.toArray.any F=j.any F by simp,h2];exact q.here Z (mkBl _)
  ·cases z
 |_=>simp[M.inD,M.seqAt]at z
theorem qcn(hu:X.A.units+64<cLine):OpR X (Qd .NotIn) (rD X.K λst a b=>((M.inD st a b).map (!·)).map λk=>(.bl k,st)):=by
 intro pins s σ H x y v u Q I rx ry h;refine h.el λm st a b d st' Z i1 i2 e q=>?_;obtain⟨k0,e0,Y⟩:=mapD e;cases Y;obtain⟨k,z,e3⟩:=mapD e0;subst e3;have J:X.A.in1.units+9<cLine:=by have hz:X.A.in1.units=X.A.units+1:=rfl; omega
 cases b with
 |tup ds=>
  simp only[M.inD]at z
  split at z
  ·rename_i hf;cases z;rw[Qqc]at hf;obtain⟨p,xs,j,rfl,hq,L,r,pl⟩:=qzd I i2;cases ry;obtain⟨F,U⟩:=qjr I X.A.in1 J hf.1 i1 rx;obtain⟨h1,h2⟩:=U ds xs j hf.2 L r;refine SeqAt.notIn_tupleAt F pl (λw O=>h1 w (by simpa using O)) ⟨.bl _,H,I,rfl,?_⟩;rw[show j.toArray.any F=j.any F by simp,h2];exact q.here Z (mkBl _)
  ·cases z
 |loc l=>
  simp only[M.inD]at z;obtain⟨ds,Y,z⟩:=qzv z
  split at z
  ·rename_i hf;cases z;rw[Qqc]at hf;obtain⟨p,xs,_,rfl,hq,L⟩:=Z.seq Y i2;cases ry;obtain⟨j,r,pl,_⟩:=I.list hq;obtain⟨F,U⟩:=qjr I X.A.in1 J hf.1 i1 rx;obtain⟨h1,h2⟩:=U ds xs j hf.2 L r;refine SeqAt.notIn_listAt F pl.isList (λw O=>h1 w (by simpa using O)) ⟨.bl _,H,I,rfl,?_⟩;rw[show j.toArray.any F=j.any F by simp,h2];exact q.here Z (mkBl _)
  ·cases z
 |lst l=>
  simp only[M.inD]at z;obtain⟨ds,Y,z⟩:=qzv z
  split at z
  ·rename_i hf;cases z;rw[Qqc]at hf;obtain⟨p,xs,_,rfl,hq,L⟩:=Z.seq Y i2;cases ry;obtain⟨j,r,pl,_⟩:=I.list hq;obtain⟨F,U⟩:=qjr I X.A.in1 J hf.1 i1 rx;obtain⟨h1,h2⟩:=U ds xs j hf.2 L r;refine SeqAt.notIn_listAt F pl.isList (λw O=>h1 w (by simpa using O)) ⟨.bl _,H,I,rfl,?_⟩;rw[show j.toArray.any F=j.any F by simp,h2];exact q.here Z (mkBl _)
  ·cases z
 |_=>simp[M.inD,M.seqAt]at z
theorem op_eqD(hu:X.A.units+64<cLine):OpR X (Qd .Eq) (rD X.K λst a b=>(M.eqD st a b).map λk=>(.bl k,st)):=by
 intro pins s σ H x y v u Q I rx ry h;refine h.el λm st a b d st' Z i1 i2 e q=>?_;obtain⟨k,F,e2⟩:=mapD e;cases e2;have F:M.eqD st a b=some k:=F;unfold M.eqD at F
 split at F
 ·rename_i ds es Y U
  split at F
  ·rename_i hf;cases F;rw[Qqc]at hf;obtain⟨p,xs,_,rfl,hq,ix⟩:=Z.seq Y i1;obtain⟨p',ys,_,rfl,a0,iy⟩:=Z.seq U i2;cases rx;cases ry;obtain⟨J,r1,pl,_⟩:=I.list hq;obtain⟨z,r2,O,_⟩:=I.list a0;have l1:=ix.length;have l2:=iy.length;have l3:=r1.length;have l4:=r2.length
   by_cases L:J.toArray.size=z.toArray.size
   ·refine SeqAt.RcAt.lists (e:=pairE ds es) pl.isList O.isList L (by omega) (λj h1 h2=>?_) _ _ _ _ ⟨.bl _,H,I,rfl,?_⟩
    ·rw[Qqj]at h1 h2;have j1:j<ds.length:=by omega
     have j2:j<es.length:=by omega
     have Y:ds[j]?=some ds[j]:=by simp
     have U:es[j]?=some es[j]:=by simp
     obtain⟨x1,k1,q1⟩:=ix.get Y;obtain⟨x2,k2,q2⟩:=iy.get U;obtain⟨u1,w1,z1⟩:=r1.get k1;obtain⟨u2,w2,z2⟩:=r2.get k2;have this:=(qav I 9 X.A.in1 ds[j] es[j] x1 x2 u1 u2 (by have hz:X.A.in1.units=X.A.units+1:=rfl; omega) (qqy hf.1 Y) (qqy hf.2 U) q1 q2 z1 z2).1;have F:J.toArray[j]=u1:=by
      have:J[j]?=some J[j]:=by simp
      rw[w1]at this;simpa using (Option.some.inj this).symm
     have e2:z.toArray[j]=u2:=by
      have:z[j]?=some z[j]:=by simp
      rw[w2]at this;simpa using (Option.some.inj this).symm
     rw[F,e2];have e3:pairE ds es j=M.eqT ds[j] es[j]:=by
      unfold pairE;rw[Y,U]
     rw[e3];exact this
    ·rw[Qqj,Qqj]at L;have e5:(List.range J.toArray.size).all (pairE ds es)=M.eqTs ds es:=by
      rw[qwj (by omega),Qqj,<- l3,<- l1]
     rw[e5];exact q.here Z (mkBl _)
   ·rw[Qqj,Qqj]at L;have e5:M.eqTs ds es=false:=by
     rw[qqa];have:(ds.length==es.length)=false:=by simp; omega
     rw[this,Qxd]
    rw[e5]at q;refine SeqAt.RcAt.lists_lengths pl.isList O.isList (by simpa using L) (by omega) _ _ _ _ ⟨.bl _,H,I,rfl,q.here Z (mkBl _)⟩
  ·cases F
 ·split at F
  ·rename_i hf;cases F;rw[Qqc]at hf;exact(qav I 9 X.A a b x y v u (by omega) hf.1 hf.2 i1 i2 rx ry).2 _ _ _ _ ⟨.bl _,H,I,rfl,q.here Z (mkBl _)⟩
  ·cases F
theorem neAt_D{a0:List (Addr×Obj)}{σ:L2.St}{H:Hp}{s:Qz}{m:List Addr}(I:Inv X a0 σ H s)(A:Qw)(d e:D)(x y:V)(u v:Value)(hu:A.units+10<cLine)(f:M.flat 9 d=true)(L:M.flat 9 e=true)(hx:IsD X.K m H d x)(z:IsD X.K m H e y)(rx:RelV x u)(q:RelV y v):
  SeqAt.RcNeAt A s u v (!M.eqT d e):=by
 have J:A.units<cLine:=by omega
 cases d with
 |loc _=>simp[M.flat]at f
 |lst _=>simp[M.flat]at f
 |non=>
  cases hx.non; cases rx
  cases e with
  |loc _=>simp[M.flat]at L
  |lst _=>simp[M.flat]at L
  |tup es=>obtain⟨b,ys,F,rfl,U,Z,Y,p2⟩:=qzd I z; cases q; exact SeqAt.RcNeAt.none_tuple p2 J
  |non=>cases z.non; cases q; exact SeqAt.RcNeAt.none_none
  |bl b=>cases z.bl; cases q; exact SeqAt.RcNeAt.none_bool b
  |int b=>cases z.int; obtain⟨t,rfl⟩:=q; exact SeqAt.RcNeAt.none_int b t
  |str b=>cases z.str; obtain⟨t,rfl⟩:=q; exact SeqAt.RcNeAt.none_str b t
 |bl a=>
  cases hx.bl; cases rx
  cases e with
  |loc _=>simp[M.flat]at L
  |lst _=>simp[M.flat]at L
  |tup es=>obtain⟨b,ys,F,rfl,U,Z,Y,p2⟩:=qzd I z; cases q; exact SeqAt.RcNeAt.bool_tuple a p2 J
  |non=>cases z.non; cases q; exact SeqAt.RcNeAt.bool_none a
  |bl b=>cases z.bl; cases q; exact SeqAt.RcNeAt.bool_bool a b
  |int b=>cases z.int; obtain⟨t,rfl⟩:=q; exact SeqAt.RcNeAt.bool_int a b t
  |str b=>cases z.str; obtain⟨t,rfl⟩:=q; exact SeqAt.RcNeAt.bool_str a b t
 |int a=>
  cases hx.int; obtain⟨O,rfl⟩:=rx
  cases e with
  |loc _=>simp[M.flat]at L
  |lst _=>simp[M.flat]at L
  |tup es=>obtain⟨b,ys,F,rfl,U,Z,Y,p2⟩:=qzd I z; cases q; exact SeqAt.RcNeAt.int_tuple a O p2 J
  |non=>cases z.non; cases q; exact SeqAt.RcNeAt.int_none a O
  |bl b=>cases z.bl; cases q; exact SeqAt.RcNeAt.int_bool a O b
  |int b=>cases z.int; obtain⟨t,rfl⟩:=q; exact SeqAt.RcNeAt.int_int a O b t
  |str b=>cases z.str; obtain⟨t,rfl⟩:=q; exact SeqAt.RcNeAt.int_str a O b t
 |str a=>
  cases hx.str; obtain⟨O,rfl⟩:=rx
  cases e with
  |loc _=>simp[M.flat]at L
  |lst _=>simp[M.flat]at L
  |tup es=>obtain⟨b,ys,F,rfl,U,Z,Y,p2⟩:=qzd I z; cases q; exact SeqAt.RcNeAt.str_tuple a O p2 J
  |non=>cases z.non; cases q; exact SeqAt.RcNeAt.str_none a O
  |bl b=>cases z.bl; cases q; exact SeqAt.RcNeAt.str_bool a O b
  |int b=>cases z.int; obtain⟨t,rfl⟩:=q; exact SeqAt.RcNeAt.str_int a O b t
  |str b=>cases z.str; obtain⟨t,rfl⟩:=q; exact SeqAt.RcNeAt.str_str a O b t
 |tup ds=>
  obtain⟨a,xs,a1,rfl,hq,ix,r1,p1⟩:=qzd I hx;cases rx
  cases e with
  |loc _=>simp[M.flat]at L
  |lst _=>simp[M.flat]at L
  |non=>cases z.non; cases q; exact SeqAt.RcNeAt.tuple_none p1 J
  |bl b=>cases z.bl; cases q; exact SeqAt.RcNeAt.tuple_bool b p1 J
  |int b=>cases z.int; obtain⟨t,rfl⟩:=q; exact SeqAt.RcNeAt.tuple_int b t p1 J
  |str b=>cases z.str; obtain⟨t,rfl⟩:=q; exact SeqAt.RcNeAt.tuple_str b t p1 J
  |tup es=>
   obtain⟨b,ys,F,rfl,U,Z,Y,p2⟩:=qzd I z;cases q;have l1:=ix.length;have l2:=Z.length;have l3:=r1.length;have l4:=Y.length;simp only[M.flat]at f L;have he:∀j (h1:j<a1.toArray.size) (h2:j<F.toArray.size),SeqAt.EqAt A.in1 s a1.toArray[j] F.toArray[j] (pairE ds es j):=λj h1 h2=>qy5 I A.in1 8 (by have hz:A.in1.units=A.units+1:=rfl; omega) f L ix Z r1 Y j h1 h2;have:=SeqAt.RcNeAt.tuples p1 p2 J he;simp only[M.eqT];rw[qqa,l1,l2,l3,l4];simpa using this
theorem op_neD(hu:X.A.units+64<cLine):OpR X (Qd .NotEq) (rD X.K λst a b=>(M.neD st a b).map λk=>(.bl k,st)):=by
 intro pins s σ H x y v u Q I rx ry h;obtain⟨m,st,a,b,d,st',U,i1,i2,e,q⟩:=h;obtain⟨k0,e0,e2⟩:=mapD e;cases e2;obtain⟨k,z,e3⟩:=mapD e0;subst e3;have z:M.eqD st a b=some k:=z;unfold M.eqD at z
 split at z
 ·rename_i ds es g1 g2
  split at z
  ·rename_i hf;cases z;rw[Qqc]at hf;obtain⟨p,xs,_,rfl,hq,ix⟩:=U.seq g1 i1;obtain⟨p',ys,_,rfl,Y,iy⟩:=U.seq g2 i2;cases rx;cases ry;obtain⟨O,r1,pl,_⟩:=I.list hq;obtain⟨L,r2,J,_⟩:=I.list Y;have l1:=ix.length;have l2:=iy.length;have l3:=r1.length;have l4:=r2.length
   by_cases F:O.toArray.size=L.toArray.size
   ·refine SeqAt.RcNeAt.lists (e:=pairE ds es) pl.isList J.isList F (by omega) (λj h1 h2=>qy5 I X.A.in1 9 (by have hz:X.A.in1.units=X.A.units+1:=rfl; omega) hf.1 hf.2 ix iy r1 r2 j h1 h2) _ _ _ _ ⟨.bl _,H,I,rfl,?_⟩;rw[Qqj,Qqj]at F;have Z:(List.range O.toArray.size).all (pairE ds es)=M.eqTs ds es:=by
     rw[qwj (by omega),Qqj,<- l3,<- l1]
    rw[Z];exact q.here U (mkBl _)
   ·rw[Qqj,Qqj]at F;have Z:M.eqTs ds es=false:=by
     rw[qqa];have:(ds.length==es.length)=false:=by simp; omega
     rw[this,Qxd]
    rw[Z]at q;refine SeqAt.RcNeAt.lists_lengths pl.isList J.isList (by simpa using F) (by omega) _ _ _ _ ⟨.bl _,H,I,rfl,q.here U (mkBl _)⟩
  ·cases z
 ·split at z
  ·rename_i hf;cases z;rw[Qqc]at hf;exact neAt_D I X.A a b x y v u (by omega) hf.1 hf.2 i1 i2 rx ry _ _ _ _ ⟨.bl _,H,I,rfl,q.here U (mkBl _)⟩
  ·cases z
theorem qy7{K:Qqq}{m:List Addr}{H:Hp}{d:D}{x:V}(h:IsD K m H d x):decide (x=.non)=M.isNon d:=by
 cases d with
 |non=>rw[h.non]; rfl
 |bl b=>rw[h.bl]; rfl
 |int b=>rw[h.int]; rfl
 |str b=>rw[h.str]; rfl
 |tup ds=>obtain⟨a,xs,rfl,_⟩:=h.tup; rfl
 |loc l=>obtain⟨a,_,rfl⟩:=h.loc; rfl
 |lst l=>obtain⟨a,xs,rfl,_⟩:=h.lst; rfl
theorem qxw(U:X.A.units+64<cLine)(op:Qr):OpR X (Qd op) (rD X.K λst a b=>(M.cmpD st op a b).map λk=>(.bl k,st)):=by
 intro pins s σ H x y v u Q I F z h;obtain⟨m,st,a,b,d,st',O,L,J,e,q⟩:=h;obtain⟨k,j,Y⟩:=mapD e;cases Y;have j:M.cmpD st op a b=some k:=j;unfold M.cmpD at j
 split at j
 ·cases j;exact op_lt pins s σ H x y v u Q I F z ⟨_,_,L.int,J.int,q.here O (mkBl _)⟩
 ·cases j;exact op_le pins s σ H x y v u Q I F z ⟨_,_,L.int,J.int,q.here O (mkBl _)⟩
 ·cases j;exact op_gt pins s σ H x y v u Q I F z ⟨_,_,L.int,J.int,q.here O (mkBl _)⟩
 ·cases j;exact op_ge pins s σ H x y v u Q I F z ⟨_,_,L.int,J.int,q.here O (mkBl _)⟩
 ·exact op_eqD U pins s σ H x y v u Q I F z ⟨m,st,a,b,_,_,O,L,J,by dsimp only; rw[j]; rfl,q⟩
 ·exact op_neD U pins s σ H x y v u Q I F z ⟨m,st,a,b,_,_,O,L,J,by dsimp only; rw[j]; rfl,q⟩
 ·cases j;refine op_isN pins s σ H x y v u Q I F z ⟨J.non,?_⟩;rw[qy7 L];exact q.here O (mkBl _)
 ·cases j;refine qi1 pins s σ H x y v u Q I F z ⟨J.non,?_⟩;rw[qy7 L];exact q.here O (mkBl _)
 ·exact op_inD U pins s σ H x y v u Q I F z ⟨m,st,a,b,_,_,O,L,J,by dsimp only; rw[j]; rfl,q⟩
 ·exact qcn U pins s σ H x y v u Q I F z ⟨m,st,a,b,_,_,O,L,J,by dsimp only; rw[j]; rfl,q⟩
 ·cases j
theorem qhg{K:Qqq}{m:List Addr}{st:Store}{H:Hp}{d:D}{x:V}{k:Bool}(J:Rel K m st H)(h:IsD K m H d x)(e:M.truth st d=some k):TruV K x H k:=by
 cases d with
 |non=>rw[h.non]; simp only[M.truth]at e; exact(Option.some.inj e).symm
 |bl b=>rw[h.bl]; simp only[M.truth]at e; exact(Option.some.inj e).symm
 |int b=>rw[h.int]; simp only[M.truth]at e; exact(Option.some.inj e).symm
 |str b=>cases e
 |tup ds=>
  obtain⟨a,xs,rfl,q,j⟩:=h.tup;simp only[M.truth]at e;refine .inr (.inl ⟨xs,q,?_⟩);have:=j.length;cases e;cases ds<;>cases xs<;>simp_all
 |loc l=>
  simp only[M.truth]at e;obtain⟨ds,F,z⟩:=mapD e;obtain⟨a,xs,_,rfl,q,j⟩:=J.seq F h;refine .inl ⟨xs,q,?_⟩;have:=j.length;subst z;cases ds<;>cases xs<;>simp_all
 |lst l=>
  simp only[M.truth]at e;obtain⟨ds,F,z⟩:=mapD e;obtain⟨a,xs,_,rfl,q,j⟩:=J.seq F h;refine .inl ⟨xs,q,?_⟩;have:=j.length;subst z;cases ds<;>cases xs<;>simp_all
theorem qhy{K:Qqq}{m:List Addr}{H:Hp}{ds:List D}{xs:List V}{i:Int}{d:D}(z:IsDs K m H ds xs)(e:M.atI ds i=some d):∃x,L2.atI xs i=some x/\IsD K m H d x:=by
 unfold M.atI at e;obtain⟨j,O,L⟩:=qzv e;obtain⟨x,J,q⟩:=z.get L;refine⟨x,?_,q⟩;unfold L2.atI;have F:L2.ixN xs.length i=some j:=by rw[<- z.length]; exact O
 rw[F];exact J
theorem ix_D:IxR X (rD X.K λst a b=>(M.idxD st a b).map λd=>(d,st)):=by
 intro value j pins s σ H x y v u Q I rx Z h hs;obtain⟨m,st,a,b,d,st',Y,i1,i2,e,q⟩:=h;obtain⟨k,z,U⟩:=mapD e;cases U;have z:M.idxD st a b=some d:=z;unfold M.idxD at z
 split at z
 ·obtain⟨p,xs,rfl,L,F⟩:=i1.tup;obtain⟨w,O,J⟩:=qhy F z;exact ix_tup value j pins s σ H _ _ v u Q I rx Z ⟨p,xs,_,w,rfl,i2.int,L,O,q.here Y J⟩ hs
 ·obtain⟨ds,U,z⟩:=qzv z;obtain⟨p,xs,_,rfl,L,F⟩:=Y.seq U i1;obtain⟨w,O,J⟩:=qhy F z;exact qlc value j pins s σ H _ _ v u Q I rx Z ⟨p,xs,_,w,rfl,i2.int,L,O,q.here Y J⟩ hs
 ·cases z
theorem qa3:MtM X "list.append" (λx xs H Q=>∃m st a ds d st',Rel X.K m st H/\IsD X.K m H a x/\IsDs X.K m H ds xs/\M.mAppend st a ds=some (d,st')/\Post X.K m H d st' Q):=by
 intro pins s σ H x xs v J Q I L O h;obtain⟨m,st,a,ds,d,st',F,Z,Y,e,q⟩:=h;unfold M.mAppend at e
 split at e
 ·obtain⟨a0,e1,e⟩:=qzv e
  split at e
  ·rename_i hl;cases e;obtain⟨p,ys,hm,rfl,j,z,hs⟩:=F.wlist e1 Z;obtain⟨y,rfl,U⟩:=Y.one;have l1:=z.length;have l2:=qqe;refine qcu pins s σ H _ _ v J Q I L O ⟨p,ys,y,rfl,rfl,j,by omega,?_⟩;exact q _ m _ (Sub.refl m) (Tr.put j) (F.put hs hm j (z.append (qzi U qqq))) qvt
  ·cases e
 ·cases e
def rSlD(K:Qqq):V->Option Int->Option Int->Hp->VK->Prop:=λx lo hi H Q=>∃m st a d st',Rel K m st H/\IsD K m H a x/\M.sliD st a lo hi=some (d,st')/\Post K m H d st' Q
theorem _root_.MS.IsDs.take{K:Qqq}{m:List Addr}{H:Hp}:∀{ds:List D}{xs:List V}(n:Nat),IsDs K m H ds xs->IsDs K m H (ds.take n) (xs.take n)
 |_,_,0,_=>by simp only[Qj4]; exact qqq
 |[],_,n+1,h=>by rw[h.nil]; simp only[List.take_nil]; exact qqq
 |d::ds,_,n+1,h=>by
  obtain⟨x,r,rfl,q,t⟩:=h.cons;simp only[List.take_succ_cons];exact qzi q (IsDs.take n t)
theorem _root_.MS.IsDs.drop{K:Qqq}{m:List Addr}{H:Hp}:∀{ds:List D}{xs:List V}(n:Nat),IsDs K m H ds xs->IsDs K m H (ds.drop n) (xs.drop n)
 |_,_,0,h=>by simp only[List.drop_zero]; exact h
 |[],_,n+1,h=>by rw[h.nil]; simp only[List.drop_nil]; exact qqq
 |d::ds,_,n+1,h=>by
  obtain⟨x,r,rfl,q,t⟩:=h.cons;simp only[List.drop_succ_cons];exact IsDs.drop n t
theorem qab(n d:Nat)(o:Option Int):M.cutIx n d o=HT.sIx n d o:=by
 cases o<;>rfl
theorem qhv{K:Qqq}{m:List Addr}{H:Hp}{ds:List D}{xs:List V}(h:IsDs K m H ds xs)(lo j:Option Int):IsDs K m H (M.cut ds lo j) (cutV xs lo j):=by
 unfold M.cut cutV;rw[qab,qab,h.length];exact(h.drop _).take _
theorem sl_D:SlR X (rSlD X.K):=by
 intro pins s σ H x v vl vu lo hi sl Q I L hs pl O h;obtain⟨m,st,a,d,st',z,i1,e,q⟩:=h;unfold M.sliD at e
 split at e
 ·cases e;obtain⟨p,xs,rfl,hx,U⟩:=i1.tup;have Z:=qhv U lo hi
  by_cases F:HT.sIx xs.length 0 lo=0/\HT.sIx xs.length xs.length hi=xs.length
  ·cases L;obtain⟨Y,r,ht,hz⟩:=I.tuple hx;refine⟨"tuple",_,PyProof.Rows.slot_tuple_getitem.lookup,ht.typeIs,?_⟩;have j:Y.toArray.size=xs.length:=by rw[Qqj]; exact r.length.symm
   refine qq3 ht hs pl O (by rw[j]; exact F) ?_;refine⟨.ref p,H,I,rfl,q.here z (qq5 hx ?_)⟩;have e1:cutV xs lo hi=xs:=by
    unfold cutV;rw[F.1,F.2];simp
   rw[e1]at Z;exact Z
  ·refine sl_tup pins s σ H _ v vl vu lo hi sl Q I L hs pl O ⟨p,xs,rfl,hx,F,λp' hp=>?_⟩;have J:=qzw (o:=.tup (cutV xs lo hi)) hp;exact q _ m _ (Sub.refl m) (Tr.of_same J) (z.same J) (qq5 (SqT.of qzk) (qzy (Sub.refl m) (Tr.of_same J) _ _ Z))
 ·obtain⟨ds,e1,e2⟩:=mapD e;cases e2;obtain⟨p,xs,_,rfl,hq,U⟩:=z.seq e1 i1;refine qh4 pins s σ H _ v vl vu lo hi sl Q I L hs pl O ⟨p,xs,rfl,hq,λl hl=>?_⟩;exact q _ (m++[l]) _ (Sub.app m [l]) (Tr.of_same (qzw hl)) (z.new hl (qhv U lo hi)) z.newLoc
theorem qd5:CallR X (.builtin "len") (rC X.K M.bLen):=by
 intro pins s σ H xs J Q I r h;refine h.el λm st ds d st' F L e q=>?_;unfold M.bLen at e
 split at e
 ·cases e;obtain⟨x,rfl,i⟩:=L.one;obtain⟨p,ys,rfl,z,j⟩:=i.tup;refine qxm pins s σ H _ J Q I r ⟨p,ys,rfl,.inr z,?_⟩;rw[<- j.length];exact q.here F (mkInt _)
 ·obtain⟨Y,U,O⟩:=mapD e;cases O;obtain⟨x,rfl,i⟩:=L.one;obtain⟨p,ys,_,rfl,z,j⟩:=F.seq U i;refine qxm pins s σ H _ J Q I r ⟨p,ys,rfl,.inl z,?_⟩;rw[<- j.length];exact q.here F (mkInt _)
 ·cases e
theorem qd2(J:X.calm=true):CallR X (.builtin "min") (rC X.K M.bMin):=by
 intro pins s σ H xs z Q I r h;refine h.el λm st ds d st' L F e q=>?_;unfold M.bMin at e
 split at e
 ·cases e;obtain⟨x,y,rfl,i,j⟩:=F.two;cases i.int; cases j.int;exact qd3 J pins s σ H _ z Q I r ⟨_,_,rfl,q.here L (mkInt _)⟩
 ·cases e
theorem qyz:CallR X (.type "tuple") (rC X.K M.bTuple):=by
 intro pins s σ H xs L Q I r h;refine h.el λm st ds d st' J O e q=>?_;unfold M.bTuple at e
 split at e
 ·cases e;obtain⟨x,rfl,i⟩:=O.one;obtain⟨p,ys,rfl,j,F⟩:=i.tup;exact qxv pins s σ H _ L Q I r ⟨p,ys,rfl,.inr ⟨j,q.here J (qq5 j F)⟩⟩
 ·obtain⟨a0,Z,Y⟩:=mapD e;cases Y;obtain⟨x,rfl,i⟩:=O.one;obtain⟨p,ys,_,rfl,j,F⟩:=J.seq Z i;refine qxv pins s σ H _ L Q I r ⟨p,ys,rfl,.inl ⟨j,λl U=>?_⟩⟩;have z:=qzw (o:=.tup ys) U;exact q _ m _ (Sub.refl m) (Tr.of_same z) (J.same z) (qq5 (SqT.of qzk) (qzy (Sub.refl m) (Tr.of_same z) _ _ F))
 ·cases e
theorem qjb{P:Program}{w:Qk}:∀{xs:List (Key×V)}{vs:List (Key×Value)}{L:List Value},KV xs vs->L.length=vs.length->(∀(j:Nat) (v:Value),L[j]?=some v->∃k x,vs[j]?=some (k,x)/\(mixKind P w).is k v=true)->Vals (xs.map λp=>kV p.1) L
 |[],_,L,.nil,q,_=>by
  rw[Qzr.mp q];exact .nil
 |(k,x)::xs,(k',u)::vs,[],.cons _ _,q,_=>by cases q
 |(k,x)::xs,(k',u)::vs,v::L,.cons h r,q,J=>by
  obtain⟨k2,x2,e,Y⟩:=J 0 v rfl;cases e;have F:k=k':=h.1;subst F;refine .cons ?_ (qjb (P:=P) (w:=w) r (by simpa using q) λj O e=>?_)
  ·rcases qzc Y with⟨i,t,rfl,rfl⟩|⟨z,t,rfl,rfl⟩
   ·exact⟨t,rfl⟩
   ·exact⟨t,rfl⟩
  ·obtain⟨U,M,e3,Z⟩:=J (j+1) O (by simpa using e);exact⟨U,M,by simpa using e3,Z⟩
theorem IsKV.keys{K:Qqq}{m:List Addr}{H:Hp}:∀{kvs:List (D×D)}{xs:List (Key×V)},IsKV K m H kvs xs->IsDs K m H (M.keysOf kvs) (xs.map λp=>kV p.1)
 |[],_,h=>by rw[show _=[] from h]; exact qqq
 |p::r,_,⟨k,v,F,e,j,J,q⟩=>by
  subst e;refine qzi ?_ q.keys;obtain⟨d,e⟩:=p
  cases d with
  |int i=>cases j; exact mkInt i
  |str z=>cases j; exact mkStr z
  |_=>cases j
theorem Rel.dkeys{K:Qqq}{m:List Addr}{st:Store}{H:Hp}(h:Rel K m st H){d:D}{ds:List D}{v:V}(e:M.dkeys st d=some ds)(j:IsD K m H d v):∃a xs,v=.ref a/\Rd H a (.dK xs)/\IsDs K m H ds (xs.map λp=>kV p.1):=by
 cases d with
 |loc l=>
  obtain⟨kvs,F,rfl⟩:=mapD e;obtain⟨a,xs,_,rfl,q,z⟩:=h.dict F j;exact⟨a,xs,rfl,q,z.keys⟩
 |_=>cases e
theorem qdn{j:List (Addr×Obj)}{F:L2.St}{H:Hp}{s:Qz}{a:Addr}{xs:List (Key×V)}(I:Inv X j F H s)(e:Rd H a (.dK xs)):∃vs q,KV xs vs/\s.heap.DictAt (mixKind X.prog X.w) a vs q/\(a==Qo)=false/\vs.length<=sizeLine:=by
 obtain⟨J,lo,vs,z,o,es,q,r⟩:=qbv I.hok e;exact⟨vs,q,z,⟨o,es,r⟩,lo,by rw[<- z.length]; exact J⟩
theorem qj5(Z:X.A.handled=none):CallR X (.type "list") (λxs H Q=>∃p ys,xs=[.ref p]/\Rd H p (.dK ys)/\∀l,H l=none->Q (.ref l) (upd H l (.lst (ys.map λq=>kV q.1)))):=by
 intro pins s σ H xs us Q I r h;obtain⟨p,ys,rfl,U,q⟩:=h;obtain⟨u,rfl,M⟩:=vals1 r;cases M;obtain⟨vs,ep,F,da,lo,hn⟩:=qdn I U;refine PySem.W.kdl_call (PySem.W.kdl_dict lo) Z da hn λh' tk z c Y hS J=>?_;have O:=qjb (P:=X.prog) (w:=X.w) (L:=z.toList) F (by rw[Qzi]; exact J.1) λj v e=>J.2 j v (by rw[<- Qq2]; exact e);refine⟨.ref s.heap.objs.size,_,I.laid (t':=tk) Y (Qqk _) (show ObjOk X.prog X.w _ h' _ (.lst (ys.map λq=>kV q.1)) from⟨?_,z.toList,c,O,hS⟩),rfl,q _ (I.hok.fresh (Qqk _))⟩;rw[Qqw,F.length]; exact hn
theorem qw9{T:String}{r d:Addr}{n:Nat}{P:Nat->Value->Prop}{O:Heap->Prop}{A:Qw}{E:Value->Qz->Prop}{s:Qz}{R:List Value->Qz->Prop}(K:PySem.W.KdlSrc X.prog X.w T r d n P O)(hh:A.handled=none)(hok:O s.heap)(hn:n<=sizeLine)
  (h:∀(j:Heap) (k:Nat) (vs:Array Value),(∀b o,s.heap.get? b=some o->j.get? b=some o)->s.heap.objs.size<j.objs.size->ItemsOf P vs n->R vs.toList { s with heap:=j,toks:=k }):wpAny (model X.prog X.w) A (collect (.ref r)) R E s:=by
 have lt:=K.there _ hok
 let g:=s.heap.objs.size
 let M:=s.heap.push { cls:=.type "list",data:=.seq ([]:List Value).toArray }
 have hg:M.get? g=some { cls:=.type "list",data:=.seq #[] }:=Qqg _ rfl;have ext:=PySem.W.kdl_extend (A:=A) (s:={ s with heap:=M }) (R:=λq L=>∃(j:Heap) (k:Nat) (vs:Array Value) (c:Nat),q=.ok (.ret (.ref g))/\L={ s with heap:=j,toks:=k }/\(∀b o,s.heap.get? b=some o->j.get? b=some o)/\j.get? g=some { cls:=.type "list",dict:=none,data:=.seq vs c,slots:=#[] }/\ItemsOf P vs n)
  K hh (K.keep _ _ hok λb _ o e=>Qqz _ e) g (Qxh lt.1) (Qxh lt.2) (.ref g) 0 hg
  (λj k vs c J z F=>⟨j,k,vs,c,rfl,rfl,λb o e=>J b o (Qq6 (Qqb e)) (Qqz _ e),z,F⟩) hn
 unfold collect;apply Qq;apply wpAny_runValue;apply Zk entry_proto_collect';rw[Around.under_plainId PySem.F.plain_proto_collect _];show wpAny _ A.in1 (newList [] >>= λy=>again (.builtin "list.__iadd__" ⟨[y,.ref r],[]⟩)) _ _ s;apply Qq;refine Qn (Qj ⟨plainId_quiet PySem.F.plain_list_iadd _,?_⟩);apply Zk entry_list_iadd';rw[Around.under_plainId PySem.F.plain_list_iadd _];refine Qb (show wpAny _ A.in1 (Builtin.List.listExtendWith (.ref g) (.ref r) (.ref g)) _ _ _ from ext) (λfi L x=>?_) λe L x=>?_
 ·cases fi with
  |done f=>
   rcases x with⟨j,k,vs,c,e,rfl,J,z,F⟩
   cases e;show wpAny _ A (load g >>= _) _ _ _;apply Qq;apply wpAny_load z;exact Qj (h j k vs J (Qqb z) F)
  |again c=>
   rcases x with⟨Y,U⟩
   refine⟨Y,Q8 U λZ s2 y=>?_⟩
   rcases y with⟨j,k,vs,c,rfl,rfl,J,z,F⟩
   show wpAny _ A (load g >>= _) _ _ _;apply Qq;apply wpAny_load z;exact Qj (h j k vs J (Qqb z) F)
 ·rcases x with⟨_,_,_,_,e,_⟩
  cases e
theorem qan{T:String}{r d:Addr}{n:Nat}{P:Nat->Value->Prop}{OK:Heap->Prop}{A:Qw}{E:Value->Qz->Prop}{s:Qz}{Q:Value->Qz->Prop}{ns:List Int}(K:PySem.W.KdlSrc X.prog X.w T r d n P OK)(hh:A.handled=none)(hok:OK s.heap)(hn:n<64)(hP:∀vs:List Value,vs.length=n->(∀(j:Nat) (v:Value),vs[j]?=some v->P j v)->Zf vs ns)
  (h:∀(a:Addr) (h':Heap) (L e:Nat) (out:Array Value) (z:List Int),(∀b o,s.heap.get? b=some o->h'.get? b=some o)->s.heap.objs.size<=a->h'.get? a=some (seqObj "list" out e)->Zf out.toList z->z.Perm ns->z.Pairwise (· <= ·)->Q (.ref a) { s with heap:=h',toks:=L }) :
  wpAny (model X.prog X.w) A (call (.builtin "sorted") [.ref r]) Q E s:=by
 have J:n<=sizeLine:=by rw[Q2]; omega
 apply PySem.Calls.call_function_entry kind_sorted plain_sorted entry_sorted (args_sorted1 _);show wpAny _ _ (Zz.«sorted» _) _ _ s;unfold Zz.«sorted»;apply Qq (m:=checkCount "sorted" 1 1 _);apply Qj;apply Qq;apply qw9 (A:=A.in1) K hh hok J;intro h1 L F Y M hI;have U:F.toList.length=n:=by rw[Qzi]; exact hI.1
 have hi:=hP F.toList U λj v e=>hI.2 j v (by rw[<- Qq2]; exact e);apply Qq;refine wpAny_newList ?_ (by rw[U]; exact J);have O:(h1.push (seqObj "list" F.toList.toArray 0)).get? h1.objs.size=some (seqObj "list" F.toList.toArray 0):=Qqg _ rfl;apply Qq;apply Q4;refine Qs (s:={ s with heap:=h1.push (seqObj "list" F.toList.toArray 0),toks:=L }) slot_list_sort ⟨_,O,rfl⟩ entry_list_sort (list_sort_tree O hi (by omega) λout z a1 a2 a3=>⟨_,rfl,?_⟩) (args_list_sort _);obtain⟨e,he⟩:=sortedHeap_at (out:=out) O;refine Qj ⟨_,rfl,h _ _ _ e out z (λb o q=>?_) ?_ he a1 a2 a3⟩
 ·have Z:=Qqb (Y b o q);exact(sortedHeap_old (Qq6 Z) (by rw[size_push']; exact Qxo Z)).trans (Qqz _ (Y b o q))
 ·exact Qx4 M
theorem qba(Y:X.A.handled=none):CallR X (.type "list") (rC X.K M.bList):=by
 intro pins s σ H xs O Q I r h;refine h.el λm st ds d st' z U e q=>?_;unfold M.bList at e
 split at e
 ·cases e;obtain⟨x,rfl,i⟩:=U.one;obtain⟨p,ys,rfl,J,F⟩:=i.tup;refine qxl pins s σ H _ O Q I r ⟨p,ys,rfl,.inr J,λl j=>?_⟩;exact q _ (m++[l]) _ (Sub.app m [l]) (Tr.of_same (qzw j)) (z.new j F) z.newLoc
 ·obtain⟨a0,L,Z⟩:=mapD e;cases Z;obtain⟨x,rfl,i⟩:=U.one;rcases orO L with L|L
  ·obtain⟨p,ys,_,rfl,J,F⟩:=z.seq L i;refine qxl pins s σ H _ O Q I r ⟨p,ys,rfl,.inl J,λl j=>?_⟩;exact q _ (m++[l]) _ (Sub.app m [l]) (Tr.of_same (qzw j)) (z.new j F) z.newLoc
  ·obtain⟨p,ys,rfl,J,F⟩:=z.dkeys L i;refine qj5 Y pins s σ H _ O Q I r ⟨p,ys,rfl,J,λl j=>?_⟩;exact q _ (m++[l]) _ (Sub.app m [l]) (Tr.of_same (qzw j)) (z.new j F) z.newLoc
 ·cases e
theorem qvb{K:Qqq}{m:List Addr}{H:Hp}:∀{ds:List D}{xs:List V}{j:List Value}{bs:List Bool},M.asBools ds=some bs->IsDs K m H ds xs->Vals xs j->LSm.BoolsAre j bs
 |[],_,_,_,e,z,r=>by
  rw[z.nil]at r;cases r;cases e;exact .nil
 |d::ds,_,_,_,e,z,r=>by
  obtain⟨x,Y,rfl,q,t⟩:=z.cons
  cases d with
  |bl b=>
   simp only[M.asBools]at e;obtain⟨U,O,L⟩:=mapD e;subst L;cases q.bl
   cases r with
   |cons J F=>
    cases J;exact .cons b (qvb O t F)
  |_=>simp[M.asBools]at e
theorem ints_of{K:Qqq}{m:List Addr}{H:Hp}:∀{ds:List D}{xs:List V}{ns:List Int},M.asInts ds=some ns->IsDs K m H ds xs->xs=ns.map V.int/\ds=ns.map D.int
 |[],_,_,e,j=>by
  cases e;exact⟨j.nil,rfl⟩
 |d::ds,_,_,e,j=>by
  obtain⟨x,L,rfl,q,t⟩:=j.cons
  cases d with
  |int b=>
   simp only[M.asInts]at e;obtain⟨J,F,z⟩:=mapD e;subst z;cases q.int;obtain⟨h1,h2⟩:=ints_of F t;rw[h1,h2];exact⟨rfl,rfl⟩
  |_=>simp[M.asInts]at e
theorem qd9(hc:X.calm=true):CallR X (.builtin "all") (rC X.K M.bAll):=by
 intro pins s σ H xs us Q I r h;refine h.el λm st ds d st' O ix e q=>?_;unfold M.bAll at e
 split at e
 ·obtain⟨a0,e1,e⟩:=qzv e;obtain⟨bs,e2,e3⟩:=mapD e;cases e3;obtain⟨x,rfl,i⟩:=ix.one;obtain⟨p,ys,_,rfl,hq,Z⟩:=O.seq e1 i;obtain⟨u,rfl,Y⟩:=vals1 r;cases Y;obtain⟨j,U,pl,_⟩:=I.list hq;have J:=qvb e2 Z U;have F:=pl.isList;have z:p<s.heap.objs.size:=by obtain⟨_,e,_⟩:=id F; exact Qqb e
  refine call_all_walk (Za F ?_)
  refine⟨s.heap.objs.size,[s.heap.objs.size,p],[s.heap.objs.size],j.toArray.size,_,_,λi=>(bs[i]?).getD true,rfl,Walks.list (A:=X.A.in1) (I.ok.hd hc) _ p (Qq6 z) j.toArray,
   ⟨⟨_,Qqg _ rfl,rfl,rfl⟩,F.push _⟩,λi v s' Q' E' hP L=>?_,λh' tk hk=>?_⟩
  ·obtain⟨b,e,rfl⟩:=J.get i v (by simpa using hP);simp only[e,Option.getD_some]at L;exact Qc L
  ·have e:((List.range j.toArray.size).all λi=>(bs[i]?).getD true)=bs.all id:=by
    rw[Qqj,J.length]; exact LSm.range_all bs
   rw[e];exact⟨.bl _,H,I.kept (LSm.kept_iter hk),rfl,q.here O (mkBl _)⟩
 ·cases e
theorem range_any(bs:List Bool):((List.range bs.length).any λi=>(bs[i]?).getD false)=bs.any id:=by
 rw[Qx6,Qxu,Qxu];constructor
 ·rintro⟨i,hi,h⟩;have hi:=Qz4.mp hi;rw[Qqs hi]at h;exact⟨bs[i],Qjl hi,h⟩
 ·rintro⟨b,j,h⟩;obtain⟨i,hi,rfl⟩:=Qzu j;exact⟨i,Qz4.mpr hi,by rw[Qqs hi]; exact h⟩
theorem qd8(hc:X.calm=true):CallR X (.builtin "any") (rC X.K M.bAny):=by
 intro pins s σ H xs us Q I r h;refine h.el λm st ds d st' O ix e q=>?_;unfold M.bAny at e
 split at e
 ·obtain⟨a0,e1,e⟩:=qzv e;obtain⟨bs,e2,e3⟩:=mapD e;cases e3;obtain⟨x,rfl,i⟩:=ix.one;obtain⟨p,ys,_,rfl,hq,Z⟩:=O.seq e1 i;obtain⟨u,rfl,Y⟩:=vals1 r;cases Y;obtain⟨j,U,pl,_⟩:=I.list hq;have J:=qvb e2 Z U;have F:=pl.isList;have z:p<s.heap.objs.size:=by obtain⟨_,e,_⟩:=id F; exact Qqb e
  refine call_any_walk (Za F ?_)
  refine⟨s.heap.objs.size,[s.heap.objs.size,p],[s.heap.objs.size],j.toArray.size,_,_,λi=>(bs[i]?).getD false,rfl,Walks.list (A:=X.A.in1) (I.ok.hd hc) _ p (Qq6 z) j.toArray,
   ⟨⟨_,Qqg _ rfl,rfl,rfl⟩,F.push _⟩,λi v s' Q' E' hP L=>?_,λh' tk hk=>?_⟩
  ·obtain⟨b,e,rfl⟩:=J.get i v (by simpa using hP);simp only[e,Option.getD_some]at L;exact Qc L
  ·have e:((List.range j.toArray.size).any λi=>(bs[i]?).getD false)=bs.any id:=by
    rw[Qqj,J.length]; exact range_any bs
   rw[e];exact⟨.bl _,H,I.kept (LSm.kept_iter hk),rfl,q.here O (mkBl _)⟩
 ·cases e
theorem qq2(x:Int):∀l:List Int,(M.insInt x l).Perm (x::l)
 |[]=>.refl _
 |y::r=>by
  unfold M.insInt
  split
  ·exact .refl _
  ·exact((qq2 x r).cons y).trans (.swap x y r)
theorem qz1:∀l:List Int,(M.sortInt l).Perm l
 |[]=>.refl _
 |x::r=>by
  unfold M.sortInt;exact(qq2 x _).trans ((qz1 r).cons x)
theorem qxx(x:Int):∀l:List Int,l.Pairwise (· <= ·)->(M.insInt x l).Pairwise (· <= ·)
 |[],_=>by unfold M.insInt; simp
 |y::r,h=>by
  unfold M.insInt
  split
  ·rename_i q;refine List.Pairwise.cons (λz j=>?_) h;rcases Qqv.mp j with e|e
   ·rw[e]; exact q
   ·exact Int.le_trans q ((Qze.mp h).1 z e)
  ·rename_i q;have h':=Qze.mp h;refine List.Pairwise.cons (λz j=>?_) (qxx x r h'.2);rcases Qqv.mp ((qq2 x r).mem_iff.mp j) with e|e
   ·rw[e]; omega
   ·exact h'.1 z e
theorem qz9:∀l:List Int,(M.sortInt l).Pairwise (· <= ·)
 |[]=>by unfold M.sortInt; simp
 |x::r=>by
  unfold M.sortInt;exact qxx x _ (qz9 r)
theorem qxq{K:Qqq}{m:List Addr}{H:Hp}:∀(ns:List Int),IsDs K m H (ns.map D.int) (ns.map V.int)
 |[]=>qqq
 |n::r=>qzi (mkInt n) (qxq r)
theorem qwb(hh:X.A.handled=none):CallR X (.builtin "sorted") (rC X.K M.bSorted):=by
 intro pins s σ H xs us Q I r h;refine h.el λm st ds d st' z ix e q=>?_;unfold M.bSorted at e
 split at e
 ·obtain⟨a0,O,e⟩:=qzv e;obtain⟨ns,U,e3⟩:=mapD e;cases e3
  split at U
  ·cases U
  ·rename_i a4;obtain⟨x,rfl,i⟩:=ix.one;rcases orO O with O|O
   case inr=>
    obtain⟨p,ys,rfl,hq,F⟩:=z.dkeys O i;obtain⟨u,rfl,Y⟩:=vals1 r;cases Y;obtain⟨vs,ep,kv,da,lo,hn⟩:=qdn I hq;obtain⟨e4,e5⟩:=ints_of U F;have l1:=F.length;rw[Qqw]at l1;have l5:=kv.length;refine qan (ns:=ns) (PySem.W.kdl_dict lo) hh da (by omega) (λL hl hv=>?_) λa h1 tk c out j hk ha he a1 a2 a3=>?_
    ·have r2:=qjb (P:=X.prog) (w:=X.w) kv hl hv;rw[e4]at r2;exact intsAre_of r2
    ·have e6:j=M.sortInt ns:=PySem.W.ksm_same (a2.trans (qz1 ns).symm) a3 (qz9 ns);subst e6;have l3:=(qz1 ns).length_eq;have Z:=qqe;have l6:ns.length=a0.length:=by
      have:=congrArg List.length e5;rw[Qqw]at this;exact this.symm
     have fr:H a=none:=I.hok.fresh ha;refine⟨.ref a,upd H a (.lst ((M.sortInt ns).map V.int)),I.laid (t':=tk) hk ha ⟨?_,out.toList,c,qq4 a1,?_⟩,rfl,?_⟩
     ·rw[Qqw,l3,Z];unfold M.lim;omega
     ·rw[he]
     ·exact q _ (m++[_]) _ (Sub.app m _) (Tr.of_same (qzw fr)) (z.new fr (qxq _)) z.newLoc
   obtain⟨p,ys,_,rfl,hq,F⟩:=z.seq O i;obtain⟨u,rfl,Y⟩:=vals1 r;cases Y;obtain⟨J,rv,pl,_⟩:=I.list hq;obtain⟨e4,e5⟩:=ints_of U F;have l1:=F.length;have l2:=rv.length;subst e4;have hI:Zf J ns:=intsAre_of rv;refine sorted_ints pl.isList hI (by omega) λout j a1 a2 a3=>?_;have e6:j=M.sortInt ns:=PySem.W.ksm_same (a2.trans (qz1 ns).symm) a3 (qz9 ns);subst e6;obtain⟨ep,he⟩:=sortedAll_at s.heap J out;have fr:H (s.heap.objs.size+1)=none:=I.hok.fresh (Qxb _);have l3:=(qz1 ns).length_eq;have Z:=qqe;rw[Qqw]at l1;refine⟨.ref (s.heap.objs.size+1),upd H (s.heap.objs.size+1) (.lst ((M.sortInt ns).map V.int)),I.laid (t':=s.toks) (λb o e=>sortedAll_old e) (Qxb _) ?_,rfl,?_⟩
   ·refine⟨?_,out.toList,ep,qq4 a1,?_⟩
    ·rw[Qqw,l3,Z];unfold M.lim;omega
    ·rw[he]
   ·exact q _ (m++[_]) _ (Sub.app m _) (Tr.of_same (qzw fr)) (z.new fr (qxq _)) z.newLoc
 ·cases e
theorem qc7(K:Qqq)(n t:M.Ty)(j:t≠.non):PySem.W.kitOne K (.type n.name) (.type t.name)=some (M.tyIs t n):=by
 cases n<;>cases t<;>first
  |exact absurd rfl j
  |rfl
  |decide +kernel
theorem qc8(K:Qqq)(n:M.Ty):∀j:List M.Ty,(∀t∈j,t≠.non)->PySem.W.kitAny K (.type n.name) (j.map λt=>Value.type t.name)=some (j.any λt=>M.tyIs t n)
 |[],_=>rfl
 |t::j,h=>by
  rw[Qqd,Qz9];unfold PySem.W.kitAny;rw[qc7 K n t (h t Qql)]
  cases M.tyIs t n with
  |true=>rfl
  |false=>exact qc8 K n j λq z=>h q (Qqh _ z)
theorem qg5{j:List (Addr×Obj)}{Z:L2.St}{H:Hp}{s:Qz}{m:List Addr}{st:Store}{d:D}{x:V}{u:Value}{n:M.Ty}(I:Inv X j Z H s)(U:Rel X.K m st H)(h:IsD X.K m H d x)(r:RelV x u)(e:M.tyName st d=some n):
  ∃Y:Heap->Prop,PySem.W.KitX X.K u (.type n.name) Y/\Y s.heap/\u≠.builtin "__main__.__loader__#opaque":=by
 cases d with
 |non=>cases h.non; cases r; cases e; exact⟨_,PySem.W.kitx_none,True.intro,λz=>nomatch z⟩
 |bl b=>cases h.bl; cases r; cases e; exact⟨_,PySem.W.kitx_bool,True.intro,λz=>nomatch z⟩
 |int b=>cases h.int; obtain⟨t,rfl⟩:=r; cases e; exact⟨_,PySem.W.kitx_int,True.intro,λz=>nomatch z⟩
 |str b=>cases h.str; obtain⟨t,rfl⟩:=r; cases e; exact⟨_,PySem.W.kitx_str,True.intro,λz=>nomatch z⟩
 |tup ds=>
  obtain⟨a,xs,q,rfl,F,O,r1,p1⟩:=qzd I h;cases r;cases e;obtain⟨o,h1,h2,_⟩:=p1;exact⟨_,PySem.W.kitx_tuple,⟨o,h1,h2⟩,λz=>nomatch z⟩
 |loc l=>
  simp only[M.tyName]at e;obtain⟨ds,L,J⟩:=mapD e;subst J;obtain⟨a,xs,_,rfl,F,O⟩:=U.seq L h;cases r;obtain⟨q,rv,pl,_⟩:=I.list F;obtain⟨o,h1,h2,_⟩:=pl.isList;exact⟨_,PySem.W.kitx_list,⟨o,h1,h2⟩,λz=>nomatch z⟩
 |lst l=>
  simp only[M.tyName]at e;obtain⟨ds,L,J⟩:=mapD e;subst J;obtain⟨a,xs,_,rfl,F,O⟩:=U.seq L h;cases r;obtain⟨q,rv,pl,_⟩:=I.list F;obtain⟨o,h1,h2,_⟩:=pl.isList;exact⟨_,PySem.W.kitx_list,⟨o,h1,h2⟩,λz=>nomatch z⟩
def rIsi1(K:Qqq)(t:M.Ty):List V->Hp->VK->Prop:=λxs H Q=>∃m st d n x,xs=[x,.ty t.name]/\Rel K m st H/\IsD K m H d x/\M.tyName st d=some n/\Q (.bl (M.tyIs t n)) H
theorem qd7(t:M.Ty)(J:t≠.non):CallR X (.builtin "isinstance") (rIsi1 X.K t):=by
 intro pins s σ H xs O Q I r h;obtain⟨m,st,d,n,x,rfl,L,i,e,q⟩:=h;obtain⟨u,w,rfl,z,j⟩:=vals2 r;cases j;obtain⟨U,Z,p,F⟩:=qg5 I L i z e;exact PySem.W.kia_one Z I.kIn p (qc7 X.K n t J) F λtk=>⟨.bl _,H,I.tok tk,rfl,q⟩
def rIsiN(K:Qqq)(ts:List M.Ty):List V->Hp->VK->Prop:=λxs H Q=>∃m st d n x p,xs=[x,.ref p]/\H p=some (.tup (ts.map λt=>V.ty t.name))/\Rel K m st H/\IsD K m H d x/\M.tyName st d=some n/\Q (.bl (ts.any λt=>M.tyIs t n)) H
theorem qyx:∀{j:List M.Ty}{us:List Value},Vals (j.map λt=>V.ty t.name) us->us=j.map λt=>Value.type t.name
 |[],_,.nil=>rfl
 |t::j,_,.cons r q=>by
  cases r;rw[qyx q]
  rfl
theorem qd6(j:List M.Ty)(ht:∀t∈j,t≠.non):CallR X (.builtin "isinstance") (rIsiN X.K j):=by
 intro pins s σ H xs us Q I r h;obtain⟨m,st,d,n,x,p,rfl,hp,R0,i,e,q⟩:=h;obtain⟨u,w,rfl,O,z⟩:=vals2 r;cases z;obtain⟨Hf,Z,U,hx⟩:=qg5 I R0 i O e;obtain⟨_,Y,L,⟨cls,dd,J,sl⟩,h1,h2,nn,F⟩:=I.hok p _ hp;have e1:=qyx L;subst e1;simp only at h2 F;subst h2 F;exact PySem.W.kia_tup Z I.kIn U h1 (qc8 X.K n j ht) hx λtk=>⟨.bl _,H,I.tok tk,rfl,q⟩
end
end MS
end
section
namespace MS
open PySem PySem.Spec PyProof.Rows L2
noncomputable def qxk(cells:List (Str×Addr)):List (Str×Qi)->List (Str×Addr)->List (Str×Addr)
 |[],acc=>acc
 |(n,k)::r,acc=>qxk cells r (if k==.free then(match cells.lookup n with|some a=>(n,a)::acc|none=>acc) else acc)
theorem qds{env:Env}:∀(names:List (Str×Qi)) (j:List (Str×Addr)),(∀x∈names,x.2=.free->∃c,env.cells.lookup x.1=some c)->
  (forIn names j λx r=>match x,r with
   |(name,kind),cs=>if (kind==.free)=true then do let a <- cellOf env name; pure (ForInStep.yield ((name,a)::cs)) else pure (ForInStep.yield cs):Sem (List (Str×Addr)))=pure (qxk env.cells names j):=by
 intro names
 induction names with
 |nil=>intro j _; rfl
 |cons x r O=>
  intro j h;obtain⟨n,k⟩:=x;rw[Qx7];have F:=λj=>O j λy U=>h y (Qqh _ U)
  by_cases J:k=.free
  ·subst J;obtain⟨c,L⟩:=h (n,.free) Qql rfl;simp only[beq_self_eq_true,if_true,cellOf,L];show(do let q <- (do let a <- (pure c:Sem Addr); pure (ForInStep.yield ((n,a)::j))); match q with|.done b=>pure b|.yield b=>_)=_;simp only[pure_bind];refine(F ((n,c)::j)).trans ?_;have z:env.cells.lookup n=some c:=L;simp[qxk,z]
  ·have M:(k==NameKind.free)=false:=by simpa using J
   simp only[M,Qqm,if_false,pure_bind];refine(F j).trans ?_;simp[qxk,M]
theorem qvv{j:Scope}{env:Env}(h:∀x∈j.names,x.2=.free->∃c,env.cells.lookup x.1=some c):closureFor j env=pure (qxk env.cells j.names []):=by
 unfold closureFor;have:=qds (env:=env) j.names [] h;simp only[this]
 rfl
theorem qvw{j:List (Str×Addr)}{x:Str}{c:Addr}(F:j.lookup x=some c):∀(names:List (Str×Qi)) (q:List (Str×Addr)),((x,NameKind.free)∈names\/q.lookup x=some c)->(qxk j names q).lookup x=some c
 |[],q,h=>by
  rcases h with h|h
  ·cases h
  ·exact h
 |(n,k)::r,q,h=>by
  unfold qxk;refine qvw F r _ ?_
  by_cases z:k=.free
  ·subst z;simp only[beq_self_eq_true,if_true]
   by_cases hn:n=x
   ·subst hn;rw[F];exact .inr (by simp)
   ·rcases h with h|h
    ·rcases Qqv.mp h with e|e
     ·cases e; exact absurd rfl hn
     ·exact .inl e
    ·refine .inr ?_
     split
     ·have:(x==n)=false:=by simpa using Ne.symm hn
      rw[Qzj,this]; exact h
     ·exact h
  ·have J:(k==NameKind.free)=false:=by simpa using z
   rw[J,Zs Qqo];rcases h with h|h
   ·rcases Qqv.mp h with e|e
    ·cases e; exact absurd rfl z
    ·exact .inl e
   ·exact .inr h
theorem qz4{j:List (Str×Addr)}:∀(names:List (Str×Qi)) (z:List (Str×Addr)),(∀x c,z.lookup x=some c->j.lookup x=some c)->∀x c,(qxk j names z).lookup x=some c->j.lookup x=some c
 |[],z,h,x,c,e=>h x c e
 |(n,k)::r,z,h,x,c,e=>by
  unfold qxk at e;refine qz4 r _ ?_ x c e;intro y d q
  by_cases J:(k==NameKind.free)=true
  ·rw[Zt J]at q
   split at q
   ·rename_i a L
    by_cases F:(y==n)=true
    ·rw[Qzj,F]at q;rw[eq_of_beq F,L]; exact q
    ·have:(y==n)=false:=by simpa using F
     rw[Qzj,this]at q;exact h y d q
   ·exact h y d q
  ·rw[Zs J]at q;exact h y d q
theorem qqz(env:Env):∀(names:List (Str×Qi)) (x:Str),(names.map λ(n,k)=>if (k==NameKind.free&&env.scope.kind==.function&&env.kindOf n==some .cell) then(n,NameKind.cell) else(n,k)).lookup x =
  (names.lookup x).map λk=>if (k==NameKind.free&&env.scope.kind==.function&&env.kindOf x==some .cell) then NameKind.cell else k
 |[],x=>rfl
 |(n,k)::r,x=>by
  have F:=qqz env r x;rw[Qqd]
  by_cases q:(x==n)=true
  ·have e:=eq_of_beq q;subst e;dsimp only
   split
   ·rename_i z;rw[Qzj,q,Qzj,q];dsimp only[oMs];rw[Zt z]
   ·rename_i z;rw[Qzj,q,Qzj,q];dsimp only[oMs];rw[Zs z]
  ·have j:(x==n)=false:=by simpa using q
   dsimp only
   split
   ·rw[Qzj,j,Qzj,j]; exact F
   ·rw[Qzj,j,Qzj,j]; exact F
section
variable {prog:Program}{w:Qk}{A:Qw}{R:Result->Qz->Prop}{s:Qz}
abbrev NoX:Value->Qz->Prop:=λ_ _=>False
theorem qwa{elt j Y:Qx}{a1:List Qx}{L:Scope}{pos:Pos}{it a2:Value}{env:Env}{Ex:Value->Qz->Prop}(a8:∀e s',Ex e s'->notedBy (model prog w) A env (λe s'=>R (.error e) s') e s')(I:Nat->Qz->Prop)
  (a3:∀n s,I n s->wpAny (model prog w) A (pyNext it) (λr J=>match r with
   |none=>R (.ok .next) J
   |some v=>wpAny (model prog w) A (Zg j it v) (λ_ s₀=>wpAny (model prog w) A (assign j env v) (λ_ U=>
     wpAny (model prog w) A (forIn a1 true λc r=>if r=true then do let ok <- isTrue c env (eval c env); pure (ForInStep.yield ok) else pure (ForInStep.yield r)) (λok F=>
      if ok=true then wpAny (model prog w) A (eval elt env) (λx O=>wpAny (model prog w) A (call (.builtin "list.append") [a2,x]) (λ_ M=>∃m,m<n/\I m M) Ex O) Ex F
      else ∃m,m<n/\I m F) Ex U) Ex s₀) Ex J) Ex s)
  (n:Nat) (h:I n s):Zy (model prog w) A (.compLoop (.ListComp elt [⟨j,Y,a1,0⟩] L pos) 0 it a2 env) R s:=by
 refine codeAny_loop rfl I (λn s hI=>?_) n h;show wpAny _ A ((compTurn (.ListComp elt [⟨j,Y,a1,0⟩] L pos) 0 it a2 env).onRaise (λx=>do noteFrame x env; theTreesLotGoes x)) _ _ s;refine wpAny_noted (Qb ?_ (λ_ _ q=>q) a8);rw[compTurn_list];refine Qq (wpAny_standAt (Qq (Qb (a3 n s hI) (λr J a0=>?_) λ_ _ z=>z)))
 cases r with
 |none=>exact Qj a0
 |some v=>
  refine Qq (Qb a0 (λ_ s₀ a7=>?_) λ_ _ z=>z);refine Qq (Qb a7 (λ_ U a6=>Qq (Qb a6 (λok F Z=>?_) λ_ _ z=>z)) λ_ _ z=>z)
  cases ok with
  |false=>exact Qj ⟨rfl,Z⟩
  |true=>
   exact Qq (Qq (Qb Z (λx O a5=>Qq (Qb a5 (λ_ M a4=>Qj (Qj ⟨rfl,a4⟩)) λ_ _ z=>z)) λ_ _ z=>z))
end
theorem HOk.track{P:Program}{w:Qk}{H:Hp}{h:Heap}{a:Addr}{o:HO}(x:HOk P w H h)(j:H a=none)(new:ObjOk P w (upd H a o) h a o):HOk P w (upd H a o) h:=λb u e=>by
 by_cases z:b=a
 ·subst z; rw[qzk]at e; cases e; exact new
 ·rw[qzq z]at e;exact(x b u e).stay (λc v _ q=>q) (λc q=>by rw[qzq (qzf q j)]; exact q) λc xs q=>by rw[qzq (qzf q j)]; exact q
theorem Inv.track{X:Cx}{j:List (Addr×Obj)}{F:L2.St}{H:Hp}{s:Qz}{a:Addr}{o:HO}(I:Inv X j F H s)(J:FpOk X j H a)(new:ObjOk X.prog X.w (upd H a o) s.heap a o):Inv X j F (upd H a o) s:=by
 obtain⟨q,U,Y,O,M,L⟩:=J;refine I.step (h':=s.heap) (g':=s.gens) (t':=s.toks) (d':=s.drawn) (ch:=[a]) (λb z=>?_) (λb o _ _ _ e _=>e) (λb o _ _ _ e _=>⟨o.slots,e⟩) (λb o z e n=>?_) (λb o _ e=>⟨o,e⟩)
  (λb xs e=>by rw[qzq (qzf e q)]; exact e) (λb o u e=>by rw[qzq (qzf e q)]; exact e) (λb ps e=>⟨#[],by rw[qzq (qzf e q),e]; simp⟩) (λm h=>h) (HOk.track I.hok q new) I.bare
 ·have e:b=a:=by simpa using z
  subst e;exact⟨O,U,M,L⟩
 ·rw[qzq (by simpa using z)]; exact n
noncomputable def qzh(X:Cx)(N:List Str)(scope:Scope)(C:Addr)(fp:List Addr)(s:Qz)(H:Hp):Cx:=
 { X with N:=N,s₀:=s,H₀:=H,env:=compEnvC scope (qxk X.env.cells scope.names []) C X.env,outer:=X.stack,ex:=fp,fn:=λ_=>false,pn:=[],xe:=λ_ _=>False }
noncomputable def qqt(src:List (Option Nat))(σ:L2.St):L2.St:=src.map λo=>o.bind λi=>(σ[i]?).bind id
structure CompScope (X:Cx) (N:List Str) (src:List (Option Nat)) (scope:Scope):Prop where
 kind:scope.kind=.function
 cell:∀y∈scope.names,y.2≠.cell
 free:∀y∈scope.names,y.2=.free->X.env.kindOf y.1=some .cell\/X.env.kindOf y.1=some .free
 loc:∀y∈scope.names,y.2=.local->scope.names.lookup y.1=some .local
 len:src.length=N.length
 src:∀(j i:Nat),src[j]?=some (some i)->∃x,N[j]?=some x/\X.N[i]?=some x/\scope.names.lookup x=some .free
section
variable {X:Cx}{pins:List (Addr×Obj)}{σ:L2.St}{H:Hp}{s:Qz}
theorem mem_lookup{names:List (Str×Qi)}{x:Str}{k:Qi}(h:names.lookup x=some k):(x,k)∈names:=PySem.mem_of_lookup h
theorem qwy{N:List Str}{src:List (Option Nat)}{j:Scope}(S:CompScope X N src j)(I:Inv X pins σ H s):closureFor j X.env=pure (qxk X.env.cells j.names []):=
 qvv λx q z=>I.ok.has x.1 (S.free x q z)
theorem ql6{N:List Str}{src:List (Option Nat)}{j:Scope}{C:Addr}{M:List Addr}(S:CompScope X N src j)(I:Inv X pins σ H s)(Y:s.heap.objs.size<=C)(F:∀b∈M,FpOk X pins H b)(O:∀b∈M,b<s.heap.objs.size):(qzh X N j C M s H).Ok where
 mod:=I.ok.mod
 kind:=S.kind
 glob:=I.ok.glob
 blt:=I.ok.blt
 above:=Y
 inj:=λx y c h1 h2=>I.ok.inj x y c (qz4 _ [] (λ_ _ z=>nomatch z) x c h1) (qz4 _ [] (λ_ _ z=>nomatch z) y c h2)
 has:=λx h=>by
  have e:(qzh X N j C M s H).env.kindOf x=(j.names.lookup x).map λk=>if (k==NameKind.free&&X.env.scope.kind==.function&&X.env.kindOf x==some .cell) then NameKind.cell else k:=qqz X.env j.names x
  rw[e]at h
  cases q:j.names.lookup x with
  |none=>rw[q]at h; rcases h with h|h<;>cases h
  |some k=>
   have Z:k=.free:=by
    rw[q]at h;simp only[oMs,Option.some.injEq]at h
    by_cases L:(k==NameKind.free&&X.env.scope.kind==.function&&X.env.kindOf x==some .cell)=true
    ·simp only[Qqc]at L;exact eq_of_beq L.1.1
    ·rw[Zs L]at h;rcases h with h|h
     ·subst h; exact absurd rfl (S.cell _ (mem_lookup q))
     ·exact h
   subst Z;have U:=mem_lookup q;obtain⟨c,L⟩:=I.ok.has x (S.free _ U rfl);exact⟨c,qvw L _ _ (.inl U)⟩
 cab:=λx c h=>by cases h
 hd:=I.ok.hd
 frames:=I.ok.frames
 stk:=.inl rfl
 exf:=λb J=>⟨Qq6 (Qq4 (O b J) Y),λx c e=>(F b J).2.2.2.2.1 x c (qz4 _ [] (λ_ _ z=>nomatch z) x c e)⟩
 bs:=I.bs
 bsz:=Qzg I.ok.bsz I.sz
 noex:=λb o e J=>by
  rcases (F b J).2.2.2.1 with z|z
  ·exact I.ok.noex b o e z
  ·exact absurd (Qq4 (Qqb e) (Qzg I.ok.bsz z)) (Qz8 _)
 exfs:=λb J hf=>by
  have f:=F b J;rcases Qqv.mp (I.stkSub b hf) with z|z
  ·exact f.2.1 z
  ·exact f.2.2.1 z
 funs:=I.stack
 frf:=I.stkFree
theorem qby{N:List Str}{src:List (Option Nat)}{F:Scope}{C:Addr}{U:List Addr}{h':Heap}{tk:Nat}{m':Str->Option Value}(S:CompScope X N src F)(I:Inv X pins σ H s)(hC:s.heap.objs.size<=C)(a2:∀b∈U,FpOk X pins H b)(a0:∀b∈U,b<s.heap.objs.size)
  (kp:∀b o,s.heap.get? b=some o->h'.get? b=some o) (ns:h'.Ns C m'):Inv (qzh X N F C U s H) [] (qqt src σ) H { s with heap:=h',toks:=tk }:=by
 have O:=ql6 S I hC a2 a0;refine⟨O,rfl,I.bare,Un.kept kp,⟨m',ns,λj x v hN J hv=>?_⟩,λx c e=>?_,I.hok.fresh hC,λx c e=>?_,λp hp=>absurd (show p∈([]:List (Addr×Obj)) from hp) (by simp),I.hok.kept kp,?_⟩
 ·unfold qqt at J;rw[Qqf]at J
  cases q:src[j]? with
  |none=>rw[q]at J; cases J
  |some o=>
   rw[q]at J
   cases o with
   |none=>cases J
   |some i=>
    obtain⟨x',e1,e2,e3⟩:=S.src j i q;have hN:N[j]?=some x:=hN;rw[hN]at e1;cases e1;have hi:σ[i]?=some (some v):=by
     cases z:σ[i]? with
     |none=>simp[z]at J
     |some w=>
      cases w with
      |none=>simp[z]at J
      |some w=>simpa[z] using J
    obtain⟨m0,a3,a1⟩:=I.loc;have hk:=S.free _ (mem_lookup e3) rfl;have Y:Vis X.env.scope x:=by
     rcases hk with z|z
     ·exact .inr (.inl z)
     ·exact .inr (.inr z)
    obtain⟨u,ru,lk⟩:=a1 i x v e2 hi Y;refine⟨u,ru,?_⟩;rcases lk with⟨z,_⟩|⟨_,c,M,L⟩
    ·rcases hk with y|y
     ·rw[y]at z; cases z
     ·rw[y]at z; cases z
    ·refine .inr ⟨?_,c,qvw M _ _ (.inl (mem_lookup e3)),?_⟩
     ·have e:(qzh X N F C U s H).env.kindOf x=(F.names.lookup x).map λk=>if (k==NameKind.free&&X.env.scope.kind==.function&&X.env.kindOf x==some .cell) then NameKind.cell else k:=qqz X.env F.names x
      rw[e,e3];simp only[oMs,Option.some.injEq]
      by_cases M:(NameKind.free==NameKind.free&&X.env.scope.kind==.function&&X.env.kindOf x==some .cell)=true
      ·rw[Zt M]; exact .inl rfl
      ·rw[Zs M]; exact .inr rfl
     ·obtain⟨o,Z,hd⟩:=L;exact⟨o,kp c o Z,hd⟩
 ·have e':=qz4 _ [] (λ_ _ z=>nomatch z) x c e;obtain⟨v,o,Z,hd⟩:=I.cell x c e';exact⟨v,o,kp c o Z,hd⟩
 ·exact I.freeC x c (qz4 _ [] (λ_ _ z=>nomatch z) x c e)
 ·unfold qqt;rw[Qqw];exact S.len
end
def qef(X:Cx)(ifs:List Qx)(tt:TT):Prop:=∀(pins:List (Addr×Obj)) (s:Qz) (σ:L2.St) (H:Hp) (Q:Bool->Hp->Prop),Inv X pins σ H s->tt σ H Q->
 wpAny (model X.prog X.w) X.A (forIn ifs true λc r=>if r=true then do let ok <- isTrue c X.env (eval c X.env); pure (ForInStep.yield ok) else pure (ForInStep.yield r)) (TP X pins σ Q) X.xe s
theorem qya{X:Cx}:qef X [] (λ_ H Q=>Q true H):=λpins s σ H Q I h=>by
 show wpAny _ _ (pure true) _ _ _;exact Qj ⟨H,I,h⟩
theorem qyy{X:Cx}{c:Qx}{tc:TT}(j:PT X c tc):qef X [c] tc:=λpins s σ H Q I h=>by
 rw[Qx7];simp only[if_true];refine Qq (Qq (thn (j pins s σ H Q I h) λb z q=>Qj ?_));show wpAny _ _ (pure b) _ _ _;exact Qj q
theorem qkg{X:Cx}{Z:List (Addr×Obj)}{σ:L2.St}{H:Hp}{s:Qz}{elt tg a9:Qx}{b9:List Qx}{scope:Scope}{pos:Pos}{it:Addr}{Y:List Addr}{tn:Nat->Heap->Prop}{J:It}{N:List Str}{src:List (Option Nat)}
  {g:TG}{tt:TT}{te:TE}{E:Value->Qz->Prop}{d2:List V->Hp->Prop}{RR:Value->Addr->Result->Qz->Prop}{Ex:Addr->Addr->Value->Qz->Prop}(hc:X.calm=true) (I:Inv X Z σ H s) (T:Turn X.prog X.w X.K tg J Y it tn) (b6:tn 0 s.heap) (a2:∀b∈Y,FpOk X Z H b) (S:CompScope X N src scope)
  (hg:∀C,PG (qzh X N scope C Y s H) tg g) (ht:∀C,qef (qzh X N scope C Y s H) b9 tt) (he:∀D C,PE ((qzh X N scope C Y s H).wish (Ex D C)) elt te)
  (d7:∀D C,s.heap.objs.size<=C->∀e s',Ex D C e s'->notedBy (model X.prog X.w) X.A (compEnvC scope (qxk X.env.cells scope.names []) C X.env) (λe s'=>RR (.ref D) C (.error e) s') e s')
  (W:Nat->Nat->List V->L2.St->Hp->Prop) (w0:∃k,W 0 k [] (qqt src σ) H)
  (step:∀i k j σ H,W i k j σ H->(J.stop i H/\j.length<=sizeLine/\d2 j H)\/(J.go i H/\j.length<sizeLine/\∀x H',J.yld i H x H'->g x σ H' λa8 H2=>tt a8 H2 λb H3=>
   if b=true then te a8 H3 λv H4=>∃k',k'<k/\W (i+1) k' (j++[v]) a8 H4 else ∃k',k'<k/\W (i+1) k' j a8 H3))
  (d6:∀D C s' H' j,d2 j H'->H' D=none->Inv X Z σ (upd H' D (.lst j)) s'->FpOk X Z (upd H' D (.lst j)) C->(∃m,s'.heap.Ns C m)->RR (.ref D) C (.ok .next) s') :
  wpAny (model X.prog X.w) X.A (newList []) (λj s₃=>wpAny (model X.prog X.w) X.A (newFunctionEnv scope X.env.globals (qxk X.env.cells scope.names []) [] X.env.qual none .none (some X.env)) (λb5 c7=>
   Zy (model X.prog X.w) X.A (.compStart (.ListComp elt [⟨tg,a9,b9,0⟩] scope pos) 0 (.ref it) j { b5 with scope:=relabel scope X.env }) (RR j b5.locals) c7) E s₃) E s:=by
 have c9:∀b∈Y,b<s.heap.objs.size:=λb O=>by obtain⟨o,e,_⟩:=T.obj 0 _ b6 b O; exact Qqb e
 refine Qn (wpAny_newFunctionEnv S.cell (by intro y hy; simp at hy) (λa0 U M=>?_) S.kind);dsimp only at U M ⊢;generalize c1:s.heap.push { cls:=.type "list",dict:=none,data:=.seq ([]:List Value).toArray }=H2 at U M ⊢;have hC:H2.objs.size=s.heap.objs.size+1:=by rw[<- c1,Qxz]
 have a3:s.heap.objs.size≠H2.objs.size:=by rw[hC]; exact Qq6 (Qzo _)
 have a7:s.heap.objs.size<=H2.objs.size:=by rw[hC]; exact Qxb _
 have b7:∀b o,s.heap.get? b=some o->a0.get? b=some o:=λb o e=>M.extBut b o (by rw[hC]; exact Qq6 (Qxo (Qqb e))) (Qqz _ (c1▸Qqz _ e));have b0:a0.get? s.heap.objs.size=some { cls:=.type "list",data:=.seq ([]:List Value).toArray }:=M.extBut _ _ a3 (Qqz _ (c1▸Qqg _ rfl));generalize a6:s.heap.objs.size=Dd at a3 a7 b0;generalize e4:H2.objs.size=Cc at a3 a7 U M hC ⊢;have c2:s.heap.objs.size<=Dd:=Nat.le_of_eq a6;have c3:s.heap.objs.size<=Cc:=by rw[a6]; exact a7
 have fD:H Dd=none:=I.hok.fresh c2;have I1:Inv (qzh X N scope Cc Y s H) [] (qqt src σ) H { s with heap:=a0,toks:=s.toks+([]:List (Str×Value)).length }:=qby S I c3 a2 c9 b7 U;have c8:∀b∈Y,b≠Dd:=λb O=>by rw[<- a6]; exact Qq6 (c9 b O)
 have c4:∀x c,(qzh X N scope Cc Y s H).env.cells.lookup x=some c->c≠Dd:=λx c e z=>by
  have e':=qz4 _ [] (λ_ _ z=>nomatch z) x c e;obtain⟨v,o,ho,_⟩:=I.cell x c e';rw[z,<- a6]at ho;exact Qz8 _ (Qqb ho)
 have d8:Dd ∉ (qzh X N scope Cc Y s H).fs:=λz=>by
  obtain⟨_,o,ho,_⟩:=I1.ok.funs.mem z;have ho:s.heap.get? Dd=some o:=ho;rw[<- a6]at ho;exact Qz8 _ (Qqb ho)
 have a5:∀{pl:List (Addr×Obj)}{H':Hp},(∀p∈pl,p.1=Dd)->(∀b∈Y,H' b=none)->∀b∈Y,FpOk (qzh X N scope Cc Y s H) pl H' b:=λ{pl H'} d3 hn b O=>
  ⟨hn b O,(I1.ok.exf b O).1,I1.ok.exfs b O,.inl O,(I1.ok.exf b O).2,λp hp=>by
   have d4:p∈pl:=hp
   rw[d3 p d4]; exact(c8 b O).symm⟩
 obtain⟨k0,w0⟩:=w0;have loop:∀s₃:Qz,s₃={ s with heap:=a0,toks:=s.toks+([]:List (Str×Value)).length }->
   Zy (model X.prog X.w) X.A (.compLoop (.ListComp elt [⟨tg,a9,b9,0⟩] scope pos) 0 (.ref it) (.ref Dd) (compEnvC scope (qxk X.env.cells scope.names []) Cc X.env)) (RR (.ref Dd) Cc) s₃:=by
  rintro s₃ rfl;refine qwa (d7 Dd Cc c3) (λk s'=>∃i j L nn c6 H',Inv (qzh X N scope Cc Y s H) [] c6 H' s'/\tn i s'.heap/\(∀b∈Y,H' b=none)/\W i k j c6 H'/\Vals j L/\s'.heap.get? Dd=some { cls:=.type "list",data:=.seq L.toArray nn }/\H' Dd=none) ?_ k0
   ⟨0,[],[],0,qqt src σ,H,I1,T.keep _ _ _ b6 λb _ o e=>b7 b o e,λb O=>(a2 b O).1,w0,.nil,b0,fD⟩
  rintro k s3 ⟨i,j,L,nn,a4,H3,I3,t3,d0,w3,rv,d5,b8⟩;have d1:Inv (qzh X N scope Cc Y s H) [(Dd,{ cls:=.type "list",data:=.seq L.toArray nn })] a4 H3 s3:=I3.pins_of λp hp=>by
   have e:p=(Dd,{ cls:=.type "list",data:=.seq L.toArray nn }):=by simpa using hp
   subst e
   exact⟨d5,b8,a3,d8,λv z=>by
    have z':Data.seq L.toArray nn=Data.cell v:=z
    cases z'⟩
  rcases step i k j a4 H3 w3 with⟨stop,hz,e1⟩|⟨go,hz,next⟩
  ·refine thn (T.done (qzh X N scope Cc Y s H) rfl rfl rfl hc i _ s3 a4 H3 (Ex Dd Cc) d1 (a5 (λp hp=>by rw[Qqa.mp hp]) d0) t3 stop) λr s4 ⟨hr,I4⟩=>?_;subst hr;have p4:=I4.pin (Dd,{ cls:=.type "list",data:=.seq L.toArray nn }) (Qq3 _ (by simp));have I5:Inv X Z σ H3 s4:=I.call' I4.os I4.base I4.hok I4.bare λb O=>⟨(a2 b O).2.2.2.1,(a2 b O).2.1,(a2 b O).2.2.2.2.1,(a2 b O).2.2.2.2.2⟩
   have e0:FpOk X Z H3 Dd:=I.fpOk c2 b8;refine d6 Dd Cc s4 H3 j e1 b8 (Inv.track I5 e0 ⟨hz,L,nn,rv,p4.1⟩) (I.fpOk c3 (by rw[qzq (Ne.symm a3)]; exact I4.free)) ?_;obtain⟨m4,n4,_⟩:=I4.loc;exact⟨m4,n4⟩
  ·refine thn (T.item (qzh X N scope Cc Y s H) rfl rfl rfl hc i _ s3 a4 H3 (Ex Dd Cc) d1 (a5 (λp hp=>by rw[Qqa.mp hp]) d0) t3 go) λr s4 ⟨u,hr,h4⟩=>?_;subst hr;refine thn h4 λ_ s5 ⟨x,H5,I5,r5,y5,t5,d9⟩=>?_;have e2:=I5.pinned (a5 (λp hp=>by rw[Qqa.mp hp]) d9) (T.obj _ _ t5);refine Qb (hg Cc _ s5 a4 H5 x u _ e2 r5 (next x H5 y5)) (λ_ s6 ⟨a1,H6,I6,q6⟩=>?_) λ_ _ z=>z.elim;refine Qb (ht Cc _ s6 a1 H6 _ I6 q6) (λb s7 ⟨H7,I7,q7⟩=>?_) λ_ _ z=>z.elim;have back:∀{c5:L2.St}{H8:Hp}{s8:Qz},Inv (qzh X N scope Cc Y s H) ([(Dd,{ cls:=.type "list",data:=.seq L.toArray nn })]++qvn Y s5.heap) c5 H8 s8->
     tn (i+1) s8.heap/\(∀b∈Y,H8 b=none)/\s8.heap.get? Dd=some { cls:=.type "list",data:=.seq L.toArray nn }/\H8 Dd=none:=λ{c5 H8 s8} I8=>by
    refine⟨T.keep _ _ _ t5 λb O o e=>(I8.pin (b,o) (Qq3 _ (Qq3 _ (qqr O e)))).1,λb O=>?_,?_,?_⟩
    ·obtain⟨o,e,d⟩:=T.obj _ _ t5 b O;exact(I8.pin (b,o) (Qq3 _ (Qq3 _ (qqr O e)))).2.1
    ·exact(I8.pin (Dd,_) (Qq3 _ (Qzz _ (by simp)))).1
    ·exact(I8.pin (Dd,{ cls:=.type "list",data:=.seq L.toArray nn }) (Qq3 _ (Qzz _ (by simp)))).2.1
   cases b with
   |false=>
    simp only[Qqm,if_false]at q7 ⊢;obtain⟨k',hk,w7⟩:=q7;obtain⟨b1,b2,b3,b4⟩:=back I7;exact⟨k',hk,i+1,j,L,nn,a1,H7,I7.pins_of λp hp=>absurd hp (by simp),b1,b2,w7,rv,b3,b4⟩
   |true=>
    simp only[if_true]at q7 ⊢;refine thn (he Dd Cc _ s7 a1 H7 _ (I7.wish _) q7) λy s8 ⟨v8,H8,I8,r8,k',hk,w8⟩=>?_;have I8:=I8.unwish;obtain⟨b1,b2,b3,b4⟩:=back I8;have l1:=rv.length;refine Q0 F.slot_list_append ⟨_,b3,rfl⟩ F.entry_list_append (F.args_list_append_2 _ _) (PySem.list_append Dd L.toArray nn y (by rw[Qqj]; omega)) ⟨b3,?_⟩;have q:=PySem.IsL.update b3 (λa=>a.push y);have c0:L.toArray.push y=(L++[y]).toArray:=by simp
    rw[c0]at q;have I9:Inv (qzh X N scope Cc Y s H) [] a1 H8 s8:=I8.pins_of λp hp=>absurd hp (by simp);have e3:Inv (qzh X N scope Cc Y s H) [] a1 H8 { s8 with heap:=s8.heap.update Dd (Obj.mapSeq (·.push y)) }:=
     I9.turned (it:=Dd) (t':=s8.toks) (λb o O e=>(Qxp s8.heap _ (Ne.symm O)).trans e) b4 a3 (.inr c2) c4 λp hp=>absurd (show p∈([]:List (Addr×Obj)) from hp) (by simp)
    exact⟨k',hk,i+1,j++[v8],L++[y],_,a1,H8,e3,T.keep _ _ _ b1 λb O o e=>(Qxp s8.heap _ (Ne.symm (c8 b O))).trans e,b2,w8,rv.append (.cons r8 .nil),q,b4⟩
 exact codeAny_compStart_list (loop _ rfl) (T.self _ 0 _ _ _ (T.keep _ _ _ b6 λb _ o e=>b7 b o e) (loop _ rfl))
noncomputable def qh2(src:List (Option Nat))(wi:TI)(g:TG)(tt:TT)(te:TE):TE:=λσ H Q=>wi σ H λJ H1=>∃W:Nat->Nat->List V->L2.St->Hp->Prop,(∃k,W 0 k [] (qqt src σ) H1)/\
 ∀i k acc σ' H',W i k acc σ' H'->(J.stop i H'/\acc.length<=sizeLine/\∀p,H' p=none->Q (.ref p) (upd H' p (.lst acc)))\/(J.go i H'/\acc.length<sizeLine/\∀x H2,J.yld i H' x H2->g x σ' H2 λσ2 H3=>tt σ2 H3 λb H4=>
  if b=true then te σ2 H4 λv H5=>∃k',k'<k/\W (i+1) k' (acc++[v]) σ2 H5 else ∃k',k'<k/\W (i+1) k' acc σ2 H4)
theorem qcg{X:Cx}{elt M q:Qx}{L:List Qx}{j:Scope}{pos:Pos}{N:List Str}{src:List (Option Nat)}{wi:TI}{g:TG}{tt:TT}{te:TE}(hc:X.calm=true)(S:CompScope X N src j)(hi:PI X M q wi)
  (hg:∀C fp s H,PG (qzh X N j C fp s H) M g) (ht:∀C fp s H,qef (qzh X N j C fp s H) L tt) (he:∀C fp s H,PE (qzh X N j C fp s H) elt te)
  (hs:∀x,foldedSetIterable q X.env x=pure x):PE X (.ListComp elt [⟨M,q,L,0⟩] j pos) (qh2 src wi g tt te):=by
 intro pins s σ H Q I h;rw[eval_ListComp];refine wpAny_comprehension_free (use:=none) rfl hs (qwy S I) S.kind S.loc (thn (hi pins s σ H _ I h) λv s1 h1=>thn h1 λa0 U h2=>?_);obtain⟨it,fp,tn,J,H2,e,I2,T,O,f2,W,w0,F⟩:=h2;subst e;refine qkg (Ex:=λ_ _=>NoX) hc I2 T O f2 S (λC=>hg C fp U H2) (λC=>ht C fp U H2) (λ_ C=>he C fp U H2) (λ_ _ _ _ _ z=>z.elim) W w0 F ?_;intro D C s' H' Z Y nD I' fC hm;obtain⟨m',hn⟩:=hm;refine⟨m',hn,λh' sb=>⟨.ref D,upd H' D (.lst Z),?_,rfl,Y D nD⟩⟩;obtain⟨c0,c1,c2,c3,c4,c5⟩:=fC;exact I'.turned (t':=s'.toks) (λb o hb e=>(sb.2 b hb).trans e) c0 c1 c3 c4 c5
end MS
end
section
namespace MS
open PySem PySem.Spec PyProof.Rows L2
theorem Inv.turnedL{X:Cx}{j:List (Addr×Obj)}{M:L2.St}{H:Hp}{s:Qz}{h':Heap}{t':Nat}{ch:List Addr}(I:Inv X j M H s)(k:∀b o,b ∉ ch->s.heap.get? b=some o->h'.get? b=some o)(L:∀b∈ch,FpOk X j H b):Inv X j M H { s with heap:=h',toks:=t' }:=by
 have J:∀b u,H b=some u->b ∉ ch:=λb u e z=>by rw[(L b z).1]at e; cases e
 refine I.step (g':=s.gens) (d':=s.drawn) (ch:=ch) (λb Y=>?_) (λb o _ _ F e _=>k b o F e) (λb o _ _ F e _=>⟨o.slots,k b o F e⟩) (λ_ _ _ _ n=>n) (λb o F e=>⟨o,k b o F e⟩) (λ_ _ e=>e) (λ_ _ _ e=>e) (λb ps e=>⟨#[],by rw[e]; simp⟩) (λm U=>?_) (λb u e=>?_) I.bare
 ·obtain⟨f0,f1,f2,f3,f4,Z⟩:=L b Y;exact⟨f3,f1,f4,Z⟩
 ·obtain⟨o,es,ep,O,r⟩:=U;exact⟨o,es,ep,k _ o (λz=>(L _ z).2.1 rfl) O,r⟩
 ·refine(I.hok b u e).stay (λc v F q=>k c v ?_ q) (λ_ q=>q) λ_ _ q=>q;rcases F with z|z
  ·rw[z]; exact J b u e
  ·exact J c _ z
inductive RK where
 |lst|tup
noncomputable def RK.It:RK->Heap->Addr->Addr->Nat->Prop
 |.lst,h,it,a,i=>h.IsListIter it a i
 |.tup,h,it,a,i=>h.IsTupleIter it a i
noncomputable def RK.Sq:RK->Heap->Addr->Array Value->Prop
 |.lst,h,a,xs=>h.IsList a xs
 |.tup,h,a,xs=>h.IsTuple a xs
theorem RK.It.on{k:RK}{h h':Heap}{it a:Addr}{i:Nat}(x:k.It h it a i)(e:∀o,h.get? it=some o->h'.get? it=some o):k.It h' it a i:=by
 cases k with
 |lst=>exact Heap.IsListIter.at x e
 |tup=>obtain⟨o,j,r⟩:=x; exact⟨o,e o j,r⟩
theorem RK.Sq.on{k:RK}{h h':Heap}{a:Addr}{xs:Array Value}(x:k.Sq h a xs)(e:∀o,h.get? a=some o->h'.get? a=some o):k.Sq h' a xs:=by
 cases k with
 |lst=>exact Heap.IsList.at x e
 |tup=>obtain⟨o,j,r⟩:=x; exact⟨o,e o j,r⟩
theorem RK.It.obj{k:RK}{h:Heap}{it a:Addr}{i:Nat}(x:k.It h it a i):∃o,h.get? it=some o/\∀v,o.data≠.cell v:=by
 cases k with
 |lst=>obtain⟨o,j,_,d⟩:=x; exact⟨o,j,λv z=>by rw[d]at z; cases z⟩
 |tup=>obtain⟨o,j,_,d⟩:=x; exact⟨o,j,λv z=>by rw[d]at z; cases z⟩
section
variable {prog:Program}{w:Qk}{A:Qw}{E:Value->Qz->Prop}{s:Qz}
theorem qjl{k:RK}{it a:Addr}{i:Nat}{xs:Array Value}{x:Value}{Q:Value->Qz->Prop}(J:k.It s.heap it a i)(O:k.Sq s.heap a xs)(M:xs[i]?=some x)
  (U:∀h',k.It h' it a (i+1)->(∀b o,b≠it->s.heap.get? b=some o->h'.get? b=some o)->h'.objs.size=s.heap.objs.size->Q x { s with heap:=h' }):wpAny (model prog w) A (Builtin.SmallTypes.nextOf (.ref it)) Q E s:=by
 cases k with
 |lst=>exact wpAny_nextOf_list_item J O M λh' a1 Y=>U h' a1 Y.extBut Y.1
 |tup=>
  obtain⟨o,L,e2,j⟩:=id J;obtain⟨q,f1,_,m,Z⟩:=O;unfold Builtin.SmallTypes.nextOf;refine Qq (Qm (name:=Str.ofString "__next__") (Heap.IsTupleIter.typeIs J) F.slot_tuple_iterator_next (Qs F.slot_tuple_iterator_next (Heap.IsTupleIter.typeIs J) F.entry_tuple_iterator_next ?_ (F.args_tuple_iterator_next_1 _)));show wpAny _ _ (field (.ref it) 0 >>= _) _ _ _;refine Qq (Qg L j (x:=.ref a) rfl ?_);show wpAny _ _ (if (Value.ref a==Value.none)=true then _ else _) _ _ _;rw[Zs (show ¬ ((Value.ref a==Value.none)=true) from λz=>nomatch z)];show wpAny _ _ (field (.ref it) 1 >>= _) _ _ _;refine Qq (Qg L j (x:=.int i 0) rfl ?_);show wpAny _ _ (seqItems? (.ref a) >>= _) _ _ _;refine Qq (Ql f1 Z ?_);simp only[Int.toNat_natCast,M];refine Qq (wpAny_setField L j (by simp) (Qj ⟨x,rfl,Qj (U _ ?_ (Heap.SameBut.update ..).extBut (Heap.SameBut.update ..).1)⟩));exact⟨_,Qx2 _ L (Obj.isFreed_of_fields (Obj.data_mapFields j _)),(Obj.cls_mapFields ..).trans e2,by rw[Obj.data_mapFields j]; simp[rawInt]⟩
theorem qwk{k:RK}{it a:Addr}{i:Nat}{xs:Array Value}{Q:Value->Qz->Prop}(J:A.handled=none)(j:k.It s.heap it a i)(U:k.Sq s.heap a xs)(O:xs[i]?=none)
  (Y:∀h' e,(∀b o,b≠it->s.heap.get? b=some o->h'.get? b=some o)->(∃o,h'.get? e=some o/\o.cls=.type "StopIteration")->E (.ref e) { s with heap:=h' }):wpAny (model prog w) A (Builtin.SmallTypes.nextOf (.ref it)) Q E s:=by
 cases k with
 |lst=>exact wpAny_nextOf_list_end J j U O λh' e a1 a2=>Y h' e a1 a2
 |tup=>
  obtain⟨o,M,e2,L⟩:=id j;obtain⟨q,f1,_,m,Z⟩:=U;unfold Builtin.SmallTypes.nextOf;refine Qq (Qm (name:=Str.ofString "__next__") (Heap.IsTupleIter.typeIs j) F.slot_tuple_iterator_next (Qs F.slot_tuple_iterator_next (Heap.IsTupleIter.typeIs j) F.entry_tuple_iterator_next ?_ (F.args_tuple_iterator_next_1 _)));show wpAny _ _ (field (.ref it) 0 >>= _) _ _ _;refine Qq (Qg M L (x:=.ref a) rfl ?_);show wpAny _ _ (if (Value.ref a==Value.none)=true then _ else _) _ _ _;rw[Zs (show ¬ ((Value.ref a==Value.none)=true) from λz=>nomatch z)];show wpAny _ _ (field (.ref it) 1 >>= _) _ _ _;refine Qq (Qg M L (x:=.int i 0) rfl ?_);show wpAny _ _ (seqItems? (.ref a) >>= _) _ _ _;refine Qq (Ql f1 Z ?_);simp only[Int.toNat_natCast,O];refine Qq (Zh (Qq (wpAny_setField M L (by simp) ?_))); show wpAny _ _ (newExc (.type "StopIteration") [] >>= _) _ _ _;refine Qq ?_; simp only[newExc,newTuple];refine Qq (Qn ?_ (by size_fits)); refine Qq (m:=firstArgMember _ _) (wpAny_of_eq (a:=Value.none) (by first|rfl|(simp only[firstArgMember]; rfl)) ?_);refine Qn ?_ (by size_fits); simp only[raiseNew];refine Qq (wpAny_handled ?_)
  first|rw[show A.in1.handled=none from J]|(rw[J])
  refine Qq (Qj (wpAny_throw ?_));exact Y _ _ (((Heap.SameBut.update ..).extBut.push _).push _) ⟨_,Qqg _ rfl,by rfl⟩
end
section
variable {prog:Program}{w:Qk}{A:Qw}{E:Value->Qz->Prop}{s:Qz}
theorem qk1{T:Addr}{a b x:Value}{j:Nat}{Q:Unit->Qz->Prop}(z:IsPair s.heap T a b)
  (h:∀h',h'.get? T=some { cls:=.type "tuple",data:=.seq ((#[a,b]:Array Value).setIfInBounds j x) }->(∀c o,c≠T->s.heap.get? c=some o->h'.get? c=some o)->h'.objs.size=s.heap.objs.size->Q () { s with heap:=h' }) :
  wpAny (model prog w) A (updateSeq T (·.setIfInBounds j x)) Q E s:=
 wpAny_updateSeq_pair z λh' F q=>h h' F q.extBut q.1
theorem zip_get{n O M:Nat}{k1 k2:RK}{i:Nat}{xs ys:Array Value}{x y a b:Value}{Q:Option Value->Qz->Prop}(n1:O<n)(n2:M<n)
  (hz:IsZip s.heap (n+4) (n+2) (n+3) .none) (hI:IsPair s.heap (n+2) (.ref n) (.ref (n+1))) (hO:IsPair s.heap (n+3) a b) (h1:k1.It s.heap n O i) (h2:k2.It s.heap (n+1) M i) (s1:k1.Sq s.heap O xs) (s2:k2.Sq s.heap M ys) (hx:xs[i]?=some x) (hy:ys[i]?=some y)
  (hQ:∀h',IsZip h' (n+4) (n+2) (n+3) (rawInt s.heap.objs.size)->IsPair h' (n+2) (.ref n) (.ref (n+1))->IsPair h' (n+3) x y->k1.It h' n O (i+1)->k2.It h' (n+1) M (i+1)->IsPair h' s.heap.objs.size x y->
   (∀c o,c≠n+4->c≠n+3->c≠n->c≠n+1->s.heap.get? c=some o->h'.get? c=some o)->Q (some (.ref s.heap.objs.size)) { s with heap:=h' }) :
  wpAny (model prog w) A (pyNext (.ref (n+4))) Q E s:=by
 have hT:s.TypeIs (.ref (n+4)) "zip":=⟨_,hz,rfl⟩
 unfold pyNext;refine Qq (wpAny_attempt (Qm (name:=Str.ofString "__next__") hT F.slot_zip_next (Qs F.slot_zip_next hT F.entry_zip_next ?_ (F.args_zip_next_1 _))));show wpAny _ _ (field (.ref (n+4)) 2 >>= _) _ _ _;refine Qq (Qg hz rfl (x:=.bool false) rfl ?_);show wpAny _ _ (field (.ref (n+4)) 3 >>= _) _ _ _;refine Qq (Qg hz rfl (x:=.ref (n+2)) rfl ?_);refine Qq (Ql hI rfl ?_);show wpAny _ _ (Builtin.SmallTypes.ownedTupleIsFree (.ref (n+4)) >>= _) _ _ _;refine Qq ?_;unfold Builtin.SmallTypes.ownedTupleIsFree;refine Qq (Qg hz rfl (x:=.none) rfl (Qj ?_));simp only[if_true];refine Qq (Zh ?_);refine Qq (Qg hz rfl (x:=.ref (n+3)) rfl ?_);refine Qq (Qu hz (by simp) λg1 z1 u1=>?_)
 replace z1:IsZip g1 (n+4) (n+2) (n+3) .ellipsis:=z1
 have q:=u1.extBut;refine Qq ?_;simp only[List.zipIdx_cons,List.zipIdx_nil,Qx7,List.forIn_nil];refine Qq (Qq (Zn ?_)); show wpAny _ _ (Builtin.SmallTypes.nextOf (.ref n) >>= _) _ _ _;refine Qq (qjl (s:={ s with heap:=g1 }) (h1.on λo e=>q _ o (by show @Ne Nat _ _; omega) e) (s1.on λo e=>q _ o (by show @Ne Nat _ _; omega) e) hx λg2 i2 J c2=>Qj ?_);have O2:IsPair g2 (n+3) a b:=J _ _ (by show @Ne Nat _ _; omega) (q _ _ (by show @Ne Nat _ _; omega) hO);refine Qq (Ql O2 rfl ?_);refine Qq (qk1 O2 λg3 O3 z c3=>?_)
 replace O3:IsPair g3 (n+3) x b:=O3
 refine Qq (wpAny_letGo (Qj ?_));refine Qq (Qq (Zn ?_)); show wpAny _ _ (Builtin.SmallTypes.nextOf (.ref (n+1)) >>= _) _ _ _;refine Qq (qjl (s:={ s with heap:=g3 }) (h2.on λo e=>z _ o (by show @Ne Nat _ _; omega) (J _ o (by show @Ne Nat _ _; omega) (q _ o (by show @Ne Nat _ _; omega) e))) (s2.on λo e=>z _ o (by show @Ne Nat _ _; omega) (J _ o (by show @Ne Nat _ _; omega) (q _ o (by show @Ne Nat _ _; omega) e))) hy λg4 i4 Z c4=>Qj ?_);have O4:IsPair g4 (n+3) x b:=Z _ _ (by show @Ne Nat _ _; omega) O3;refine Qq (Ql O4 rfl ?_);refine Qq (qk1 O4 λj O5 Y c5=>?_)
 replace O5:IsPair j (n+3) x y:=O5
 refine Qq (wpAny_letGo (Qj (Qj ?_)));refine Qq (Ql O5 rfl ?_);refine Qq (wpAny_newTuple ?_);have sz:j.objs.size=s.heap.objs.size:=c5.trans (c4.trans (c3.trans (c2.trans u1.1)));have z5:IsZip j (n+4) (n+2) (n+3) .ellipsis:=Y _ _ (by show @Ne Nat _ _; omega) (Z _ _ (by show @Ne Nat _ _; omega) (z _ _ (by show @Ne Nat _ _; omega) (J _ _ (by show @Ne Nat _ _; omega) z1)));have L:∀c o,c≠n+4->c≠n+3->c≠n->c≠n+1->s.heap.get? c=some o->j.get? c=some o:=λc o c1 c2 c3 c4 e=>Y _ _ c2 (Z _ _ c4 (z _ _ c2 (J _ _ c3 (q _ _ c1 e))));have j1:k1.It j n O (i+1):=i2.on λo e=>Y _ o (by show @Ne Nat _ _; omega) (Z _ o (by show @Ne Nat _ _; omega) (z _ o (by show @Ne Nat _ _; omega) e));have j2:k2.It j (n+1) M (i+1):=i4.on λo e=>Y _ o (by show @Ne Nat _ _; omega) e;have lz:n+4<j.objs.size:=Qqb z5;show wpAny _ _ (Builtin.SmallTypes.ownedTupleHandOut (.ref (n+4)) (.ref j.objs.size) >>= _) _ _ _;refine Qq ?_;unfold Builtin.SmallTypes.ownedTupleHandOut;have z6:IsZip (j.push { cls:=.type "tuple",data:=.seq #[x,y] }) (n+4) (n+2) (n+3) .ellipsis:=Qqz _ z5;refine Qq (Qu z6 (by simp) λg7 z7 u7=>?_)
 replace z7:IsZip g7 (n+4) (n+2) (n+3) (rawInt j.objs.size):=z7
 refine Qu z7 (by simp) λg8 U u8=>?_
 replace U:IsZip g8 (n+4) (n+2) (n+3) (rawInt j.objs.size):=U
 have up:∀c o,c≠n+4->j.get? c=some o->g8.get? c=some o:=λc o c1 e=>u8.extBut _ _ c1 (u7.extBut _ _ c1 (Qqz _ e));have t8:IsPair g8 j.objs.size x y:=u8.extBut _ _ (Qxh lz) (u7.extBut _ _ (Qxh lz) (Qqg _ rfl));rw[sz]at U t8;refine Qj ⟨_,rfl,Qj ?_⟩;show Q (some (.ref j.objs.size)) _;rw[sz];exact hQ g8 U (up _ _ (by show @Ne Nat _ _; omega) (L _ _ (by show @Ne Nat _ _; omega) (by show @Ne Nat _ _; omega) (by show @Ne Nat _ _; omega) (by show @Ne Nat _ _; omega) hI)) (up _ _ (by show @Ne Nat _ _; omega) O5) (j1.on λo e=>up _ o (by show @Ne Nat _ _; omega) e) (j2.on λo e=>up _ o (by show @Ne Nat _ _; omega) e) t8 λc o c1 c2 c3 c4 e=>up c o c1 (L c o c1 c2 c3 c4 e)
theorem qeg{n l1 l2:Nat}{k1 k2:RK}{i:Nat}{xs ys:Array Value}{a b:Value}{Q:Option Value->Qz->Prop}(hh:A.handled=none)(n1:l1<n)(n2:l2<n)
  (hz:IsZip s.heap (n+4) (n+2) (n+3) .none) (hI:IsPair s.heap (n+2) (.ref n) (.ref (n+1))) (hO:IsPair s.heap (n+3) a b) (h1:k1.It s.heap n l1 i) (h2:k2.It s.heap (n+1) l2 i) (s1:k1.Sq s.heap l1 xs) (s2:k2.Sq s.heap l2 ys) (M:xs[i]?=none\/ys[i]?=none)
  (hQ:∀h',(∀c o,c≠n+4->c≠n+3->c≠n->c≠n+1->s.heap.get? c=some o->h'.get? c=some o)->Q none { s with heap:=h' }) :
  wpAny (model prog w) A (pyNext (.ref (n+4))) Q E s:=by
 have hT:s.TypeIs (.ref (n+4)) "zip":=⟨_,hz,rfl⟩
 have U:∀(h':Heap) (e:Addr),(∀c o,c≠n+4->c≠n+3->c≠n->c≠n+1->s.heap.get? c=some o->h'.get? c=some o)->(∃o,h'.get? e=some o/\o.cls=.type "StopIteration")->
   wpAny (model prog w) A (do if (<- isInstance (.ref e) (.type "StopIteration")) then pure none else(throw (Value.ref e):Sem (Option Value))) Q E { s with heap:=h' }:=λh' e hk O=>by
  obtain⟨o,z,L⟩:=O;refine Qq (wpAny_isInstance (T:="StopIteration") (b:=true) ⟨o,z,L⟩ isSubtype_stop ?_);exact Qj (hQ _ hk)
 unfold pyNext;refine Qq (wpAny_attempt (Qm (name:=Str.ofString "__next__") hT F.slot_zip_next (Qs F.slot_zip_next hT F.entry_zip_next ?_ (F.args_zip_next_1 _))));show wpAny _ _ (field (.ref (n+4)) 2 >>= _) _ _ _;refine Qq (Qg hz rfl (x:=.bool false) rfl ?_);show wpAny _ _ (field (.ref (n+4)) 3 >>= _) _ _ _;refine Qq (Qg hz rfl (x:=.ref (n+2)) rfl ?_);refine Qq (Ql hI rfl ?_);show wpAny _ _ (Builtin.SmallTypes.ownedTupleIsFree (.ref (n+4)) >>= _) _ _ _;refine Qq ?_;unfold Builtin.SmallTypes.ownedTupleIsFree;refine Qq (Qg hz rfl (x:=.none) rfl (Qj ?_));simp only[if_true];refine Qq (Zh ?_);refine Qq (Qg hz rfl (x:=.ref (n+3)) rfl ?_);refine Qq (Qu hz (by simp) λg1 Y u1=>?_)
 replace Y:IsZip g1 (n+4) (n+2) (n+3) .ellipsis:=Y
 have j:=u1.extBut;refine Qq ?_;simp only[List.zipIdx_cons,List.zipIdx_nil,Qx7,List.forIn_nil];refine Qq (Qq (Zn ?_)); show wpAny _ _ (Builtin.SmallTypes.nextOf (.ref n) >>= _) _ _ _
 cases hx:xs[i]? with
 |none=>
  refine Qq (qwk (s:={ s with heap:=g1 }) hh (h1.on λo e=>j _ o (by show @Ne Nat _ _; omega) e) (s1.on λo e=>j _ o (by show @Ne Nat _ _; omega) e) hx λg2 e J O=>?_);obtain⟨oe,z,L⟩:=O;have z2:IsZip g2 (n+4) (n+2) (n+3) .ellipsis:=J _ _ (by show @Ne Nat _ _; omega) Y;have ez:e≠n+4:=λq=>by subst q; rw[z2]at z; cases z; simp at L
  exact Qu z2 (by simp) λg3 _ u3=>U g3 e (λc o c1 _ c3 _ q=>u3.extBut _ _ c1 (J _ _ c3 (j _ _ c1 q))) ⟨oe,u3.extBut _ _ ez z,L⟩
 |some x=>
  have hy:ys[i]?=none:=by
   rcases M with h|h
   ·rw[hx]at h; cases h
   ·exact h
  refine Qq (qjl (s:={ s with heap:=g1 }) (h1.on λo e=>j _ o (by show @Ne Nat _ _; omega) e) (s1.on λo e=>j _ o (by show @Ne Nat _ _; omega) e) hx λg2 i2 J c2=>Qj ?_);have O2:IsPair g2 (n+3) a b:=J _ _ (by show @Ne Nat _ _; omega) (j _ _ (by show @Ne Nat _ _; omega) hO);refine Qq (Ql O2 rfl ?_);refine Qq (qk1 O2 λg3 O3 Z c3=>?_);refine Qq (wpAny_letGo (Qj ?_));refine Qq (Qq (Zn ?_)); show wpAny _ _ (Builtin.SmallTypes.nextOf (.ref (n+1)) >>= _) _ _ _;refine Qq (qwk (s:={ s with heap:=g3 }) hh (h2.on λo e=>Z _ o (by show @Ne Nat _ _; omega) (J _ o (by show @Ne Nat _ _; omega) (j _ o (by show @Ne Nat _ _; omega) e))) (s2.on λo e=>Z _ o (by show @Ne Nat _ _; omega) (J _ o (by show @Ne Nat _ _; omega) (j _ o (by show @Ne Nat _ _; omega) e))) hy λg4 e v4 O=>?_);obtain⟨oe,z,L⟩:=O;have z4:IsZip g4 (n+4) (n+2) (n+3) .ellipsis:=v4 _ _ (by show @Ne Nat _ _; omega) (Z _ _ (by show @Ne Nat _ _; omega) (J _ _ (by show @Ne Nat _ _; omega) Y));have ez:e≠n+4:=λq=>by subst q; rw[z4]at z; cases z; simp at L
  exact Qu z4 (by simp) λg5 _ u5=>U g5 e (λc o c1 c2 c3 c4 q=>u5.extBut _ _ c1 (v4 _ _ c4 (Z _ _ c2 (J _ _ c3 (j _ _ c1 q))))) ⟨oe,u5.extBut _ _ ez z,L⟩
end
noncomputable def RK.itO(k:RK)(a:Addr):Obj:=match k with
 |.lst=>{ cls:=.type "list_iterator",data:=.fields #[.ref a,.int 0 0] }
 |.tup=>{ cls:=.type "tuple_iterator",data:=.fields #[.ref a,.int 0 0] }
theorem qyi{prog:Program}{w:Qk}{A:Qw}{E:Value->Qz->Prop}{s:Qz}{k:RK}{a:Addr}{xs:Array Value}{Q:Value->Qz->Prop}(j:k.Sq s.heap a xs)(q:Q (.ref s.heap.objs.size) { s with heap:=s.heap.push (k.itO a) }):wpAny (model prog w) A (pyIter (.ref a)) Q E s:=by
 cases k with
 |lst=>exact Za j q
 |tup=>exact wpAny_pyIter_tuple j q
theorem row_new{h:Heap}{k:RK}{a:Addr}:k.It (h.push (k.itO a)) h.objs.size a 0:=by
 cases k with
 |lst=>exact⟨_,Qqg _ rfl,rfl,rfl⟩
 |tup=>exact⟨_,Qqg _ rfl,rfl,rfl⟩
noncomputable abbrev zh1(k1:RK)(h:Heap)(l1:Addr):Heap:=h.push (k1.itO l1)
noncomputable abbrev zh2(k1 k2:RK)(h:Heap)(l1 l2:Addr):Heap:=(zh1 k1 h l1).push (k2.itO l2)
noncomputable abbrev zh3(k1 k2:RK)(h:Heap)(l1 l2:Addr):Heap:=(zh2 k1 k2 h l1 l2).push { cls:=.type "tuple",data:=.seq #[.ref h.objs.size,.ref (zh1 k1 h l1).objs.size] }
noncomputable abbrev zh4(k1 k2:RK)(h:Heap)(l1 l2:Addr):Heap:=(zh3 k1 k2 h l1 l2).push { cls:=.type "tuple",data:=.seq #[.none,.none] }
noncomputable abbrev zh5(k1 k2:RK)(h:Heap)(l1 l2:Addr):Heap:=(zh4 k1 k2 h l1 l2).push { cls:=.type "zip",data:=.fields #[.none,.bool false,.bool false,.ref (zh2 k1 k2 h l1 l2).objs.size,.ref (zh3 k1 k2 h l1 l2).objs.size] }
theorem qeh(z F:RK)(j q:Addr)(xs ys:Array Value):Meets (Zz.«zip.__new__» ⟨[.type "zip",.ref j,.ref q],[]⟩) (λ_ R s=>z.Sq s.heap j xs/\F.Sq s.heap q ys/\R (.ok (.ret (.ref (zh4 z F s.heap j q).objs.size))) { s with heap:=zh5 z F s.heap j q }):=
 .of_wp λprog w A R s h=>by
  obtain⟨L,g,d,tk,os⟩:=s;obtain⟨O,M,h⟩:=h;have J:=sub_zip;have U:z.Sq (Shared.heap ⟨L,g,d,tk,os⟩) j xs:=O;have L2:F.Sq (Shared.heap ⟨L.push (z.itO j),g,d,tk,os⟩) q ys:=M.on λo e=>Qqz _ e
  wp_walk using qyi U,qyi L2
  exact⟨_,rfl,h⟩
def ZipAt(k1 k2:RK)(n l1 l2:Nat)(i:Nat)(h:Heap):Prop:=
 l1<n/\l2<n/\IsZip h (n+4) (n+2) (n+3) .none/\IsPair h (n+2) (.ref n) (.ref (n+1))/\(∃a b,IsPair h (n+3) a b)/\k1.It h n l1 i/\k2.It h (n+1) l2 i
theorem qd0{prog:Program}{w:Qk}{A:Qw}{E:Value->Qz->Prop}{s:Qz}{z J:RK}{j q:Nat}{xs ys:Array Value}{Q:Value->Qz->Prop}(q1:z.Sq s.heap j xs)(q2:J.Sq s.heap q ys)(b1:j<s.heap.objs.size)(b2:q<s.heap.objs.size)
  (h:∀h',ZipAt z J s.heap.objs.size j q 0 h'->(∀c o,s.heap.get? c=some o->h'.get? c=some o)->Q (.ref (s.heap.objs.size+4)) { s with heap:=h' }):wpAny (model prog w) A (call (.type "zip") [.ref j,.ref q]) Q E s:=by
 refine callType_new F.called_zip (by decide) (F.typeCall_zip_2 _ _) (F.newCall_zip_2 _ _) (λobj=>F.args_object_init_3 obj _ _) F.entry_zip_new (qeh z J j q xs ys) ⟨q1,q2,?_⟩;have O:(zh1 z s.heap j).objs.size=s.heap.objs.size+1:=Qxz ..;have M:(zh2 z J s.heap j q).objs.size=s.heap.objs.size+2:=by rw[Qxz,O]
 have L:(zh3 z J s.heap j q).objs.size=s.heap.objs.size+3:=by rw[Qxz,M]
 have Y:(zh4 z J s.heap j q).objs.size=s.heap.objs.size+4:=by rw[Qxz,L]
 have U:(zh5 z J s.heap j q).get? (zh4 z J s.heap j q).objs.size=some _:=Qqg _ rfl;have Z:(zh5 z J s.heap j q).get? (zh3 z J s.heap j q).objs.size=some _:=Qqz _ (Qqg _ rfl);have g3:(zh5 z J s.heap j q).get? (zh2 z J s.heap j q).objs.size=some _:=Qqz _ (Qqz _ (Qqg _ rfl));have g2:J.It (zh5 z J s.heap j q) (zh1 z s.heap j).objs.size q 0:=row_new.on λo e=>Qqz _ (Qqz _ (Qqz _ e));have g1:z.It (zh5 z J s.heap j q) s.heap.objs.size j 0:=row_new.on λo e=>Qqz _ (Qqz _ (Qqz _ (Qqz _ e)));show _/\_;rw[M,L,Y]at U;rw[O,M]at g3;rw[L]at Z;rw[O]at g2;rw[Y];exact⟨⟨_,U,rfl⟩,h _ ⟨b1,b2,U,g3,⟨_,_,Z⟩,g1,g2⟩ λc o x=>Qqz _ (Qqz _ (Qqz _ (Qqz _ (Qqz _ x))))⟩
def RK.sq(k:RK)(K:Qqq)(H:Hp)(a:Addr)(xs:List V):Prop:=match k with
 |.lst=>SqL K H a xs
 |.tup=>SqT K H a xs
noncomputable def Itz(K:Qqq)(k1 k2:RK)(a b:Addr):It:=
 ⟨λi H=>∃xs ys x y,k1.sq K H a xs/\k2.sq K H b ys/\xs[i]?=some x/\ys[i]?=some y,
  λi H v H'=>∃p x y,v=.ref p/\H p=none/\H'=upd H p (.tup [x,y])/\(∀xs,k1.sq K H a xs->xs[i]?=some x)/\∀ys,k2.sq K H b ys->ys[i]?=some y,
  λi H=>∃xs ys,k1.sq K H a xs/\k2.sq K H b ys/\(xs.length<=i\/ys.length<=i)⟩
section
variable {X:Cx}{pins:List (Addr×Obj)}{σ:L2.St}{H:Hp}{s:Qz}
theorem qkk{k:RK}{a:Addr}{xs:List V}(I:Inv X pins σ H s)(q:k.sq X.K H a xs):∃j,Vals xs j/\k.Sq s.heap a j.toArray:=by
 cases k with
 |lst=>obtain⟨j,z,p,F⟩:=I.list q; exact⟨j,z,p.isList⟩
 |tup=>obtain⟨j,z,p,F⟩:=I.tuple q; exact⟨j,z,show s.heap.IsTuple a j.toArray from p⟩
theorem qcy{k:RK}{a:Addr}{xs ys:List V}(I:Inv X pins σ H s)(q:k.sq X.K H a xs)(j:k.sq X.K H a ys):xs=ys:=by
 cases k with
 |lst=>exact I.list_inj q j
 |tup=>exact I.tuple_inj q j
end
noncomputable def fpZ(n:Nat):List Addr:=[n+4,n+2,n+3,n,n+1]
theorem qel{P:Program}{w:Qk}{K:Qqq}{Y:List Qx}{c:Nat}{pos:Pos}(k1 k2:RK)(n a b:Nat):Turn P w K (.Tuple Y c pos) (Itz K k1 k2 a b) (fpZ n) (n+4) (ZipAt k1 k2 n a b) where
 mem:=by simp[fpZ]
 obj:=λi h st e he=>by
  obtain⟨b1,b2,J,M,⟨x,y,L⟩,h1,h2⟩:=st;simp only[fpZ,Qqv,Qzv,or_false]at he;rcases he with rfl|rfl|rfl|rfl|rfl
  ·exact⟨_,J,λv z=>nomatch z⟩
  ·exact⟨_,M,λv z=>nomatch z⟩
  ·exact⟨_,L,λv z=>nomatch z⟩
  ·exact h1.obj
  ·exact h2.obj
 keep:=λi h h' st k=>by
  obtain⟨b1,b2,J,M,⟨x,y,L⟩,h1,h2⟩:=st;exact⟨b1,b2,k _ (by simp[fpZ]) _ J,k _ (by simp[fpZ]) _ M,⟨x,y,k _ (by simp[fpZ]) _ L⟩,h1.on λo e=>k _ (by simp[fpZ]) o e,h2.on λo e=>k _ (by simp[fpZ]) o e⟩
 item:=by
  intro X hP hw hK hc i pins s σ H E I hf st hg;subst hP hw hK;obtain⟨xs,ys,x,y,qx,Z,ex,ey⟩:=hg;obtain⟨b1,b2,J,M,⟨ua,ub,L⟩,h1,h2⟩:=st;obtain⟨vx,rx,sx⟩:=qkk I qx;obtain⟨vy,ry,sy⟩:=qkk I Z;obtain⟨u1,a9,a7⟩:=rx.get ex;obtain⟨u2,a8,a0⟩:=ry.get ey;refine zip_get b1 b2 J M L h1 h2 sx sy (x:=u1) (y:=u2) (by simpa using a9) (by simpa using a8) λh' a1 a2 a3 a4 a5 a6 kp=>⟨_,rfl,?_⟩
  refine wpAny_letOwnedTupleGo_zip (s:={ s with heap:=h' }) a1 λh9 c1 c2=>?_;have F:=c2.extBut;have lt:∀b∈fpZ n,b≠s.heap.objs.size:=λb j z=>by
   have q:b<s.heap.objs.size:=by
    simp only[fpZ,Qqv,Qzv,or_false]at j;rcases j with rfl|rfl|rfl|rfl|rfl
    ·exact Qqb J
    ·exact Qqb M
    ·exact Qqb L
    ·obtain⟨o,e,_⟩:=h1.obj; exact Qqb e
    ·obtain⟨o,e,_⟩:=h2.obj; exact Qqb e
   rw[z]at q;exact Qz8 _ q
  have nz:s.heap.objs.size≠n+4:=λz=>lt (n+4) (by simp[fpZ]) z.symm;have I1:Inv X pins σ H { s with heap:=h9,toks:=s.toks }:=Inv.turnedL (ch:=fpZ n) I (λb o j e=>F _ _ (λz=>j (by simp[fpZ,z])) (kp b o (λz=>j (by simp[fpZ,z])) (λz=>j (by simp[fpZ,z])) (λz=>j (by simp[fpZ,z])) (λz=>j (by simp[fpZ,z])) e)) hf;have fr:H s.heap.objs.size=none:=I.hok.fresh (Qqk _);have I2:Inv X pins σ (upd H s.heap.objs.size (.tup [x,y])) { s with heap:=h9,toks:=s.toks }:=Inv.track I1 (I.fpOk (Qqk _) fr) ⟨by show 2<=sizeLine; decide,[u1,u2],.cons a7 (.cons a0 .nil),⟨_,F _ _ nz a6,rfl,_,rfl⟩⟩;refine⟨.ref s.heap.objs.size,upd H s.heap.objs.size (.tup [x,y]),I2,rfl,⟨_,x,y,rfl,fr,rfl,λzs O=>?_,λzs O=>?_⟩,⟨b1,b2,c1,F _ _ (by show @Ne Nat _ _; omega) a2,⟨_,_,F _ _ (by show @Ne Nat _ _; omega) a3⟩,a4.on λo e=>F _ o (by show @Ne Nat _ _; omega) e,a5.on λo e=>F _ o (by show @Ne Nat _ _; omega) e⟩,λb j=>?_⟩
  ·rw[qcy I O qx]; exact ex
  ·rw[qcy I O Z]; exact ey
  ·rw[qzq (lt b j)]; exact(hf b j).1
 done:=by
  intro X hP hw hK hc i pins s σ H E I hf st hg;subst hP hw hK;obtain⟨xs,ys,qx,Z,U⟩:=hg;obtain⟨b1,b2,J,M,⟨ua,ub,L⟩,h1,h2⟩:=st;obtain⟨vx,rx,sx⟩:=qkk I qx;obtain⟨vy,ry,sy⟩:=qkk I Z;have lx:=rx.length;have ly:=ry.length;refine qeg (I.ok.hd hc) b1 b2 J M L h1 h2 sx sy ?_ λh' kp=>⟨rfl,Inv.turnedL (ch:=fpZ n) I (λb o j e=>kp b o (λz=>j (by simp[fpZ,z])) (λz=>j (by simp[fpZ,z])) (λz=>j (by simp[fpZ,z])) (λz=>j (by simp[fpZ,z])) e) hf⟩
  rcases U with h|h
  ·exact .inl (by simp; omega)
  ·exact .inr (by simp; omega)
 self:=λ_ _ _ _ _ st h=>wpAny_pyIter_zip st.2.2.1 h
noncomputable def iZip(K:Qqq)(ta:TA):TI:=λσ H R=>ta σ H λvs H1=>∃(k1 k2:RK) (a b:Addr),vs=[.ref a,.ref b]/\(∃xs,k1.sq K H1 a xs)/\(∃ys,k2.sq K H1 b ys)/\R (Itz K k1 k2 a b) H1
theorem pi_zip{X:Cx}{a b:Qx}{O:TA}{p pos:Pos}{J:List Qx}{c:Nat}{z:Pos}(hg:Gl X "zip")(hm:X.mg "zip" = none)(ha:PA X [a,b] O)(hs:starEach [a,b] X.env=[(false,eval a X.env),(false,eval b X.env)]:=by rfl)(F:starEach [b] X.env=[(false,eval b X.env)]:=by rfl):
  PI X (.Tuple J c z) (.Call (.Name "zip" p) [a,b] [] pos) (iZip X.K O):=by
 intro pins s σ H R I h;refine Call_ (qkc I hg hm boot_zip (PyProof.Rows.callWith_type1 (thn (ha pos pins s σ H _ I h) λus j ⟨vs,H1,L,r1,q1⟩=>?_) (by rw[hs,F]) (by rw[F]; rfl)));obtain⟨k1,k2,a,b,e,⟨xs,qx⟩,⟨ys,qy⟩,q⟩:=q1;subst e
 cases r1 with
 |cons r M=>
  cases M with
  |cons r' M=>
   cases M;cases r;cases r';obtain⟨vx,rx,Y⟩:=qkk L qx;obtain⟨vy,ry,U⟩:=qkk L qy;have la:a<j.heap.objs.size:=by
    cases k1<;>(obtain⟨o,e,_⟩:=Y; exact Qqb e)
   have lb:b<j.heap.objs.size:=by
    cases k2<;>(obtain⟨o,e,_⟩:=U; exact Qqb e)
   refine qd0 Y U la lb λh' st kp=>?_;refine wpAny_pyIter_zip (s:={ j with heap:=h' }) st.2.2.1 ?_;refine⟨j.heap.objs.size+4,fpZ j.heap.objs.size,_,_,H1,rfl,L.kept (t':=j.toks) kp,qel k1 k2 _ a b,st,λd hd=>?_,q⟩;have Z:j.heap.objs.size<=d:=by
    simp only[fpZ,Qqv,Qzv,or_false]at hd;rcases hd with rfl|rfl|rfl|rfl|rfl<;>(show @LE.le Nat _ _ _; omega)
   exact L.fpOk Z (L.hok.fresh Z)
end MS
end
section
namespace MS
open PySem PySem.Spec PyProof.Rows L2
section
variable {X:Cx}
end
end MS
end
section
namespace MS
open PySem PySem.Spec PyProof.Rows L2
inductive EntOk (prm:Qp):List Qt->List Str->List Value->Prop
 |nil:EntOk prm [] [] []
 |cons {k:Str}{t:Tok}{u:Value}{es:List Qt}{ks:List Str}{us:List Value}(h:EntOk prm es ks us):EntOk prm (⟨PyData.keyHash prm k,.str k t,u⟩::es) (k::ks) (u::us)
structure FDict (prm:Qp) (K:Qqq) (a:Addr) (ks:List Str) (ds:List M.D):Prop where
 ex:∃(us:List Value) (vs:List V) (es:Array Qt) (ep:Nat),K.lookup a=some { cls:=.type "dict",data:=.dict es ep }/\EntOk prm es.toList ks us/\Vals vs us/\∀m H,IsDs K m H ds vs
 nd:ks.Nodup
 ne:(a==Qo)=false
noncomputable def kzip{α:Type}(ks:List Str)(us:List α):List (Key×α):=(ks.map λk=>(Sum.inr k:Key)).zip us
theorem qaw{P:Program}{w:Qk}:∀{es:List Qt}{ks:List Str}{us:List Value},EntOk w.params es ks us->(∀e∈es,∃k,(mixKind P w).is k e.key=true/\e.hash=(mixKind P w).hash k)/\PySem.Pairs (mixKind P w) es (kzip ks us)/\(kzip ks us).map (·.1)=ks.map λk=>(Sum.inr k:Key)
 |_,_,_,.nil=>⟨(λe h=>nomatch h),.nil,rfl⟩
 |_,_,_,.cons (k:=k) (t:=t) (u:=u) h=>by
  obtain⟨h1,h2,z⟩:=qaw (P:=P) h;refine⟨λe j=>?_,?_,?_⟩
  ·rcases Qqv.mp j with q|q
   ·subst q;exact⟨.inr k,qq0 P w k t,rfl⟩
   ·exact h1 e q
  ·exact .cons (qq0 P w k t) rfl h2
  ·exact congrArg (List.cons (Sum.inr k:Key)) z
theorem qdf{X:Cx}{j:List (Addr×Obj)}{J:L2.St}{H:Hp}{s:Qz}{a:Addr}{ks:List Str}{ds:List M.D}(I:Inv X j J H s)(h:FDict X.w.params X.K a ks ds):
  ∃(us:List Value) (vs:List V),s.heap.DictOf (mixKind X.prog X.w) a (kzip ks us)/\Vals vs us/\(∀m H,IsDs X.K m H ds vs)/\ks.length=us.length:=by
 obtain⟨us,vs,es,Z,e1,F,e3,e4⟩:=h.ex;obtain⟨h1,h2,Y⟩:=qaw (P:=X.prog) (w:=X.w) F;refine⟨us,vs,⟨_,es,Z,I.kIn a _ e1,⟨rfl,rfl,rfl⟩,rfl,λe U=>h1 e (by simpa using U),h2,?_⟩,e3,e4,?_⟩
 ·rw[Y];exact(Qjb.mpr (h.nd.imp λz O=>z (Sum.inr.inj O)))
 ·have:∀{es:List Qt}{ks:List Str}{us:List Value},EntOk X.w.params es ks us->ks.length=us.length:=by
   intro es ks us q
   induction q with
   |nil=>rfl
   |cons _ L=>rw[Qqe,Qqe,L]
  exact this F
theorem qlk{α:Type}(z:Str):∀(ks:List Str) (us:List α),((kzip ks us).find? λp=>decide (p.1=Sum.inr z)).map (·.2)=((ks.zip us).find? λq=>q.1==z).map (·.2)
 |[],us=>rfl
 |k::ks,[]=>rfl
 |k::ks,u::us=>by
  have j:=qlk z ks us;show((((Sum.inr k:Key),u)::kzip ks us).find? λp=>decide (p.1=Sum.inr z)).map (·.2)=(((k,u)::ks.zip us).find? λq=>q.1==z).map (·.2);rw[Qzx,Qzx]
  by_cases h:k=z
  ·have h1:decide ((Sum.inr k:Key)=Sum.inr z)=true:=by rw[h]; simp
   have h2:(k==z)=true:=by rw[h]; simp
   simp only[h1,h2]
   rfl
  ·have h1:decide ((Sum.inr k:Key)=Sum.inr z)=false:=Zr λq=>h (Sum.inr.inj q);have h2:(k==z)=false:=by simpa using h
   simp only[h1,h2];exact j
theorem qdc{K:Qqq}(z:Str):∀{ks:List Str}{ds:List M.D}{vs:List V}{us:List Value},(∀m H,IsDs K m H ds vs)->Vals vs us->ks.length=us.length->
  (((ks.zip ds).find? λq=>q.1==z)=none/\((ks.zip us).find? λq=>q.1==z)=none/\ks.contains z=false)\/∃k d v u,((ks.zip ds).find? λq=>q.1==z)=some (k,d)/\((ks.zip us).find? λq=>q.1==z)=some (k,u)/\(∀m H,MS.IsD K m H d v)/\RelV v u/\ks.contains z=true
 |[],ds,vs,us,i,r,h=>.inl ⟨rfl,rfl,rfl⟩
 |k::ks,[],vs,us,i,r,h=>by
  rw[(i [] λ_=>none).nil]at r;cases r;cases h
 |k::ks,d::ds,vs,us,i,r,h=>by
  obtain⟨v,vr,e,_,_⟩:=(i [] λ_=>none).cons;subst e;have Z:∀m H,MS.IsD K m H d v:=λm H=>by
   obtain⟨J,j,e,q,_⟩:=(i m H).cons;cases e;exact q
  have Y:∀m H,IsDs K m H ds vr:=λm H=>by
   obtain⟨J,j,e,_,q⟩:=(i m H).cons;cases e;exact q
  cases r with
  |cons O L=>
   rename_i u us
   by_cases F:k=z
   ·subst F;refine .inr ⟨k,d,v,u,by simp,by simp,Z,O,by simp⟩
   ·have h2:(k==z)=false:=by simpa using F
    have h3:(z==k)=false:=by simpa using Ne.symm F
    have U:=qdc z (ks:=ks) Y L (by simpa using h);rw[List.zip_cons_cons,List.zip_cons_cons,Qzx,Qzx,List.contains_cons];simp only[h2,h3,Bool.false_or];exact U
section
variable {X:Cx}{b:Qx}{tb:TE}{pos p0:Pos}{x:Str}
theorem qil{a:Addr}{ks:List Str}{ds:List M.D}(hg:Gl X x)(hm:X.mg x=some (.ref a))(hF:FDict X.w.params X.K a ks ds)(hd:(x==("__debug__" : Str))=false)(hb:PE X b tb)(hs:NoSl b):
  PE X (.Subscript (.Name x p0) b pos) (λσ H Q=>tb σ H λy H2=>∃z d,y=.str z/\(∃k,((ks.zip ds).find? λq=>q.1==z)=some (k,d))/\∀v,(∀m,MS.IsD X.K m H2 d v)->Q v H2):=by
 intro pins s σ H Q I h;refine qb3 PySem.F.slot_dict_getitem.lookup hs (thn (qwp hg hm (show RelV (.ref a) (.ref a) from rfl) hd pins s σ H (λx H1=>x=.ref a/\tb σ H1 _) I ⟨rfl,h⟩) λu U ⟨x',H1,I1,Z,ex,q1⟩=>?_);subst ex;cases Z;refine thn (hb pins U σ H1 _ I1 q1) λiv s2 ⟨y,H2,L,Y,z,d,ey,⟨k,j⟩,q2⟩=>?_;subst ey;obtain⟨O,vs,J,rv,hI,hl⟩:=qdf L hF;refine⟨J.typeIs,?_⟩;rcases qdc z hI rv hl with⟨n1,_,_⟩|⟨k',d',F,u',f1,f2,f3,f4,_⟩
 ·rw[n1]at j; cases j
 ·rw[f1]at j;cases j;have hw:valueAt (kzip ks O) (Sum.inr z)=some u':=by
   unfold valueAt;rw[qlk,f2]
   rfl
  exact wpAny_getItem_of (qk6 (k:=.inr z) Y) J.mapOf hw ⟨F,H2,L.tok _,f4,q2 F λm=>f3 m H2⟩
theorem gd_has{X:Cx}{j:List (Addr×Obj)}{F:L2.St}{H:Hp}{s:Qz}{a:Addr}{ks:List Str}{ds:List M.D}(I:Inv X j F H s)(Z:FDict X.w.params X.K a ks ds)(z:Str):
  ∃q,s.heap.DictOf (mixKind X.prog X.w) a (kzip ks q)/\(valueAt (kzip ks q) (Sum.inr z)).isSome=ks.contains z:=by
 obtain⟨q,vs,dd,J,Y,U⟩:=qdf I Z;refine⟨q,dd,?_⟩;unfold valueAt;rw[qlk];rcases qdc z Y J U with⟨_,O,L⟩|⟨k',d',v',u',f1,f2,f3,f4,f5⟩
 ·rw[O,L]; rfl
 ·rw[f2,f5]; rfl
theorem pc_gin{a:Addr}{ks:List Str}{ds:List M.D}(neg:Bool)(hg:Gl X x)(hm:X.mg x=some (.ref a))(j:FDict X.w.params X.K a ks ds)(hd:(x==("__debug__" : Str))=false)(hb:PE X b tb):
  PC X (if neg then .NotIn else .In) b (.Name x p0) (λσ H Q=>tb σ H λy H2=>∃z,y=.str z/\Q (.bl (ks.contains z != neg)) H2):=by
 intro pins s σ H Q I h;refine thn (hb pins s σ H _ I h) λiv U ⟨y,H1,I1,F,z,ey,Z⟩=>?_;subst ey;refine thn (qwp hg hm (show RelV (.ref a) (.ref a) from rfl) hd pins U σ H1 (λx H2=>x=.ref a/\Q (.bl (ks.contains z != neg)) H2) I1 ⟨rfl,Z⟩) λu s2 ⟨x',H2,q,Y,ex,J⟩=>?_;subst ex;cases Y;obtain⟨us,O,L⟩:=gd_has q j z
 cases neg with
 |false=>
  refine wpAny_in_of (qk6 (k:=.inr z) F) j.ne O.mapOf ?_;rw[L];refine⟨.bl _,H2,q.tok _,rfl,?_⟩;simpa using J
 |true=>
  refine wpAny_notIn_of (qk6 (k:=.inr z) F) j.ne O.mapOf ?_;rw[L];refine⟨.bl _,H2,q.tok _,rfl,?_⟩;simpa using J
open M (D Cell Store Sl)
theorem qku{a:Addr}{ks:List Str}{ds:List D}{fb:Sl->Store->Option (D×Store)}(neg:Bool)(O:Gl X x)(M:X.mg x=some (.ref a))(Y:FDict X.w.params X.K a ks ds)(hd:(x==("__debug__" : Str))=false)(U:PE X b (tD X.K fb)):
  PC X (if neg then .NotIn else .In) b (.Name x p0) (tD X.K λτ st=>(fb τ st).bind λp=>match p.1 with
   |.str z=>some (.bl (ks.contains z != neg),p.2)
   |_=>none):=by
 intro pins s σ H Q I h;refine pc_gin neg O M Y hd U pins s σ H Q I ?_;refine h.el λm st τ d st' R0 S0 e q=>?_;obtain⟨j,J,Z,e⟩:=qza e;refine⟨m,st,τ,j,J,R0,S0,Z,λy m1 H1 b1 F R1 L=>?_⟩
 cases j with
 |str z=>
  cases e;exact⟨z,L.str,q _ m1 H1 b1 F R1 (mkBl _)⟩
 |_=>cases e
theorem qfd{a:Addr}{ks:List Str}{ds:List D}{fb:Sl->Store->Option (D×Store)}(Y:Gl X x)(U:X.mg x=some (.ref a))(hF:FDict X.w.params X.K a ks ds)(hd:(x==("__debug__" : Str))=false)(Z:PE X b (tD X.K fb))(O:NoSl b):
  PE X (.Subscript (.Name x p0) b pos) (tD X.K λτ st=>(fb τ st).bind λp=>match p.1 with
   |.str z=>((ks.zip ds).find? λq=>q.1==z).map λq=>(q.2,p.2)
   |_=>none):=by
 refine(qil Y U hF hd Z O).imp λσ H Q h=>?_;refine h.el λm st τ d st' R0 S0 e q=>?_;obtain⟨j,J,e1,e⟩:=qza e;refine⟨m,st,τ,j,J,R0,S0,e1,λy m1 H1 b1 F R1 L=>?_⟩
 cases j with
 |str z=>
  obtain⟨w,e2,e3⟩:=mapD e;cases e3;exact⟨z,w.2,L.str,⟨w.1,e2⟩,λv M=>q _ m1 H1 b1 F R1 (M m1)⟩
 |_=>cases e
theorem qdo{K:Qqq}{m:List Addr}{H:Hp}{kvs:List (D×D)}{xs:List (Key×V)}{q:D}{y:V}{a:Addr}(L:M.isKey q=true)(z:IsKV K m H kvs xs)(O:Rd H a (.dK xs))(F:MS.IsD K m H q y):
  ∃o,DGet H a y o/\((M.dget kvs q=none/\o=none)\/∃d v,M.dget kvs q=some d/\o=some v/\MS.IsD K m H d v):=by
 obtain⟨k,j⟩:=qq9 L;have J:=qlv j F;subst J;refine⟨valV xs k,.inl ⟨xs,k,O,rfl,rfl⟩,?_⟩;rcases z.get j with⟨h1,h2⟩|⟨d,v,h1,h2,U⟩
 ·exact .inl ⟨h1,h2⟩
 ·exact .inr ⟨d,v,h1,h2,U⟩
theorem qk0{a:Qx}{fa fb:Sl->Store->Option (D×Store)}(U:X.A.units+1<cLine)(neg:Bool)(Z:PE X a (tD X.K fa))(Y:PE X b (tD X.K fb)):
  PC X (if neg then .NotIn else .In) a b (tD X.K λτ st=>(fa τ st).bind λp=>(fb τ p.2).bind λq=>match q.1 with
   |.loc l=>(M.dicAt q.2 l).bind λkvs=>if M.isKey p.1 then some (.bl ((M.dget kvs p.1).isSome != neg),q.2) else none
   |_=>none):=by
 have j:∀{σ:L2.St}{H:Hp}{Q:VK},tD X.K (λτ st=>(fa τ st).bind λp=>(fb τ p.2).bind λq=>match q.1 with
   |.loc l=>(M.dicAt q.2 l).bind λkvs=>if M.isKey p.1 then some (.bl ((M.dget kvs p.1).isSome != neg),q.2) else none
   |_=>none) σ H Q->tD X.K fa σ H λy H1=>tD X.K fb σ H1 λx H2=>∃a o,x=.ref a/\DGet H2 a y o/\Q (.bl (o.isSome != neg)) H2:=by
  intro σ H Q h;refine h.el λm st τ d st' R0 S0 e q=>?_;obtain⟨d1,O,e1,e⟩:=qza e;obtain⟨d2,s2,e2,e⟩:=qza e;refine⟨m,st,τ,d1,O,R0,S0,e1,λy m1 H1 b1 L R1 i1=>⟨m1,O,τ,d2,s2,R1,S0.mono b1 L,e2,λz m2 H2 b2 J R2 i2=>?_⟩⟩
  cases d2 with
  |loc l=>
   obtain⟨kvs,e3,e⟩:=qzv e
   split at e
   ·rename_i hk;cases e;obtain⟨a',xs,_,rfl,hH,F⟩:=R2.dict e3 i2;obtain⟨o,g,hg⟩:=qdo hk F hH (qzj b2 J _ _ i1);refine⟨a',o,rfl,g,?_⟩;have e4:o.isSome=(M.dget kvs d1).isSome:=by
     rcases hg with⟨h1,h2⟩|⟨d,v,h1,h2,_⟩
     ·rw[h1,h2]; rfl
     ·rw[h1,h2]; rfl
    rw[e4];exact q _ m2 H2 (b1.trans b2) (L.trans J) R2 (mkBl _)
   ·cases e
  |_=>cases e
 cases neg with
 |false=>
  intro pins s σ H Q I h;refine pc_din U Z Y pins s σ H Q I ?_;have:=j h;simpa only[tDIn,Bool.bne_false] using this
 |true=>
  intro pins s σ H Q I h;refine qch U Z Y pins s σ H Q I ?_;have:=j h;simpa only[qb1,Bool.bne_true] using this
theorem qfe{a:Qx}{fa fb:Sl->Store->Option (D×Store)}(hu:X.A.units+1<cLine)(ha:PE X a (tD X.K fa))(hb:PE X b (tD X.K fb))(hs:NoSl b):
  PE X (.Subscript a b pos) (tD X.K λτ st=>(fa τ st).bind λp=>(fb τ p.2).bind λq=>match p.1 with
   |.loc l=>(M.dicAt q.2 l).bind λkvs=>if M.isKey q.1 then(M.dget kvs q.1).map λd=>(d,q.2) else none
   |_=>none):=by
 refine(qin hu ha hb hs).imp λσ H Q h=>?_;refine h.el λm st τ d st' R0 Y e q=>?_;obtain⟨U,O,e1,e⟩:=qza e;obtain⟨d2,Z,e2,e⟩:=qza e;refine⟨m,st,τ,U,O,R0,Y,e1,λy m1 H1 b1 L R1 i1=>⟨m1,O,τ,d2,Z,R1,Y.mono b1 L,e2,λz m2 H2 b2 J R2 i2=>?_⟩⟩
 cases U with
 |loc l=>
  obtain⟨kvs,e3,e⟩:=qzv e
  split at e
  ·rename_i hk;obtain⟨w,j,e5⟩:=mapD e;cases e5;obtain⟨a',xs,_,rfl,hH,F⟩:=R2.dict e3 (qzj b2 J _ _ i1);obtain⟨o,g,hg⟩:=qdo hk F hH i2;rcases hg with⟨h1,h2⟩|⟨d,v,h1,h2,h3⟩
   ·rw[h1]at j; cases j
   ·rw[h1]at j;cases j;subst h2;exact⟨a',v,rfl,g,q _ m2 H2 (b1.trans b2) (L.trans J) R2 h3⟩
  ·cases e
 |_=>cases e
end
end MS
end
section
namespace MS
open PySem PySem.Spec PyProof.Rows L2
section
variable {prog:Program}{w:Qk}{A:Qw}{E:Value->Qz->Prop}{s:Qz}{x:Str}{t:Tok}{Q:Value->Qz->Prop}
end
section
variable {X:Cx}
inductive PEs (X:Cx):List Qx->List TE->Prop
 |nil:PEs X [] []
 |cons {p:Qx}{ps:List Qx}{t:TE}{ts:List TE}(h:PE X p t) (r:PEs X ps ts):PEs X (p::ps) (t::ts)
open M (D Cell Store Sl)
end
end MS
end
section
namespace MS
open PySem PySem.Spec PyProof.Rows L2
open M (D Cell Store Sl)
section
variable {K:Qqq}{m m1:List Addr}{H H1:Hp}
mutual
theorem qdk:∀(d:D) (v:V),M.noLoc d=true->MS.IsD K m1 H1 d v->MS.IsD K m H1 d v
 |.non,_,_,h=>by rw[h.non]; exact qvt
 |.bl _,_,_,h=>by rw[h.bl]; exact mkBl _
 |.int _,_,_,h=>by rw[h.int]; exact mkInt _
 |.str _,_,_,h=>by rw[h.str]; exact mkStr _
 |.tup ds,_,n,h=>by
  obtain⟨a,xs,rfl,q,r⟩:=h.tup;unfold M.noLoc at n;exact qq5 q (qjg ds xs n r)
 |.lst ds,_,n,h=>by
  obtain⟨a,xs,rfl,q,r⟩:=h.lst;unfold M.noLoc at n;exact qa4 q (qjg ds xs n r)
 |.loc l,_,n,h=>by unfold M.noLoc at n; cases n
theorem qjg:∀(ds:List D) (xs:List V),M.noLocs ds=true->IsDs K m1 H1 ds xs->IsDs K m H1 ds xs
 |[],_,_,h=>by rw[h.nil]; exact qqq
 |d::ds,_,n,h=>by
  obtain⟨x,r,rfl,q,t⟩:=h.cons;unfold M.noLocs at n;rw[Qqc]at n;exact qzi (qdk d x n.1 q) (qjg ds r n.2 t)
end
mutual
theorem qx0(s:Sub m m1):∀(d:D) (v F:V),MS.IsD K m H d v->MS.IsD K m1 H1 d F->MS.IsD K m H1 d F
 |.non,_,_,_,h=>by rw[h.non]; exact qvt
 |.bl _,_,_,_,h=>by rw[h.bl]; exact mkBl _
 |.int _,_,_,_,h=>by rw[h.int]; exact mkInt _
 |.str _,_,_,_,h=>by rw[h.str]; exact mkStr _
 |.tup ds,_,_,h0,h=>by
  obtain⟨a,xs,rfl,q,r⟩:=h.tup;obtain⟨z,j,_,_,r0⟩:=h0.tup;exact qq5 q (qql s ds j xs r0 r)
 |.lst ds,_,_,h0,h=>by
  obtain⟨a,xs,rfl,q,r⟩:=h.lst;obtain⟨z,j,_,_,r0⟩:=h0.lst;exact qa4 q (qql s ds j xs r0 r)
 |.loc l,_,_,h0,h=>by
  obtain⟨z,J,_⟩:=h0.loc;obtain⟨a,e,rfl⟩:=h.loc;have:=s l z J;rw[e]at this;cases this;exact qfi J
theorem qql(s:Sub m m1):∀(ds:List D) (xs j:List V),IsDs K m H ds xs->IsDs K m1 H1 ds j->IsDs K m H1 ds j
 |[],_,_,_,h=>by rw[h.nil]; exact qqq
 |d::ds,_,_,h0,h=>by
  obtain⟨x,r,rfl,q,t⟩:=h.cons;obtain⟨z,r0,rfl,J,F⟩:=h0.cons;exact qzi (qx0 s d z x J q) (qql s ds r0 r F t)
end
theorem qjf(s:Sub m m1):∀(kvs:List (D×D)) (xs j:List (Key×V)),IsKV K m H kvs xs->IsKV K m1 H1 kvs j->IsKV K m H1 kvs j
 |[],_,_,_,h=>h
 |p::r,_,_,⟨Y,v0,F,Z,O,q,z⟩,⟨k,v,J,e,U,L,M⟩=>⟨k,v,J,e,U,qx0 s _ _ _ q L,qjf s r _ _ z M⟩
theorem qv8(s:Sub m m1):∀(fs:List (Str×D)) (ys j:List (Str×V)),IsFs K m H fs ys->IsFs K m1 H1 fs j->IsFs K m H1 fs j
 |[],_,_,_,h=>h
 |p::r,_,_,⟨v0,F,O,q,z⟩,⟨v,J,e,L,M⟩=>⟨v,J,e,qx0 s _ _ _ q L,qv8 s r _ _ z M⟩
theorem qfo(s:Sub m m1){c:Cell}{a:Addr}(F:IsC K m H c a)(h:IsC K m1 H1 c a):IsC K m H1 c a:=by
 cases c with
 |lst w ds=>
  cases w with
  |true=>
   obtain⟨xs,e,q⟩:=h;obtain⟨z,_,j⟩:=F;exact⟨xs,e,qql s _ _ _ j q⟩
  |false=>
   obtain⟨xs,e,q⟩:=h;obtain⟨z,_,j⟩:=F;exact⟨xs,e,qql s _ _ _ j q⟩
 |dic w kvs=>
  cases w with
  |true=>
   obtain⟨xs,e,q⟩:=h;obtain⟨z,_,j⟩:=F;exact⟨xs,e,qjf s _ _ _ j q⟩
  |false=>
   obtain⟨o,xs,e,q⟩:=h;obtain⟨_,z,_,j⟩:=F;exact⟨o,xs,e,qjf s _ _ _ j q⟩
 |obj C fs=>
  obtain⟨dx,ys,e,q⟩:=h;obtain⟨_,J,_,j⟩:=F;exact⟨dx,ys,e,qv8 s _ _ _ j q⟩
theorem pre_at{st j:Store}(h:j.take st.length=st){l:Nat}{c:Cell}(e:st[l]?=some c):j[l]?=some c:=by
 have q:=(Qqx.mp e).1;rw[<- h,Qxm,Zt q]at e;exact e
theorem Rel.cutBack{st j:Store}(z:Rel K m st H)(J:Rel K m1 j H1)(s:Sub m m1)(h:j.take st.length=st){H2:Hp}(t:Tr H1 H2)(F:∀(l:Nat) (c:Cell) (a:Addr),st[l]?=some c->m[l]?=some a->Wr c=true->H2 a=H1 a):Rel K m st H2:=
 ⟨z.len,z.nd,λl c a e q=>qx1 (Sub.refl m) t (qfo s (z.cell l c a e q) (J.cell l c a (pre_at h e) (s l a q))) λw=>F l c a e q w⟩
mutual
theorem qw2(s:Sub m m1):∀(d:D) (v:V),M.lt m.length d=true->IsD K m1 H d v->IsD K m H d v
 |.non,_,_,h=>h
 |.bl _,_,_,h=>h
 |.int _,_,_,h=>h
 |.str _,_,_,h=>h
 |.tup ds,_,j,h=>by
  unfold M.lt at j;obtain⟨a,xs,rfl,q,r⟩:=h.tup;exact qq5 q (qxz s ds xs j r)
 |.lst ds,_,j,h=>by
  unfold M.lt at j;obtain⟨a,xs,rfl,q,r⟩:=h.lst;exact qa4 q (qxz s ds xs j r)
 |.loc l,_,j,h=>by
  unfold M.lt at j;obtain⟨a,e,rfl⟩:=h.loc;have j:l<m.length:=by simpa[Nat.blt_eq] using j
  have F:m[l]?=some m[l]:=by simp
  have z:=s l _ F;rw[e]at z;cases z;exact qfi F
theorem qxz(s:Sub m m1):∀(ds:List D) (xs:List V),M.lts m.length ds=true->IsDs K m1 H ds xs->IsDs K m H ds xs
 |[],_,_,h=>h
 |d::ds,_,j,h=>by
  unfold M.lts at j;rw[Qqc]at j;obtain⟨x,r,rfl,q,t⟩:=h.cons;exact qzi (qw2 s d x j.1 q) (qxz s ds r j.2 t)
end
theorem qk7(s:Sub m m1):∀(kvs:List (D×D)) (xs:List (Key×V)),(kvs.all λp=>M.lt m.length p.2)=true->IsKV K m1 H kvs xs->IsKV K m H kvs xs
 |[],_,_,h=>h
 |p::r,_,j,⟨k,v,q,e,J,z,F⟩=>by
  rw[Qxv,Qqc]at j;exact⟨k,v,q,e,J,qw2 s _ _ j.1 z,qk7 s r q j.2 F⟩
theorem qy9(s:Sub m m1):∀(fs:List (Str×D)) (ys:List (Str×V)),(fs.all λp=>M.lt m.length p.2)=true->IsFs K m1 H fs ys->IsFs K m H fs ys
 |[],_,_,h=>h
 |p::r,_,j,⟨v,q,e,z,F⟩=>by
  rw[Qxv,Qqc]at j;exact⟨v,q,e,qw2 s _ _ j.1 z,qy9 s r q j.2 F⟩
theorem qlg(s:Sub m m1){c:Cell}{a:Addr}(j:M.ltC m.length c=true)(h:IsC K m1 H c a):IsC K m H c a:=by
 cases c with
 |lst w ds=>
  cases w with
  |true=>obtain⟨xs,e,q⟩:=h; exact⟨xs,e,qxz s _ _ j q⟩
  |false=>obtain⟨xs,e,q⟩:=h; exact⟨xs,e,qxz s _ _ j q⟩
 |dic w kvs=>
  cases w with
  |true=>obtain⟨xs,e,q⟩:=h; exact⟨xs,e,qk7 s _ _ j q⟩
  |false=>obtain⟨o,xs,e,q⟩:=h; exact⟨o,xs,e,qk7 s _ _ j q⟩
 |obj C fs=>obtain⟨dx,ys,e,q⟩:=h; exact⟨dx,ys,e,qy9 s _ _ j q⟩
def GcOk(st st0:Store):Prop:=(st0.take st.length).all (M.ltC st.length)=true\/st0.take st.length=st
theorem gc_el{st:Store}{p q:D×Store}(e:M.gcD st p=q):p=q\/(GcOk st p.2/\M.gcX st.length p=q):=by
 unfold M.gcD at e
 split at e
 ·rename_i h; exact .inr ⟨.inl h,e⟩
 ·split at e
  ·rename_i h; exact .inr ⟨.inr h,e⟩
  ·exact .inl e
theorem qx5{j:Store}{n l:Nat}{c:Cell}(e:(j.take n)[l]?=some c):l<n/\j[l]?=some c:=by
 rw[Qxm]at e
 split at e
 ·rename_i h; exact⟨h,e⟩
 ·cases e
theorem Rel.cut{st j:Store}(M:Rel K m st H)(F:Rel K m1 j H1)(s:Sub m m1)(h:GcOk st j){H2:Hp}(t:Tr H1 H2)(L:∀(l:Nat) (c:Cell) (a:Addr),(j.take st.length)[l]?=some c->m[l]?=some a->Wr c=true->H2 a=H1 a):Rel K m (j.take st.length) H2:=by
 rcases h with h|h
 ·have Y:=M.len;have Z:m.length<=m1.length:=by
   rcases Qz2 m1.length m.length with z|z
   ·have J:m[m1.length]?=some (m[m1.length]'z):=by simp
    have:=(Qqx.mp (s _ _ J)).1;omega
   ·exact z
  have h1:=F.len;refine⟨by rw[Qzb]; omega,λl U a c c' e1 J e3 e4 w O=>F.nd l U a c c' (s _ _ e1) (s _ _ J) (qx5 e3).2 (qx5 e4).2 w O,λl c a e q=>?_⟩;refine qx1 (Sub.refl m) t (qlg s ?_ (F.cell l c a (qx5 e).2 (s l a q))) λw=>L l c a e q w;have:=Qzk.mp h c (Qq1 e);rw[Y]; exact this
 ·rw[h];exact M.cutBack F s h t λl c a e q w=>L l c a (by rw[h]; exact e) q w
end
section
variable {X:Cx}
theorem qke{j:List (Addr×Obj)}{s:Qz}{J:L2.St}{H:Hp}{a:Addr}{xs:List V}(I:Inv X j J H s)(h:H a=some (.lst xs)):∃o,Inv X j J (upd H a (.frz o (.lst xs))) s:=by
 obtain⟨z,F,n,r,e⟩:=id (I.hok a _ h);refine⟨{ cls:=.type "list",data:=.seq F.toArray n },I.un (t':=s.toks) (h':=s.heap) ⟨λb o q _ _ _=>q,λb o q _ _ _=>⟨o.slots,q⟩,λb o q hn _=>?_,λb o q _=>⟨o,q⟩,λb ys q=>?_,λb o u q=>?_,λb ps q=>⟨#[],?_⟩⟩ ?_⟩
 ·rw[qzq (λz=>by subst z; rw[h]at hn; cases hn)];exact hn
 ·rw[qzq (qzp q h (by intro z; cases z))]; exact q
 ·rw[qzq (qzp q h (by intro z; cases z))]; exact q
 ·rw[qzq (qzp q h (by intro z; cases z)),q]; simp
 ·intro b u q
  by_cases L:b=a
  ·subst L;rw[qzk]at q;cases q;exact⟨e,z,F,n,r,e⟩
  ·rw[qzq L]at q;refine(I.hok b u q).stay (λc v _ w=>w) (λc w=>?_) λc ys w=>?_
   ·rw[qzq (qzp w h (by intro z; cases z))]; exact w
   ·rw[qzq (qzp w h (by intro z; cases z))]; exact w
theorem qlh{j:List (Addr×Obj)}{s:Qz}{F:L2.St}{H:Hp}{a:Addr}{xs:List (Key×V)}(I:Inv X j F H s)(h:H a=some (.dK xs)):∃o,s.heap.get? a=some o/\Inv X j F (upd H a (.frz o (.dK xs))) s:=by
 have ok:=I.hok a _ h;obtain⟨_,_,vs,_,o,es,M,J,_⟩:=id ok;refine⟨o,J,I.un (t':=s.toks) (h':=s.heap) ⟨λb o q _ _ _=>q,λb o q _ _ _=>⟨o.slots,q⟩,λb o q hn _=>?_,λb o q _=>⟨o,q⟩,λb ys q=>?_,λb o u q=>?_,λb ps q=>⟨#[],?_⟩⟩ ?_⟩
 ·rw[qzq (λz=>by subst z; rw[h]at hn; cases hn)];exact hn
 ·rw[qzq (qzp q h (by intro z; cases z))]; exact q
 ·rw[qzq (qzp q h (by intro z; cases z))]; exact q
 ·rw[qzq (qzp q h (by intro z; cases z)),q]; simp
 ·intro b u q
  by_cases L:b=a
  ·subst L;rw[qzk]at q;cases q;exact⟨J,ok⟩
  ·rw[qzq L]at q;refine(I.hok b u q).stay (λc v _ w=>w) (λc w=>?_) λc ys w=>?_
   ·rw[qzq (qzp w h (by intro z; cases z))]; exact w
   ·rw[qzq (qzp w h (by intro z; cases z))]; exact w
def NoFz(X:Cx)(a:Addr):Prop:=∀o u,X.H₀ a≠some (.frz o u)
theorem qi7{j:List (Addr×Obj)}{s:Qz}{q:L2.St}{H:Hp}{a:Addr}{xs:List (Key×V)}(I:Inv X j q H s)(h:H a=some (.dK xs)):NoFz X a:=λo u z=>by
 have:=I.base.frzs a o u z;rw[h]at this;cases this
theorem qaz{F:List (Addr×Obj)}{s:Qz}{L:L2.St}{H:Hp}{a:Addr}{o:Obj}{xs:List (Key×V)}(I:Inv X F L H s)(O:NoFz X a)(h:H a=some (.frz o (.dK xs))):Inv X F L (upd H a (.dK xs)) s:=by
 have ok:=I.hok a _ h;have j:∀{b:Addr},H b=none->(upd H a (.dK xs)) b=none:=λ{b} q=>by
  rw[qzq (λz=>by subst z; rw[h]at q; cases q)];exact q
 refine⟨I.ok,I.os,I.bare,⟨I.base.keep,I.base.slot,λb o q hn U=>j (I.base.free b o q hn U),I.base.there,λb ys q=>?_,λb o u q=>?_,λb ps q=>?_⟩,I.loc,I.cell,j I.free,λx c q=>j (I.freeC x c q),λp Y=>?_,?_,I.len⟩
 ·have:=I.base.tups b ys q;rw[qzq (qzp this h (by intro z; cases z))]; exact this
 ·have:=I.base.frzs b o u q
  by_cases J:b=a
  ·subst J; exact absurd q (O o u)
  ·rw[qzq J]; exact this
 ·obtain⟨more,this⟩:=I.base.tbls b ps q;exact⟨more,by rw[qzq (qzp this h (by intro z; cases z))]; exact this⟩
 ·obtain⟨p1,p2,M⟩:=I.pin p Y;exact⟨p1,j p2,M⟩
 ·intro b u q
  by_cases J:b=a
  ·subst J;rw[qzk]at q;cases q;exact ok.2
  ·rw[qzq J]at q;refine(I.hok b u q).stay (λc v _ w=>w) (λc w=>?_) λc ys w=>?_
   ·rw[qzq (qzp w h (by intro z; cases z))]; exact w
   ·rw[qzq (qzp w h (by intro z; cases z))]; exact w
theorem Tr.lay{H:Hp}{a:Addr}{o:Obj}{xs:List V}(j:H a=some (.lst xs)):Tr H (upd H a (.frz o (.lst xs))):=
 ⟨λb zs e=>by rw[qzq (qzp e j (by intro z; cases z))]; exact e,λb o u e=>by rw[qzq (qzp e j (by intro z; cases z))]; exact e⟩
theorem pe_gc{p:Qx}{f:Sl->Store->Option (D×Store)}(he:PE X p (tD X.K f)):PE X p (tD X.K λτ st=>(f τ st).map λq=>M.gcD st q):=by
 intro pins s σ H Q I h;refine h.el λm st τ d st' Z S0 e q=>?_;obtain⟨⟨Y,j⟩,e1,e2⟩:=mapD e;refine thn (he pins s σ H (λv H1=>∃m1,Sub m m1/\Tr H H1/\Rel X.K m1 j H1/\MS.IsD X.K m1 H1 Y v) I ⟨m,st,τ,Y,j,Z,S0,e1,λv m1 H1 b1 J F L=>⟨m1,b1,J,F,L⟩⟩) λv s1 ⟨x,H1,I1,U,m1,b1,J,F,L⟩=>?_;have plain:(Y,j)=(d,st')->EP X pins σ Q v s1:=λz=>by
  cases z;exact⟨x,H1,I1,U,q x m1 H1 b1 J F L⟩
 rcases gc_el e2 with z|⟨ok,z⟩
 ·exact plain z
 ·unfold M.gcX at z
  split at z
  ·rename_i hn;cases z;exact⟨x,H1,I1,U,q x m H1 (Sub.refl m) J (Z.cut F b1 ok (Tr.refl H1) λ_ _ _ _ _ _=>rfl) (qdk _ _ hn L)⟩
  ·split at z
   ·rename_i l hd;simp only at hd
    split at z
    ·rename_i hl
     split at z
     ·rename_i ds hc
      split at z
      ·rename_i hn;cases z;subst hd;obtain⟨a,ha,rfl⟩:=L.loc;obtain⟨xs,hx,ix⟩:=F.cell l _ a hc ha;obtain⟨o,I2⟩:=qke I1 hx;have O:=Tr.lay (o:=o) hx;refine⟨.ref a,_,I2,U,q _ m _ (Sub.refl m) (J.trans O) (Z.cut F b1 ok O λl' c a' e ea w=>?_) ?_⟩
       ·refine qzq λz=>?_;subst z;have h3:=qx5 e;have:=F.nd l' l a' c _ (b1 l' a' ea) ha h3.2 hc w rfl;omega
       ·exact qa4 (.inl ⟨o,qzk⟩) (qjg _ _ hn (qzy (Sub.refl m1) O _ _ ix))
      ·exact plain z
     ·exact plain z
    ·exact plain z
   ·exact plain z
end
end MS
end
section
namespace MS
open PySem PySem.Spec PyProof.Rows L2
open M (D Cell Store Sl)
theorem qv4(l:Addr)(items:Array Value)(n:Nat)(b:Addr)(items2:Array Value)(M:Nat)(J:Option Addr)(j:Array (Option Value))(O:¬(!items.isEmpty&&Builtin.List.listTooLong (items.size+items2.size))=true)(F:items.size<=sizeLine)(z:items.size+items2.size<=sizeLine+1):
  Meets (Zz.«list.extend» ⟨[.ref l,.ref b],[]⟩) (λ_ R s=>s.heap.get? l=some { cls:=.type "list",dict:=none,data:=.seq items n,slots:=#[] }/\s.heap.get? b=some { cls:=.type "list",dict:=J,data:=.seq items2 M,slots:=j }/\R (.ok (.ret Value.none)) { s with heap:=s.heap.update l (Obj.mapSeq λx=>x++items2),toks:=s.toks }):=
 .of_wp λprog w A R s h=>by
  obtain⟨Y,g,d,tk,os⟩:=s; obtain⟨L,U,h⟩:=h; have f1:=AutoSeq1.idx_int; have f2:=AutoSeq1.sub_tuple_tuple; have f3:=AutoSeq1.sub_list_list; have f4:=AutoSeq1.sub_tuple_list; have Z:=AutoSeq1.sub_list_tuple;have q:(items++items2).size<=sizeLine+1:=by rw[Qjc]; exact z
  wp_walk using (wpAny_updateSeq L rfl (hz:=F) (_hz':=q)),Zj L,Zj U; exact⟨_,rfl,h⟩
theorem qv5(l:Addr)(items:Array Value)(n:Nat)(b:Addr)(items2:Array Value)(M:Nat)(J:Option Addr)(j:Array (Option Value))(O:¬(!items.isEmpty&&Builtin.List.listTooLong (items.size+items2.size))=true)(F:items.size<=sizeLine)(z:items.size+items2.size<=sizeLine+1):
  Meets (Zz.«list.extend» ⟨[.ref l,.ref b],[]⟩) (λ_ R s=>s.heap.get? l=some { cls:=.type "list",dict:=none,data:=.seq items n,slots:=#[] }/\s.heap.get? b=some { cls:=.type "tuple",dict:=J,data:=.seq items2 M,slots:=j }/\R (.ok (.ret Value.none)) { s with heap:=s.heap.update l (Obj.mapSeq λx=>x++items2),toks:=s.toks }):=
 .of_wp λprog w A R s h=>by
  obtain⟨Y,g,d,tk,os⟩:=s; obtain⟨L,U,h⟩:=h; have f1:=AutoSeq1.idx_int; have f2:=AutoSeq1.sub_tuple_tuple; have f3:=AutoSeq1.sub_list_list; have f4:=AutoSeq1.sub_tuple_list; have Z:=AutoSeq1.sub_list_tuple;have q:(items++items2).size<=sizeLine+1:=by rw[Qjc]; exact z
  wp_walk using (wpAny_updateSeq L rfl (hz:=F) (_hz':=q)),Zj L,Zj U; exact⟨_,rfl,h⟩
section
variable {X:Cx}
theorem qa2:MtM X "list.extend" (λx xs H Q=>∃m st a ds d st',Rel X.K m st H/\MS.IsD X.K m H a x/\IsDs X.K m H ds xs/\M.mExtend st a ds=some (d,st')/\Post X.K m H d st' Q):=by
 intro pins s σ H x xs v us Q I rx rs h;obtain⟨m,st,a,ds,d,st',R0,i1,i2,e,q⟩:=h;unfold M.mExtend at e
 split at e
 ·obtain⟨a2,e1,e⟩:=qzv e;obtain⟨es,e2,e⟩:=qzv e
  split at e
  ·rename_i hl;cases e;obtain⟨p,ys,hm,rfl,U,ix,hs⟩:=R0.wlist e1 i1;obtain⟨y,rfl,iy⟩:=i2.one;have l1:=ix.length;have l2:=qqe;cases rx;obtain⟨u,rfl,ru⟩:=rs.one;obtain⟨z,j,n,r,a1,eo⟩:=I.lstM U
   split at e2
   ·rename_i ts;cases e2;obtain⟨b,zs,rfl,hq,iz⟩:=iy.tup;cases ru;obtain⟨its2,r2,⟨⟨a0,Y,Z,L⟩,h1,h2,n2,h3⟩,_⟩:=I.tuple hq;simp only at h2 h3;subst h2 h3;have l3:=iz.length;have l4:=r2.length;have O:j.toArray.size+its2.toArray.size<=sizeLine:=by rw[Qqj,Qqj]; omega
    have J:¬ (!j.toArray.isEmpty&&Builtin.List.listTooLong (j.toArray.size+its2.toArray.size))=true:=by
     rw[qys O,Qxd];exact Qqo
    refine Q0 F.slot_list_extend ⟨_,eo,rfl⟩ F.entry_list_extend (F.args_list_extend_2 _ _) (qv5 p j.toArray n b its2.toArray n2 Y L J (by rw[Qqj]; omega) (by omega)) ⟨eo,h1,?_⟩;refine⟨.non,_,I.lset (its':=j++its2) U eo (by simp) (r.append r2) ?_,rfl,?_⟩
    ·rw[Qqu]; omega
    ·exact q _ m _ (Sub.refl m) (Tr.put U) (R0.put hs hm U (ix.append iz)) qvt
   ·obtain⟨b,zs,_,rfl,hq,iz⟩:=R0.seq e2 iy;cases ru;obtain⟨its2,r2,⟨⟨a0,Y,Z,L⟩,n2,h1,h2,h4,h3⟩,_⟩:=I.list hq;simp only at h2 h3;subst h2 h3;have l3:=iz.length;have l4:=r2.length;have O:j.toArray.size+its2.toArray.size<=sizeLine:=by rw[Qqj,Qqj]; omega
    have J:¬ (!j.toArray.isEmpty&&Builtin.List.listTooLong (j.toArray.size+its2.toArray.size))=true:=by
     rw[qys O,Qxd];exact Qqo
    refine Q0 F.slot_list_extend ⟨_,eo,rfl⟩ F.entry_list_extend (F.args_list_extend_2 _ _) (qv4 p j.toArray n b its2.toArray n2 Y L J (by rw[Qqj]; omega) (by omega)) ⟨eo,h1,?_⟩;refine⟨.non,_,I.lset (its':=j++its2) U eo (by simp) (r.append r2) ?_,rfl,?_⟩
    ·rw[Qqu]; omega
    ·exact q _ m _ (Sub.refl m) (Tr.put U) (R0.put hs hm U (ix.append iz)) qvt
  ·cases e
 ·cases e
theorem qct(hu:X.A.units+64<cLine):MtM X "list.index" (λx xs H Q=>∃m st a ds d st',Rel X.K m st H/\MS.IsD X.K m H a x/\IsDs X.K m H ds xs/\M.mIndex st a ds=some (d,st')/\Post X.K m H d st' Q):=by
 intro pins s σ H x xs v us Q I rx rs h;obtain⟨m,st,a,ds,d,st',R0,i1,i2,e,q⟩:=h;unfold M.mIndex at e
 split at e
 ·rename_i x0;obtain⟨J,e1,e⟩:=qzv e
  split at e
  ·rename_i hf;rw[Qqc]at hf;obtain⟨j,e2,e3⟩:=mapD e;cases e3;obtain⟨y,rfl,iy⟩:=i2.one;obtain⟨u,rfl,ru⟩:=rs.one;obtain⟨b,zs,_,rfl,hq,L⟩:=R0.seq e1 i1;cases rx;obtain⟨z,r,⟨⟨cls,dd,a0,sl⟩,n,h1,h2,h4,h3⟩,hz⟩:=I.list hq;simp only at h2 h3;subst h2 h3;have l3:=L.length;have l4:=r.length;obtain⟨hj,U,Y⟩:=List.findIdx?_eq_some_iff_getElem.mp e2;have a1:(sizeLine:Nat)<2 ^ 40:=by decide
   have O:X.A.in1.units+9<cLine:=by have hz:X.A.in1.units=X.A.units+1:=rfl; omega
   obtain⟨ef,ha⟩:=qjr I X.A.in1 O hf.1 iy ru;obtain⟨k1,k2⟩:=ha J zs z hf.2 L r;have at_:∀k (hk:k<z.length),ef z[k]=M.eqT J[k] x0:=λk hk=>by
    have g1:J[k]?=some J[k]:=by simp
    obtain⟨x1,w1,q1⟩:=L.get g1;obtain⟨u1,w2,q2⟩:=r.get w1;have e5:z[k]=u1:=by
     have:z[k]?=some z[k]:=by simp
     rw[w2]at this;exact(Option.some.inj this).symm
    rw[e5];obtain⟨_,k3⟩:=ha [J[k]] [x1] [u1] (by simp[M.flats,qqy hf.2 g1]) (qzi q1 qqq) (.cons q2 .nil);simpa using k3
   refine Q0 F.slot_list_index ⟨_,h1,rfl⟩ F.entry_list_index (F.args_list_index_2 _ _) (SeqAt.list_indexAt b z.toArray n dd sl u ef j (by rw[Qqj]; omega) (by omega) ?_ ?_) ⟨h1,λy hy=>k1 y (by simpa using hy),?_⟩
   ·rw[List.getElem_toArray,at_ j (by omega)];exact U
   ·intro k hk Z;rw[List.getElem_toArray,at_ k (by simpa using hk)];simpa using Y k Z
   ·exact⟨.int j,H,I.tok _,⟨_,rfl⟩,q.here R0 (mkInt _)⟩
  ·cases e
 ·cases e
theorem qa1:MtM X "list.insert" (λx xs H Q=>∃m st a ds d st',Rel X.K m st H/\MS.IsD X.K m H a x/\IsDs X.K m H ds xs/\M.mInsert st a ds=some (d,st')/\Post X.K m H d st' Q):=by
 intro pins s σ H x xs v us Q I rx rs h;obtain⟨m,st,a,ds,d,st',R0,i1,i2,e,q⟩:=h;unfold M.mInsert at e
 split at e
 ·rename_i l i d0;obtain⟨a2,e1,e⟩:=qzv e
  split at e
  ·rename_i hl;cases e;obtain⟨p,ys,hm,rfl,J,Z,hs⟩:=R0.wlist e1 i1;obtain⟨y1,y2,rfl,Y,U⟩:=i2.two;cases Y.int;have l1:=Z.length;have l2:=qqe;cases rx;obtain⟨u1,u2,rfl,O,L⟩:=rs.two;obtain⟨t,rfl⟩:=O;obtain⟨z,its,n,r,a1,eo⟩:=I.lstM J;have a0:(sizeLine:Nat)<2 ^ 40:=by decide
   have j:¬ (!Builtin.List.listFitsIndex i)=true:=by
    have h1:=hl.1;have h2:i<2 ^ 62:=by omega
    simp only[Builtin.List.listFitsIndex,Bool.not_eq_true',Bool.not_eq_false];have:i<9223372036854775808:=by omega
    have:(-9223372036854775808:Int)<=i:=by omega
    simp[*]
   refine Q0 F.slot_list_insert ⟨_,eo,rfl⟩ F.entry_list_insert (F.args_list_insert_3 _ _ _) (AutoSeq1.list_insert_list_int_val_1 p its.toArray n i t u2 j (by rw[Qqj]; omega)) ⟨eo,?_⟩;refine⟨.non,_,I.lset (its':=its.take i.toNat++u2::its.drop i.toNat) J eo ?_ ((r.take _).append (.cons L (r.drop _))) ?_,rfl,?_⟩
   ·have h0:¬ i<0:=by omega
    have h3:min i.toNat its.length=i.toNat:=by omega
    show((its.toArray.extract 0 (if i<0 then(i+(its.toArray.size:Int)).toNat else min i.toNat its.toArray.size)).push u2++its.toArray.extract (if i<0 then(i+(its.toArray.size:Int)).toNat else min i.toNat its.toArray.size))=_;rw[Zs h0,Qqj,h3];apply Array.ext';simp;exact Qxc (by rw[Qxt]; omega)
   ·rw[Qqu,Qqe,Qzb,Qxt]; omega
   ·exact q _ m _ (Sub.refl m) (Tr.put J) (R0.put hs hm J ((Z.take _).append (qzi U (Z.drop _)))) qvt
  ·cases e
 ·cases e
end
end MS
end
section
namespace MS
open PySem PySem.Spec PyProof.Rows L2
open M (D Cell Store Sl)
section
variable {X:Cx}
noncomputable def Itd(a:Addr)(o:Obj)(xs:List (Key×V)):It:=
 ⟨λi H=>H a=some (.frz o (.dK xs))/\i<xs.length,λi H x H'=>H'=H/\∃p,xs[i]?=some p/\x=kV p.1,λi H=>H a=some (.frz o (.dK xs))/\xs.length<=i⟩
theorem qaj{j:List (Addr×Obj)}{z:L2.St}{H:Hp}{s:Qz}{a:Addr}{o:Obj}{es:Array Qt}{ep:Nat}{xs:List (Key×V)}(I:Inv X j z H s)(h:H a=some (.frz o (.dK xs)))(hd:o.data=.dict es ep):∃vs,KV xs vs/\s.heap.DictAt (mixKind X.prog X.w) a vs ep:=by
 obtain⟨h1,_,_,vs,F,o',L,M,h2,J,q,r⟩:=I.hok a _ h;rw[h1]at h2;cases h2;rw[hd]at q;cases q;exact⟨vs,F,o,es,h1,J,hd,r⟩
theorem qbm{P:Program}{w:Qk}{K:Qqq}{tg:Qx}{es:Array Qt}{ep:Nat}(a it:Addr)(o:Obj)(xs:List (Key×V))(hd:o.data=.dict es ep):Turn P w K tg (Itd a o xs) [it] it (λi h=>h.IsKeyIter it a i xs.length ep) where
 mem:=by simp
 obj:=λi h st b F=>by
  have e:b=it:=by simpa using F
  subst e;obtain⟨o,e,c,d⟩:=st;exact⟨o,e,λv z=>by rw[d]at z; cases z⟩
 keep:=λi h h' st k=>st.at λo e=>k it (by simp) o e
 item:=by
  intro X hP Y hK hc i pins s σ H E I hf st Z;subst hP Y hK;obtain⟨hH,hi⟩:=Z;obtain⟨vs,M,da⟩:=qaj I hH hd;obtain⟨f0,f1,f2,f3,f4,f5⟩:=hf it (by simp);have O:=M.length;obtain⟨⟨k,u⟩,hx⟩:∃q,vs[i]?=some q:=⟨vs[i]'(by omega),by simp⟩
  have hp:xs[i]?=some xs[i]:=by simp
  have hk:xs[i].1=k:=by
   have J:=congrArg (λl:List Key=>l[i]?) M.keys;simp only[Qqf,hx,hp,oMs,Option.some.injEq]at J;exact J
  rw[O]at st;refine wpAny_pyNext_dict_item st da hx λU h' L st' sb=>?_;have I1:Inv X pins σ H { s with heap:=h' }:=I.turned (t':=s.toks) (λb o F e=>(sb.2 b F).trans e) f0 f1 f3 f4 f5;obtain⟨o1,e,c,d⟩:=id st';rw[<- O]at st';refine⟨U,rfl,qft (s:={ s with heap:=h' }) e c d (by decide) ⟨kV xs[i].1,H,I1,?_,⟨rfl,xs[i],hp,rfl⟩,st',λb F=>(hf b F).1⟩⟩;rw[hk];rcases qzc L with⟨j,t,J,e2⟩|⟨z,t,J,e2⟩
  ·subst J e2; exact⟨t,rfl⟩
  ·subst J e2; exact⟨t,rfl⟩
 done:=by
  intro X hP Y hK hc i pins s σ H E I hf st Z;subst hP Y hK;obtain⟨hH,hi⟩:=Z;obtain⟨vs,M,da⟩:=qaj I hH hd;obtain⟨f0,f1,f2,f3,f4,f5⟩:=hf it (by simp);have O:=M.length;rw[O]at st;exact wpAny_pyNext_dict_end (I.ok.hd hc) st da (Qzw.mpr (by omega)) λh' eb=>⟨rfl,I.turned (t':=s.toks) (λb o F e=>eb b o F e) f0 f1 f3 f4 f5⟩
 self:=λ_ _ _ _ _ st h=>wpAny_pyIter_keyiter st h
noncomputable def iDict(X:Cx)(tl:TE):TI:=λσ H R=>tl σ H λx H1=>∃a xs,x=.ref a/\H1 a=some (.dK xs)/\∀o,NoFz X a->R (Itd a o xs) (upd H1 a (.frz o (.dK xs)))
theorem qif{M l:Qx}{tl:TE}(Y:PE X l tl):PI X M l (iDict X tl):=by
 intro pins s σ H R I h;refine thn (Y pins s σ H _ I h) λv j ⟨x,H1,J,O,a,xs,e,z,q⟩=>?_;subst e;cases O;obtain⟨o,L,F⟩:=qlh J z;obtain⟨_,lo,vs,U,o',es,ep,h2,h3,hd,r⟩:=J.hok a _ z;rw[L]at h2;cases h2;have hn:=U.length;refine wpAny_pyIter_dict lo (ep:=ep) ⟨o,es,L,h3,hd,r⟩ ?_;refine⟨j.heap.objs.size,[j.heap.objs.size],_,_,_,rfl,F.kept (t':=j.toks) λb o e=>Qqz _ e,qbm a _ o xs hd,⟨_,Qqg _ rfl,rfl,by rw[hn]; rfl⟩,λb Z=>?_,q o (qi7 J z)⟩;have e:b=j.heap.objs.size:=by simpa using Z
 subst e;exact F.fpOk (Qqk _) (F.hok.fresh (Qqk _))
noncomputable def thawE(X:Cx)(Dn:Ends):Ends:=
 ⟨λσ H=>∃a o xs,NoFz X a/\H a=some (.frz o (.dK xs))/\Dn.nx σ (upd H a (.dK xs)),λv H=>∃a o xs,NoFz X a/\H a=some (.frz o (.dK xs))/\Dn.rt v (upd H a (.dK xs)),λ_ _=>False,λ_ _=>False⟩
theorem qiw{M l:Qx}{body:List Stmt}{tl:TE}{g:TG}{tb:TS}{pos:Pos}(U:PassesOwn (model X.prog X.w) X.A X.env X.xe)(hc:X.calm=true)(Y:PE X l tl)(Z:PG X M g)(hb:PSs X body tb)(O:∀x,foldedSetIterable l X.env x=pure x):
  PS X (.For M l body [] pos) (λL σ H=>tFor (iDict X tl) g tb (thawE X L) σ H):=by
 intro pins s σ H L I h;refine thn (qgp U hc (qif Y) Z hb O pins s σ H (thawE X L) I h) λfl s1 q=>?_
 cases fl with
 |next=>
  obtain⟨j,H1,J,a,o,xs,F,e,q⟩:=q;exact⟨j,_,qaz J F e,q⟩
 |ret u=>
  obtain⟨v,j,H1,J,r,a,o,xs,F,e,q⟩:=q;exact⟨v,j,_,qaz J F e,r,q⟩
 |brk=>obtain⟨_,_,_,z⟩:=q; exact z.elim
 |cont=>obtain⟨_,_,_,z⟩:=q; exact z.elim
end
end MS
end
section
namespace ST
open PySem SetTable
noncomputable def adv(m:Nat)(p:Probe):Probe:=
 if p.more > 0 then { p with j:=p.j+1,more:=p.more - 1 } else
 { p with j:=(leap m p.i p.perturb).1,more:=runEnd m (leap m p.i p.perturb).1 - (leap m p.i p.perturb).1,i:=(leap m p.i p.perturb).1,perturb:=(leap m p.i p.perturb).2 }
noncomputable def qzn(m:Nat)(h:Int):Probe:={ j:=bits h % (m+1),more:=runEnd m (bits h % (m+1)) - bits h % (m+1),i:=bits h % (m+1),perturb:=bits h,dummy:=none }
noncomputable def stp(m:Nat):Nat->Probe->Probe
 |0,p=>p
 |n+1,p=>stp m n (adv m p)
theorem qqb(m:Nat):∀(a b:Nat) (p:Probe),stp m (a+b) p=stp m b (stp m a p)
 |0,b,p=>by rw[Qjm]; rfl
 |a+1,b,p=>by rw[Nat.add_right_comm]; exact qqb m a b (adv m p)
theorem qe3(m n:Nat)(p:Probe):stp m (n+1) p=adv m (stp m n p):=by rw[qqb]; rfl
noncomputable def runP(m i pt:Nat)(d:Option Nat):Probe:={ j:=i,more:=runEnd m i - i,i:=i,perturb:=pt,dummy:=d }
theorem qkj(m:Nat):∀(k:Nat) (p:Probe),p.more=k->stp m (k+1) p=runP m (leap m p.i p.perturb).1 (leap m p.i p.perturb).2 p.dummy
 |0,p,h=>by
  show adv m p=_;unfold adv;rw[Zs (by omega)]; rfl
 |k+1,p,h=>by
  show stp m (k+1) (adv m p)=_;have e:adv m p={ p with j:=p.j+1,more:=p.more - 1 }:=by unfold adv; rw[Zt (by omega)]
  rw[e,qkj m k _ (by show p.more - 1=k; omega)]
noncomputable def lp(m:Nat):Nat->Nat×Nat->Nat×Nat
 |0,q=>q
 |n+1,q=>lp m n (leap m q.1 q.2)
theorem more_le(m i:Nat):runEnd m i - i<=9:=by unfold runEnd; split<;>omega
theorem qyg(m:Nat)(d:Option Nat):∀(n i pt:Nat),∃N,N<=10*n/\stp m N (runP m i pt d)=runP m (lp m n (i,pt)).1 (lp m n (i,pt)).2 d
 |0,i,pt=>⟨0,Qqk _,rfl⟩
 |n+1,i,pt=>by
  obtain⟨N,j,e⟩:=qyg m d n (leap m i pt).1 (leap m i pt).2;refine⟨(runP m i pt d).more+1+N,?_,?_⟩
  ·have:=more_le m i;show runEnd m i - i+1+N<=_;omega
  ·rw[qqb,qkj m _ _ rfl];exact e
theorem lp_pt(m:Nat):∀(n i pt:Nat),(lp m n (i,pt)).2=pt / 32 ^ n
 |0,i,pt=>by simp[lp]
 |n+1,i,pt=>by
  show(lp m n (leap m i pt)).2=_;have:leap m i pt=((leap m i pt).1,pt / 32):=rfl;rw[this,lp_pt m n,Nat.div_div_eq_div_mul,Nat.pow_succ,Nat.mul_comm]
theorem qg4(m:Nat):∀(a b:Nat) (q:Nat×Nat),lp m (a+b) q=lp m b (lp m a q)
 |0,b,q=>by rw[Qjm]; rfl
 |a+1,b,q=>by rw[Nat.add_right_comm]; exact qg4 m a b _
theorem lp_le(m:Nat):∀(n i pt:Nat),i<=m->(lp m n (i,pt)).1<=m
 |0,i,pt,h=>h
 |n+1,i,pt,h=>by
  show(lp m n (leap m i pt)).1<=m;exact lp_le m n _ _ (by exact Qxy (Qx8 _ (Qxn _)))
noncomputable def lcg(m:Nat):Nat->Nat->Nat
 |0,i=>i
 |n+1,i=>lcg m n ((i*5+1) % (m+1))
theorem qc0(m:Nat):∀(n i:Nat),(lp m n (i,0)).1=lcg m n i
 |0,i=>rfl
 |n+1,i=>by
  show(lp m n (leap m i 0)).1=_;have:leap m i 0=((i*5+1) % (m+1),0):=by simp[leap]
  rw[this,qc0 m n]; rfl
theorem onto7:∀i,i<8->∀e,e<8->∃r,r<8/\lcg 7 r i=e:=by decide +kernel
theorem onto31:∀i,i<32->∀e,e<32->∃r,r<32/\lcg 31 r i=e:=by decide +kernel
theorem onto{m:Nat}(j:m=7\/m=31){i e:Nat}(z:i<=m)(F:e<=m):∃r,r<=m/\lcg m r i=e:=by
 rcases j with rfl|rfl
 ·obtain⟨r,h,q⟩:=onto7 i (by omega) e (by omega); exact⟨r,by omega,q⟩
 ·obtain⟨r,h,q⟩:=onto31 i (by omega) e (by omega); exact⟨r,by omega,q⟩
theorem qyh{m:Nat}(J:m=7\/m=31){i pt e:Nat}(d:Option Nat)(L:i<=m)(F:pt<2 ^ 64)(M:e<=m):∃n N,n<=m+13/\N<=10*n/\stp m N (runP m i pt d)=runP m e (lp m n (i,pt)).2 d/\(lp m n (i,pt)).1=e:=by
 have z:(lp m 13 (i,pt)).2=0:=by
  rw[lp_pt]; exact Nat.div_eq_of_lt (Qq4 F (by decide))
 obtain⟨r,Y,U⟩:=onto J (lp_le m 13 i pt L) M;have q:(lp m (13+r) (i,pt)).1=e:=by
  rw[qg4];have:lp m 13 (i,pt)=((lp m 13 (i,pt)).1,0):=by rw[<- z]
  rw[this,qc0]; exact U
 obtain⟨N,O,j⟩:=qyg m d (13+r) i pt;rw[q]at j;exact⟨13+r,N,by omega,O,j,q⟩
structure Okp (m:Nat) (p:Probe):Prop where
 i:p.i<=m
 pt:p.perturb<2 ^ 64
 more:p.more<=9
 dm:p.dummy=none
theorem Okp.start{m:Nat}(h:Int):Okp m (qzn m h):=by
 refine⟨Qxy (Qx8 _ (Qxn _)),?_,more_le _ _,rfl⟩;show bits h<2 ^ 64;unfold bits;omega
theorem Okp.next{m:Nat}{p:Probe}(h:Okp m p):Okp m (adv m p):=by
 unfold adv
 split
 ·exact⟨h.i,h.pt,by have:=h.more; show p.more - 1<=9; omega,h.dm⟩
 ·refine⟨by show(leap m p.i p.perturb).1<=m; unfold leap; exact Qxy (Qx8 _ (Qxn _)),?_,more_le _ _,h.dm⟩;show p.perturb / 32<2 ^ 64;exact Nat.lt_of_le_of_lt (Nat.div_le_self _ _) h.pt
theorem Okp.stp{m:Nat}:∀(n:Nat){p:Probe},Okp m p->Okp m (stp m n p)
 |0,_,h=>h
 |n+1,_,h=>Okp.stp n h.next
theorem hits{m:Nat}(j:m=7\/m=31){p:Probe}(h:Okp m p){e:Nat}(q:e<=m):∃N,N<10*turns m/\(stp m N p).j=e:=by
 have h1:=(h.stp (p.more+1))
 rw[qkj m _ p rfl]at h1;obtain⟨n,N,hn,F,z,_⟩:=qyh j p.dummy h1.i h1.pt q;refine⟨p.more+1+N,?_,?_⟩
 ·have:=h.more;unfold turns; omega
 ·rw[qqb,qkj m _ p rfl];exact congrArg Probe.j z
end ST
end
section
namespace ST
open PySem SetTable
def Up(xs:Array Nat):Prop:=∀(i k a b:Nat),i<k->xs[i]?=some a->xs[k]?=some b->a<b
theorem qvc{xs:Array Nat}{j:Nat}(J:Up xs):∀(q lo hi:Nat),hi<=xs.size->lo<=hi->hi - lo<=q->(∀(i a:Nat),i<lo->xs[i]?=some a->a<j)->(∀(i a:Nat),hi<=i->xs[i]?=some a->j<=a)->
  (∀(i a:Nat),i<below.go xs j q lo hi->xs[i]?=some a->a<j)/\(∀(i a:Nat),below.go xs j q lo hi<=i->xs[i]?=some a->j<=a)/\below.go xs j q lo hi<=xs.size
 |0,lo,hi,h1,h2,Z,M,L=>by
  have:lo=hi:=by omega
  subst this;exact⟨M,L,h1⟩
 |q+1,lo,hi,h1,h2,Z,M,L=>by
  unfold below.go
  by_cases F:lo<hi
  ·rw[Zt F];have Y:(lo+hi) / 2<xs.size:=by omega
   have e:xs[(lo+hi) / 2]?=some xs[(lo+hi) / 2]:=Qq8 Y;have eg:xs.getD ((lo+hi) / 2) j=xs[(lo+hi) / 2]:=by rw[Qzt,e]; rfl
   simp only[eg]
   split
   ·rename_i U;refine qvc J q _ _ h1 (by omega) (by omega) (λi a O z=>?_) L;rcases Qz2 i ((lo+hi) / 2) with h|h
    ·exact Nat.lt_trans (J i _ a _ h z e) U
    ·have:i=(lo+hi) / 2:=by omega
     subst this;rw[e]at z; cases z; exact U
   ·rename_i U;refine qvc J q _ _ (by omega) (by omega) (by omega) M (λi a O z=>?_);rcases Qz2 ((lo+hi) / 2) i with h|h
    ·have:=J _ i _ a h e z; omega
    ·have:i=(lo+hi) / 2:=by omega
     subst this;rw[e]at z; cases z; omega
  ·rw[Zs F];have:lo=hi:=by omega
   subst this;exact⟨M,L,h1⟩
theorem qxc{xs:Array Nat}{j:Nat}(q:Up xs):(∀(i a:Nat),i<below xs j->xs[i]?=some a->a<j)/\(∀(i a:Nat),below xs j<=i->xs[i]?=some a->j<=a)/\below xs j<=xs.size:=
 qvc q xs.size 0 xs.size (Qqk _) (Qz1 _) (by omega) (λi a h=>by omega) λi a h e=>by
  have:=(Qzh.mp e).1; omega
theorem below_at{xs:Array Nat}{i j:Nat}(q:Up xs)(h:xs[i]?=some j):below xs j=i:=by
 obtain⟨b1,b2,b3⟩:=qxc (j:=j) q;rcases Qjd (below xs j) i with h1|h1|h1
 ·have z:below xs j<xs.size:=Nat.lt_trans h1 (Qzh.mp h).1;have e:xs[below xs j]?=some xs[below xs j]:=Qq8 z;have:=b2 _ _ (Qqk _) e;have:=q _ _ _ _ h1 e h;omega
 ·exact h1
 ·have:=b1 _ _ h1 h; omega
structure Tb (t:Qy):Prop where
 mask:t.mask=7\/t.mask=31
 dum:t.dummies=#[]
 up:Up t.place
 le:∀(i j:Nat),t.place[i]?=some j->j<=t.mask
 few:t.place.size<=t.mask
def Occ(t:Qy)(j:Nat):Prop:=∃i:Nat,t.place[i]?=some j
theorem qx8{t:Qy}(T:Tb t){i j:Nat}(h:t.place[i]?=some j):t.slot j=.live i:=by
 unfold slot;simp only[below_at T.up h,h,beq_self_eq_true,if_true]
theorem qao{t:Qy}(T:Tb t){j:Nat}(h:¬ Occ t j):t.slot j=.empty:=by
 unfold slot;have:(t.place[below t.place j]?==some j)=false:=by
  cases e:t.place[below t.place j]?==some j with
  |false=>rfl
  |true=>exact absurd ⟨_,beq_iff_eq.mp e⟩ h
 have hd:has t.dummies j=false:=by rw[T.dum]; unfold has; simp
 simp[this,hd]
theorem qkf{m:Nat}:∀(l:List Nat) (lo:Nat),l.Pairwise (· < ·)->(∀a∈l,lo<=a)->(∀e,lo<=e->e<=m->e∈l)->lo<=m+1->m+1<=lo+l.length
 |[],lo,_,_,j,J=>by
  rcases Qz2 m lo with h|h
  ·simp; omega
  ·exact absurd (j lo (Qqk _) h) (by simp)
 |a::l,lo,h1,h2,j,J=>by
  rcases Qz2 m lo with h|h
  ·omega
  ·obtain⟨p1,p2⟩:=Qze.mp h1;have F:a=lo:=by
    rcases Qqv.mp (j lo (Qqk _) h) with e|e
    ·exact e.symm
    ·have:=p1 lo e;have:=h2 a Qql;omega
   subst F
   have:=qkf l (a+1) p2 (λb z=>p1 b z) (λe M L=>by
    rcases Qqv.mp (j e (by omega) L) with q|q
    ·omega
    ·exact q) (by omega)
   simp only[Qqe];omega
theorem Up.pairwise{xs:Array Nat}(h:Up xs):xs.toList.Pairwise (· < ·):=by
 rw[Qjf];intro i j hi z q;exact h i j _ _ q (by rw[<- Qq2,Qqs hi]) (by rw[<- Qq2,Qqs z])
theorem some_free{t:Qy}(T:Tb t):∃e,e<=t.mask/\¬ Occ t e:=by
 apply Classical.byContradiction;intro hn;have all:∀e,e<=t.mask->Occ t e:=λe j=>Classical.byContradiction λq=>hn ⟨e,j,q⟩
 have:=qkf (m:=t.mask) t.place.toList 0 T.up.pairwise (λa _=>Qz1 _) (λe _ j=>by
  obtain⟨i,hi⟩:=all e j
  exact Qq1 (by rw[Qq2]; exact hi)) (Qz1 _)
 have:=T.few;rw[Qzi]at *;omega
theorem qdd{t:Qy}(T:Tb t){j:Nat->Int}{h:Int}:∀(q:Nat) (p:Probe) (N:Nat),p.dummy=none->N<q->¬ Occ t (stp t.mask N p).j->
  ∃n,(∀m,m<n->∃i:Nat,t.place[i]?=some (stp t.mask m p).j/\j i≠h)/\
   ((¬ Occ t (stp t.mask n p).j/\probe.go t j h q p=some (.empty (stp t.mask n p).j none))\/
    (∃i:Nat,t.place[i]?=some (stp t.mask n p).j/\j i=h/\probe.go t j h q p=some (.candidate (stp t.mask n p).j i (stp t.mask (n+1) p))))
 |0,p,N,_,Y,_=>by omega
 |q+1,p,N,hd,Y,M=>by
  by_cases F:Occ t p.j
  ·obtain⟨i,hi⟩:=F
   by_cases z:j i=h
   ·refine⟨0,λm L=>by omega,.inr ⟨i,hi,z,?_⟩⟩;unfold probe.go;rw[qx8 T hi];simp only[z,beq_self_eq_true,if_true]
    rfl
   ·cases N with
    |zero=>exact absurd ⟨i,hi⟩ M
    |succ N=>
     have J:(adv t.mask p).dummy=none:=by unfold adv; split<;>exact hd
     obtain⟨n,U,O⟩:=qdd T q (adv t.mask p) N J (by omega) M;have Z:probe.go t j h (q+1) p=probe.go t j h q (adv t.mask p):=by
      conv=>lhs; unfold probe.go
      rw[qx8 T hi];have:(j i==h)=false:=by simpa using z
      simp only[this,Qqm,if_false]
      rfl
     refine⟨n+1,λm L=>?_,?_⟩
     ·cases m with
      |zero=>exact⟨i,hi,z⟩
      |succ m=>exact U m (by omega)
     ·rw[Z];exact O
  ·refine⟨0,λm L=>by omega,.inl ⟨F,?_⟩⟩;unfold probe.go;rw[qao T F];show some (Met.empty p.j p.dummy)=_;rw[hd]; rfl
theorem qas{t:Qy}(T:Tb t){j:Nat->Int}{h:Int}{p:Probe}(q:Okp t.mask p):
  ∃n,(∀m,m<n->∃i:Nat,t.place[i]?=some (stp t.mask m p).j/\j i≠h)/\
   ((¬ Occ t (stp t.mask n p).j/\t.probe j h p=some (.empty (stp t.mask n p).j none))\/
    (∃i:Nat,t.place[i]?=some (stp t.mask n p).j/\j i=h/\t.probe j h p=some (.candidate (stp t.mask n p).j i (stp t.mask (n+1) p)))):=by
 obtain⟨e,z,hf⟩:=some_free T;obtain⟨N,F,J⟩:=hits T.mask q z;exact qdd T _ p N q.dm F (by rw[J]; exact hf)
end ST
end
section
namespace ST
open PySem SetTable
section
variable {α:Type}
theorem qqx(xs:Array α)(p:Nat)(x:α)(q:p<=xs.size)(i:Nat):(insertAt xs p x)[i]?=if i<p then xs[i]? else if i=p then some x else xs[i - 1]?:=by
 unfold insertAt;rw[Array.getElem?_append,Array.getElem?_push,Qj2,Qj2];simp only[Array.size_push,Array.size_extract];have e:min p xs.size=p:=by omega
 simp only[e,Nat.sub_zero,Qjm]
 by_cases h1:i<p
 ·rw[Zt (by omega),Zs (by omega),Zt h1,Zt h1]
 ·by_cases h2:i=p
  ·subst h2;rw[Zt (by omega),Zt rfl,Zs h1,Zt rfl]
  ·rw[Zs (by omega),Zs h1,Zs h2]
   by_cases j:i - (p+1)<min xs.size xs.size - p
   ·rw[Zt j]; congr 1; omega
   ·rw[Zs j];exact(Qj3 (by omega)).symm
theorem qx2(xs:Array α)(p:Nat)(x:α)(j:p<=xs.size):(insertAt xs p x).size=xs.size+1:=by
 unfold insertAt;simp only[Qjc,Array.size_push,Array.size_extract];omega
theorem qll{xs:Array α}{p:Nat}{x y:α}(q:p<=xs.size):y∈(insertAt xs p x).toList↔y∈xs.toList\/y=x:=by
 unfold insertAt;simp only[Array.toList_append,Array.toList_push,Array.toList_extract,Qqi,Qqa,List.extract_eq_drop_take,Nat.sub_zero,List.drop_zero];have e:xs.toList.take p++xs.toList.drop p=xs.toList:=Qx3 p _;have j:(xs.toList.drop p).take (xs.size - p)=xs.toList.drop p:=Qxc (by simp);rw[j]
 conv=>rhs; rw[<- e,Qqi]
 constructor
 ·rintro ((h|h)|h)
  ·exact .inl (.inl h)
  ·exact .inr h
  ·exact .inl (.inr h)
 ·rintro ((h|h)|h)
  ·exact .inl (.inl h)
  ·exact .inr h
  ·exact .inl (.inr h)
end
def Reach(t:Qy)(h:Int)(j:Nat):Prop:=∃n,(stp t.mask n (qzn t.mask h)).j=j/\∀m,m<n->Occ t (stp t.mask m (qzn t.mask h)).j
structure SI {α:Type}(t:Qy) (es:Array (Int×α)):Prop where
 tb:Tb t
 sz:t.place.size=es.size
 reach:∀(i j:Nat) (e:Int×α),t.place[i]?=some j->es[i]?=some e->Reach t e.1 j
theorem qca{t:Qy}(T:Tb t)(j:Nat):t.put j=({ t with place:=insertAt t.place (below t.place j) j },below t.place j):=by
 unfold put;have hd:has t.dummies j=false:=by rw[T.dum]; unfold has; simp
 simp only[hd,Qqm,if_false]
theorem put_ok{α:Type}{t:Qy}{es:Array (Int×α)}(I:SI t es){j:Nat}{h:Int}{x:α}(hj:j<=t.mask)(hf:¬ Occ t j)(hr:Reach t h j)(hs:es.size+1<=t.mask):
  SI (t.put j).1 (insertAt es (t.put j).2 (h,x)):=by
 obtain⟨b1,b2,b3⟩:=qxc (j:=j) I.tb.up;have O:below t.place j<=es.size:=by rw[<- I.sz]; exact b3
 rw[qca I.tb];have oc:∀j',Occ t j'->Occ { t with place:=insertAt t.place (below t.place j) j } j':=λj' ⟨i,hi⟩=>by
  by_cases h1:i<below t.place j
  ·exact⟨i,by show(insertAt _ _ _)[i]?=_; rw[qqx _ _ _ b3,Zt h1]; exact hi⟩
  ·exact⟨i+1,by show(insertAt _ _ _)[i+1]?=_; rw[qqx _ _ _ b3,Zs (by omega),Zs (by omega)]; exact hi⟩
 have U:∀h' j',Reach t h' j'->Reach { t with place:=insertAt t.place (below t.place j) j } h' j':=λh' j' ⟨n,e,q⟩=>⟨n,e,λm hm=>oc _ (q m hm)⟩
 refine⟨⟨I.tb.mask,I.tb.dum,?_,?_,?_⟩,?_,?_⟩
 ·intro i k a b Z J F;have J:(insertAt t.place (below t.place j) j)[i]?=some a:=J;have F:(insertAt t.place (below t.place j) j)[k]?=some b:=F;rw[qqx _ _ _ b3]at J F;have ne:∀(Y c:Nat),t.place[Y]?=some c->c≠j:=λY c e z=>hf ⟨Y,by rw[<- z]; exact e⟩
  split at J
  ·split at F
   ·exact I.tb.up _ _ _ _ Z J F
   ·split at F
    ·cases F; exact b1 _ _ (by assumption) J
    ·exact I.tb.up _ _ _ _ (by omega) J F
  ·split at J
   ·cases J;rw[Zs (by omega),Zs (by omega)]at F;have:=b2 _ _ (by omega) F;have:=ne _ _ F;omega
   ·rw[Zs (by omega),Zs (by omega)]at F;exact I.tb.up _ _ _ _ (by omega) J F
 ·intro i j' e;have e:(insertAt t.place (below t.place j) j)[i]?=some j':=e;rw[qqx _ _ _ b3]at e
  split at e
  ·exact I.tb.le _ _ e
  ·split at e
   ·cases e; exact hj
   ·exact I.tb.le _ _ e
 ·show(insertAt t.place (below t.place j) j).size<=t.mask;rw[qx2 _ _ _ b3,I.sz]; exact hs
 ·show(insertAt t.place (below t.place j) j).size=_;rw[qx2 _ _ _ b3,qx2 _ _ _ O,I.sz]
 ·intro i j' e M L;have M:(insertAt t.place (below t.place j) j)[i]?=some j':=M;have L:(insertAt es (below t.place j) (h,x))[i]?=some e:=L;rw[qqx _ _ _ b3]at M;rw[qqx _ _ _ O]at L
  split at M
  ·rename_i h1;rw[Zt h1]at L;exact U _ _ (I.reach _ _ _ M L)
  ·rename_i h1;rw[Zs h1]at L
   split at M
   ·rename_i h2;rw[Zt h2]at L;cases M; cases L;exact U _ _ hr
   ·rename_i h2;rw[Zs h2]at L;exact U _ _ (I.reach _ _ _ M L)
theorem qee{α:Type}{t:Qy}{es:Array (Int×α)}(I:SI t es){h:Int}{n:Nat}{bad:Nat->Prop}(Y:∀m,m<n->∃i:Nat,t.place[i]?=some (stp t.mask m (qzn t.mask h)).j/\bad i)(J:¬ Occ t (stp t.mask n (qzn t.mask h)).j):
  ∀(i:Nat) (e:Int×α),es[i]?=some e->e.1=h->bad i:=λi e L U=>by
 have hi:i<t.place.size:=by rw[I.sz]; exact(Qzh.mp L).1
 have q:t.place[i]?=some t.place[i]:=Qq8 hi;obtain⟨F,j,z⟩:=I.reach _ _ _ q L;rw[U]at j z;rcases Qjd n F with h1|h1|h1
 ·exact absurd (z n h1) J
 ·subst h1; exact absurd ⟨i,by rw[j]; exact q⟩ J
 ·obtain⟨O,M,b⟩:=Y F h1;rw[j]at M;have:O=i:=(below_at I.tb.up M).symm.trans (below_at I.tb.up q);rw[<- this]; exact b
theorem qf1{α:Type}(led:Bool):SI (α:=α) (PySem.SetTable.fresh 0 0 led) #[]:=
 ⟨⟨.inl rfl,rfl,λi k a b _ h=>by simp[PySem.SetTable.fresh]at h,λi j h=>by simp[PySem.SetTable.fresh]at h,by simp[PySem.SetTable.fresh]⟩,rfl,λi j e h=>by simp[PySem.SetTable.fresh]at h⟩
end ST
end
section
namespace ST
open PySem SetTable
def OcO(ow:Array (Option Nat))(j:Nat):Prop:=∃k,ow[j]?=some (some k)
theorem getD_none{q:Array (Option Nat)}{j:Nat}(z:j<q.size):(q.getD j (some 0)).isNone=true↔¬ OcO q j:=by
 have e:q[j]?=some q[j]:=Qq8 z;rw[Qzt,e];show(q[j]).isNone=true↔_
 cases h:q[j] with
 |none=>simp[OcO,e,h]
 |some k=>simp[OcO,e,h]
theorem qkt(m i pt:Nat)(d:Option Nat):∀k,k<=runEnd m i - i->(stp m k (runP m i pt d)).j=i+k/\(stp m k (runP m i pt d)).more=runEnd m i - i - k
 |0,_=>⟨rfl,rfl⟩
 |k+1,h=>by
  obtain⟨h1,h2⟩:=qkt m i pt d k (by omega);rw[qe3];have e:adv m (stp m k (runP m i pt d))={ stp m k (runP m i pt d) with j:=(stp m k (runP m i pt d)).j+1,more:=(stp m k (runP m i pt d)).more - 1 }:=by
   conv=>lhs; unfold adv
   rw[Zt (by omega)]
  rw[e];exact⟨by show(stp m k (runP m i pt d)).j+1=_; omega,by show(stp m k (runP m i pt d)).more - 1=_; omega⟩
theorem qjz{m i:Nat}(h:i<=m):i<=runEnd m i/\runEnd m i<=m:=by unfold runEnd; split<;>omega
theorem qbq{p:Nat->Bool}{n k:Nat}(h:(List.range n).find? p=some k):k<n/\p k=true/\∀j,j<k->p j=false:=by
 have h1:=List.find?_some h;have h2:=Qjg h;refine⟨Qz4.mp h2,h1,λj q=>?_⟩;rw[List.find?_range_eq_some]at h;have:=h.2.2 j q;simpa using this
theorem qde{m:Nat}{z:Array (Option Nat)}(hs:z.size=m+1):∀(q i pt F:Nat),i<=m->F<q->¬ OcO z (lp m F (i,pt)).1->
  ∃n j,layClean.free m z q i pt=some j/\(stp m n (runP m i pt none)).j=j/\j<=m/\¬ OcO z j/\∀k,k<n->OcO z (stp m k (runP m i pt none)).j
 |0,i,pt,F,_,hn,_=>by omega
 |q+1,i,pt,F,hi,hn,he=>by
  unfold layClean.free;obtain⟨r1,r2⟩:=qjz hi
  cases hf:(List.range (runEnd m i+1 - i)).find? λk=>(z.getD (i+k) (some 0)).isNone with
  |some k=>
   obtain⟨f1,f2,f3⟩:=qbq hf;refine⟨k,i+k,rfl,(qkt m i pt none k (by omega)).1,by omega,(getD_none (by omega)).mp f2,λM J=>?_⟩;rw[(qkt m i pt none M (by omega)).1];have:=f3 M J;apply Classical.byContradiction;intro L;rw[(getD_none (by omega)).mpr L]at this;cases this
  |none=>
   have all:∀k,k<runEnd m i+1 - i->OcO z (i+k):=λk J=>by
    have:=List.find?_eq_none.mp hf k (Qz4.mpr J);apply Classical.byContradiction;intro L;exact this ((getD_none (by omega)).mpr L)
   cases F with
   |zero=>exact absurd (all 0 (by omega)) he
   |succ F=>
    have hl:(leap m i pt).1<=m:=Qxy (Qx8 _ (Qxn _));obtain⟨n,j,q1,Z,Y,U,O⟩:=qde hs q (leap m i pt).1 (leap m i pt).2 F hl (by omega) he;refine⟨(runEnd m i - i)+1+n,j,q1,?_,Y,U,λk J=>?_⟩
    ·rw[qqb,qkj m (runEnd m i - i) (runP m i pt none) rfl]; exact Z
    ·rcases Qz2 k (runEnd m i - i+1) with h|h
     ·rw[(qkt m i pt none k (by omega)).1]; exact all k (by omega)
     ·have e:k=(runEnd m i - i)+1+(k - (runEnd m i - i+1)):=by omega
      rw[e,qqb,qkj m (runEnd m i - i) (runP m i pt none) rfl];exact O _ (by omega)
structure FI (m:Nat) (ow:Array (Option Nat)) (hs:List Int):Prop where
 size:ow.size=m+1
 val:∀(j k:Nat),ow[j]?=some (some k)->k<hs.length
 sur:∀k,k<hs.length->∃j:Nat,ow[j]?=some (some k)
 reach:∀(j k:Nat) (h:Int),ow[j]?=some (some k)->hs[k]?=some h->∃n,(stp m n (qzn m h)).j=j/\∀q,q<n->OcO ow (stp m q (qzn m h)).j
 cnt:ow.toList.countP Option.isSome=hs.length
theorem FI.zero(m:Nat):FI m (Array.replicate (m+1) none) [] where
 size:=by simp
 val:=λj k h=>by
  rw[Qjn]at h
  split at h<;>simp at h
 sur:=λk h=>by simp at h
 reach:=λj k x h=>by
  rw[Qjn]at h
  split at h<;>simp at h
 cnt:=by rw[Array.toList_replicate]; simp
theorem FI.some_free{m:Nat}{q:Array (Option Nat)}{F:List Int}(I:FI m q F)(h:F.length<=m):∃e,e<=m/\¬ OcO q e:=by
 apply Classical.byContradiction;intro hn;have all:∀x∈q.toList,Option.isSome x=true:=λx L=>by
  obtain⟨j,M,e⟩:=Qzu L;have z:j<q.size:=by simpa using M
  have:OcO q j:=Classical.byContradiction λO=>hn ⟨j,by have:=I.size; omega,O⟩;obtain⟨k,J⟩:=this;rw[Qq8 z]at J;rw[Array.getElem_toList]at e;rw[<- e,Option.some.inj J]; rfl
 have:=List.countP_eq_length.mpr all;have Y:=I.cnt;have U:q.toList.length=m+1:=(Qzi).trans I.size;omega
theorem FI.more{m:Nat}(hm:m=7\/m=31){J:Array (Option Nat)}{L:List Int}(I:FI m J L)(hl:L.length<=m)(h:Int):
  ∃j,layClean.free m J (turns m) (bits h % (m+1)) (bits h)=some j/\FI m (J.setIfInBounds j (some L.length)) (L++[h]):=by
 obtain⟨e,he,hf⟩:=I.some_free hl;have ok:=Okp.start (m:=m) h;obtain⟨n',_,a4,_,_,e1⟩:=qyh hm none ok.i ok.pt he;have e1:(lp m n' (bits h % (m+1),bits h)).1=e:=e1;obtain⟨n,j,q1,q2,q3,q4,q5⟩:=qde I.size (turns m) (bits h % (m+1)) (bits h) n' ok.i (by unfold turns; omega) (by rw[e1]; exact hf);refine⟨j,q1,?_⟩;have U:j<J.size:=by rw[I.size]; omega
 have Y:∀j',(J.setIfInBounds j (some L.length))[j']?=if j=j' then some (some L.length) else J[j']?:=λj'=>by
  rw[Array.getElem?_setIfInBounds]
  by_cases h:j=j'
  ·subst h; rw[Zt rfl,Zt U,Zt rfl]
  ·rw[Zs h,Zs h]
 have oc:∀j',OcO J j'->OcO (J.setIfInBounds j (some L.length)) j':=λj' ⟨k,F⟩=>by
  unfold OcO;rw[Y]
  by_cases h:j=j'
  ·exact⟨_,Zt h⟩
  ·rw[Zs h]; exact⟨k,F⟩
 refine⟨by rw[Array.size_setIfInBounds]; exact I.size,λj' k F=>?_,λk F=>?_,λj' k h' F Z=>?_,?_⟩
 ·rw[Y]at F;rw[Qqu,Qxj]
  split at F
  ·cases F; omega
  ·have:=I.val _ _ F; omega
 ·rw[Qqu,Qxj]at F;rcases Qz2 k L.length with h1|h1
  ·obtain⟨j',O⟩:=I.sur k h1;refine⟨j',?_⟩;rw[Y,Zs (λz=>q4 (by rw[z]; exact⟨k,O⟩))]; exact O
  ·have:k=L.length:=by omega
   subst this;exact⟨j,by rw[Y,Zt rfl]⟩
 ·rw[Y]at F
  split at F
  ·rename_i a3;cases F;rw[Qza (Qqk _),Nat.sub_self]at Z;cases Z;exact⟨n,by rw[<- a3]; exact q2,λq hq=>oc _ (q5 q hq)⟩
  ·have a0:=I.val _ _ F;rw[Qqt a0]at Z;obtain⟨n1,a1,a2⟩:=I.reach _ _ _ F Z;exact⟨n1,a1,λq hq=>oc _ (a2 q hq)⟩
 ·rw[Array.toList_setIfInBounds,List.countP_set (by simpa using U)];have M:(J.toList[j]'(by simpa using U)).isSome=false:=by
   cases e:J.toList[j]'(by simpa using U) with
   |none=>rfl
   |some k=>exact absurd ⟨k,by rw[<- Qq2,Qqs (by simpa using U),e]⟩ q4
  simp only[M,I.cnt];simp
theorem qy3{m:Nat}(M:m=7\/m=31):∀(l:List Int) (F:Array (Option Nat)) (q:List Int),FI m F q->q.length+l.length<=m+1->
  ∃z,l.foldl (λJ h=>do let (owner,k) <- J; let j <- layClean.free m owner (turns m) (bits h % (m+1)) (bits h); pure (owner.setIfInBounds j (some k),k+1)) (some (F,q.length))=some (z,q.length+l.length)/\FI m z (q++l)
 |[],F,q,I,_=>⟨F,rfl,by rw[Qzm]; exact I⟩
 |h::l,F,q,I,O=>by
  simp only[Qqe]at O;obtain⟨j,e,Y⟩:=I.more M (by omega) h;obtain⟨z,U,L⟩:=qy3 M l _ _ Y (by simp; omega);refine⟨z,?_,by simpa using L⟩;rw[Qx5];have:(do let (owner,k) <- (some (F,q.length):Option (Array (Option Nat)×Nat)); let j <- layClean.free m owner (turns m) (bits h % (m+1)) (bits h); pure (owner.setIfInBounds j (some k),k+1))=some (F.setIfInBounds j (some q.length),q.length+1):=by
   show(layClean.free m F (turns m) (bits h % (m+1)) (bits h)).bind _=_;rw[e]; rfl
  rw[this];have el:q.length+1=(q++[h]).length:=by simp
  rw[el,U];simp; omega
theorem lay_ok{m:Nat}(z:m=7\/m=31)(q:Array Int)(F:q.size<=m+1):∃j,layClean m q=some j/\FI m j q.toList:=by
 obtain⟨j,e,I⟩:=qy3 z q.toList _ [] (FI.zero m) (by simpa using F);refine⟨j,?_,by simpa using I⟩;unfold layClean;rw[<- Array.foldl_toList];exact congrArg (Option.map (·.1)) e
end ST
end
section
namespace ST
open PySem SetTable
noncomputable def qzl(m:Nat)(ow:Array (Option Nat)):List (Nat×Nat):=(List.range (m+1)).filterMap λj=>(ow.getD j none).map (j,·)
theorem qq6{m:Nat}{z:Array (Option Nat)}{L:List Int}(I:FI m z L){q:Nat×Nat}:q∈qzl m z↔z[q.1]?=some (some q.2):=by
 unfold qzl;rw[Qxi];constructor
 ·rintro⟨j,J,e⟩;have F:j<z.size:=by rw[I.size]; exact Qz4.mp J
  rw[Qzt,Qq8 F]at e
  cases h:z[j] with
  |none=>rw[h]at e; cases e
  |some k=>
   rw[h]at e;cases e;rw[Qq8 F,h]
 ·intro e;have J:q.1<z.size:=(Qzh.mp e).1;refine⟨q.1,Qz4.mpr (by rw[<- I.size]; exact J),?_⟩;rw[Qzt,e]
  rfl
theorem qlz(m:Nat)(z:Array (Option Nat)):(qzl m z).Pairwise λa b=>a.1<b.1:=by
 unfold qzl;refine List.Pairwise.filterMap _ (R:=λa b=>a<b) (λa J h b q M j=>?_) (List.pairwise_lt_range)
 cases e:z.getD a none with
 |none=>rw[e]at q; cases q
 |some k=>
  cases F:z.getD J none with
  |none=>rw[F]at j; cases j
  |some L=>
   rw[e]at q; rw[F]at j;cases q; cases j;exact h
theorem qk3{m:Nat}{q:Array (Option Nat)}{z:List Int}(I:FI m q z):(qzl m q).length=z.length:=by
 unfold qzl;rw[List.length_filterMap_eq_countP,<- I.cnt];have e:q.toList=(List.range (m+1)).map λj=>q.getD j none:=by
  apply Qje;intro j;rw[Qq2,Qqf];rcases Qz2 j (m+1) with h|h
  ·rw[Qxf h];have F:j<q.size:=by rw[I.size]; exact h
   rw[Qq8 F];show _=some (q.getD j none);rw[Qzt,Qq8 F]; rfl
  ·rw[Qj3 (by rw[I.size]; exact h),Qz5 (by simpa using h)]; rfl
 rw[e,List.countP_map];refine List.countP_congr λj _=>?_;simp
theorem qyo{α:Type}(es:Array α):∀(l:List Nat),(∀k∈l,k<es.size)->(l.filterMap λk=>es[k]?).length=l.length/\∀i:Nat,(l.filterMap λk=>es[k]?)[i]?=l[i]?.bind λk=>es[k]?
 |[],_=>⟨rfl,λi=>by simp⟩
 |k::l,h=>by
  obtain⟨h1,h2⟩:=qyo es l λq j=>h q (Qqh _ j);have j:k<es.size:=h k Qql;have e:es[k]?=some es[k]:=Qq8 j;rw[Qxq,e];refine⟨by simp[h1],λi=>?_⟩
  cases i with
  |zero=>simp[e]
  |succ i=>simp only[Qjt]; exact h2 i
theorem qlj{α:Type}{m f mv:Nat}{led plain:Bool}(hm:m=7\/m=31)(es:Array (Int×α))(hl:es.size<=m):
  ∃t J,laid m f mv led plain (es.map (·.1))=some (t,J)/\SI t (J.filterMap (es[·]?))/\(J.filterMap (es[·]?)).size=es.size/\(∀e,e∈(J.filterMap (es[·]?)).toList↔e∈es.toList)/\t.mask=m:=by
 obtain⟨F,e,I⟩:=lay_ok hm (es.map (·.1)) (by rw[Array.size_map]; omega);have L:(es.map (·.1)).toList.length=es.size:=by simp
 have il:∀k∈(qzl m F).map (·.2),k<es.size:=λk U=>by
  obtain⟨q,Y,rfl⟩:=Qqy.mp U;rw[<- L];exact I.val _ _ ((qq6 I).mp Y)
 obtain⟨p1,p2⟩:=qyo es _ il;have tl:(((qzl m F).map (·.2)).toArray.filterMap (es[·]?)).toList=((qzl m F).map (·.2)).filterMap λk=>es[k]?:=by simp
 have at_:∀i:Nat,(((qzl m F).map (·.2)).toArray.filterMap (es[·]?))[i]?=((qzl m F)[i]?.map (·.2)).bind λk=>es[k]?:=λi=>by
  rw[<- Qq2,tl,p2,Qqf]
 have pl:∀i:Nat,((qzl m F).map (·.1)).toArray[i]?=(qzl m F)[i]?.map (·.1):=λi=>by simp
 have oc:∀j,OcO F j->Occ { mask:=m,place:=((qzl m F).map (·.1)).toArray,dummies:=#[],finger:=f,led:=led,moves:=mv,plain:=plain } j:=λj ⟨k,U⟩=>by
  obtain⟨i,hi,e⟩:=Qzu ((qq6 I (q:=(j,k))).mpr U);refine⟨i,?_⟩;show((qzl m F).map (·.1)).toArray[i]?=_;rw[pl,Qqs hi,e]; rfl
 have ns:(((qzl m F).map (·.2)).toArray.filterMap (es[·]?)).size=es.size:=by
  rw[<- Qzi,tl,p1,Qqw,qk3 I,L]
 refine⟨{ mask:=m,place:=((qzl m F).map (·.1)).toArray,dummies:=#[],finger:=f,led:=led,moves:=mv,plain:=plain },((qzl m F).map (·.2)).toArray,?_,⟨⟨hm,rfl,?_,?_,?_⟩,?_,?_⟩,ns,?_,rfl⟩
 ·unfold laid;rw[e]; rfl
 ·intro i k a b a3 ha Z;have ha:((qzl m F).map (·.1)).toArray[i]?=some a:=ha;have Z:((qzl m F).map (·.1)).toArray[k]?=some b:=Z;rw[pl]at ha Z;obtain⟨x,M,rfl⟩:=Qqr.mp ha;obtain⟨y,hy,rfl⟩:=Qqr.mp Z;obtain⟨h1,e1⟩:=Qqx.mp M;obtain⟨h2,e2⟩:=Qqx.mp hy;have:=Qjf.mp (qlz m F) i k h1 h2 a3;rw[e1,e2]at this;exact this
 ·intro i j O;have O:((qzl m F).map (·.1)).toArray[i]?=some j:=O;rw[pl]at O;obtain⟨x,M,rfl⟩:=Qqr.mp O;have:=(qq6 I).mp (Qq1 M);have:=(Qzh.mp this).1;rw[I.size]at this;show x.1<=m;omega
 ·show((qzl m F).map (·.1)).toArray.size<=m;rw[Qqj,Qqw,qk3 I,L]; exact hl
 ·show((qzl m F).map (·.1)).toArray.size=_;rw[Qqj,Qqw,qk3 I,L,ns]
 ·intro i j x O M;have O:((qzl m F).map (·.1)).toArray[i]?=some j:=O;rw[pl]at O;rw[at_]at M;obtain⟨q,Y,rfl⟩:=Qqr.mp O;rw[Y]at M;have M:es[q.2]?=some x:=M;have ho:=(qq6 I).mp (Qq1 Y);obtain⟨n,a1,a2⟩:=I.reach q.1 q.2 x.1 ho (by rw[Qq2,Array.getElem?_map,M]; rfl);exact⟨n,a1,λz hz=>oc _ (a2 z hz)⟩
 ·intro x;rw[tl,Qxi];constructor
  ·rintro⟨k,_,U⟩;exact Qq1 (by rw[Qq2]; exact U)
  ·intro M;obtain⟨k,U,e'⟩:=Qzu M;have a0:k<(es.map (·.1)).toList.length:=by rw[L]; simpa using U
   obtain⟨j,O⟩:=I.sur k a0;refine⟨k,Qqy.mpr ⟨(j,k),(qq6 I).mpr O,rfl⟩,?_⟩;rw[<- Qq2,Qqs U,e']
end ST
end
section
namespace ST
open PySem SetTable
theorem qcb{t:Qy}(T:Tb t){j:Nat->Int}{h:Int}{p:Probe}(q:Okp t.mask p){met:Option Met}(z:t.probe j h p=met):
  ∃n,(∀m,m<n->∃i:Nat,t.place[i]?=some (stp t.mask m p).j/\j i≠h)/\
   ((¬ Occ t (stp t.mask n p).j/\met=some (.empty (stp t.mask n p).j none))\/
    (∃i:Nat,t.place[i]?=some (stp t.mask n p).j/\j i=h/\met=some (.candidate (stp t.mask n p).j i (stp t.mask (n+1) p)))):=by
 subst z;exact qas T q
theorem SI.fits{α:Type}{t:Qy}{es:Array (Int×α)}(I:SI t es):t.fits es.size=true:=by
 unfold SetTable.fits SetTable.fill;rw[I.tb.dum];have:=I.tb.few;simp[I.sz];rw[<- I.sz]; exact this
theorem Tb.stays{t:Qy}(T:Tb t):t.gaveWay=false:=by
 unfold SetTable.gaveWay;rcases T.mask with h|h<;>rw[h]<;>rfl
section
variable {prog:Program}{w:Qk}{A:Qw}{E:Value->Qz->Prop}{s:Qz}{K:Type} [DecidableEq K]{knd:KeyKind prog w K}
theorem qj2(n:Nat){v:Value}(h:carriedByValue v=true):Zb n v=pure false:=by
 cases v with
 |ref a=>simp[carriedByValue]at h
 |_=>unfold Zb; rfl
theorem qj6{ks:List K}{b:Addr}{Q:Bool->Qz->Prop}(J:IsTupleKey knd s.heap ks b)(h:Q false s):wpAny (model prog w) A (Zb 8 (.ref b)) Q E s:=by
 have M:=J.typeIs;obtain⟨o,q,n,L,Y,hd,hi⟩:=J;unfold Zb;refine Qq (wpAny_typeOf M ?_);dsimp only;refine Qq ?_;refine Qj ?_;simp only[Qxr,Qqm,if_false];refine Qq (Ql L hd ?_);refine Qq ?_;show wpAny _ _ (forIn q _ _) _ _ s;rw[<- Array.forIn_toList];refine wpAny_forIn_list _ (λrest r s'=>r.1=none/\s'=s/\∀v∈rest,carriedByValue v=true) _ ?_ ?_ _ _ ⟨rfl,rfl,hi.byValue⟩
 ·rintro v rest r s' ⟨F,rfl,j⟩;rw[qj2 _ (j v Qql)];refine Qq (Qj ?_);simp only[Qqm,if_false];exact Qj ⟨rfl,rfl,λu z=>j u (Qqh _ z)⟩
 ·rintro⟨U,O⟩ s' ⟨F,rfl,_⟩;simp only at F;subst F;exact Qj h
theorem qha{x:Addr}{ks:List K}{l:List Value}{Q:Bool->Qz->Prop}(J:IsTupleKey knd s.heap ks x)(O:∀y∈l,∃b k,y=.ref b/\IsTupleKey knd s.heap k b)(h:Q false s):
  wpAny (model prog w) A (searchCouldBeSeen (.ref x) l) Q E s:=by
 unfold searchCouldBeSeen;refine Qq ?_;refine wpAny_forIn_list _ (λrest r s'=>r.1=none/\s'=s/\∀y∈rest,∃b k,y=.ref b/\IsTupleKey knd s.heap k b) _ ?_ ?_ _ _ ⟨rfl,rfl,O⟩
 ·rintro y rest r s' ⟨F,rfl,j⟩;obtain⟨b,k,rfl,M⟩:=j y Qql;have go:∀{r':MProd (Option Bool) PUnit},r'.1=none->(λ(r:ForInStep (MProd (Option Bool) PUnit)) z=>match r with|.done r=>r.1=none/\z=s'/\True|.yield r=>r.1=none/\z=s'/\True) (.yield r') s':=λh=>⟨h,rfl,trivial⟩
  dsimp only;have U:(carriedByValue (Value.ref x)&&carriedByValue (Value.ref b))=false:=rfl;simp only[U,Bool.or_false]
  by_cases L:(x==b)=true
  ·rw[Zt L];exact Qj ⟨rfl,rfl,λu q=>j u (Qqh _ q)⟩
  ·rw[Zs L];refine Qq (wpAny_eqIsQuiet_tuple J ?_);simp only[Qxr,Qqm,if_false];refine Qq (wpAny_eqIsQuiet_tuple M ?_);simp only[Qxr,Qqm,if_false];refine Qq (qj6 J ?_);simp only[Qqm,if_false];refine Qq (qj6 M ?_);simp only[Qqm,if_false];exact Qj ⟨rfl,rfl,λu q=>j u (Qqh _ q)⟩
 ·rintro⟨Z,Y⟩ s' ⟨F,rfl,_⟩;simp only at F;subst F;exact Qj h
end
section
variable {prog:Program}{w:Qk}{A:Qw}{E:Value->Qz->Prop}{s:Qz}
theorem ints_of{ks:List Int}{vs:List Value}(h:ItemsAre (intKind prog w) ks vs):∀v∈vs,∃i t,v=.int i t:=by
 induction h with
 |nil=>intro v j; simp at j
 |@cons k z ks vs h1 _ q=>
  intro v j;rcases Qqv.mp j with rfl|j
  ·obtain⟨t,e⟩:=Value.isInt_shape (show Value.isInt k v=true from h1);exact⟨k,t,e⟩
  ·exact q v j
theorem qaf{ks:List Int}{b:Addr}{Q:Bool->Qz->Prop}(L:IsTupleKey (intKind prog w) s.heap ks b)(h:Q true s):wpAny (model prog w) A (hashByValue 8 (.ref b)) Q E s:=by
 have O:=L.typeIs;obtain⟨o,q,n,M,Z,hd,hi⟩:=L;unfold hashByValue;refine Qq (wpAny_specialOf O F.slot_tuple_hash.lookup ?_);dsimp only;refine Qq (Ql M hd ?_);refine Qq ?_;show wpAny _ _ (forIn q _ _) _ _ s;rw[<- Array.forIn_toList];refine wpAny_forIn_list _ (λrest r s'=>r.1=none/\s'=s/\∀v∈rest,∃i t,v=.int i t) _ ?_ ?_ _ _ ⟨rfl,rfl,ints_of hi⟩
 ·rintro v rest r s' ⟨J,rfl,j⟩;obtain⟨i,t,rfl⟩:=j v Qql;have e:hashByValue 7 (.int i t)=pure true:=by simp[hashByValue]
  rw[e];refine Qq (Qj ?_);simp only[Qxr,Qqm,if_false];exact Qj ⟨rfl,rfl,λu z=>j u (Qqh _ z)⟩
 ·rintro⟨Y,U⟩ s' ⟨J,rfl,_⟩;simp only at J;subst J;exact Qj h
def Els(prog:Program)(w:Qk)(h:Heap)(es:Array (Int×Value)):Prop:=∀(i:Nat) (e:Int×Value),es[i]?=some e->∃b k,e=(tupleKeyHash (intKind prog w) k,.ref b)/\IsTupleKey (intKind prog w) h k b
def Bad(prog:Program)(w:Qk)(h:Heap)(es:Array (Int×Value))(k:List Int)(i:Nat):Prop:=∀(e:Int×Value) (b:Addr) (k':List Int),es[i]?=some e->e.2=.ref b->IsTupleKey (intKind prog w) h k' b->k'≠k
theorem qvl{a:Addr}{o:Obj}{es:Array (Int×Value)}{ep:Nat}{t:Qy}{x:Addr}{k:List Int}{Q:SetFound->Qz->Prop}(hu:A.units<cLine)(ho:s.heap.get? a=some o)(hd:o.data=.set es ep t)(I:SI t es)(U:Els prog w s.heap es)
  (hx:IsTupleKey (intKind prog w) s.heap k x)
  (hf:∀n,(∀m,m<n->∃i:Nat,t.place[i]?=some (stp t.mask m (qzn t.mask (tupleKeyHash (intKind prog w) k))).j/\Bad prog w s.heap es k i)->¬ Occ t (stp t.mask n (qzn t.mask (tupleKeyHash (intKind prog w) k))).j->
   Q (.free (stp t.mask n (qzn t.mask (tupleKeyHash (intKind prog w) k))).j false) s)
  (ht:(∃(i:Nat) (b:Addr) (g:Int),es[i]?=some (g,.ref b)/\IsTupleKey (intKind prog w) s.heap k b)->Q (.there none) s)
  (N:Nat) (hN:¬ Occ t (stp t.mask N (qzn t.mask (tupleKeyHash (intKind prog w) k))).j) :
  ∀(F j:Nat) (J:Option Probe),J.getD (t.probeStart (tupleKeyHash (intKind prog w) k))=stp t.mask j (qzn t.mask (tupleKeyHash (intKind prog w) k))->j<=N->N - j<F->
   (∀m,m<j->∃i:Nat,t.place[i]?=some (stp t.mask m (qzn t.mask (tupleKeyHash (intKind prog w) k))).j/\Bad prog w s.heap es k i)->
   wpAny (model prog w) A (Zo a (.ref x) (tupleKeyHash (intKind prog w) k) true F J) Q E s
 |0,j,_,_,_,a7,_=>by omega
 |F+1,j,J,a6,hle,a7,a3=>by
  unfold Zo;refine Qq (Q7 ho hd I.fits ?_);dsimp only;rw[I.tb.stays];simp only[Qqm,if_false];rw[a6];generalize hm:SetTable.probe t _ _ _=met;have a5:Okp t.mask (stp t.mask j (qzn t.mask (tupleKeyHash (intKind prog w) k))):=(Okp.start _).stp j;obtain⟨n,p1,p2⟩:=qcb I.tb a5 hm;have a4:∀m,m<n->∃i:Nat,t.place[i]?=some (stp t.mask (j+m) (qzn t.mask (tupleKeyHash (intKind prog w) k))).j/\Bad prog w s.heap es k i:=λm a0=>by
   obtain⟨i,i1,i2⟩:=p1 m a0;refine⟨i,by rw[qqb]; exact i1,λe b k' O hb a9 z=>i2 ?_⟩;obtain⟨b',b4,e',q⟩:=U i e O;have:(es[i]?.map (·.1)).getD 0=tupleKeyHash (intKind prog w) k:=by
    rw[O,e'];rw[e']at hb;cases hb;rw[q.inj a9,z]; rfl
   exact this
  have M:∀m,m<j+n->∃i:Nat,t.place[i]?=some (stp t.mask m (qzn t.mask (tupleKeyHash (intKind prog w) k))).j/\Bad prog w s.heap es k i:=λm a0=>by
   rcases Qz2 m j with h|h
   ·exact a3 m h
   ·obtain⟨i,i1,i2⟩:=a4 (m - j) (by omega);rw[show j+(m - j)=m by omega]at i1;exact⟨i,i1,i2⟩
  rw[<- qqb]at p2;rcases p2 with⟨q1,rfl⟩|⟨i,q1,q2,rfl⟩
  ·dsimp only;exact Qj (hf _ M q1)
  ·dsimp only;have hi:i<es.size:=by rw[<- I.sz]; exact(Qzh.mp q1).1
   have O:es[i]?=some es[i]:=Qq8 hi;obtain⟨b,k',e',hb⟩:=U i _ O;rw[e']at O;have b5:j+n<N:=by
    rcases Qjd (j+n) N with h|h|h
    ·exact h
    ·exact absurd ⟨i,by rw[<- h]; exact q1⟩ hN
    ·obtain⟨Y,i1,_⟩:=M N h;exact absurd ⟨Y,i1⟩ hN
   have rest:wpAny (model prog w) A (do
     let L <- holding [Value.ref b] (eqBool (.ref b) (.ref x))
     let (b3,_,t') <- setState a
     if true&&L then return .there none
     let some same:=t'.sameMemory t.moves t.mask|unsupported "set.changed-during-lookup:is-the-new-block-at-the-old-address"
     let Z <- match (if same then t'.slot (stp t.mask (j+n) (qzn t.mask (tupleKeyHash (intKind prog w) k))).j else .empty) with
      |.live Y=>match b3[Y]? with
       |some (_,y')=>do pure (if <- isSame y' (.ref b) then some Y else none)
       |none=>pure none
      |_=>pure none
     match Z with
     |none=>rule "set.search.anew"; Zo a (.ref x) (tupleKeyHash (intKind prog w) k) true F none
     |some Y=>if L then return .there (some Y) else Zo a (.ref x) (tupleKeyHash (intKind prog w) k) true F (some (stp t.mask (n+1) (stp t.mask j (qzn t.mask (tupleKeyHash (intKind prog w) k)))))) Q E s:=by
    refine Qq (Q4 (wpAny_eqBool_tuple hu hb hx ?_));refine Qq (Q7 ho hd I.fits ?_);dsimp only
    by_cases hk:k'=k
    ·subst hk;simp only[decide_true,Qj7,if_true];exact Qj (ht ⟨i,b,_,O,hb⟩)
    ·have ek:decide (k'=k)=false:=Zr hk;simp only[ek,Qxd,Qqm,if_false];have em:t.sameMemory t.moves t.mask=some true:=by unfold SetTable.sameMemory; simp
     rw[em];dsimp only;simp only[if_true];rw[qx8 I.tb q1];dsimp only;rw[O];dsimp only;refine Qq (wpAny_isSame_ref_self ?_);simp only[if_true];refine Qq (Qj ?_);dsimp only;refine qvl hu ho hd I U hx hf ht N hN F (j+n+1) _ ?_ (by omega) (by omega) λm a0=>?_
     ·show stp t.mask (n+1) (stp t.mask j _)=_;rw[<- qqb]; rfl
     ·rcases Qz2 m (j+n) with h|h
      ·exact M m h
      ·have:m=j+n:=by omega
       subst this;refine⟨i,q1,λe b1 k1 a2 b2 a8 z=>hk ?_⟩;rw[O]at a2;cases a2;cases b2;rw[hb.inj a8,z]
   have a1:∀y∈(es.filter (·.1==tupleKeyHash (intKind prog w) k)).toList.map (·.2),∃b k,y=.ref b/\IsTupleKey (intKind prog w) s.heap k b:=λy hy=>by
    obtain⟨e,h1,rfl⟩:=Qqy.mp hy;have h2:e∈es.toList:=by
     rw[Array.toList_filter]at h1;exact(Qzd.mp h1).1
    obtain⟨Y,b0,e1⟩:=Qzu h2;obtain⟨b',k1,e2,q⟩:=U Y e (by rw[<- Qq2,Qqs b0,e1]);exact⟨b',k1,by rw[e2],q⟩
   cases hl:t.led with
   |true=>
    simp only[Qxr,Qqm,if_false];rw[O];exact rest
   |false=>
    simp only[Qj5,if_true];refine Qq (qha hx a1 ?_);simp only[Qqm,if_false];rw[O];exact rest
end
end ST
end
section
namespace ST
open PySem SetTable
section
variable {prog:Program}{w:Qk}{A:Qw}{E:Value->Qz->Prop}{s:Qz}
def TS(prog:Program)(w:Qk)(h:Heap)(a:Addr)(S:List (List Int)):Prop:=∃o es ep t,h.get? a=some o/\o.ExactSet/\o.data=.set es ep t/\SI t es/\Els prog w h es/\es.size=S.length/\
 (∀k,k∈S↔∃g b,(g,Value.ref b)∈es.toList/\IsTupleKey (intKind prog w) h k b)/\(t.mask=7->es.size<=4)
theorem qdz{h h':Heap}{a b:Addr}{k:List Int}{o:Obj}{es:Array (Int×Value)}{ep:Nat}{t:Qy}(L:h.get? a=some o)(hd:o.data=.set es ep t)(J:Heap.SameBut a h h')(x:IsTupleKey (intKind prog w) h k b):IsTupleKey (intKind prog w) h' k b:=by
 obtain⟨o',j,n,z,M,q,hi⟩:=x;have F:b≠a:=by
  rintro rfl;obtain rfl:o'=o:=Option.some.inj (z.symm.trans L);rw[hd]at q; exact nomatch q
 exact⟨o',j,n,(J.2 b F).trans z,M,q,hi⟩
theorem qc6:SetTable.sizeAbove (SetTable.grown 5)=32:=by decide
theorem qfq{a:Addr}{o:Obj}{es:Array (Int×Value)}{ep:Nat}{t:Qy}{Q:Unit->Qz->Prop}(L:s.heap.get? a=some o)(hd:o.data=.set es ep t)(I:SI t es)(U:es.size=5)
  (h:∀h' o' F J,Heap.SameBut a s.heap h'->h'.get? a=some o'->(o.ExactSet->o'.ExactSet)->o'.data=.set F (ep+1) J->SI J F->F.size=es.size->(∀e,e∈F.toList↔e∈es.toList)->J.mask=31->Q () { s with heap:=h' }) :
  wpAny (model prog w) A (setRelay a (SetTable.grown 5)) Q E s:=by
 unfold setRelay;refine Qq (Q7 L hd I.fits ?_);dsimp only;rw[Zs (by rw[qc6]; decide)];obtain⟨J,j,M,I',z,mem,mk⟩:=qlj (f:=t.finger) (mv:=t.movedTo (SetTable.sizeAbove (SetTable.grown 5) - 1)) (led:=t.led) (plain:=t.plain) (m:=31) (.inr rfl) es (by omega);have Z:t.relaid (es.map (·.1)) (SetTable.grown 5)=some (J,j):=by
  unfold SetTable.relaid;rw[qc6]at M ⊢;exact M
 rw[Z];refine Qq ?_
 change wpAny _ _ (do
  let some (t,j):=(some (J,j):Option (Qy×Array Nat))|unsupported "internal:set-table-without-room"
  let F:=j.filterMap (es[·]?)
  if F.size != es.size then unsupported "internal:set-table-lost-an-element"
  pure (F,t)) _ _ _
 dsimp only;have Y:((j.filterMap (es[·]?)).size != es.size)=false:=by rw[z]; simp
 rw[Y];simp only[Qqm,if_false];refine Qj ?_;refine wpAny_storeSet_of L hd ?_ (by rw[z,U,Q2]; decide);have O:(s.heap.update a (Obj.putSet (j.filterMap (es[·]?)) J)).get? a=some { o with data:=.set (j.filterMap (es[·]?)) (ep+1) J }:=by
  have:=Qx2 (Obj.putSet (j.filterMap (es[·]?)) J) L (by rw[putSet_of _ _ hd]; rfl);rw[putSet_of _ _ hd]at this; exact this
 exact h _ _ _ _ (Heap.SameBut.update _ a _) O (λq=>q) rfl I' z mem mk
theorem qlb{m:Nat}(h:Int):(qzn m h).j+(qzn m h).more<=m:=by
 have hi:bits h % (m+1)<=m:=Qxy (Qx8 _ (Qxn _));obtain⟨q,j⟩:=qjz hi;show bits h % (m+1)+(runEnd m (bits h % (m+1)) - bits h % (m+1))<=m;omega
theorem j_next{m:Nat}{p:Probe}(h:p.j+p.more<=m):(adv m p).j+(adv m p).more<=m:=by
 unfold adv
 split
 ·show p.j+1+(p.more - 1)<=m; omega
 ·have hi:(leap m p.i p.perturb).1<=m:=Qxy (Qx8 _ (Qxn _));obtain⟨q,j⟩:=qjz hi;show(leap m p.i p.perturb).1+(runEnd m (leap m p.i p.perturb).1 - (leap m p.i p.perturb).1)<=m;omega
theorem j_stp{m:Nat}:∀(n:Nat){p:Probe},p.j+p.more<=m->(stp m n p).j+(stp m n p).more<=m
 |0,_,h=>h
 |n+1,_,h=>j_stp n (j_next h)
theorem add_ok{a x:Addr}{S:List (List Int)}{k:List Int}{Q:Bool->Qz->Prop}(hu:A.units<cLine)(hT:TS prog w s.heap a S)(hx:IsTupleKey (intKind prog w) s.heap k x)(hl:S.length<=15)
  (h:∀b h',Heap.SameBut a s.heap h'->TS prog w h' a (if k∈S then S else S++[k])->Q b { s with heap:=h' }) :
  wpAny (model prog w) A (setAddHashed a (.ref x) (tupleKeyHash (intKind prog w) k)) Q E s:=by
 have c6:=hT;obtain⟨o,es,ep,t,ho,b3,hd,I,Y,a7,J,h4⟩:=hT;have a3:∀{e:Int×Value},e∈es.toList->∃i:Nat,es[i]?=some e:=λ{e} he=>by
  obtain⟨i,hi,e1⟩:=Qzu he;exact⟨i,by rw[<- Qq2,Qqs hi,e1]⟩
 unfold setAddHashed setAddHashedIn;refine Q4 (Qq (Q7 ho hd I.fits ?_));dsimp only;have eb:byScan (.ref x) es=false:=rfl;rw[eb];simp only[Qqm,if_false];obtain⟨fr,c2,c3⟩:=some_free I.tb;obtain⟨N,hN,eN⟩:=hits I.tb.mask (Okp.start (tupleKeyHash (intKind prog w) k)) c2;refine Qq ?_;unfold setSearch;refine qvl hu ho hd I Y hx (λn a2 O=>?_) (λb8=>?_) N (by rw[eN]; exact c3) 100000 0 none rfl (Qz1 _) ?_ (λm U=>by omega)
 ·-- c9 element is new
  dsimp only;have a9:k ∉ S:=λhk=>by
   obtain⟨g,b,U,Z⟩:=(J k).mp hk;obtain⟨i,hi⟩:=a3 U;obtain⟨b',k',e',c5⟩:=Y i _ hi;have e1:g=tupleKeyHash (intKind prog w) k':=congrArg Prod.fst e';have e2:b=b':=Value.ref.inj (congrArg Prod.snd e');subst e2;obtain rfl:=Z.inj c5;exact qee I a2 O i _ hi e1 _ b k hi rfl Z rfl
  have c0:es.size+1<=t.mask:=by
   rcases I.tb.mask with q|q
   ·have:=h4 q; omega
   ·omega
  have b0:(stp t.mask n (qzn t.mask (tupleKeyHash (intKind prog w) k))).j<=t.mask:=Qzg (Qjo _ _) (j_stp n (qlb _));generalize hj:(stp t.mask n (qzn t.mask (tupleKeyHash (intKind prog w) k))).j=j at *;have I1:SI (t.put j).1 (insertAt es (t.put j).2 (tupleKeyHash (intKind prog w) k,Value.ref x)):=put_ok I b0 O ⟨n,hj,λm U=>by obtain⟨i,hi,_⟩:=a2 m U; exact⟨i,hi⟩⟩ c0;refine Qq (Q7 ho hd I.fits ?_);dsimp only;have a8:(t.put j).2<=es.size:=by rw[qca I.tb,<- I.sz]; exact(qxc I.tb.up).2.2
  have M:(t.put j).1.mask=t.mask:=by rw[qca I.tb]
  have z:(insertAt es (t.put j).2 (tupleKeyHash (intKind prog w) k,Value.ref x)).size=es.size+1:=qx2 _ _ _ a8;have a0:∀e,e∈(insertAt es (t.put j).2 (tupleKeyHash (intKind prog w) k,Value.ref x)).toList↔e∈es.toList\/e=(tupleKeyHash (intKind prog w) k,Value.ref x):=λe=>qll a8;have b5:∀(h':Heap) (F:Array (Int×Value)),Heap.SameBut a s.heap h'->(∀e,e∈F.toList↔e∈es.toList\/e=(tupleKeyHash (intKind prog w) k,Value.ref x))->
    Els prog w h' F/\∀k',k'∈S++[k]↔∃g b,(g,Value.ref b)∈F.toList/\IsTupleKey (intKind prog w) h' k' b:=λh' F sb U=>by
   have kp:∀{b:Addr}{k':List Int},IsTupleKey (intKind prog w) s.heap k' b->IsTupleKey (intKind prog w) h' k' b:=λq=>qdz ho hd sb q;refine⟨λi e he=>?_,λk'=>?_⟩
   ·rcases (U e).mp (Qq1 (by rw[Qq2]; exact he)) with q|q
    ·obtain⟨i',a4⟩:=a3 q;obtain⟨b,k',e',Z⟩:=Y i' _ a4;exact⟨b,k',e',kp Z⟩
    ·exact⟨x,k,q,kp hx⟩
   ·constructor
    ·intro hk;rcases Qqi.mp hk with q|q
     ·obtain⟨g,b,q1,q2⟩:=(J k').mp q;exact⟨g,b,(U _).mpr (.inl q1),kp q2⟩
     ·rw[Qqa]at q;subst q;exact⟨_,x,(U _).mpr (.inr rfl),kp hx⟩
    ·rintro⟨g,b,q1,q2⟩;rcases (U _).mp q1 with q|q
     ·obtain⟨i',a4⟩:=a3 q;obtain⟨b',d0,e',Z⟩:=Y i' _ a4;have e2:b=b':=Value.ref.inj (congrArg Prod.snd e');subst e2;obtain rfl:=q2.inj (kp Z);exact Qzz _ ((J k').mpr ⟨g,b,q,Z⟩)
     ·have e2:b=x:=Value.ref.inj (congrArg Prod.snd q);subst e2;obtain rfl:=q2.inj (kp hx);exact Qq3 _ (by simp)
  have a1:∀(b:Bool) (L:Qy),SI L (insertAt es (t.put j).2 (tupleKeyHash (intKind prog w) k,Value.ref x))->L.mask=t.mask->
    wpAny (model prog w) A (do
     storeSet a (insertAt es (t.put j).2 (tupleKeyHash (intKind prog w) k,Value.ref x)) L
     if (!false&&L.tooFull)=true then do
      setRelay a (SetTable.grown (es.size+1))
      pure true
     else pure true) Q E s:=λb L I2 c1=>by
   refine Qq (wpAny_storeSet_of ho hd ?_ (by rw[z,Q2]; omega));have hg:(s.heap.update a (Obj.putSet (insertAt es (t.put j).2 (tupleKeyHash (intKind prog w) k,Value.ref x)) L)).get? a=some { o with data:=.set (insertAt es (t.put j).2 (tupleKeyHash (intKind prog w) k,Value.ref x)) (ep+1) L }:=by
    have:=Qx2 (Obj.putSet (insertAt es (t.put j).2 (tupleKeyHash (intKind prog w) k,Value.ref x)) L) ho (by rw[putSet_of _ _ hd]; rfl);rw[putSet_of _ _ hd]at this; exact this
   have sb:=Heap.SameBut.update s.heap a (Obj.putSet (insertAt es (t.put j).2 (tupleKeyHash (intKind prog w) k,Value.ref x)) L);obtain⟨fe,fm⟩:=b5 _ _ sb a0;have b4:L.tooFull=decide ((es.size+1)*5 >= t.mask*3):=by
    unfold SetTable.tooFull SetTable.fill;rw[I2.tb.dum,I2.sz,z,c1]; rfl
   rw[b4]
   by_cases b1:(es.size+1)*5 >= t.mask*3
   ·have m7:t.mask=7:=by
     rcases I.tb.mask with q|q
     ·exact q
     ·omega
    have e5:es.size+1=5:=by have:=h4 m7; omega
    simp only[Zp b1,Qj5,Qj7,if_true];rw[e5];refine Qq (qfq (s:={ s with heap:=_ }) hg rfl I2 (by rw[z,e5]) λh' o' F t' b6 b9 b2 c4 I' z' a6 b7=>Qj ?_);have a5:=sb.trans b6;obtain⟨c8,c7⟩:=b5 h' F a5 λe=>(a6 e).trans (a0 e);refine h true h' a5 ?_;rw[Zs a9];exact⟨o',F,_,t',b9,b2 b3,c4,I',c8,by rw[z',z,a7]; simp,c7,λq=>by rw[b7]at q; cases q⟩
   ·simp only[Zr b1,Qj5,Qxd,Qqm,if_false];refine Qj (h true _ sb ?_);rw[Zs a9];exact⟨_,_,_,L,hg,b3,rfl,I2,fe,by rw[z,a7]; simp,fm,λq=>by rw[z]; omega⟩
  cases d1:(t.put j).1.plain with
  |true=>
   simp only[if_true];refine Qq (qaf hx ?_);simp only[if_true];exact a1 true _ I1 M
  |false=>
   simp only[Qqm,if_false];refine Qq (Qj ?_);simp only[if_true];exact a1 true _ I1 M
 ·-- it is there
  dsimp only;refine Qj ?_;obtain⟨i,b,g,hi,Z⟩:=b8;have hk:k∈S:=(J k).mpr ⟨g,b,Qq1 (by rw[Qq2]; exact hi),Z⟩;have e:s={ s with heap:=s.heap }:=by cases s; rfl
  rw[e];exact h false s.heap (Heap.SameBut.refl a s.heap) (by rw[Zt hk]; exact c6)
 ·have:t.mask<=31:=by rcases I.tb.mask with q|q<;>omega
  unfold SetTable.turns at hN;omega
end
end ST
end
section
namespace ST
open PySem SetTable PyProof.Rows
noncomputable def addK(S:List (List Int))(k:List Int):List (List Int):=if k∈S then S else S++[k]
noncomputable def distinct(ks:List (List Int)):List (List Int):=ks.foldl addK []
theorem qmq(S:List (List Int))(k:List Int):(addK S k).length<=S.length+1:=by unfold addK; split<;>simp
theorem foldK_le:∀(l S:List (List Int)),(l.foldl addK S).length<=S.length+l.length
 |[],S=>by simp
 |k::l,S=>by
  have:=foldK_le l (addK S k);have:=qmq S k;rw[Qx5,Qqe]; omega
section
variable {prog:Program}{w:Qk}{A:Qw}{R:Result->Qz->Prop}{I:Addr}{fp wr:List Addr}{G:Array GenState->Array GenState->Prop}{n:Nat}{P:Nat->Value->Prop}{St:Nat->Qz->Prop}
theorem TS.keeps{h h':Heap}{a:Addr}{S:List (List Int)}(x:TS prog w h a S)(hk:∀b o,(b=a\/∃k,IsTupleKey (intKind prog w) h k b)->h.get? b=some o->h'.get? b=some o):TS prog w h' a S:=by
 obtain⟨o,es,ep,t,ho,Y,hd,I,J,O,F,h4⟩:=x;have kp:∀{b:Addr}{z:List Int},IsTupleKey (intKind prog w) h z b->IsTupleKey (intKind prog w) h' z b:=λ{b z} q=>by
  obtain⟨o',j,n,U,r⟩:=id q;exact⟨o',j,n,hk b o' (.inr ⟨z,q⟩) U,r⟩
 refine⟨o,es,ep,t,hk a o (.inl rfl) ho,Y,hd,I,λi e he=>?_,O,λk=>?_,h4⟩
 ·obtain⟨b,k,Z,q⟩:=J i e he;exact⟨b,k,Z,kp q⟩
 ·rw[F k];constructor
  ·rintro⟨g,b,L,M⟩; exact⟨g,b,L,kp M⟩
  ·rintro⟨g,b,L,M⟩;obtain⟨i,hi,e1⟩:=Qzu L;obtain⟨b',z,Z,q⟩:=J i (g,.ref b) (by rw[<- Qq2,Qqs hi,e1]);have e2:b=b':=Value.ref.inj (congrArg Prod.snd Z);subst e2;obtain rfl:=M.inj (kp q);exact⟨g,b,L,q⟩
theorem qi9(hu:A.in1.units<cLine)(W:WalksS prog w A.in1 I fp wr G n P St)(S:Addr)(b1:S ∉ fp)(a2:∀b∈wr,∀s i,St i s->¬ ∃k,IsTupleKey (intKind prog w) s.heap k b)
  (ks:List (List Int)) (hn:ks.length=n) (c5:n<=16) (a3:∀i v,P i v->∃b,v=.ref b) (Kp:Qz->Prop) (b9:∀s i b,Kp s->P i (.ref b)->∃k,ks[i]?=some k/\IsTupleKey (intKind prog w) s.heap k b)
  (a8:∀s s',Kp s->(∀b o,(∃k,IsTupleKey (intKind prog w) s.heap k b)->s.heap.get? b=some o->s'.heap.get? b=some o)->Kp s') :
  ∀(k i:Nat) (s:Qz),n - i=k->i<=n->St i s->Kp s->TS prog w s.heap S ((ks.take i).foldl addK [])->
   (∀s',Moved (S::wr) G s s'->TS prog w s'.heap S (distinct ks)->R (.ok (.ret .none)) s')->
   Zy (model prog w) A (.builtin "set.update.loop" ⟨[.ref S,.ref I],[]⟩) R s:=by
 have c2:S ∉ wr:=λh=>b1 (W.sub _ h);have O:∀b∈wr,b∈S::wr:=λb j=>Qqh _ j
 have a1:∀{s s':Qz}{i:Nat}{L:List (List Int)},St i s->Moved wr G s s'->TS prog w s.heap S L->TS prog w s'.heap S L:=λ{s s' i L} st U x=>x.keeps λb o j ho=>U.heap b o (λhw=>by
  rcases j with rfl|j
  ·exact c2 hw
  ·exact a2 b hw s i st j) ho
 intro k
 induction k with
 |zero=>
  intro i s hk hi J b4 hS hR;have c0:i=n:=by omega
  subst c0;refine Zk F.entry_set_update_loop ?_;rw[Around.under_plainId F.plain_set_update_loop _];show wpAny _ A.in1 (pyNext (.ref I) >>= _) _ _ s;refine Qq (W.done s _ _ J λs' U=>?_);show wpAny _ A.in1 (ret Value.none) _ _ s';refine Qj (hR s' (U.mono O) (a1 J U ?_));rw[<- hn,Qxe]at hS;exact hS
 |succ k ih=>
  intro i s hk hi J b4 hS hR;have a6:i<n:=by omega
  refine Zk F.entry_set_update_loop ?_;rw[Around.under_plainId F.plain_set_update_loop _];show wpAny _ A.in1 (pyNext (.ref I) >>= _) _ _ s;refine Qq (W.item i s _ _ a6 J λv s' hP a4 U=>?_);obtain⟨b,rfl⟩:=a3 i v hP;have Y:Kp s':=a8 s s' b4 λZ o j ho=>U.heap Z o (λhw=>a2 Z hw s i J j) ho;obtain⟨key,a9,j⟩:=b9 s' i b Y hP;have b3:=a1 J U hS;show wpAny _ A.in1 (holding [Value.ref b] (setAdd S (.ref b)) >>= _) _ _ s';refine Qq (Q4 ?_);unfold setAdd;refine Q4 ?_;refine Qq (wpAny_pyHash_tuple hu j ?_);have a7:((ks.take i).foldl addK []).length<=15:=by
   have:=foldK_le (ks.take i) [];rw[Qzb]at this;simp at this;omega
  have b8:(ks.take (i+1)).foldl addK []=addK ((ks.take i).foldl addK []) key:=by
   rw[List.take_succ,a9,List.foldl_append]; rfl
  refine add_ok (s:={ s' with toks:=s'.toks+(key.length+1) }) hu b3 j a7 λ_ h' a0 c4=>?_;have c3:TS prog w h' S ((ks.take (i+1)).foldl addK []):=by rw[b8]; exact c4
  have b6:∀{Z:Addr},(∃k,IsTupleKey (intKind prog w) s'.heap k Z)->Z≠S:=λ{Z} ⟨k',q⟩ z=>by
   obtain⟨o,es,ep,t,ho,_,hd,_⟩:=b3;obtain⟨o',b7,m,M,_,b0,_⟩:=q;rw[z]at M;obtain rfl:o'=o:=Option.some.inj (M.symm.trans ho);rw[hd]at b0; exact nomatch b0
  refine Qj ⟨plainId_quiet F.plain_set_update_loop _,ih (i+1) _ (by omega) a6 (W.frame _ s' _ _ a4 (Qjo _ _) λb j o e=>?_) (a8 s' _ Y λZ o c1 M=>(a0.2 Z (b6 c1)).trans M) c3 λb5 a5 b2=>?_⟩
  ·rw[a0.2 b (λh:b=S=>b1 (by rw[<- h]; exact j))]; exact e
  ·refine hR b5 (Moved.trans W.gtrans ((U.mono O).then_heap (Qjo _ _) λb o j e=>?_) a5) b2;rw[a0.2 b (λh:b=S=>j (by rw[h]; exact Qql))]; exact e
end
end ST
end
section
namespace ST
open PySem SetTable
theorem qem:isSubtype (.type "tuple") (.type "set")=pure false:=by rw[isSubtype_type]; kernel_rfl
theorem qwm:isSubtype (.type "tuple") (.type "frozenset")=pure false:=by rw[isSubtype_type]; kernel_rfl
noncomputable abbrev bare(led:Bool):Obj:={ cls:=.type "set",dict:=none,data:=.set #[] 0 (.fresh 0 0 led) }
def Cells(prog:Program)(w:Qk)(h:Heap)(items:Array Value)(ks:List (List Int)):Prop:=∀(i:Nat) (v:Value),items[i]?=some v->∃b k,v=.ref b/\ks[i]?=some k/\IsTupleKey (intKind prog w) h k b
section
variable {prog:Program}{w:Qk}{E:Value->Qz->Prop}
theorem qfr{B:Qw}{j:Heap}{led:Bool}{l:Addr}{items:Array Value}{ks:List (List Int)}{s:Qz}{Z:Fin->Qz->Prop}(calm:B.handled=none)(room:B.units+4<cLine)(tup:j.IsTuple l items)(F:Cells prog w j items ks)
  (n1:ks.length=items.size) (n2:items.size<=16) (hs:s.heap=j.push (bare led))
  (done:∀h1 k1,TS prog w h1 j.objs.size (distinct ks)->(∀b o,b<j.objs.size->j.get? b=some o->h1.get? b=some o)->Z (.done (.ret .none)) { s with heap:=h1,toks:=k1 }) :
  wpAny (model prog w) B (Zz.«set.__init__» ⟨[.ref j.objs.size,.ref l],[]⟩) Z E s:=by
 obtain⟨hp,gs,dr,tk,os⟩:=s;dsimp only at hs done;subst hs;obtain⟨⟨tc,td,b0,b1⟩,t1,t2,nl,t3⟩:=id tup;dsimp only at t2 t3;subst t2 t3;have a4:(j.push (bare led)).get? j.objs.size=some (bare led):=Qqg _ rfl;have a8:=Qqz (bare led) t1;have a1:=qem;have a2:=qwm;have a3:(Value.type "tuple" == Value.type "dict")=false:=by decide
 have b3:Shared.TypeIs ⟨j.push (bare led),gs,dr,tk,os⟩ (.ref j.objs.size) "set":=⟨_,a4,rfl⟩
 have L:(j.push (bare led)).IsTuple l items:=⟨_,a8,rfl,nl,rfl⟩
 unfold Zz.«set.__init__» noKeywords Builtin.Frozenset.updateFrom;generalize ei:pyIter=a9
 wp_walk
 subst ei;refine wpAny_pyIter_tuple L (Qq (wpAny_runValue ?_));have a0:l<j.objs.size:=Qqb t1;have sz:(j.push (bare led)).objs.size=j.objs.size+1:=Qxz ..;have nI:l≠(j.push (bare led)).objs.size:=by rw[sz]; exact Qq6 (Qxo a0)
 have nS:j.objs.size ∉ [(j.push (bare led)).objs.size,l]:=by
  rw[sz];simp only[Qqv,Qzv,or_false,not_or];exact⟨Qq6 (Qzo _),Qxh a0⟩
 refine qi9 (by show B.units+1<cLine; omega) ((Walks.tuple (by simp[calm]) _ l nI items).toS) j.objs.size nS ?J ks n1 n2 (λi v hv=>?isRef)
  (λz=>∀(i:Nat) (b:Addr),items[i]?=some (.ref b)->∃k,ks[i]?=some k/\IsTupleKey (intKind prog w) z.heap k b) (λz i b q hp=>q i b hp) ?stay items.size 0 _ rfl (Qz1 _) ⟨⟨_,Qqg _ rfl,rfl,rfl⟩,?U⟩ ?keys ?empty ?fin
 case isRef=>obtain⟨b,_,e,_⟩:=F i v hv; exact⟨b,e⟩
 case U=>obtain⟨ob,e1,e2⟩:=L; exact⟨ob,Qqz _ e1,e2⟩
 case J=>
  rintro b M z i ⟨⟨ob,u1,_,u3⟩,_⟩ ⟨_,Y,_,_,O,_,v3,_⟩;rw[Qqa.mp M,u1]at O;cases O;rw[u3]at v3;cases v3
 case stay=>
  intro z1 z2 q keep i b M;obtain⟨k,e,y⟩:=q i b M;obtain⟨Y,it,m,O,r⟩:=id y;exact⟨k,e,Y,it,m,keep b Y ⟨k,y⟩ O,r⟩
 case keys=>
  intro i b M;obtain⟨b',k,e,ek,Y,it,m,O,r⟩:=F i _ M;cases e;exact⟨k,ek,Y,it,m,Qqz _ (Qqz _ O),r⟩
 case empty=>exact⟨_,#[],0,_,Qqz _ a4,⟨rfl,rfl,rfl⟩,rfl,qf1 led,λi e he=>by simp at he,rfl,λk=>by simp,λ_=>by simp⟩
 case fin=>
  intro z mv q;obtain⟨h1,b4,dr',a5,b2⟩:=z;obtain⟨m1,rfl,rfl,rfl,_⟩:=mv;refine Qj (Qj (done h1 a5 q λb o M e=>m1 b o ?_ (Qqz _ (Qqz _ e))));have a7:b≠j.objs.size:=Qq6 M;have a6:b≠(j.push (bare led)).objs.size:=by rw[sz]; exact Qq6 (Qxo M)
  simp only[Qqv,Qzv,or_false,not_or];exact⟨a7,a6⟩
end
end ST
end
section
namespace ST
open PySem SetTable
section
variable {prog:Program}{w:Qk}{A:Qw}{E:Value->Qz->Prop}{s:Qz}
theorem TS.size{h:Heap}{a:Addr}{S:List (List Int)}(x:TS prog w h a S)(J:S.length<=16):∃o es q t,h.get? a=some o/\o.ExactSet/\o.data=.set es q t/\t.fits es.size=true/\(es.size:Int)<2 ^ 63/\es.size=S.length:=by
 obtain⟨o,es,q,t,F,j,hd,I,_,z,_⟩:=x;exact⟨o,es,q,t,F,j,hd,I.fits,by omega,z⟩
theorem set_call{l:Addr}{items:Array Value}{ks:List (List Int)}{Q:Value->Qz->Prop}(calm:A.handled=none)(room:A.units+12<cLine)(tup:s.heap.IsTuple l items)(U:Cells prog w s.heap items ks)(n1:ks.length=items.size)(n2:items.size<=16)
  (k:∀h1 O,TS prog w h1 s.heap.objs.size (distinct ks)->(∀b o,b<s.heap.objs.size->s.heap.get? b=some o->h1.get? b=some o)->Q (.ref s.heap.objs.size) { s with heap:=h1,toks:=O }) :
  wpAny (model prog w) A (call (.type "set") [.ref l]) Q E s:=by
 have M:=F.called_set;obtain⟨_,_,f1⟩:=M.mro;have f2:=M.made;have f3:=M.sub;have f4:=M.notType;have f5:=M.canCreate;have f6:=F.typeCall_set_1 (.ref l);refine wpAny_call (codeAny_of_tree (show wpAny _ _ (callAny (.type "set") _) _ _ _ from Qj ⟨Code.quiet_builtin _ (by decide +kernel),Zk F.entry_type_call ?_⟩));rw[Around.under_plain (weight_type_call_type "set" [.ref l] []) rfl]
 repeat (any_goals (first|assumption|wp_step))
 refine Q8 (code_set_new_1 (.ref l) (E:=E) (Q₁:=λob z=>∃J,ob=.ref s.heap.objs.size/\z={ s with heap:=s.heap.push (bare J) }) λJ=>⟨J,rfl,rfl⟩) λr z L=>?_
 match r,L with
 |.error _,L=>exact L
 |.ok .next,L=>exact L.elim
 |.ok .brk,L=>exact L.elim
 |.ok .cont,L=>exact L.elim
 |.ok (.ret ob),L=>
  obtain⟨J,rfl,rfl⟩:=L;have Y:Shared.TypeIs { s with heap:=s.heap.push (bare J) } (.ref s.heap.objs.size) "set":=⟨_,Qqg _ rfl,rfl⟩
  have f7:=M.init.lookup;have f8:=M.init.bind (.ref s.heap.objs.size)
  repeat (any_goals (first|assumption|wp_step))
  refine Q8 (codeAny_call_builtin (R:=wants (λr z=>r=.none/\∃h1 O,z={ s with heap:=h1,toks:=O }/\TS prog w h1 s.heap.objs.size (distinct ks)/\∀b o,b<s.heap.objs.size->s.heap.get? b=some o->h1.get? b=some o) E) M.init.plain F.entry_set_init (check_set_init_1 Y ?_)) λZ z2 j=>?_
  ·exact qfr (led:=J) (by simp[calm]) (by show A.units+1+1+4<cLine; omega) tup U n1 n2 rfl λh1 O q keep=>⟨rfl,h1,O,rfl,q,keep⟩
  ·match Z,j with
   |.error _,j=>exact j
   |.ok .next,j=>exact j.elim
   |.ok .brk,j=>exact j.elim
   |.ok .cont,j=>exact j.elim
   |.ok (.ret _),j=>
    obtain⟨rfl,h1,O,rfl,q,keep⟩:=j
    repeat (any_goals (first|assumption|wp_step))
    exact k h1 O q keep
end
end ST
end
section
namespace MS
open PySem PySem.Spec PyProof.Rows L2
noncomputable def setO(a:Addr)(n:Nat):HO:=.ext λh=>∃o es ep t,h.get? a=some o/\o.ExactSet/\o.data=.set es ep t/\t.fits es.size=true/\(es.size:Int)<2 ^ 63/\es.size=n
def qmj(K:Qqq)(H:Hp):List V->List (List Int)->Prop:=Paired λy k=>∃q,y=.ref q/\SqT K H q (k.map V.int)
theorem items_int{prog:Program}{w:Qk}:∀{k:List Int}{j:List Value},Vals (k.map V.int) j->ItemsAre (intKind prog w) k j
 |[],_,h=>by cases h; exact .nil
 |i::k,_,h=>by
  cases h with
  |cons r t=>
   obtain⟨q,rfl⟩:=r;exact .cons (intKind_is _ _ _ _) (items_int t)
section
variable {X:Cx}
theorem qhr{j:List (Addr×Obj)}{F:L2.St}{H:Hp}{s:Qz}(I:Inv X j F H s){q:Addr}{k:List Int}(h:SqT X.K H q (k.map V.int)):IsTupleKey (intKind X.prog X.w) s.heap k q:=by
 obtain⟨z,r,⟨o,J,L,n,hd⟩,_⟩:=I.tuple h;exact⟨o,z.toArray,n,J,L,hd,items_int r⟩
theorem qac{j:List (Addr×Obj)}{F:L2.St}{H:Hp}{s:Qz}(I:Inv X j F H s):∀{ys:List V}{ks:List (List Int)}{z:List Value},qmj X.K H ys ks->Vals ys z->
  ∀(i:Nat) (v:Value),z[i]?=some v->∃b k,v=.ref b/\ks[i]?=some k/\IsTupleKey (intKind X.prog X.w) s.heap k b
 |_,_,_,.nil,r,i,v,e=>by cases r; simp at e
 |_,_,_,.cons (a:=y) (b:=k) h t,r,i,v,e=>by
  cases r with
  |cons L J=>
   obtain⟨q,rfl,M⟩:=h
   cases i with
   |zero=>
    simp at e;subst e;cases L;exact⟨q,k,rfl,rfl,qhr I M⟩
   |succ i=>
    simp only[Qjt]at e ⊢;exact qac I t J i v e
theorem qd1(calm:X.A.handled=none)(room:X.A.units+64<cLine):CallR X (.type "set") (λxs H Q=>∃p ys ks,xs=[.ref p]/\SqT X.K H p ys/\qmj X.K H ys ks/\ys.length<=16/\∀l,H l=none->Q (.ref l) (upd H l (setO l (ST.distinct ks).length))):=by
 intro pins s σ H xs us Q I r h;obtain⟨p,ys,ks,rfl,hq,O,hl,q⟩:=h;obtain⟨u,rfl,Z⟩:=vals1 r;cases Z;obtain⟨j,r',⟨o,ho,z,n,hd⟩,hz⟩:=I.tuple hq;have l1:=r'.length;have l2:ys.length=ks.length:=Paired.length O;refine ST.set_call (items:=j.toArray) (ks:=ks) calm (by omega) ⟨o,ho,z,n,hd⟩ (λi v e=>qac I O r' i v (by simpa using e)) (by simp; omega) (by simp; omega) λh1 k1 T keep=>?_;have le:=ST.foldK_le ks []
 obtain⟨M,es,ep,t,U,a2,a3,a4,a5,a6⟩:=T.size (by
  show(ks.foldl ST.addK []).length<=16
  simp at le; omega)
 refine⟨.ref s.heap.objs.size,_,I.laid (t':=k1) (λb o e=>keep b o (Qqb e) e) (Qqk _) ?_,rfl,q _ (I.hok.fresh (Qqk _))⟩;exact⟨⟨M,es,ep,t,U,a2,a3,a4,a5,a6⟩,⟨M,U⟩,λh2 h3 ⟨L,F,J,Y,b1,b2⟩ kp=>⟨L,F,J,Y,kp L b1,b2⟩⟩
theorem qd4:CallR X (.builtin "len") (λxs H Q=>∃p n,xs=[.ref p]/\H p=some (setO p n)/\Q (.int n) H):=by
 intro pins s σ H xs Y Q I r h;obtain⟨p,n,rfl,z,q⟩:=h;obtain⟨u,rfl,j⟩:=vals1 r;cases j;obtain⟨⟨o,es,Z,t,U,O,M,L,J,F⟩,_⟩:=(show ObjOk X.prog X.w H s.heap p (setO p n) from I.hok p _ z)
 refine call_len_set U O M L J ?_;exact⟨.int n,H,I.kept (t':=s.toks+1+1) (λb o e=>e),⟨_,by rw[F]⟩,q⟩
end
end MS
end
section
namespace MS
open PySem PySem.Spec PyProof.Rows L2
open M (D Store)
section
variable {X:Cx}
theorem qy4{K:Qqq}{m:List Addr}{H:Hp}:∀{ds:List D}{xs:List V}{k:List Int},IsDs K m H ds xs->(ds.mapM λd=>match d with|.int i=>some i|_=>none)=some k->xs=k.map V.int
 |[],xs,k,h,e=>by
  simp at e;subst e;exact Qzr.mp h.length.symm
 |d::ds,xs,k,h,e=>by
  rw[Qj6]at e
  cases d with
  |int i=>
   obtain⟨x,r,rfl,h1,h2⟩:=h.cons
   cases j:(ds.mapM λd=>match d with|M.D.int i=>some i|_=>none) with
   |none=>rw[j]at e; cases e
   |some q=>
    rw[j]at e;cases e;rw[h1.int,qy4 h2 j]; rfl
  |_=>cases e
theorem qc9{K:Qqq}{m:List Addr}{H:Hp}:∀{ds:List D}{xs:List V}{ks:List (List Int)},IsDs K m H ds xs->ds.mapM M.keyD=some ks->qmj K H xs ks
 |[],xs,ks,h,e=>by
  simp at e;subst e;rw[Qzr.mp h.length.symm];exact .nil
 |d::ds,xs,ks,h,e=>by
  rw[Qj6]at e
  cases d with
  |tup cs=>
   obtain⟨x,r,rfl,h1,h2⟩:=h.cons
   cases j:M.keyD (.tup cs) with
   |none=>rw[j]at e; cases e
   |some k=>
    cases q:ds.mapM M.keyD with
    |none=>rw[j,q]at e; cases e
    |some F=>
     rw[j,q]at e;cases e;obtain⟨z,ys,rfl,L,J⟩:=h1.tup;refine .cons ⟨z,rfl,?_⟩ (qc9 h2 q);rw[<- qy4 J j]; exact L
  |_=>cases e
end
end MS
end
section
namespace MS
open PySem PySem.Spec PyProof.Rows L2
open M (D Cell Store Sl E S T Src Fn Out R)
theorem qkv{X:Cx}{elt Y F:Qx}{O:List Qx}{j:Scope}{pos L M:Pos}{N:List Str}{src:List (Option Nat)}{wi:TI}{g:TG}{tt:TT}{te:TE}{i:Nat}{x:Str}(hc:X.calm=true)(S:CompScope X N src j)(hi:PI X Y F wi)
  (hg:∀C fp s H,PG (qzh X N j C fp s H) Y g) (ht:∀C fp s H,qef (qzh X N j C fp s H) O tt) (he:∀C fp s H,PE (qzh X N j C fp s H) elt te)
  (hs:∀x,foldedSetIterable F X.env x=pure x) (hN:X.N.Nodup) (hx:X.N[i]?=some x) (hl:Loc X.env.scope x) (hf:X.fn x=true\/X.env.scope.names.lookup x=some .local)
  (a3:swapsWith (.ListComp elt [⟨Y,F,O,0⟩] j M) (some (.Name x L)) pos.line X.env=pure true) :
  PS X (.Assign [.Name x L] (.ListComp elt [⟨Y,F,O,0⟩] j M) pos) (tAsg (qh2 src wi g tt te) (qw3 i)):=by
 intro pins s σ H D I h;rw[exec_Assign_Name_used _ _ _ _ a3];refine Qq (wpAny_standAt (Qq ?_));show wpAny _ X.A (do let _ <- comprehension (.ListComp elt [⟨Y,F,O,0⟩] j M) j X.env _ (newList []) false (eval F X.env) (some (assign (.Name x L) X.env))) _ _ s;refine Qq (Qb (wpAny_comprehension_free (use:=some (assign (.Name x L) X.env)) (Q:=λ_ s'=>SP X pins D .next s') rfl hs (qwy S I) S.kind S.loc (thn (hi pins s σ H _ I h) λv s1 h1=>thn h1 λa8 s2 h2=>?_)) (λ_ s' hq=>Qj (Qj hq)) λ_ _ e=>e);obtain⟨it,fp,tn,J,H2,e,I2,T,a0,f2,W,w0,U⟩:=h2;subst e;refine qkg (Ex:=λ_ _=>NoX) hc I2 T a0 f2 S (λC=>hg C fp s2 H2) (λC=>ht C fp s2 H2) (λ_ C=>he C fp s2 H2) (λ_ _ _ _ _ z=>z.elim) W w0 U ?_;intro Z C s' H' a9 a6 nD I' fC hm;obtain⟨m',hn⟩:=hm;obtain⟨c0,c1,c2,c3,c4,c5⟩:=fC;show wpAny _ X.A (assign (.Name x L) X.env (.ref Z)) _ _ _;refine wpAny_assign_Name (qvd I' hN hx hl (show RelV (.ref Z) (.ref Z) from rfl) (λa2 a7 a4=>?_) hf);obtain⟨a,sb,ha⟩:=a4;have a5:C≠a:=by
  rcases ha with z|z
  ·rw[z]; exact c1
  ·exact λq=>c4 x a z q.symm
 refine⟨m',hn.sameBut sb a5,λh' a1=>?_⟩;exact⟨_,_,a7.turned (t':=a2.toks) (λb o hb e=>(a1.2 b hb).trans e) c0 c1 c3 c4 c5,a6 Z nD⟩
noncomputable def iSeq(K:Qqq)(tl:TE):TI:=λσ H R=>tl σ H λx H1=>(∃a,x=.ref a/\(((∃xs,SqL K H1 a xs)/\R (Itl K a) H1)\/((∃xs,SqT K H1 a xs)/\R (Itt K a) H1)))
theorem pi_seq{X:Cx}{M l:Qx}{tl:TE}(hl:PE X l tl):PI X M l (iSeq X.K tl):=by
 intro pins s σ H R I h;refine thn (hl pins s σ H _ I h) λv j ⟨x,H1,z,U,Y⟩=>?_;obtain⟨a,e,q⟩:=Y;subst e;cases U;rcases q with⟨⟨xs,J⟩,q⟩|⟨⟨xs,J⟩,q⟩
 ·obtain⟨F,O,p,Z⟩:=z.list J;refine Za p.isList ?_;refine⟨j.heap.objs.size,[j.heap.objs.size],_,_,H1,rfl,z.kept (t':=j.toks) λb o e=>Qqz _ e,qbi a _,⟨_,Qqg _ rfl,rfl,rfl⟩,λb L=>?_,q⟩;have e:b=j.heap.objs.size:=by simpa using L
  subst e;exact z.fpOk (Qqk _) (z.hok.fresh (Qqk _))
 ·obtain⟨F,O,p,Z⟩:=z.tuple J;refine wpAny_pyIter_tuple (show j.heap.IsTuple a F.toArray from p) ?_;refine⟨j.heap.objs.size,[j.heap.objs.size],_,_,H1,rfl,z.kept (t':=j.toks) λb o e=>Qqz _ e,qag a _,⟨_,Qqg _ rfl,rfl,rfl⟩,λb L=>?_,q⟩;have e:b=j.heap.objs.size:=by simpa using L
  subst e;exact z.fpOk (Qqk _) (z.hok.fresh (Qqk _))
structure Glo where
 cs:List (Str×D)
 ds:List (Str×List Str×List D)
 /-- a method's place among the functions,its class,its name -/
 ms:List (Nat×Addr×Str)
 /-- the classes -/
 cl:List (Str×Addr)
 /-- attributes of instances -/
 ats:List (Addr×Str)
structure Ctx where
 N:List Str
 sc:Scope
 fns:List Str
 glo:Glo
noncomputable def qey:M.B->String
 |.len=>"len"
 |.min=>"min"
 |.tuple=>"tuple"
 |.list=>"list"
 |.all=>"all"
 |.sorted=>"sorted"
 |.any=>"any"
noncomputable def bOk:M.B->Bool
 |.len=>true
 |.min=>true
 |.tuple=>true
 |.list=>true
 |.all=>true
 |.sorted=>true
 |.any=>true
noncomputable def qz5(scope sc:Scope):Scope:={ scope with names:=scope.names.map λ(n,k)=>if (k==NameKind.free&&sc.kind==.function&&sc.names.lookup n==some .cell) then(n,NameKind.cell) else(n,k) }
noncomputable def tlOk(N:List Str)(sc:Scope)(t:T):Bool:=t.slots.all λi=>match N[i]? with
 |some x=>sc.names.lookup x==some .local
 |none=>false
theorem qkn{N:List Str}{sc:Scope}{t:T}(h:tlOk N sc t=true):∀i∈t.slots,∀x,N[i]?=some x->sc.names.lookup x=some .local:=by
 intro i hi x j;unfold tlOk at h;have:=Qzk.mp h i hi;rw[j]at this;simpa using this
noncomputable def qa0(x:Str):Bool:=!x.cps.toList.contains 46
def qmx(pa:Qx)(m:Str)(apos:Pos)(ps:List Qx)(pos:Pos):Prop:=∀env,∃pl:Sem Bool,eval (.Call (.Attribute pa m apos) ps [] pos) env=(do
 let ov <- eval pa env
 standAt apos.atName
 let (f,first) <- holding [ov] (Zm ov m pl)
 callWith pos f first (backTo pos (starEach ps env)) (backToKw pos (keywordEach [] env)))
def Star(p:Qx):Prop:=∀es env,starEach (p::es) env=(false,eval p env)::starEach es env
inductive CkTys (c:Ctx):List M.Ty->List Qx->Prop
 |nil:CkTys c [] []
 |cons {t ts ps pos} (ht:t≠.non) (hg:c.sc.names.lookup (Str.ofString t.name)=some .globalImplicit) (h:CkTys c ts ps):CkTys c (t::ts) (.Name (Str.ofString t.name) pos::ps)
inductive CkTs (c:Ctx):List Nat->List Qx->Prop
 |nil:CkTs c [] []
 |cons {i x pos is es} (hN:c.N[i]?=some x) (hl:c.sc.names.lookup x=some .local\/c.sc.names.lookup x=some .cell) (h:CkTs c is es):CkTs c (i::is) (.Name x pos::es)
inductive CkT (c:Ctx):T->Qx->Prop
 |tup {is es k pos} (h:CkTs c is es):CkT c (.tup is) (.Tuple es k pos)
 |var {i x pos} (hN:c.N[i]?=some x) (hl:c.sc.names.lookup x=some .local\/c.sc.names.lookup x=some .cell):CkT c (.var i) (.Name x pos)
noncomputable def gcOk:Qx->Bool
 |.Call _ _ _ _=>true
 |.ListComp _ _ _ _=>true
 |.List _ _=>true
 |.BinOp _ _ _ _=>true
 |.Subscript _ _ _=>true
 |_=>false
inductive CkL (R:E->Qx->Prop):List E->List Qx->Prop
 |nil:CkL R [] []
 |cons {e es p ps} (h:R e p) (t:CkL R es ps):CkL R (e::es) (p::ps)
inductive CkP (R:E->Qx->Prop):List E->List (Option Qx)->List Qx->Prop
 |nil:CkP R [] [] []
 |cons {k v es pk pv ks vs} (hk:R k pk) (hv:R v pv) (t:CkP R es ks vs):CkP R (k::v::es) (some pk::ks) (pv::vs)
inductive CkO (R:E->Qx->Prop):Option E->Option Qx->Prop
 |none:CkO R none none
 |some {e p} (h:R e p):CkO R (some e) (some p)
inductive CkI (R:E->Qx->Prop):Ctx->Qx->E->Qx->Prop
 |rng1 {c tg a pa p0 pos} (hg:c.sc.names.lookup ("range" : Str)=some .globalImplicit) (ha:R a pa):CkI R c tg (.rng1 a) (.Call (.Name "range" p0) [pa] [] pos)
 |rng2 {c tg a b pa pb p0 pos} (hg:c.sc.names.lookup ("range" : Str)=some .globalImplicit) (ha:R a pa) (hb:R b pb):CkI R c tg (.rng2 a b) (.Call (.Name "range" p0) [pa,pb] [] pos)
 |zip {c es k tp a b pa pb p0 pos} (hg:c.sc.names.lookup ("zip" : Str)=some .globalImplicit) (ha:R a pa) (hb:R b pb):CkI R c (.Tuple es k tp) (.zip a b) (.Call (.Name "zip" p0) [pa,pb] [] pos)
 |seq {c tg e p} (h:R e p):CkI R c tg e p
inductive CkF (R:Ctx->E->Qx->Prop):Ctx->E->Qx->Prop
 |var {c i x pos} (hN:c.N[i]?=some x) (hv:Vis c.sc x) (hd:(x==("__debug__" : Str))=false) (hcd:(x==("__classdict__" : Str))=false):CkF R c (.var i) (.Name x pos)
 |int {c i j pos}:CkF R c (.lit (.int i)) (.Constant (.int i) j pos)
 |bl {c i j pos}:CkF R c (.lit (.bl i)) (.Constant (.bool i) j pos)
 |non {c j pos}:CkF R c (.lit .non) (.Constant .none j pos)
 |str {c i j pos}:CkF R c (.lit (.str i)) (.Constant (.str i) j pos)
 |glo {c x d pos} (hg:c.sc.names.lookup x=some .globalImplicit) (hm:(x,d)∈c.glo.cs) (hd:(x==("__debug__" : Str))=false):CkF R c (.glo x d) (.Name x pos)
 |bin {c op a b pa pb pos} (ha:R c a pa) (hb:R c b pb):CkF R c (.bin op a b) (.BinOp pa op pb pos)
 |lenset {c a pa p0 p1 pos1 pos} (hg:c.sc.names.lookup ("len" : Str)=some .globalImplicit) (hs:c.sc.names.lookup ("set" : Str)=some .globalImplicit) (ha:R c a pa):CkF R c (.lenset a) (.Call (.Name "len" p0) [.Call (.Name "set" p1) [pa] [] pos1] [] pos)
 |neg {c a pa pos} (ha:R c a pa):CkF R c (.neg a) (.UnaryOp .USub pa pos)
 |not {c a pa pos} (ha:R c a pa):CkF R c (.not a) (.UnaryOp .Not pa pos)
 |cmp {c op a b pa pb pos} (ha:R c a pa) (hb:R c b pb) (hm:Qf op pb=false):CkF R c (.cmp op a b) (.Compare pa [op] [pb] pos)
 |cmp2 {c op op' a b d pa pb pd pos} (ha:R c a pa) (hb:R c b pb) (hd:R c d pd) (hm:lastMarks [op,op'] [pb,pd]=false):CkF R c (.cmp2 op op' a b d) (.Compare pa [op,op'] [pb,pd] pos)
 |and2 {c a b pa pb pos} (ha:R c a pa) (hb:R c b pb):CkF R c (.and a b) (.BoolOp .And [pa,pb] pos)
 |andN {c a b pa pb pd r pos} (ha:R c a pa) (hb:R c b (.BoolOp .And (pb::pd::r) pos)):CkF R c (.and a b) (.BoolOp .And (pa::pb::pd::r) pos)
 |or2 {c a b pa pb pos} (ha:R c a pa) (hb:R c b pb):CkF R c (.or a b) (.BoolOp .Or [pa,pb] pos)
 |orN {c a b pa pb pd r pos} (ha:R c a pa) (hb:R c b (.BoolOp .Or (pb::pd::r) pos)):CkF R c (.or a b) (.BoolOp .Or (pa::pb::pd::r) pos)
 |ite {c q a b pq pa pb pos} (hq:R c q pq) (ha:R c a pa) (hb:R c b pb):CkF R c (.ite q a b) (.IfExp pq pa pb pos)
 |tup {c es ps k pos} (h:CkL (R c) es ps):CkF R c (.tup es) (.Tuple ps k pos)
 |lst {c es ps pos} (h:CkL (R c) es ps):CkF R c (.lst es) (.List ps pos)
 |idx {c a b pa pb pos} (ha:R c a pa) (hb:R c b pb) (hs:qyq pb):CkF R c (.idx a b) (.Subscript pa pb pos)
 |call {c f x es p ps p0 pos} (hg:c.sc.names.lookup x=some .globalImplicit) (hf:c.fns[f]?=some x) (hd:(x==("__debug__" : Str))=false) (hn:qa0 x=true) (h:CkL (R c) es (p::ps)):CkF R c (.call f es) (.Call (.Name x p0) (p::ps) [] pos)
 |bcall {c b es p ps p0 pos} (hg:c.sc.names.lookup (Str.ofString (qey b))=some .globalImplicit) (hb:bOk b=true) (h:CkL (R c) es (p::ps)):CkF R c (.bcall b es) (.Call (.Name (Str.ofString (qey b)) p0) (p::ps) [] pos)
 |isi1 {c t a pa p0 p1 pos} (hg:c.sc.names.lookup ("isinstance" : Str)=some .globalImplicit) (ht:t≠.non) (hgt:c.sc.names.lookup (Str.ofString t.name)=some .globalImplicit) (ha:R c a pa):CkF R c (.isi a [t] false) (.Call (.Name "isinstance" p0) [pa,.Name (Str.ofString t.name) p1] [] pos)
 |isiN {c ts a pa p0 ps k p1 pos} (hl:ts.length<=1000) (hg:c.sc.names.lookup ("isinstance" : Str)=some .globalImplicit) (ht:CkTys c ts ps) (ha:R c a pa):CkF R c (.isi a ts true) (.Call (.Name "isinstance" p0) [pa,.Tuple ps k p1] [] pos)
 |append {c a e pa pe apos cpos} (ha:R c a pa) (he:R c e pe) (hb:∀env,attributeBase pa "append" env (eval pa env)=eval pa env) (hl:(apos.endLine==cpos.line)=true):CkF R c (.meth a .append [e]) (.Call (.Attribute pa "append" apos) [pe] [] cpos)
 |extend {c a e pa pe apos cpos} (ha:R c a pa) (he:R c e pe) (hb:∀env,attributeBase pa "extend" env (eval pa env)=eval pa env) (hl:(apos.endLine==cpos.line)=true):CkF R c (.meth a .extend [e]) (.Call (.Attribute pa "extend" apos) [pe] [] cpos)
 |index {c a e pa pe apos cpos} (ha:R c a pa) (he:R c e pe) (hb:∀env,attributeBase pa "index" env (eval pa env)=eval pa env) (hl:(apos.endLine==cpos.line)=true):CkF R c (.meth a .index [e]) (.Call (.Attribute pa "index" apos) [pe] [] cpos)
 |insert {c a e e' pa pe pe' apos cpos} (ha:R c a pa) (he:R c e pe) (he':R c e' pe') (hb:∀env,attributeBase pa "insert" env (eval pa env)=eval pa env) (hl:(apos.endLine==cpos.line)=true):CkF R c (.meth a .insert [e,e']) (.Call (.Attribute pa "insert" apos) [pe,pe'] [] cpos)
 |gc {c a p} (hp:gcOk p=true) (hg:∀b,a≠.gc b) (ha:R c a p):CkF R c (.gc a) p
 |comp {c t it elt sr tg iter pelt scope pos N} (hk:scope.kind=.function) (hcell:∀y∈scope.names,y.2≠.cell) (hfree:∀y∈scope.names,y.2=.free->c.sc.names.lookup y.1=some .cell\/c.sc.names.lookup y.1=some .free) (hloc:∀y∈scope.names,y.2=.local->scope.names.lookup y.1=some .local) (hlen:sr.length=N.length) (hsrc:∀(j i:Nat),sr[j]?=some (some i)->∃x,N[j]?=some x/\c.N[i]?=some x/\scope.names.lookup x=some .free) (hnd:N.Nodup) (hs:∀env x,foldedSetIterable iter env x=pure x) (hi:CkI (R c) c tg it iter) (ht:CkT ⟨N,qz5 scope c.sc,c.fns,c.glo⟩ t tg) (htl:tlOk N (qz5 scope c.sc) t=true) (he:R ⟨N,qz5 scope c.sc,c.fns,c.glo⟩ elt pelt):CkF R c (.comp t it none elt sr) (.ListComp pelt [⟨tg,iter,[],0⟩] scope pos)
 |compIf {c t it q elt sr tg iter pq pelt scope pos N} (hk:scope.kind=.function) (hcell:∀y∈scope.names,y.2≠.cell) (hfree:∀y∈scope.names,y.2=.free->c.sc.names.lookup y.1=some .cell\/c.sc.names.lookup y.1=some .free) (hloc:∀y∈scope.names,y.2=.local->scope.names.lookup y.1=some .local) (hlen:sr.length=N.length) (hsrc:∀(j i:Nat),sr[j]?=some (some i)->∃x,N[j]?=some x/\c.N[i]?=some x/\scope.names.lookup x=some .free) (hnd:N.Nodup) (hs:∀env x,foldedSetIterable iter env x=pure x) (hi:CkI (R c) c tg it iter) (ht:CkT ⟨N,qz5 scope c.sc,c.fns,c.glo⟩ t tg) (htl:tlOk N (qz5 scope c.sc) t=true) (hq:R ⟨N,qz5 scope c.sc,c.fns,c.glo⟩ q pq) (he:R ⟨N,qz5 scope c.sc,c.fns,c.glo⟩ elt pelt):CkF R c (.comp t it (some q) elt sr) (.ListComp pelt [⟨tg,iter,[pq],0⟩] scope pos)
 |dic0 {c pos}:CkF R c (.dic []) (.Dict [] [] pos)
 |dic {c es k v ks vs pos} (h:CkP (R c) es (k::ks) (v::vs)) (h15:(k::ks).length<=15):CkF R c (.dic es) (.Dict (k::ks) (v::vs) pos)
 |didx {c a b pa pb pos} (ha:R c a pa) (hb:R c b pb) (hs:NoSl pb):CkF R c (.didx a b) (.Subscript pa pb pos)
 |din {c a b pa pb pos} (ha:R c a pa) (hb:R c b pb) (hm:Qf .In pb=false):CkF R c (.din false a b) (.Compare pa [.In] [pb] pos)
 |dnin {c a b pa pb pos} (ha:R c a pa) (hb:R c b pb) (hm:Qf .NotIn pb=false):CkF R c (.din true a b) (.Compare pa [.NotIn] [pb] pos)
 |gidx {c x ks ds b pb p0 pos} (hg:c.sc.names.lookup x=some .globalImplicit) (hm:(x,ks,ds)∈c.glo.ds) (hd:(x==("__debug__" : Str))=false) (hb:R c b pb) (hs:NoSl pb):CkF R c (.gidx x ks ds b) (.Subscript (.Name x p0) pb pos)
 |gin {c x ks ds b pb p0 pos} (hg:c.sc.names.lookup x=some .globalImplicit) (hm:(x,ks,ds)∈c.glo.ds) (hd:(x==("__debug__" : Str))=false) (hb:R c b pb):CkF R c (.gin false x ks b) (.Compare pb [.In] [.Name x p0] pos)
 |gnin {c x ks ds b pb p0 pos} (hg:c.sc.names.lookup x=some .globalImplicit) (hm:(x,ks,ds)∈c.glo.ds) (hd:(x==("__debug__" : Str))=false) (hb:R c b pb):CkF R c (.gin true x ks b) (.Compare pb [.NotIn] [.Name x p0] pos)
 |sli {c a lo hi pa pl ph p2 pos} (ha:R c a pa) (hl:CkO (R c) lo pl) (hh:CkO (R c) hi ph):CkF R c (.sli a lo hi) (.Subscript pa (.Slice pl ph none p2) pos)
 |attr {c C a f pa pos} (ha:R c a pa) (hc:(C,f)∈c.glo.ats) (hb:∀env,attributeBase pa f env (eval pa env)=eval pa env):CkF R c (.attr C a f) (.Attribute pa f pos)
 |mcall {c C f m x cn a es pa ps apos pos} (ha:R c a pa) (hf:c.fns[f]?=some x) (hm:(f,C,m)∈c.glo.ms) (hc:(cn,C)∈c.glo.cl) (h:CkL (R c) es ps) (ht:qmx pa m apos ps pos):CkF R c (.mcall C f m a es) (.Call (.Attribute pa m apos) ps [] pos)
 |new {c C f x cn es p ps p0 pos} (hg:c.sc.names.lookup cn=some .globalImplicit) (hf:c.fns[f]?=some x) (hm:(f,C,("__init__" : Str))∈c.glo.ms) (hc:(cn,C)∈c.glo.cl) (hd:(cn==("__debug__" : Str))=false) (h:CkL (R c) es (p::ps)):CkF R c (.new C f es) (.Call (.Name cn p0) (p::ps) [] pos)
section
variable {R R':E->Qx->Prop}(k:∀{e p},R e p->R' e p)
include k
theorem CkL.mono:∀{es:List E}{ps:List Qx},CkL R es ps->CkL R' es ps
 |_,_,.nil=>.nil
 |_,_,.cons h t=>.cons (k h) (mono t)
theorem CkP.mono:∀{es:List E}{ks:List (Option Qx)}{ps:List Qx},CkP R es ks ps->CkP R' es ks ps
 |_,_,_,.nil=>.nil
 |_,_,_,.cons h h' t=>.cons (k h) (k h') (mono t)
theorem CkO.mono{o:Option E}{p:Option Qx}(h:CkO R o p):CkO R' o p:=by
 cases h with
 |none=>exact .none
 |some h=>exact .some (k h)
theorem CkI.mono{c:Ctx}{F:Qx}{e:E}{p:Qx}(h:CkI R c F e p):CkI R' c F e p:=by
 cases h with
 |rng1 j q=>exact .rng1 j (k q)
 |rng2 j q z=>exact .rng2 j (k q) (k z)
 |zip j q z=>exact .zip j (k q) (k z)
 |seq h=>exact .seq (k h)
end
theorem CkF.mono{R R':Ctx->E->Qx->Prop}(k:∀{c e p},R c e p->R' c e p){c:Ctx}{e:E}{p:Qx}(h:CkF R c e p):CkF R' c e p:=by
 cases h with
 |var hN hv hd a4=>exact .var hN hv hd a4
 |int=>exact .int
 |bl=>exact .bl
 |non=>exact .non
 |str=>exact .str
 |glo z F hd=>exact .glo z F hd
 |bin j q=>exact .bin (k j) (k q)
 |lenset z O j=>exact .lenset z O (k j)
 |neg j=>exact .neg (k j)
 |not j=>exact .not (k j)
 |cmp j q F=>exact .cmp (k j) (k q) F
 |cmp2 j q hd F=>exact .cmp2 (k j) (k q) (k hd) F
 |and2 j q=>exact .and2 (k j) (k q)
 |andN j q=>exact .andN (k j) (k q)
 |or2 j q=>exact .or2 (k j) (k q)
 |orN j q=>exact .orN (k j) (k q)
 |ite hq j q=>exact .ite (k hq) (k j) (k q)
 |tup h=>exact .tup (CkL.mono k h)
 |lst h=>exact .lst (CkL.mono k h)
 |idx j q O=>exact .idx (k j) (k q) O
 |call z hf hd hn h=>exact .call z hf hd hn (CkL.mono k h)
 |bcall z q h=>exact .bcall z q (CkL.mono k h)
 |isi1 z ht a2 j=>exact .isi1 z ht a2 (k j)
 |isiN Z z ht j=>exact .isiN Z z ht (k j)
 |append j he q Z=>exact .append (k j) (k he) q Z
 |extend j he q Z=>exact .extend (k j) (k he) q Z
 |index j he q Z=>exact .index (k j) (k he) q Z
 |insert j he a3 q Z=>exact .insert (k j) (k he) (k a3) q Z
 |gc hp z j=>exact .gc hp z (k j)
 |comp hk L J U Y M a1 O hi ht a0 he=>exact .comp hk L J U Y M a1 O (CkI.mono k hi) ht a0 (k he)
 |compIf hk L J U Y M a1 O hi ht a0 hq he=>exact .compIf hk L J U Y M a1 O (CkI.mono k hi) ht a0 (k hq) (k he)
 |dic0=>exact .dic0
 |dic h a5=>exact .dic (CkP.mono k h) a5
 |didx j q O=>exact .didx (k j) (k q) O
 |din j q F=>exact .din (k j) (k q) F
 |dnin j q F=>exact .dnin (k j) (k q) F
 |gidx z F hd q O=>exact .gidx z F hd (k q) O
 |gin z F hd q=>exact .gin z F hd (k q)
 |gnin z F hd q=>exact .gnin z F hd (k q)
 |sli j Z hh=>exact .sli (k j) (CkO.mono k Z) (CkO.mono k hh)
 |attr j hc q=>exact .attr (k j) hc q
 |mcall j hf F hc h ht=>exact .mcall (k j) hf F hc (CkL.mono k h) ht
 |new z hf F hc hd h=>exact .new z hf F hc hd (CkL.mono k h)
def CkE(c:Ctx)(e:E)(p:Qx):Prop:=∀R:Ctx->E->Qx->Prop,(∀c e p,CkF R c e p->R c e p)->R c e p
theorem CkE.mk{c:Ctx}{e:E}{p:Qx}(h:CkF CkE c e p):CkE c e p:=λR k=>k c e p (h.mono λq=>q R k)
theorem CkE.out{c:Ctx}{e:E}{p:Qx}(h:CkE c e p):CkF CkE c e p:=h (CkF CkE) λ_ _ _ q=>q.mono CkE.mk
noncomputable abbrev CkEs(c:Ctx):=CkL (CkE c)
theorem CkE.v{c i x pos}(z:c.N[i]?=some x:=by rfl)(q:Vis c.sc x:=by exact .inl rfl)(hd:(x==("__debug__" : Str))=false:=by rfl)(j:(x==("__classdict__" : Str))=false:=by rfl):CkE c (.var i) (.Name x pos):=.mk (.var z q hd j)
theorem CkE.var{c i x pos}(z:c.N[i]?=some x)(q:Vis c.sc x)(hd:(x==("__debug__" : Str))=false)(j:(x==("__classdict__" : Str))=false):CkE c (.var i) (.Name x pos):=.mk (.var z q hd j)
theorem CkE.int{c i j pos}:CkE c (.lit (.int i)) (.Constant (.int i) j pos):=.mk (.int)
theorem CkE.bl{c i j pos}:CkE c (.lit (.bl i)) (.Constant (.bool i) j pos):=.mk (.bl)
theorem CkE.non{c j pos}:CkE c (.lit .non) (.Constant .none j pos):=.mk (.non)
theorem CkE.str{c i j pos}:CkE c (.lit (.str i)) (.Constant (.str i) j pos):=.mk (.str)
theorem CkE.glo{c x d pos}(q:c.sc.names.lookup x=some .globalImplicit)(j:(x,d)∈c.glo.cs)(hd:(x==("__debug__" : Str))=false):CkE c (.glo x d) (.Name x pos):=.mk (.glo q j hd)
theorem CkE.bin{c op a b q j pos}(F:CkE c a q)(z:CkE c b j):CkE c (.bin op a b) (.BinOp q op j pos):=.mk (.bin F z)
theorem CkE.lenset{c a q p0 p1 j pos}(F:c.sc.names.lookup ("len" : Str)=some .globalImplicit)(z:c.sc.names.lookup ("set" : Str)=some .globalImplicit)(J:CkE c a q):CkE c (.lenset a) (.Call (.Name "len" p0) [.Call (.Name "set" p1) [q] [] j] [] pos):=.mk (.lenset F z J)
theorem CkE.neg{c a j pos}(q:CkE c a j):CkE c (.neg a) (.UnaryOp .USub j pos):=.mk (.neg q)
theorem CkE.not{c a j pos}(q:CkE c a j):CkE c (.not a) (.UnaryOp .Not j pos):=.mk (.not q)
theorem CkE.cmp{c op a b q j pos}(J:CkE c a q)(F:CkE c b j)(z:Qf op j=false:=by rfl):CkE c (.cmp op a b) (.Compare q [op] [j] pos):=.mk (.cmp J F z)
theorem CkE.cmp2{c op j a b d F z q pos}(M:CkE c a F)(L:CkE c b z)(hd:CkE c d q)(J:lastMarks [op,j] [z,q]=false):CkE c (.cmp2 op j a b d) (.Compare F [op,j] [z,q] pos):=.mk (.cmp2 M L hd J)
theorem CkE.and2{c a b q j pos}(F:CkE c a q)(z:CkE c b j):CkE c (.and a b) (.BoolOp .And [q,j] pos):=.mk (.and2 F z)
theorem CkE.andN{c a b z q j r pos}(J:CkE c a z)(F:CkE c b (.BoolOp .And (q::j::r) pos)):CkE c (.and a b) (.BoolOp .And (z::q::j::r) pos):=.mk (.andN J F)
theorem CkE.or2{c a b q j pos}(F:CkE c a q)(z:CkE c b j):CkE c (.or a b) (.BoolOp .Or [q,j] pos):=.mk (.or2 F z)
theorem CkE.orN{c a b z q j r pos}(J:CkE c a z)(F:CkE c b (.BoolOp .Or (q::j::r) pos)):CkE c (.or a b) (.BoolOp .Or (z::q::j::r) pos):=.mk (.orN J F)
theorem CkE.ite{c q a b j F z pos}(J:CkE c q j)(M:CkE c a F)(L:CkE c b z):CkE c (.ite q a b) (.IfExp j F z pos):=.mk (.ite J M L)
theorem CkE.tup{c es ps k pos}(h:CkL (CkE c) es ps):CkE c (.tup es) (.Tuple ps k pos):=.mk (.tup h)
theorem CkE.lst{c es ps pos}(h:CkL (CkE c) es ps):CkE c (.lst es) (.List ps pos):=.mk (.lst h)
theorem CkE.idx{c a b j pb pos}(F:CkE c a j)(z:CkE c b pb)(q:qyq pb:=by exact λ_ _=>rfl):CkE c (.idx a b) (.Subscript j pb pos):=.mk (.idx F z q)
theorem CkE.call{c f x es p ps p0 pos}(h:CkL (CkE c) es (p::ps))(q:c.sc.names.lookup x=some .globalImplicit:=by rfl)(z:c.fns[f]?=some x:=by rfl)(hd:(x==("__debug__" : Str))=false:=by rfl)(j:qa0 x=true:=by rfl):CkE c (.call f es) (.Call (.Name x p0) (p::ps) [] pos):=.mk (.call q z hd j h)
theorem CkE.bcall{c b es p ps p0 pos}(h:CkL (CkE c) es (p::ps))(j:c.sc.names.lookup (Str.ofString (qey b))=some .globalImplicit:=by rfl)(q:bOk b=true:=by rfl):CkE c (.bcall b es) (.Call (.Name (Str.ofString (qey b)) p0) (p::ps) [] pos):=.mk (.bcall j q h)
theorem CkE.isi1{c t a q p0 p1 pos}(J:CkE c a q)(F:c.sc.names.lookup ("isinstance" : Str)=some .globalImplicit:=by rfl)(z:t≠.non:=by decide)(j:c.sc.names.lookup (Str.ofString t.name)=some .globalImplicit:=by rfl):CkE c (.isi a [t] false) (.Call (.Name "isinstance" p0) [q,.Name (Str.ofString t.name) p1] [] pos):=.mk (.isi1 F z j J)
theorem CkE.isiN{c j a q p0 ps k p1 pos}(F:j.length<=1000)(J:c.sc.names.lookup ("isinstance" : Str)=some .globalImplicit)(z:CkTys c j ps)(L:CkE c a q):CkE c (.isi a j true) (.Call (.Name "isinstance" p0) [q,.Tuple ps k p1] [] pos):=.mk (.isiN F J z L)
theorem CkE.append{c a e j q apos cpos}(L:CkE c a j)(F:CkE c e q)(J:∀env,attributeBase j "append" env (eval j env)=eval j env:=by exact λ_=>rfl)(z:(apos.endLine==cpos.line)=true:=by rfl):CkE c (.meth a .append [e]) (.Call (.Attribute j "append" apos) [q] [] cpos):=.mk (.append L F J z)
theorem CkE.extend{c a e j q apos cpos}(L:CkE c a j)(F:CkE c e q)(J:∀env,attributeBase j "extend" env (eval j env)=eval j env:=by exact λ_=>rfl)(z:(apos.endLine==cpos.line)=true:=by rfl):CkE c (.meth a .extend [e]) (.Call (.Attribute j "extend" apos) [q] [] cpos):=.mk (.extend L F J z)
theorem CkE.index{c a e j q apos cpos}(L:CkE c a j)(F:CkE c e q)(J:∀env,attributeBase j "index" env (eval j env)=eval j env)(z:(apos.endLine==cpos.line)=true):CkE c (.meth a .index [e]) (.Call (.Attribute j "index" apos) [q] [] cpos):=.mk (.index L F J z)
theorem CkE.gc{c a p}(F:CkE c a p)(j:gcOk p=true:=by rfl)(q:∀b,a≠.gc b:=by exact λ_ z=>nomatch z):CkE c (.gc a) p:=.mk (.gc j q F)
theorem CkE.comp{c t it elt sr tg iter q scope pos N}(hi:CkI (CkE c) c tg it iter)(Y:CkT ⟨N,qz5 scope c.sc,c.fns,c.glo⟩ t tg)(he:CkE ⟨N,qz5 scope c.sc,c.fns,c.glo⟩ elt q)(hk:scope.kind=.function:=by rfl)(F:∀y∈scope.names,y.2≠.cell:=by decide +kernel)(z:∀y∈scope.names,y.2=.free->c.sc.names.lookup y.1=some .cell\/c.sc.names.lookup y.1=some .free:=by decide +kernel)(L:∀y∈scope.names,y.2=.local->scope.names.lookup y.1=some .local:=by decide +kernel)(M:sr.length=N.length:=by rfl)(J:∀(j i:Nat),sr[j]?=some (some i)->∃x,N[j]?=some x/\c.N[i]?=some x/\scope.names.lookup x=some .free:=by exact qgl (by decide +kernel))(U:N.Nodup:=by decide +kernel)(Z:∀env x,foldedSetIterable iter env x=pure x:=by exact λ_ _=>rfl)(O:tlOk N (qz5 scope c.sc) t=true:=by decide +kernel):CkE c (.comp t it none elt sr) (.ListComp q [⟨tg,iter,[],0⟩] scope pos):=.mk (.comp hk F z L M J U Z hi Y O he)
theorem CkE.compIf{c t it q elt sr tg iter Z z scope pos N}(hi:CkI (CkE c) c tg it iter)(ht:CkT ⟨N,qz5 scope c.sc,c.fns,c.glo⟩ t tg)(hq:CkE ⟨N,qz5 scope c.sc,c.fns,c.glo⟩ q Z)(he:CkE ⟨N,qz5 scope c.sc,c.fns,c.glo⟩ elt z)(hk:scope.kind=.function:=by rfl)(J:∀y∈scope.names,y.2≠.cell:=by decide +kernel)(F:∀y∈scope.names,y.2=.free->c.sc.names.lookup y.1=some .cell\/c.sc.names.lookup y.1=some .free:=by decide +kernel)(M:∀y∈scope.names,y.2=.local->scope.names.lookup y.1=some .local:=by decide +kernel)(O:sr.length=N.length:=by rfl)(L:∀(j i:Nat),sr[j]?=some (some i)->∃x,N[j]?=some x/\c.N[i]?=some x/\scope.names.lookup x=some .free:=by exact qgl (by decide +kernel))(Y:N.Nodup:=by decide +kernel)(hs:∀env x,foldedSetIterable iter env x=pure x:=by exact λ_ _=>rfl)(U:tlOk N (qz5 scope c.sc) t=true:=by decide +kernel):CkE c (.comp t it (some q) elt sr) (.ListComp z [⟨tg,iter,[Z],0⟩] scope pos):=.mk (.compIf hk J F M O L Y hs hi ht U hq he)
theorem CkE.dic0{c pos}:CkE c (.dic []) (.Dict [] [] pos):=.mk (.dic0)
theorem CkE.dic{c es k v ks vs pos}(h:CkP (CkE c) es (k::ks) (v::vs))(j:(k::ks).length<=15):CkE c (.dic es) (.Dict (k::ks) (v::vs) pos):=.mk (.dic h j)
theorem CkE.didx{c a b q j pos}(J:CkE c a q)(F:CkE c b j)(z:NoSl j):CkE c (.didx a b) (.Subscript q j pos):=.mk (.didx J F z)
theorem CkE.din{c a b q j pos}(J:CkE c a q)(F:CkE c b j)(z:Qf .In j=false):CkE c (.din false a b) (.Compare q [.In] [j] pos):=.mk (.din J F z)
theorem CkE.dnin{c a b q j pos}(J:CkE c a q)(F:CkE c b j)(z:Qf .NotIn j=false):CkE c (.din true a b) (.Compare q [.NotIn] [j] pos):=.mk (.dnin J F z)
theorem CkE.gidx{c x ks ds b j p0 pos}(F:c.sc.names.lookup x=some .globalImplicit)(z:(x,ks,ds)∈c.glo.ds)(hd:(x==("__debug__" : Str))=false)(J:CkE c b j)(q:NoSl j):CkE c (.gidx x ks ds b) (.Subscript (.Name x p0) j pos):=.mk (.gidx F z hd J q)
theorem CkE.gin{c x ks ds b j p0 pos}(z:c.sc.names.lookup x=some .globalImplicit)(q:(x,ks,ds)∈c.glo.ds)(hd:(x==("__debug__" : Str))=false)(F:CkE c b j):CkE c (.gin false x ks b) (.Compare j [.In] [.Name x p0] pos):=.mk (.gin z q hd F)
theorem CkE.gnin{c x ks ds b j p0 pos}(z:c.sc.names.lookup x=some .globalImplicit)(q:(x,ks,ds)∈c.glo.ds)(hd:(x==("__debug__" : Str))=false)(F:CkE c b j):CkE c (.gin true x ks b) (.Compare j [.NotIn] [.Name x p0] pos):=.mk (.gnin z q hd F)
theorem CkE.sli{c a lo hi q pl j p2 pos}(J:CkE c a q)(z:CkO (CkE c) lo pl)(F:CkO (CkE c) hi j):CkE c (.sli a lo hi) (.Subscript q (.Slice pl j none p2) pos):=.mk (.sli J z F)
theorem CkE.attr{c C a f j pos}(F:CkE c a j)(q:(C,f)∈c.glo.ats:=by decide +kernel)(z:∀env,attributeBase j f env (eval j env)=eval j env:=by exact λ_=>rfl):CkE c (.attr C a f) (.Attribute j f pos):=.mk (.attr F q z)
theorem CkE.mcall{c C f m x M a es j ps apos pos}(L:CkE c a j)(h:CkL (CkE c) es ps)(F:c.fns[f]?=some x)(z:(f,C,m)∈c.glo.ms)(J:(M,C)∈c.glo.cl)(q:qmx j m apos ps pos:=by exact λ_=>⟨_,rfl⟩):CkE c (.mcall C f m a es) (.Call (.Attribute j m apos) ps [] pos):=.mk (.mcall L F z J h q)
theorem CkE.new{c C f x j es p ps p0 pos}(h:CkL (CkE c) es (p::ps))(F:c.fns[f]?=some x)(q:(f,C,("__init__" : Str))∈c.glo.ms)(J:(j,C)∈c.glo.cl)(z:c.sc.names.lookup j=some .globalImplicit:=by rfl)(hd:(j==("__debug__" : Str))=false:=by rfl):CkE c (.new C f es) (.Call (.Name j p0) (p::ps) [] pos):=.mk (.new z F q J hd h)
mutual
inductive CkS:Ctx->S->Stmt->Prop
 |set {c i e x p pos pos'} (hN:c.N[i]?=some x) (hl:c.sc.names.lookup x=some .local\/c.sc.names.lookup x=some .cell) (h:CkE c e p) (hs:∀env,swapsWith p (some (.Name x pos')) pos.line env=pure false):CkS c (.set (.var i) e) (.Assign [.Name x pos'] p pos)
 |setC {c i e x p pos pos'} (hN:c.N[i]?=some x) (hl:c.sc.names.lookup x=some .local\/c.sc.names.lookup x=some .cell) (h:CkE c e p) (hc:∃elt gs sc q,p=.ListComp elt gs sc q) (hs:∀env:Env,env.scope=c.sc->(swapsWith p (some (.Name x pos')) pos.line env=pure false\/swapsWith p (some (.Name x pos')) pos.line env=pure true)):CkS c (.set (.var i) e) (.Assign [.Name x pos'] p pos)
 |dset {c a i e pa pi pe tpos pos} (ha:CkE c a pa) (hi:CkE c i pi) (he:CkE c e pe) (hs:∀env,swapsWith pe (some (.Subscript pa pi tpos)) pos.line env=pure false):CkS c (.dset a i e) (.Assign [.Subscript pa pi tpos] pe pos)
 |expr {c e p pos} (h:CkE c e p) (hs:∀env,swapsWith p none pos.line env=pure false):CkS c (.expr e) (.Expr p pos)
 |ret {c e p pos} (h:CkE c e p):CkS c (.ret e) (.Return (some p) pos)
 |ite {c q a b pq pa pb pos} (hq:CkE c q pq) (ha:CkSs c a pa) (hb:CkSs c b pb):CkS c (.ite q a b) (.If pq pa pb pos)
 |forr {c t it body tg iter pb pos} (ht:CkT c t tg) (hi:CkI (CkE c) c tg it iter) (hs:∀env x,foldedSetIterable iter env x=pure x) (hb:CkSs c body pb):CkS c (.forr t it body) (.For tg iter pb [] pos)
 |setA {c C a f e pa pe tpos pos} (ha:CkE c a pa) (he:CkE c e pe) (hc:(C,f)∈c.glo.ats) (hs:∀env,swapsWith pe (some (.Attribute pa f tpos)) pos.line env=pure false):CkS c (.setA C a f e) (.Assign [.Attribute pa f tpos] pe pos)
 |ford {c t a body tg pa pb pos} (ht:CkT c t tg) (ha:CkE c a pa) (hs:∀env x,foldedSetIterable pa env x=pure x) (hb:CkSs c body pb):CkS c (.ford t a body) (.For tg pa pb [] pos)
 |bad {c p}:CkS c .bad p
inductive CkSs:Ctx->List S->List Stmt->Prop
 |nil {c}:CkSs c [] []
 |cons {c s ss p ps} (h:CkS c s p) (t:CkSs c ss ps):CkSs c (s::ss) (p::ps)
 |doc {c ss x j pos pos' ps} (t:CkSs c ss ps):CkSs c ss (.Expr (.Constant (.str x) j pos) pos'::ps)
end
theorem CkS.st{c i e x p pos pos'}(h:CkE c e p)(z:c.N[i]?=some x:=by rfl)(q:c.sc.names.lookup x=some .local\/c.sc.names.lookup x=some .cell:=by exact .inl rfl)(j:∀env,swapsWith p (some (.Name x pos')) pos.line env=pure false:=by exact λ_=>rfl):CkS c (.set (.var i) e) (.Assign [.Name x pos'] p pos):=.set z q h j
theorem CkE.star{c:Ctx}{e:E}{p:Qx}(h:CkE c e p):Star p:=by
 cases h.out with
 |gc j q z=>
  cases p with
  |Call=>exact λ_ _=>rfl
  |ListComp=>exact λ_ _=>rfl
  |List=>exact λ_ _=>rfl
  |BinOp=>exact λ_ _=>rfl
  |Subscript=>exact λ_ _=>rfl
  |_=>cases j
 |_=>exact λ_ _=>rfl
noncomputable def spN(K:Qqq)(fns:List Fn)(n f:Nat):Sp:=λvs H Q _=>∃m st ds d st',Rel K m st H/\IsDs K m H ds vs/\M.callD fns n f ds st=some (d,st')/\Post K m H d st' Q
def Lc(K:Qqq)(mg:Str->Option Value)(glo:Glo)(f:Nat)(x:Str)(fa:Addr):Prop:=(qa0 x=true->mg x=some (.ref fa))/\∀C m,(f,C,m)∈glo.ms->Meth K C m fa
def FTab(P:Program)(w:Qk)(K:Qqq)(mg:Str->Option Value)(base:Heap)(glo:Glo)(fns:List Fn)(names:List Str)(n:Nat):Prop:=∀(f:Nat) (x:Str),names[f]?=some x->∃(fa:Addr) (fd:Qh) (ps:List Str),
 Lc K mg glo f x fa/\FnOk P w K mg base CX0 (2*n) fa fd ps (spN K fns n f)/\Qzy K (.ref fa)=true/\Binds K fd ps []
structure Mo (K:Qqq) (mg:Str->Option Value) (glo:Glo) (prm:Qp):Prop where
 cls:∀cn C,(cn,C)∈glo.cl->mg cn=some (.ref C)/\Cls K C/\PySem.W.makesIn K C=true/\Qzy K (.ref C)=true
 ats:∀C f,(C,f)∈glo.ats->Cls K C/\NoAttr K C f
 gds:∀x ks ds,(x,ks,ds)∈glo.ds->∃a,mg x=some (.ref a)/\FDict prm K a ks ds
 glo:∀x d,(x,d)∈glo.cs->∃u v,mg x=some u/\RelV v u/\∀m H,IsD K m H d v
 len:mg "len" = none
 min:mg "min" = none
 max:mg "max" = none
 tuple:mg "tuple" = none
 list:mg "list" = none
 all:mg "all" = none
 sorted:mg "sorted" = none
 isinstance:mg "isinstance" = none
 range:mg "range" = none
 int:mg "int" = none
 bool:mg "bool" = none
 str:mg "str" = none
 zip:mg "zip" = none
 any:mg "any" = none
 enumerate:mg "enumerate" = none
 reversed:mg "reversed" = none
 sum:mg "sum" = none
 set:mg "set" = none
 dict:mg "dict" = none
structure Good (fns:List Fn) (dl:Nat) (c:Ctx) (X:Cx):Prop where
 room:Room (2*dl+1) X.A
 calm:X.calm=true
 N:X.N=c.N
 sc:X.env.scope=c.sc
 nd:c.N.Nodup
 kind:c.sc.kind=.function
 tab:FTab X.prog X.w X.K X.mg X.base c.glo fns c.fns dl
 mo:Mo X.K X.mg c.glo X.w.params
 xe:X.xe=λ_ _=>False
end MS
end
section
namespace MS
open PySem PySem.Spec PyProof.Rows L2
open M (D Cell Store Sl E S T Src Fn Out R)
theorem qjj{c:Ctx}:∀{es:List E}{ps:List Qx},CkEs c es ps->∀(pos:Pos) (env:Env),(backTo pos (starEach ps env)).any (·.1)=false
 |_,_,.nil,_,_=>rfl
 |_,_,.cons h t,pos,env=>by
  rw[h.star];show(false||(backTo pos (starEach _ env)).any (·.1))=false;rw[qjj t pos env]
  rfl
theorem Good.gl{fns:List Fn}{dl:Nat}{c:Ctx}{X:Cx}(G:Good fns dl c X){x:Str}(h:c.sc.names.lookup x=some .globalImplicit):Gl X x:=by
 show X.env.scope.names.lookup x=_;rw[G.sc]; exact h
theorem qar{j sc:Scope}{env:Env}(h:env.scope=sc):relabel j env=qz5 j sc:=by
 unfold relabel qz5 Env.kindOf;rw[h]
theorem Good.inner{fns:List Fn}{dl:Nat}{c:Ctx}{X:Cx}(G:Good fns dl c X){N:List Str}{j:Scope}{C:Addr}{F:List Addr}{s:Qz}{H:Hp}(z:j.kind=.function)(q:N.Nodup):Good fns dl ⟨N,qz5 j c.sc,c.fns,c.glo⟩ (qzh X N j C F s H):=
 ⟨G.room,G.calm,rfl,qar G.sc,q,z,G.tab,G.mo,rfl⟩
noncomputable def IsRow(K:Qqq)(m:List Addr)(H:Hp)(k:RK)(a:Addr):D->Prop
 |.tup ds=>k=.tup/\∃xs,SqT K H a xs/\IsDs K m H ds xs
 |.loc l=>k=.lst/\m[l]?=some a
 |.lst ds=>k=.lst/\∃xs,SqF K H a xs/\IsDs K m H ds xs
 |_=>False
theorem IsRow.mono{K:Qqq}{m j:List Addr}{H H':Hp}{k:RK}{a:Addr}{d:D}(h:IsRow K m H k a d)(b:Sub m j)(t:Tr H H'):IsRow K j H' k a d:=by
 cases d with
 |tup ds=>obtain⟨e,xs,q,r⟩:=h; exact⟨e,xs,t.sqT q,qzy b t ds xs r⟩
 |loc l=>exact⟨h.1,b l a h.2⟩
 |lst ds=>obtain⟨e,xs,q,r⟩:=h; exact⟨e,xs,t.sqF q,qzy b t ds xs r⟩
 |_=>exact h.elim
theorem IsRow.sq{K:Qqq}{m:List Addr}{st:Store}{H:Hp}{k:RK}{a:Addr}{d:D}{ds:List D}(h:IsRow K m H k a d)(J:Rel K m st H)(e:M.rowAt st d=some ds):∃xs,k.sq K H a xs/\IsDs K m H ds xs:=by
 cases d with
 |tup es=>
  cases e;obtain⟨rfl,xs,q,r⟩:=h;exact⟨xs,q,r⟩
 |loc l=>
  obtain⟨rfl,F⟩:=h;obtain⟨L,xs,j,z,q,r⟩:=J.list e (qfi F);cases z;exact⟨xs,q,r⟩
 |lst es=>
  cases e;obtain⟨rfl,xs,q,r⟩:=h;exact⟨xs,q.sq,r⟩
 |_=>exact h.elim
theorem qy6{K:Qqq}{m:List Addr}{st:Store}{H:Hp}{d:D}{v:V}{ds:List D}(j:MS.IsD K m H d v)(F:Rel K m st H)(e:M.rowAt st d=some ds):∃k a,v=.ref a/\IsRow K m H k a d/\∃xs,k.sq K H a xs:=by
 cases d with
 |tup es=>
  obtain⟨a,xs,rfl,q,r⟩:=j.tup;exact⟨.tup,a,rfl,⟨rfl,xs,q,r⟩,xs,q⟩
 |loc l=>
  obtain⟨a,xs,z,rfl,q,r⟩:=F.list e j;exact⟨.lst,a,rfl,⟨rfl,z⟩,xs,q⟩
 |lst es=>
  obtain⟨a,xs,rfl,q,r⟩:=j.lst;exact⟨.lst,a,rfl,⟨rfl,xs,q,r⟩,xs,q.sq⟩
 |_=>cases e
theorem IsRow.sq'{K:Qqq}{m:List Addr}{st:Store}{H:Hp}{a:Addr}{d:D}{ds:List D}(h:IsRow K m H .lst a d)(j:Rel K m st H)(e:M.seqAt st d=some ds):∃xs,SqL K H a xs/\IsDs K m H ds xs:=by
 cases d with
 |loc l=>exact h.sq j e
 |lst l=>exact h.sq j e
 |_=>cases e
theorem qv7{K:Qqq}{m:List Addr}{st:Store}{H:Hp}{d:D}{v:V}{ds:List D}(j:MS.IsD K m H d v)(F:Rel K m st H)(e:M.seqAt st d=some ds):∃a,v=.ref a/\IsRow K m H .lst a d/\∃xs,SqL K H a xs:=by
 cases d with
 |loc l=>
  obtain⟨a,xs,z,rfl,q,r⟩:=F.list e j;exact⟨a,rfl,⟨rfl,z⟩,xs,q⟩
 |lst l=>
  obtain⟨a,xs,rfl,q,r⟩:=j.lst;exact⟨a,rfl,⟨rfl,xs,q,r⟩,xs,q.sq⟩
 |_=>cases e
noncomputable def IsSrc(K:Qqq)(m:List Addr)(H:Hp):Src->It->Prop
 |.rng lo n,J=>J=Itr lo n
 |.tup ds,J=>∃a xs,J=Itt K a/\SqT K H a xs/\IsDs K m H ds xs
 |.lst d,J=>∃a,IsRow K m H .lst a d/\J=Itl K a
 |.zip x y,J=>∃(k1 k2:RK) (a b:Addr),J=Itz K k1 k2 a b/\IsRow K m H k1 a x/\IsRow K m H k2 b y
theorem IsSrc.mono{K:Qqq}{m j:List Addr}{H H':Hp}{s:Src}{J:It}(h:IsSrc K m H s J)(b:Sub m j)(t:Tr H H'):IsSrc K j H' s J:=by
 cases s with
 |rng lo n=>exact h
 |tup ds=>obtain⟨a,xs,e,q,r⟩:=h; exact⟨a,xs,e,t.sqT q,qzy b t ds xs r⟩
 |lst l=>obtain⟨a,e,q⟩:=h; exact⟨a,e.mono b t,q⟩
 |zip x y=>obtain⟨F,z,a,L,e,h1,h2⟩:=h; exact⟨F,z,a,L,e,h1.mono b t,h2.mono b t⟩
theorem IsSrc.done{K:Qqq}{m:List Addr}{st:Store}{H:Hp}{s:Src}{J:It}{i:Nat}(h:IsSrc K m H s J)(L:Rel K m st H)(e:s.at st i=some none):J.stop i H:=by
 cases s with
 |rng lo n=>
  cases h;simp only[Src.at]at e
  split at e
  ·cases e
  ·rename_i q;exact Nat.not_lt.mp q
 |tup ds=>
  obtain⟨a,xs,rfl,q,r⟩:=h;simp only[Src.at,Option.some.injEq]at e;exact⟨xs,q,by rw[<- r.length]; exact Qzw.mp e⟩
 |lst l=>
  obtain⟨a,ha,rfl⟩:=h;simp only[Src.at]at e;obtain⟨ds,F,z⟩:=mapD e;obtain⟨xs,q,r⟩:=ha.sq' L F;exact⟨xs,q,by rw[<- r.length]; exact Qzw.mp z⟩
 |zip x y=>
  obtain⟨k1,k2,a,b,rfl,h1,h2⟩:=h;simp only[Src.at]at e;obtain⟨ds,F,e⟩:=qzv e;obtain⟨es,z,j⟩:=mapD e;obtain⟨xs,q1,Z⟩:=h1.sq L F;obtain⟨ys,q2,Y⟩:=h2.sq L z;refine⟨xs,ys,q1,q2,?_⟩;unfold M.pairAt at j;rw[<- Z.length,<- Y.length]
  cases U:ds[i]? with
  |none=>exact .inl (Qzw.mp U)
  |some d1=>
   cases O:es[i]? with
   |none=>exact .inr (Qzw.mp O)
   |some d2=>rw[U,O]at j; cases j
theorem IsSrc.next{K:Qqq}{m:List Addr}{st:Store}{H:Hp}{s:Src}{J:It}{i:Nat}{d:D}(h:IsSrc K m H s J)(Z:Rel K m st H)(e:s.at st i=some (some d)):J.go i H/\∀x H',J.yld i H x H'->Same H H'/\MS.IsD K m H' d x:=by
 cases s with
 |rng lo n=>
  cases h;simp only[Src.at,Option.some.injEq]at e
  split at e
  ·rename_i q;cases e;refine⟨q,?_⟩;rintro x H' ⟨rfl,rfl⟩;exact⟨λ_ _ z=>z,mkInt _⟩
  ·cases e
 |tup ds=>
  obtain⟨a,xs,rfl,q,r⟩:=h;simp only[Src.at,Option.some.injEq]at e;obtain⟨x,ex,F⟩:=r.get e;refine⟨⟨xs,x,q,ex⟩,?_⟩;rintro y H' ⟨rfl,z⟩;have:=z xs q;rw[ex]at this;cases this;exact⟨λ_ _ z=>z,F⟩
 |lst l=>
  obtain⟨a,ha,rfl⟩:=h;simp only[Src.at]at e;obtain⟨ds,Y,U⟩:=mapD e;obtain⟨xs,q,r⟩:=ha.sq' Z Y;obtain⟨x,ex,F⟩:=r.get U;refine⟨⟨xs,x,q,ex⟩,?_⟩;rintro y H' ⟨rfl,z⟩;have:=z xs q;rw[ex]at this;cases this;exact⟨λ_ _ z=>z,F⟩
 |zip u v=>
  obtain⟨k1,k2,a,b,rfl,h1,h2⟩:=h;simp only[Src.at]at e;obtain⟨ds,Y,e⟩:=qzv e;obtain⟨es,U,j⟩:=mapD e;obtain⟨xs,q1,r1⟩:=h1.sq Z Y;obtain⟨ys,q2,r2⟩:=h2.sq Z U;unfold M.pairAt at j
  cases L:ds[i]? with
  |none=>rw[L]at j; cases j
  |some d1=>
   cases O:es[i]? with
   |none=>rw[L,O]at j; cases j
   |some d2=>
    rw[L,O]at j;cases j;obtain⟨x,ex,F⟩:=r1.get L;obtain⟨y,ey,iy⟩:=r2.get O;refine⟨⟨xs,ys,x,y,q1,q2,ex,ey⟩,?_⟩;rintro w H' ⟨p,x',y',rfl,hp,rfl,f1,f2⟩;have g1:=f1 xs q1;rw[ex]at g1;cases g1;have g2:=f2 ys q2;rw[ey]at g2;cases g2;have sm:=qzw (o:=.tup [x,y]) hp;exact⟨sm,qq5 (SqT.of qzk) (qzy (Sub.refl _) (Tr.of_same sm) _ _ (qzi F (qzi iy qqq)))⟩
noncomputable def tI(K:Qqq)(f:Sl->Store->Option (Src×Store)):TI:=λσ H R=>∃m st τ s st',Rel K m st H/\SlotOk K m H τ σ/\f τ st=some (s,st')/\∀m' H' J,Sub m m'->Tr H H'->Rel K m' st' H'->IsSrc K m' H' s J->R J H'
theorem tI.el{K:Qqq}{f:Sl->Store->Option (Src×Store)}{j:L2.St}{H:Hp}{Q:It->Hp->Prop}{P:Prop}(h:tI K f j H Q)(k:∀m st τ s st',Rel K m st H->SlotOk K m H τ j->f τ st=some (s,st')->(∀m' H' J,Sub m m'->Tr H H'->Rel K m' st' H'->IsSrc K m' H' s J->Q J H')->P):P:=by
 rcases h with⟨m,st,τ,d,st',a,b,c,e⟩
 exact k m st τ d st' a b c e
theorem _root_.L2.PI.imp{X:Cx}{j e:Qx}{t t':TI}(h:PI X j e t)(f:∀σ H R,t' σ H R->t σ H R):PI X j e t':=λpins s σ H Q I q=>h pins s σ H Q I (f σ H Q q)
def PostO(K:Qqq)(m:List Addr)(H:Hp)(o:Out)(st':Store)(Dn:Ends):Prop:=∀m' H',Sub m m'->Tr H H'->Rel K m' st' H'->match o with
 |.nx τ=>∀σ',SlotOk K m' H' τ σ'->Dn.nx σ' H'
 |.rt d=>∀v,IsD K m' H' d v->Dn.rt v H'
 |.bk τ=>∀σ',SlotOk K m' H' τ σ'->Dn.bk σ' H'
 |.ct τ=>∀σ',SlotOk K m' H' τ σ'->Dn.ct σ' H'
theorem PostO.mono{K:Qqq}{m q:List Addr}{H z:Hp}{o:Out}{j:Store}{Dn:Ends}(p:PostO K m H o j Dn)(s:Sub m q)(t:Tr H z):PostO K q z o j Dn:=λm' H' s' F r=>p m' H' (s.trans s') (t.trans F) r
noncomputable def tS(K:Qqq)(f:Sl->Store->Option (Out×Store)):TS:=λDn σ H=>∃m st τ o st',Rel K m st H/\SlotOk K m H τ σ/\f τ st=some (o,st')/\PostO K m H o st' Dn
theorem tS.el{K:Qqq}{f:Sl->Store->Option (Out×Store)}{j:L2.St}{H:Hp}{q:Ends}{P:Prop}(h:tS K f q j H)(k:∀m st τ o st',Rel K m st H->SlotOk K m H τ j->f τ st=some (o,st')->PostO K m H o st' q->P):P:=by
 rcases h with⟨m,st,τ,d,st',a,b,c,e⟩
 exact k m st τ d st' a b c e
structure AllOk (fns:List Fn) (dl n:Nat):Prop where
 e:∀c X,Good fns dl c X->∀e p,CkE c e p->PE X p (tD X.K λτ st=>(M.rn fns dl n).ev τ st e)
 t:∀c X,Good fns dl c X->∀e p,CkE c e p->PT X p (tTs X.K λτ st=>(M.rn fns dl n).tst τ st e)
 w:∀c X,Good fns dl c X->∀e op ps pos,CkE c e (.BoolOp op ps pos)->PW X (.BoolOp op ps pos) (tTs X.K λτ st=>(M.rn fns dl n).tst τ st e)
 s:∀c X,Good fns dl c X->(∀x,X.fn x=true)->∀ss ps,CkSs c ss ps->PSs X ps (tS X.K λτ st=>(M.rn fns dl n).ex τ st ss)
theorem qbc(fns:List Fn)(dl:Nat):AllOk fns dl 0 where
 e:=λc X G e p h pins s σ H Q I q=>by obtain⟨m,st,τ,d,st',_,_,z,_⟩:=q; cases z
 t:=λc X G e p h pins s σ H Q I q=>by obtain⟨m,st,τ,d,st',_,_,z,_⟩:=q; cases z
 w:=λc X G e J ps pos h j pins s σ H Q I q=>by obtain⟨m,st,τ,d,st',_,_,z,_⟩:=q; cases z
 s:=λc X G hf F ps h pins s σ H Q I q=>by obtain⟨m,st,τ,d,st',_,_,z,_⟩:=q; cases z
section
variable {fns:List Fn}{dl n:Nat}{c:Ctx}{X:Cx}
theorem qzs(A:AllOk fns dl n)(G:Good fns dl c X):∀{es:List E}{ps:List Qx},CkEs c es ps->PA X ps (tL X.K λτ st=>M.evs ((M.rn fns dl n).ev τ) es st)
 |_,_,.nil=>pa_nil.imp λ_ _ _ h=>tL_nil h
 |_,_,.cons (e:=e) (es:=es) h t=>(qqi (A.e c X G _ _ h) (qzs A G t) (h.star _ _)).imp λ_ _ _ q=>
   qh0 (fa:=λτ st=>(M.rn fns dl n).ev τ st e) (fr:=λτ st=>M.evs ((M.rn fns dl n).ev τ) es st) q
noncomputable def qgr:E->Bool
 |.rng1 _=>false
 |.rng2 _ _=>false
 |.zip _ _=>false
 |_=>true
theorem CkF.plain{R:Ctx->E->Qx->Prop}{c:Ctx}{e:E}{p:Qx}(h:CkF R c e p):qgr e=true:=by cases h<;>rfl
theorem qb9{e:E}(h:qgr e=true)(r:R)(τ:Sl)(st:Store):M.src r τ st e=(r.ev τ st e).bind λp=>match p.1 with
   |.tup ds=>some (.tup ds,p.2)
   |d=>(M.seqAt p.2 d).map λ_=>(.lst d,p.2):=by
 cases e with
 |rng1 _=>cases h
 |rng2 _ _=>cases h
 |zip _ _=>cases h
 |_=>rfl
theorem qjd(A:AllOk fns dl n)(G:Good fns dl c X){it:E}{tg Y:Qx}(h:CkI (CkE c) c tg it Y):PI X tg Y (tI X.K λτ st=>M.src (M.rn fns dl n) τ st it):=by
 have seq:∀{e p},CkE c e p->(∀τ st,M.src (M.rn fns dl n) τ st e=((M.rn fns dl n).ev τ st e).bind λp=>match p.1 with
   |.tup ds=>some (.tup ds,p.2)
   |d=>(M.seqAt p.2 d).map λ_=>(.lst d,p.2))->PI X tg p (tI X.K λτ st=>M.src (M.rn fns dl n) τ st e):=by
  intro e p he a0;refine(pi_seq (A.e c X G e p he)).imp λσ H R q=>?_;refine q.el λm st τ s st' R0 S0 z q=>?_;have z:=(a0 τ st).symm.trans z;obtain⟨d,s1,e2,z⟩:=qza z;refine⟨m,st,τ,d,s1,R0,S0,e2,λx m1 H1 b1 O J U=>?_⟩
  cases d with
  |tup ds=>
   cases z;obtain⟨a,xs,rfl,hq,Z⟩:=U.tup;exact⟨a,rfl,.inr ⟨⟨xs,hq⟩,q m1 H1 _ b1 O J ⟨a,xs,rfl,hq,Z⟩⟩⟩
  |loc l=>
   obtain⟨ds,e3,e4⟩:=mapD z;cases e4;obtain⟨a,rfl,L,xs,hq⟩:=qv7 U J e3;exact⟨a,rfl,.inl ⟨⟨xs,hq⟩,q m1 H1 _ b1 O J ⟨a,L,rfl⟩⟩⟩
  |lst l=>
   obtain⟨ds,e3,e4⟩:=mapD z;cases e4;obtain⟨a,rfl,L,xs,hq⟩:=qv7 U J e3;exact⟨a,rfl,.inl ⟨⟨xs,hq⟩,q m1 H1 _ b1 O J ⟨a,L,rfl⟩⟩⟩
  |_=>cases z
 cases h with
 |@rng1 _ a pa p0 pos hg L=>
  refine(qce (G.gl hg) G.mo.range (qzs A G (.cons L .nil)) (by rw[L.star]; rfl)).imp λσ H R q=>?_;refine q.el λm st τ s st' R0 S0 z q=>?_
  have z:(((M.rn fns dl n).ev τ st a).bind λp=>match p.1 with
   |.int n=>if M.big n then none else some (Src.rng 0 n.toNat,p.2)
   |_=>none)=some (s,st'):=z
  obtain⟨d,s1,e2,z⟩:=qza z
  cases d with
  |int k=>
   dsimp only at z
   split at z
   ·cases z
   ·rename_i F;cases z;unfold M.big at F;simp only[Qxk,decide_eq_true_eq,not_or]at F;refine⟨m,st,τ,[.int k],st',R0,S0,?_,λxs m1 H1 b1 O J U=>?_⟩
    ·show(((M.rn fns dl n).ev τ st a).bind λp=>(some (([]:List D),p.2)).bind λq=>some (p.1::q.1,q.2))=_;rw[e2]; rfl
    ·obtain⟨x,rfl,Z⟩:=U.one;cases Z.int;exact⟨k,rfl,by omega,by omega,q m1 H1 _ b1 O J rfl⟩
  |_=>cases z
 |@rng2 _ a b pa pb p0 pos hg L F=>
  refine(qcd (G.gl hg) G.mo.range (qzs A G (.cons L (.cons F .nil))) (by rw[L.star,F.star]; rfl) (by rw[F.star]; rfl)).imp λσ H R q=>?_;refine q.el λm st τ s st' R0 S0 z q=>?_
  have z:(((M.rn fns dl n).ev τ st a).bind λp=>((M.rn fns dl n).ev τ p.2 b).bind λq=>match p.1,q.1 with
   |.int i,.int j=>if M.big i||M.big j then none else some (Src.rng i (j - i).toNat,q.2)
   |_,_=>none)=some (s,st'):=z
  obtain⟨d,s1,e2,z⟩:=qza z;obtain⟨d',s2,e3,z⟩:=qza z;dsimp only at z
  split at z
  ·rename_i i j _
   split at z
   ·cases z
   ·rename_i F;cases z;unfold M.big at F;simp only[Qxk,decide_eq_true_eq,not_or]at F;refine⟨m,st,τ,[.int i,.int j],st',R0,S0,?_,λxs m1 H1 b1 O J U=>?_⟩
    ·show(((M.rn fns dl n).ev τ st a).bind λp=>(((M.rn fns dl n).ev τ p.2 b).bind λp=>(some (([]:List D),p.2)).bind λq=>some (p.1::q.1,q.2)).bind λq=>some (p.1::q.1,q.2))=_;rw[e2];show(((M.rn fns dl n).ev τ s1 b).bind λp=>(some (([]:List D),p.2)).bind λq=>some (p.1::q.1,q.2)).bind _=_;rw[e3]; rfl
    ·obtain⟨x,y,rfl,Z,iy⟩:=U.two;cases Z.int;cases iy.int;exact⟨i,j,rfl,⟨by omega,by omega,by omega,by omega⟩,q m1 H1 _ b1 O J rfl⟩
  ·cases z
 |@zip ts k tp a b pa pb p0 pos hg L F=>
  refine(pi_zip (G.gl hg) G.mo.zip (qzs A G (.cons L (.cons F .nil))) (by rw[L.star,F.star]; rfl) (by rw[F.star]; rfl)).imp λσ H R q=>?_;obtain⟨m,st,τ,s,st',R0,S0,z,q⟩:=q;have z:(((M.rn fns dl n).ev τ st a).bind λp=>((M.rn fns dl n).ev τ p.2 b).bind λq=>(M.rowAt q.2 p.1).bind λ_=>(M.rowAt q.2 q.1).map λ_=>(Src.zip p.1 q.1,q.2))=some (s,st'):=z;obtain⟨d,s1,e2,z⟩:=qza z;obtain⟨d',s2,e3,z⟩:=qza z;obtain⟨ds,e4,z⟩:=qzv z;obtain⟨es,e5,e6⟩:=mapD z;cases e6;refine⟨m,st,τ,[d,d'],s2,R0,S0,?_,λxs m1 H1 b1 O J U=>?_⟩
  ·show(((M.rn fns dl n).ev τ st a).bind λp=>(((M.rn fns dl n).ev τ p.2 b).bind λp=>(some (([]:List D),p.2)).bind λq=>some (p.1::q.1,q.2)).bind λq=>some (p.1::q.1,q.2))=_;rw[e2];show(((M.rn fns dl n).ev τ s1 b).bind λp=>(some (([]:List D),p.2)).bind λq=>some (p.1::q.1,q.2)).bind _=_;rw[e3]; rfl
  ·obtain⟨x,y,rfl,Z,iy⟩:=U.two;obtain⟨k1,a1,rfl,h1,w1⟩:=qy6 Z J e4;obtain⟨k2,a2,rfl,h2,w2⟩:=qy6 iy J e5;exact⟨k1,k2,a1,a2,rfl,w1,w2,q m1 H1 _ b1 O J ⟨k1,k2,a1,a2,rfl,h1,h2⟩⟩
 |@seq _ e p he=>
  exact seq he (qb9 he.out.plain _)
theorem po_ok(A:AllOk fns dl n)(G:Good fns dl c X){o:Option E}{p:Option Qx}(h:CkO (CkE c) o p):PO X p (λσ H Q=>∃m st τ l st',Rel X.K m st H/\SlotOk X.K m H τ σ/\M.part (M.rn fns dl n) τ st o=some (l,st')/\∀m' H',Sub m m'->Tr H H'->Rel X.K m' st' H'->Q l H'):=by
 cases h with
 |none=>
  intro pins s σ H Q I q;obtain⟨m,st,τ,l,st',z,J,e,k⟩:=q;cases e;exact qid pins s σ H Q I (k m H (Sub.refl m) (Tr.refl H) z)
 |@some e p h=>
  intro pins s σ H Q I q;obtain⟨m,st,τ,l,st',z,J,j,k⟩:=q
  have j:(((M.rn fns dl n).ev τ st e).bind λp=>match p.1 with
   |.int i=>some (some i,p.2)
   |_=>none)=some (l,st'):=j
  obtain⟨d,L,U,F⟩:=qza j
  cases d with
  |int i=>
   cases F;exact qic (A.e c X G e p h) pins s σ H Q I ⟨m,st,τ,.int i,L,z,J,U,λv m' H' b t Y O=>⟨i,O.int,k m' H' b t Y⟩⟩
  |_=>cases F
noncomputable def gIs:List Nat->TGs
 |[]=>gNil
 |i::is=>gCons (qw3 i) (gIs is)
noncomputable def gT(K:Qqq):T->TG
 |.var i=>qw3 i
 |.tup is=>gTup K is.length (gIs is)
theorem qg9{K:Qqq}{m:List Addr}{H:Hp}{Q:L2.St->Hp->Prop}:∀{is:List Nat}{ds:List D}{xs:List V}{τ τ':Sl}{z:L2.St},IsDs K m H ds xs->SlotOk K m H τ z->M.setIs is ds τ=some τ'->(∀j,SlotOk K m H τ' j->Q j H)->gIs is xs z H Q
 |[],[],xs,τ,τ',z,F,S0,e,k=>by
  cases e;exact⟨F.nil,k z S0⟩
 |i::is,d::ds,xs,τ,τ',z,F,S0,e,k=>by
  obtain⟨x,r,rfl,q,t⟩:=F.cons;unfold M.setIs at e
  split at e
  ·exact⟨x,r,rfl,qg9 t (S0.put q) e k⟩
  ·cases e
 |[],_::_,_,_,_,_,_,_,e,_=>by cases e
 |_::_,[],_,_,_,_,_,_,e,_=>by cases e
theorem qvi:∀{is:List Nat}{ds:List D}{τ τ':Sl},M.setIs is ds τ=some τ'->is.length=ds.length
 |[],[],_,_,_=>rfl
 |i::is,d::ds,τ,τ',e=>by
  unfold M.setIs at e
  split at e
  ·rw[Qqe,Qqe,qvi e]
  ·cases e
 |[],_::_,_,_,e=>by cases e
 |_::_,[],_,_,e=>by cases e
theorem qlp{K:Qqq}{m:List Addr}{H:Hp}{Q:L2.St->Hp->Prop}{t:T}{d:D}{v:V}{τ τ':Sl}{q:L2.St}(F:IsD K m H d v)(J:SlotOk K m H τ q)(e:M.setT t d τ=some τ')(k:∀j,SlotOk K m H τ' j->Q j H):gT K t v q H Q:=by
 cases t with
 |var i=>
  have e:(if i<τ.length then some (τ.set i (some d)) else none)=some τ':=e
  split at e
  ·cases e;exact k _ (J.put F)
  ·cases e
 |tup L=>
  cases d with
  |tup ds=>
   obtain⟨a,xs,rfl,O,z⟩:=F.tup;have e:M.setIs L ds τ=some τ':=e;exact⟨a,xs,rfl,O,by rw[<- z.length,qvi e],qg9 z J e k⟩
  |_=>cases e
theorem qxd(G:Good fns dl c X){i:Nat}{x:Str}(h:c.N[i]?=some x):X.N[i]?=some x:=by rw[G.N]; exact h
theorem qev:Qa ("any" : Str)=some (.builtin "any"):=by decide +kernel
theorem qew:Qa ("all" : Str)=some (.builtin "all"):=by decide +kernel
theorem qek:Qa ("int" : Str)=some (.type "int"):=by decide +kernel
theorem qbb:Qa ("bool" : Str)=some (.type "bool"):=by decide +kernel
theorem qeq:Qa ("str" : Str)=some (.type "str"):=by decide +kernel
theorem qwe:Qa ("isinstance" : Str)=some (.builtin "isinstance"):=by decide +kernel
theorem qwc:Qa ("sorted" : Str)=some (.builtin "sorted"):=by decide +kernel
theorem qex:Qa ("set" : Str)=some (.type "set"):=by decide +kernel
theorem qwd:Qa ("len" : Str)=some (.builtin "len"):=by decide +kernel
theorem qej:Qa ("min" : Str)=some (.builtin "min"):=by decide +kernel
theorem qki:Qa ("list" : Str)=some (.type "list"):=by decide +kernel
theorem qjp:Qa ("tuple" : Str)=some (.type "tuple"):=by decide +kernel
theorem ty_ok(G:Good fns dl c X){t:M.Ty}{pos:Pos}(q:t≠.non)(j:c.sc.names.lookup (Str.ofString t.name)=some .globalImplicit):PE X (.Name (Str.ofString t.name) pos) (tC (.ty t.name)):=by
 cases t with
 |non=>exact absurd rfl q
 |bl=>exact qjx (G.gl j) G.mo.bool qbb rfl (by decide) (by decide)
 |int=>exact qjx (G.gl j) G.mo.int qek rfl (by decide) (by decide)
 |str=>exact qjx (G.gl j) G.mo.str qeq rfl (by decide) (by decide)
 |tup=>exact qjx (G.gl j) G.mo.tuple qjp rfl (by decide) (by decide)
 |lst=>exact qjx (G.gl j) G.mo.list qki rfl (by decide) (by decide)
noncomputable def tCs:List V->TA
 |[]=>tNil
 |v::vs=>qh1 (tC v) (tCs vs)
theorem qb2:∀(vs:List V) (j:L2.St) (H:Hp) (Q:List V->Hp->Prop),Q vs H->tCs vs j H Q
 |[],_,_,_,h=>h
 |v::vs,j,H,Q,h=>qb2 vs j H (λxs H2=>Q (v::xs) H2) h
theorem qga(G:Good fns dl c X):∀{j:List M.Ty}{ps:List Qx},CkTys c j ps->PA X ps (tCs (j.map λt=>V.ty t.name))/\∀t∈j,t≠.non
 |_,_,.nil=>⟨pa_nil,λ_ h=>nomatch h⟩
 |_,_,.cons q J h=>by
  obtain⟨h1,h2⟩:=qga G h;refine⟨qqi (ty_ok G q J) h1 rfl,λt F=>?_⟩;rcases Qqv.mp F with z|z
  ·rw[z]; exact q
  ·exact h2 t z
end
end MS
end
section
namespace MS
open PySem PySem.Spec PyProof.Rows L2
open M (D Cell Store Sl E S T Src Fn Out R)
section
variable {fns:List Fn}{dl n:Nat}{c:Ctx}{X:Cx}
theorem qhd:UnR X (unaryOp .USub) (rU1 X.K λst d=>match d with|.int i=>some (.int (-i),st)|_=>none):=by
 intro pins s σ H x v Q I j h;refine h.el λm st a d st' F z e q=>?_
 cases a with
 |int i=>
  cases e;exact un_neg pins s σ H x v Q I j ⟨i,z.int,q.here F (mkInt _)⟩
 |_=>cases e
theorem qqs(G:Good fns dl c X){N:List Str}{sr:List (Option Nat)}{scope:Scope}(O:scope.kind=.function)(z:∀y∈scope.names,y.2≠.cell)(q:∀y∈scope.names,y.2=.free->c.sc.names.lookup y.1=some .cell\/c.sc.names.lookup y.1=some .free)
  (J:∀y∈scope.names,y.2=.local->scope.names.lookup y.1=some .local) (L:sr.length=N.length) (F:∀(j i:Nat),sr[j]?=some (some i)->∃x,N[j]?=some x/\c.N[i]?=some x/\scope.names.lookup x=some .free):CompScope X N sr scope:=
 ⟨O,z,λy M hf=>by
  have:=q y M hf;show X.env.scope.names.lookup y.1=_\/X.env.scope.names.lookup y.1=_;rw[G.sc]; exact this,J,L,λj i h=>by
  obtain⟨x,a,b,d⟩:=F j i h
  exact⟨x,a,qxd G b,d⟩⟩
theorem qfp{K:Qqq}{m:List Addr}{H:Hp}{τ:Sl}{F:L2.St}(sr:List (Option Nat))(h:SlotOk K m H τ F):SlotOk K m H (M.inner sr τ) (qqt sr F):=by
 refine⟨by unfold M.inner qqt; rw[Qqw,Qqw],λj d e=>?_⟩;unfold M.inner at e;rw[Qqf]at e;unfold qqt;rw[Qqf]
 cases q:sr[j]? with
 |none=>rw[q]at e; cases e
 |some o=>
  rw[q]at e
  cases o with
  |none=>cases e
  |some i=>
   have hi:τ[i]?=some (some d):=by
    cases z:τ[i]? with
    |none=>simp[z]at e
    |some w=>
     cases w with
     |none=>simp[z]at e
     |some w=>simpa[z] using e
   obtain⟨v,a,b⟩:=h.at_ i d hi;refine⟨v,?_,b⟩;simp[a]
theorem qko{K:Qqq}{r:R}{t:T}{it elt:E}{q:Option E}{sr:List (Option Nat)}{tt:TT}{σ:L2.St}{H:Hp}{Q:VK}
  (a4:∀σ H (Q:Bool->Hp->Prop),(match q with
   |none=>Q true H
   |some c=>tTs K (λτ st=>r.tst τ st c) σ H Q)->tt σ H Q)
  (h:tD K (λτ st=>M.stepEv r τ st (.comp t it q elt sr)) σ H Q) :
  qh2 sr (tI K λτ st=>M.src r τ st it) (gT K t) tt (tD K λτ st=>r.ev τ st elt) σ H Q:=by
 refine h.el λm st τ d st' R0 S0 e a1=>?_;have e:((M.src r τ st it).bind λp=>(M.loopC p.1 (M.turnC r t q elt) (p.1.size p.2+1) 0 [] (M.inner sr τ) p.2).map λq=>M.alloc q.2 (.lst true q.1))=some (d,st'):=e;obtain⟨p,e1,e⟩:=qzv e;obtain⟨res,e2,e3⟩:=mapD e;refine⟨m,st,τ,p.1,p.2,R0,S0,e1,λm1 H1 J b1 t1 R1 hJ=>?_⟩
 refine⟨λi' k a2 a0 H'=>∃m2 L Z F,Sub m1 m2/\Tr H1 H'/\Rel K m2 L H'/\SlotOk K m2 H' Z a0/\IsDs K m2 H' F a2/\M.loopC p.1 (M.turnC r t q elt) k i' F Z L=some res,
  ⟨_,m1,p.2,M.inner sr τ,[],Sub.refl _,Tr.refl _,R1,qfp sr (S0.mono b1 t1),qqq,e2⟩,?_⟩
 rintro j k a2 a0 H' ⟨m2,L,Z,F,b2,t2,R2,S2,ia,O⟩
 cases k with
 |zero=>cases O
 |succ k=>
  have O:(p.1.at L j).bind (λo=>match o with
   |none=>if M.lim<F.length then none else some (F,L)
   |some d=>if M.lim<=F.length then none else(M.turnC r t q elt Z L d).bind λz=>M.loopC p.1 (M.turnC r t q elt) k (j+1) (match z.1 with|some x=>F++[x]|none=>F) z.2.1 z.2.2)=some res:=O
  obtain⟨o,e5,O⟩:=qzv O;have l1:=ia.length;have l2:=qqe
  cases o with
  |none=>
   dsimp only at O
   split at O
   ·cases O
   ·rename_i hl;cases O;refine .inl ⟨(hJ.mono b2 t2).done R2 e5,by omega,λpp hp=>?_⟩;cases e3;exact a1 _ (m2++[pp]) _ (b1.trans (b2.trans (Sub.app _ _))) (t1.trans (t2.trans (Tr.of_same (qzw hp)))) (R2.new hp ia) R2.newLoc
  |some d'=>
   dsimp only at O
   split at O
   ·cases O
   ·rename_i hl;obtain⟨a5,hy⟩:=(hJ.mono b2 t2).next R2 e5;refine .inr ⟨a5,by omega,λx H2 a3=>?_⟩;obtain⟨sm,ix⟩:=hy x H2 a3;have t2:=t2.trans (Tr.of_same sm);have R2:=R2.same sm;have S2:=S2.mono (Sub.refl _) (Tr.of_same sm);have ia:=qzy (Sub.refl _) (Tr.of_same sm) _ _ ia;obtain⟨z,U,O⟩:=qzv O;unfold M.turnC at U;obtain⟨a7,e7,U⟩:=qzv U;refine qlp ix S2 e7 λa8 S3=>?_
    ·refine a4 _ _ _ ?_
     cases q with
     |none=>
      dsimp only at U ⊢;obtain⟨y,e8,e9⟩:=mapD U;cases e9;rw[Zt rfl];refine⟨m2,L,_,y.1,y.2,R2,S3,e8,λv m3 H3 b3 Y R3 i3=>⟨k,Qzo k,m3,y.2,_,F++[y.1],b2.trans b3,t2.trans Y,R3,S3.mono b3 Y,(qzy b3 Y _ _ ia).append (qzi i3 qqq),O⟩⟩
     |some cq=>
      dsimp only at U ⊢;obtain⟨bb,e8,U⟩:=qzv U;refine⟨m2,L,_,bb.1,bb.2,R2,S3,e8,λm3 H3 b3 Y R3=>?_⟩
      cases hb:bb.1 with
      |true=>
       rw[hb,Zt rfl]at U;rw[Zt rfl];obtain⟨y,e9,a6⟩:=mapD U;cases a6;refine⟨m3,bb.2,_,y.1,y.2,R3,S3.mono b3 Y,e9,λv m4 H4 b4 t4 R4 i4=>⟨k,Qzo k,m4,y.2,_,F++[y.1],b2.trans (b3.trans b4),t2.trans (Y.trans t4),R4,S3.mono (b3.trans b4) (Y.trans t4),(qzy (b3.trans b4) (Y.trans t4) _ _ ia).append (qzi i4 qqq),O⟩⟩
      |false=>
       rw[hb,Zs Qqo]at U;cases U;rw[Zs Qqo];exact⟨k,Qzo k,m3,bb.2,_,F,b2.trans b3,t2.trans Y,R3,S3.mono b3 Y,qzy b3 Y _ _ ia,O⟩
theorem qkz(G:Good fns dl c X):∀{is:List Nat}{es:List Qx},CkTs c is es->(∀i∈is,∀x,c.N[i]?=some x->X.fn x=true\/c.sc.names.lookup x=some .local)->PGs X es (gIs is)/\(Q6 es X.env).length=is.length/\(Q6 es X.env).findIdx? (·.1)=none
 |_,_,.nil,_=>⟨qig,rfl,rfl⟩
 |_,_,.cons (i:=i) (x:=x) (pos:=pos) (is:=is) (es:=es) q z h,hf=>by
  obtain⟨h1,h2,L⟩:=qkz G h λj F=>hf j (Qqh _ F);have J:PG X (.Name x pos) (qw3 i):=qcf (by rw[G.N]; exact G.nd) (qxd G q) (by show X.env.scope.names.lookup x=_\/_=_; rw[G.sc]; exact z) (by rw[G.sc]; exact hf i Qql x q);refine⟨qfy J h1 rfl,?_,?_⟩
  ·show(Q6 es X.env).length+1=is.length+1;rw[h2]
  ·show List.findIdx? (·.1) ((false,assign (.Name x pos) X.env)::Q6 es X.env)=none;rw[List.findIdx?_cons,L]
   rfl
theorem qqj(G:Good fns dl c X){t:T}{j:Qx}(h:CkT c t j)(q:∀i∈t.slots,∀x,c.N[i]?=some x->X.fn x=true\/c.sc.names.lookup x=some .local):PG X j (gT X.K t):=by
 cases h with
 |@var i x pos z F=>exact qcf (by rw[G.N]; exact G.nd) (qxd G z) (by show X.env.scope.names.lookup x=_\/_=_; rw[G.sc]; exact F) (by rw[G.sc]; exact q i (by simp[T.slots]) x z)
 |@tup L es k pos h=>
  obtain⟨h1,h2,J⟩:=qkz G h q;exact pg_tup G.calm h1 h2 J
noncomputable def qhh(r:R)(K:Qqq):List E->List (TE×TE)
 |k::v::es=>(tD K λτ st=>r.ev τ st k,tD K λτ st=>r.ev τ st v)::qhh r K es
 |_=>[]
noncomputable def twos:List V->List (V×V)
 |x::y::r=>(x,y)::twos r
 |_=>[]
theorem qvr(A:AllOk fns dl n)(G:Good fns dl c X){pos:Pos}:∀{es:List E}{ks:List (Option Qx)}{vs:List Qx},CkP (CkE c) es ks vs->PPs X pos ks vs (qhh (M.rn fns dl n) X.K es)/\ks.all (·.isSome)=true/\ks.length=vs.length
 |_,_,_,.nil=>⟨qib,rfl,rfl⟩
 |_,_,_,.cons q j t=>by
  obtain⟨h1,h2,z⟩:=qvr A G (pos:=pos) t;refine⟨qfk (A.e c X G _ _ q) (A.e c X G _ _ j) h1,?_,?_⟩
  ·rw[Qxv,h2]; rfl
  ·rw[Qqe,Qqe,z]
theorem qvp{r:R}{K:Qqq}:∀{es:List E}{ks:List (Option Qx)}{vs:List Qx}{c:Ctx}{m:List Addr}{st j:Store}{H:Hp}{τ:Sl}{F:L2.St}{ds:List D}{Q:List (V×V)->Hp->Prop},CkP (CkE c) es ks vs->Rel K m st H->SlotOk K m H τ F->M.evs (r.ev τ) es st=some (ds,j)->
  (∀xs m' H',Sub m m'->Tr H H'->Rel K m' j H'->IsDs K m' H' ds xs->Q (twos xs) H')->qyb (qhh r K es) F H Q
 |_,_,_,c,m,st,j,H,τ,F,ds,Q,.nil,U,S0,e,q=>by
  cases e;exact q [] m H (Sub.refl m) (Tr.refl H) U qqq
 |_,_,_,c,m,st,j,H,τ,F,ds,Q,.cons (k:=k) (v:=v) (es:=es) hk hv t,U,S0,e,q=>by
  have e:((r.ev τ st k).bind λp=>((r.ev τ p.2 v).bind λZ=>(M.evs (r.ev τ) es Z.2).bind λq=>some (Z.1::q.1,q.2)).bind λq=>some (p.1::q.1,q.2))=some (ds,j):=e;obtain⟨d1,Y,e1,e⟩:=qza e;obtain⟨w,z,e⟩:=qzv e;obtain⟨d2,s2,e3,z⟩:=qza z;obtain⟨u,e4,z⟩:=qzv z;cases z;cases e;refine⟨m,st,τ,d1,Y,U,S0,e1,λx m1 H1 b1 O R1 i1=>⟨m1,Y,τ,d2,s2,R1,S0.mono b1 O,e3,λy m2 H2 b2 L R2 i2=>?_⟩⟩;refine qvp t R2 (S0.mono (b1.trans b2) (O.trans L)) e4 λxs m3 H3 b3 J R3 ix=>?_;exact q (x::y::xs) m3 H3 (b1.trans (b2.trans b3)) (O.trans (L.trans J)) R3 (qzi (qzj (b2.trans b3) (L.trans J) _ _ i1) (qzi (qzj b3 J _ _ i2) ix))
theorem qyr{K:Qqq}{m:List Addr}{H:Hp}:∀{ds:List D}{xs:List V}{kvs:List (D×D)},IsDs K m H ds xs->M.pairUp ds=some kvs->∃ys:List (Key×V),IsKV K m H kvs ys/\twos xs=ys.map λz=>(kV z.1,z.2)
 |[],xs,kvs,q,e=>by
  cases e;rw[q.nil];exact⟨[],rfl,rfl⟩
 |[d],xs,kvs,q,e=>by cases e
 |d::d'::ds,xs,kvs,q,e=>by
  have e:(if M.isKey d then(M.pairUp ds).map ((d,d')::·) else none)=some kvs:=e
  split at e
  ·rename_i Z;obtain⟨kr,e1,e2⟩:=mapD e;subst e2;obtain⟨x,xr,rfl,U,O⟩:=q.cons;obtain⟨y,F,rfl,L,J⟩:=O.cons;obtain⟨k,j⟩:=qq9 Z;have Y:=qlv j U;subst Y;obtain⟨ys,h1,h2⟩:=qyr J e1;refine⟨(k,y)::ys,⟨k,y,ys,rfl,j,L,h1⟩,?_⟩;show(kV k,y)::twos F=_;rw[h2]
   rfl
  ·cases e
theorem e_ok(A:AllOk fns dl n)(G':Good fns dl c X){e:E}{p:Qx}(h:CkE c e p):PE X p (tD X.K λτ st=>M.stepEv (M.rn fns dl n) τ st e):=by
 have G:=G';have hu:X.A.units+64<cLine:=G'.room.units
 cases h.out with
 |@var i x pos hN hv hd d6=>
  refine(qgs (qxd G hN) (by rw[G.sc]; exact hv) hd d6).imp λσ H Q h=>?_;refine h.el λm st τ d st' Y J e q=>?_;simp only[M.stepEv]at e
  split at e
  ·rename_i d' d5;cases e;obtain⟨v,a,b⟩:=J.at_ i d d5;exact⟨v,a,q.here Y b⟩
  ·cases e
 |int=>exact pe_int.imp λσ H Q ⟨m,st,τ,d,st',Y,J,e,q⟩=>by cases e; exact q.here Y (mkInt _)
 |bl=>exact pe_bl.imp λσ H Q ⟨m,st,τ,d,st',Y,J,e,q⟩=>by cases e; exact q.here Y (mkBl _)
 |non=>exact pe_non.imp λσ H Q ⟨m,st,τ,d,st',Y,J,e,q⟩=>by cases e; exact q.here Y qvt
 |str=>exact pe_str.imp λσ H Q ⟨m,st,τ,d,st',Y,J,e,q⟩=>by cases e; exact q.here Y (mkStr _)
 |@glo x d pos hg U hd=>
  obtain⟨u,v,h1,h2,h3⟩:=G.mo.glo x d U;exact(qwp (G.gl hg) h1 h2 hd).imp λσ H Q ⟨m,st,τ,d,st',Y,J,e,q⟩=>by cases e; exact q.here Y (h3 m H)
 |@bin op a b pa pb pos Z hb=>
  exact(pe_op (qi4 op) (A.e c X G a pa Z) (A.e c X G b pb hb)).imp λσ H Q h=>qb0 (fa:=λτ st=>(M.rn fns dl n).ev τ st a) (fb:=λτ st=>(M.rn fns dl n).ev τ st b) (g:=λst x y=>M.binop st op x y) h
 |@lenset a pa p0 p1 e5 pos hg hs Z=>
  refine(qz8 qd4 (G.gl hg) G.mo.len qwd (qqi (qjq (qd1 G.room.hd G.room.units) (G.gl hs) G.mo.set qex (qqi (A.e c X G a pa Z) pa_nil (Z.star _ _)) (by decide) (by decide) (Z.star _ _) rfl) pa_nil rfl) (by decide) (by decide) rfl rfl).imp λσ H Q h=>?_;refine h.el λm st τ d st' Y J e j=>?_;obtain⟨d1,s1,e1,e⟩:=qza e;obtain⟨d2,e2,e3⟩:=mapD e;cases e3;refine⟨m,st,τ,d1,s1,Y,J,e1,λx m1 H1 b1 L O ix=>?_⟩
  cases d1 with
  |tup ds=>
   obtain⟨ks,k1,k2⟩:=Qju.mp (show(ds.mapM M.keyD).bind _=some _ from e2)
   split at k2
   ·rename_i d8;cases k2;obtain⟨pt,ys,rfl,hq,iy⟩:=ix.tup;refine⟨pt,ys,ks,rfl,hq,qc9 iy k1,by rw[<- iy.length]; exact d8,λl hl=>?_⟩;refine⟨l,_,rfl,qzk,?_⟩;have sm:=qzw (o:=setO l (ST.distinct ks).length) hl;exact j _ m1 _ b1 (L.trans (Tr.of_same sm)) (O.same sm) (mkInt _)
   ·cases k2
  |_=>cases e2
 |@neg a pa pos Z=>
  exact(pe_un qhd (A.e c X G a pa Z)).imp λσ H Q h=>tD_un (fa:=λτ st=>(M.rn fns dl n).ev τ st a) h
 |@not a pa pos Z=>
  refine(pe_not (A.e c X G a pa Z)).imp λσ H Q h=>?_;refine h.el λm st τ d st' Y J e q=>?_;obtain⟨d1,s1,e1,e⟩:=qza e;refine⟨m,st,τ,d1,s1,Y,J,e1,λv m1 H1 b1 L O i1=>?_⟩
  cases d1 with
  |bl k=>
   cases e;exact⟨k,i1.bl,q _ m1 H1 b1 L O (mkBl _)⟩
  |_=>cases e
 |@cmp op a b pa pb pos Z hb U=>
  exact(qio (qxw hu op) (A.e c X G a pa Z) (A.e c X G b pb hb) U).imp λσ H Q h=>qb0 (fa:=λτ st=>(M.rn fns dl n).ev τ st a) (fb:=λτ st=>(M.rn fns dl n).ev τ st b) (g:=λst x y=>(M.cmpD st op x y).map λk=>(.bl k,st)) h
 |@cmp2 op c5 a b d pa pb pd pos Z hb hd U=>
  refine(qff (qxw hu op) (qxw hu c5) (A.e c X G a pa Z) (A.e c X G b pb hb) (A.e c X G d pd hd) U).imp λσ H Q h=>?_;refine h.el λm st τ dd st' Y J e q=>?_;obtain⟨d1,s1,e1,e⟩:=qza e;obtain⟨d2,s2,e2,e⟩:=qza e;obtain⟨k,e3,e⟩:=qzv e
  refine⟨m,st,τ,d1,s1,Y,J,e1,λx m1 H1 b1 L O i1=>⟨m1,s1,τ,d2,s2,O,J.mono b1 L,e2,λy m2 H2 b2 t2 R2 i2=>
   ⟨m2,s2,d1,d2,.bl k,s2,R2,qzj b2 t2 _ _ i1,i2,by show Option.map _ (M.cmpD s2 op d1 d2)=_; rw[e3]; rfl,λz m3 H3 b3 t3 R3 i3=>⟨k,i3.bl,?_⟩⟩⟩⟩
  cases k with
  |true=>
   rw[Zt rfl]at e ⊢;obtain⟨d3,s3,e4,e⟩:=qza e
   exact⟨m3,s2,τ,d3,s3,R3,J.mono (b1.trans (b2.trans b3)) (L.trans (t2.trans t3)),e4,λy' m4 H4 b4 t4 R4 i4=>
    ⟨m4,s3,d2,d3,dd,st',R4,qzj (b3.trans b4) (t3.trans t4) _ _ i2,i4,e,q.mono (b1.trans (b2.trans (b3.trans b4))) (L.trans (t2.trans (t3.trans t4)))⟩⟩
  |false=>
   rw[Zs Qqo]at e ⊢;cases e;exact q _ m3 H3 (b1.trans (b2.trans b3)) (L.trans (t2.trans t3)) R3 (mkBl _)
 |@and2 a b pa pb pos Z hb=>
  refine(qg0 (A.e c X G a pa Z) (qgu (A.e c X G b pb hb))).imp λσ H Q h=>?_;refine h.el λm st τ d st' Y J e q=>?_;obtain⟨d1,s1,e1,e⟩:=qza e;refine⟨m,st,τ,d1,s1,Y,J,e1,λv m1 H1 b1 L O i1=>?_⟩
  cases d1 with
  |bl k=>
   cases k with
   |true=>exact⟨true,i1.bl,by rw[Zt rfl]; exact⟨m1,s1,τ,d,st',O,J.mono b1 L,e,q.mono b1 L⟩⟩
   |false=>cases e; exact⟨false,i1.bl,by rw[Zs Qqo]; exact q _ m1 H1 b1 L O (mkBl _)⟩
  |_=>cases e
 |@andN a b pa pb pd r pos Z hb=>
  refine(qg0 (A.e c X G a pa Z) (A.e c X G b _ hb)).imp λσ H Q h=>?_;refine h.el λm st τ d st' Y J e q=>?_;obtain⟨d1,s1,e1,e⟩:=qza e;refine⟨m,st,τ,d1,s1,Y,J,e1,λv m1 H1 b1 L O i1=>?_⟩
  cases d1 with
  |bl k=>
   cases k with
   |true=>exact⟨true,i1.bl,by rw[Zt rfl]; exact⟨m1,s1,τ,d,st',O,J.mono b1 L,e,q.mono b1 L⟩⟩
   |false=>cases e; exact⟨false,i1.bl,by rw[Zs Qqo]; exact q _ m1 H1 b1 L O (mkBl _)⟩
  |_=>cases e
 |@or2 a b pa pb pos Z hb=>
  refine(pe_or (A.e c X G a pa Z) (qgu (A.e c X G b pb hb))).imp λσ H Q h=>?_;refine h.el λm st τ d st' Y J e q=>?_;obtain⟨d1,s1,e1,e⟩:=qza e;refine⟨m,st,τ,d1,s1,Y,J,e1,λv m1 H1 b1 L O i1=>?_⟩
  cases d1 with
  |bl k=>
   cases k with
   |false=>exact⟨false,i1.bl,by rw[Zs Qqo]; exact⟨m1,s1,τ,d,st',O,J.mono b1 L,e,q.mono b1 L⟩⟩
   |true=>cases e; exact⟨true,i1.bl,by rw[Zt rfl]; exact q _ m1 H1 b1 L O (mkBl _)⟩
  |_=>cases e
 |@orN a b pa pb pd r pos Z hb=>
  refine(pe_or (A.e c X G a pa Z) (A.e c X G b _ hb)).imp λσ H Q h=>?_;refine h.el λm st τ d st' Y J e q=>?_;obtain⟨d1,s1,e1,e⟩:=qza e;refine⟨m,st,τ,d1,s1,Y,J,e1,λv m1 H1 b1 L O i1=>?_⟩
  cases d1 with
  |bl k=>
   cases k with
   |false=>exact⟨false,i1.bl,by rw[Zs Qqo]; exact⟨m1,s1,τ,d,st',O,J.mono b1 L,e,q.mono b1 L⟩⟩
   |true=>cases e; exact⟨true,i1.bl,by rw[Zt rfl]; exact q _ m1 H1 b1 L O (mkBl _)⟩
  |_=>cases e
 |@ite q a b pq pa pb pos hq Z hb=>
  refine(qfc (A.t c X G q pq hq) (A.e c X G a pa Z) (A.e c X G b pb hb)).imp λσ H Q h=>?_;refine h.el λm st τ d st' Y J e j=>?_;obtain⟨bb,e1,e⟩:=qzv e;refine⟨m,st,τ,bb.1,bb.2,Y,J,e1,λm1 H1 b1 L O=>?_⟩
  cases hb:bb.1 with
  |true=>
   rw[hb,Zt rfl]at e;rw[Zt rfl];exact⟨m1,bb.2,τ,d,st',O,J.mono b1 L,e,j.mono b1 L⟩
  |false=>
   rw[hb,Zs Qqo]at e;rw[Zs Qqo];exact⟨m1,bb.2,τ,d,st',O,J.mono b1 L,e,j.mono b1 L⟩
 |@tup es ps k pos hs=>
  refine(qgt (qzs A G hs)).imp λσ H Q h=>?_;refine h.el λm st τ d st' Y J e j=>?_;obtain⟨p,e1,e⟩:=qzv e
  split at e
  ·cases e
  ·rename_i hl;cases e;refine⟨m,st,τ,p.1,p.2,Y,J,e1,λxs m1 H1 b1 L O ix=>?_⟩;have l1:=ix.length;have l2:=qqe;refine⟨by omega,λpp hp=>?_⟩;have sm:=qzw (o:=.tup xs) hp;exact j _ m1 _ b1 (L.trans (Tr.of_same sm)) (O.same sm) (qq5 (SqT.of qzk) (qzy (Sub.refl _) (Tr.of_same sm) _ _ ix))
 |@lst es ps pos hs=>
  refine(pe_lst (qzs A G hs)).imp λσ H Q h=>?_;refine h.el λm st τ d st' Y J e j=>?_;obtain⟨p,e1,e⟩:=qzv e
  split at e
  ·cases e
  ·rename_i hl;cases e;refine⟨m,st,τ,p.1,p.2,Y,J,e1,λxs m1 H1 b1 L O ix=>?_⟩;have l1:=ix.length;have l2:=qqe;refine⟨by omega,λpp hp=>?_⟩;exact j _ (m1++[pp]) _ (b1.trans (Sub.app _ _)) (L.trans (Tr.of_same (qzw hp))) (O.new hp ix) O.newLoc
 |@idx a b pa pb pos Z hb hs=>
  exact(pe_ix ix_D (A.e c X G a pa Z) (A.e c X G b pb hb) hs).imp λσ H Q h=>qb0 (fa:=λτ st=>(M.rn fns dl n).ev τ st a) (fb:=λτ st=>(M.rn fns dl n).ev τ st b) (g:=λst x y=>(M.idxD st x y).map λd=>(d,st)) h
 |@call f x es p ps p0 pos hg hf hd hn hs=>
  obtain⟨fa,fd,a8,U,F,hk,hb⟩:=G'.tab f x hf;have hp:Star p:=by cases hs with|cons h _=>exact h.star
  have ht:(backTo pos (starEach ps X.env)).any (·.1)=false:=by cases hs with|cons _ t=>exact qjj t pos X.env
  refine(qip F (G.room.mono (by omega)) (G.gl hg) (U.1 hn) hk hb .nil qfh (qzs A G hs) hd (hp _ _) ht).imp λσ H Q h=>?_;refine h.el λm st τ d st' Y J e j=>?_;obtain⟨q,e1,e⟩:=qzv e;refine⟨m,st,τ,q.1,q.2,Y,J,e1,λxs m1 H1 b1 L O ix=>?_⟩;show spN X.K fns dl f (xs++[]) H1 Q E0;have e:(M.rn fns dl n).call f q.1 q.2=some (d,st'):=e;rw[M.runK_call]at e;rw[Qzm];exact⟨m1,q.2,q.1,d,st',O,ix,e,j.mono b1 L⟩
 |@bcall b es p ps p0 pos hg e8 hs=>
  have hp:Star p:=by cases hs with|cons h _=>exact h.star
  have ht:(backTo pos (starEach ps X.env)).any (·.1)=false:=by cases hs with|cons _ t=>exact qjj t pos X.env
  have hA:=qzs A G hs
  cases b with
  |len=>exact(qz8 qd5 (G.gl hg) G.mo.len qwd hA (by decide) (by decide) (hp _ _) ht).imp λσ H Q h=>qqu (fa:=λτ st=>M.evs ((M.rn fns dl n).ev τ) es st) (g:=M.bLen) h
  |min=>exact(qz8 (qd2 G.calm) (G.gl hg) G.mo.min qej hA (by decide) (by decide) (hp _ _) ht).imp λσ H Q h=>qqu (fa:=λτ st=>M.evs ((M.rn fns dl n).ev τ) es st) (g:=M.bMin) h
  |tuple=>exact(qjq qyz (G.gl hg) G.mo.tuple qjp hA (by decide) (by decide) (hp _ _) ht).imp λσ H Q h=>qqu (fa:=λτ st=>M.evs ((M.rn fns dl n).ev τ) es st) (g:=M.bTuple) h
  |list=>exact(qjq (qba G.room.hd) (G.gl hg) G.mo.list qki hA (by decide) (by decide) (hp _ _) ht).imp λσ H Q h=>qqu (fa:=λτ st=>M.evs ((M.rn fns dl n).ev τ) es st) (g:=M.bList) h
  |any=>exact(qz8 (qd8 G.calm) (G.gl hg) G.mo.any qev hA (by decide) (by decide) (hp _ _) ht).imp λσ H Q h=>qqu (fa:=λτ st=>M.evs ((M.rn fns dl n).ev τ) es st) (g:=M.bAny) h
  |all=>exact(qz8 (qd9 G.calm) (G.gl hg) G.mo.all qew hA (by decide) (by decide) (hp _ _) ht).imp λσ H Q h=>qqu (fa:=λτ st=>M.evs ((M.rn fns dl n).ev τ) es st) (g:=M.bAll) h
  |sorted=>exact(qz8 (qwb G.room.hd) (G.gl hg) G.mo.sorted qwc hA (by decide) (by decide) (hp _ _) ht).imp λσ H Q h=>qqu (fa:=λτ st=>M.evs ((M.rn fns dl n).ev τ) es st) (g:=M.bSorted) h
 |@isi1 t a pa p0 p1 pos hg ht d0 Z=>
  refine(qz8 (qd7 t ht) (G.gl hg) G.mo.isinstance qwe (qqi (A.e c X G a pa Z) (qqi (ty_ok G ht d0) pa_nil rfl) (Z.star _ _)) (by decide) (by decide) (Z.star _ _) rfl).imp λσ H Q h=>?_;refine h.el λm st τ d st' Y J e j=>?_;obtain⟨d1,s1,e1,e⟩:=qza e;obtain⟨nm,e2,e3⟩:=mapD e;cases e3;refine⟨m,st,τ,d1,s1,Y,J,e1,λx m1 H1 b1 L O ix=>?_⟩;refine⟨m1,s1,d1,nm,x,rfl,O,ix,e2,j _ m1 H1 b1 L O ?_⟩;have:([t].any λt=>M.tyIs t nm)=M.tyIs t nm:=by simp
  rw[this];exact mkBl _
 |@isiN ts a pa p0 ps k p1 pos a2 hg ht Z=>
  obtain⟨h1,h2⟩:=qga G ht;refine(qz8 (qd6 ts h2) (G.gl hg) G.mo.isinstance qwe (qqi (A.e c X G a pa Z) (qqi (qgt h1) pa_nil rfl) (Z.star _ _)) (by decide) (by decide) (Z.star _ _) rfl).imp λσ H Q h=>?_;refine h.el λm st τ d st' Y J e j=>?_;obtain⟨d1,s1,e1,e⟩:=qza e;obtain⟨nm,e2,e3⟩:=mapD e;cases e3;refine⟨m,st,τ,d1,s1,Y,J,e1,λx m1 H1 b1 L O ix=>?_⟩;refine qb2 _ σ H1 _ ⟨?_,λpp hp=>?_⟩
  ·rw[Qqw];exact Qx4 (qcx a2)
  ·have sm:=qzw (o:=.tup (ts.map λt=>V.ty t.name)) hp;exact⟨m1,s1,d1,nm,x,pp,rfl,qzk,O.same sm,qzj (Sub.refl _) (Tr.of_same sm) _ _ ix,e2,j _ m1 _ b1 (L.trans (Tr.of_same sm)) (O.same sm) (mkBl _)⟩
 |@append a e pa pe apos cpos Z he hb hl=>
  refine(qfg PySem.F.plainAttrs_list PySem.F.slot_list_append PySem.F.type_list_append qa3 (A.e c X G a _ Z) (qzs A G (.cons he .nil)) (hb X.env) (by rw[he.star]; rfl) hl (he.star _ _) rfl).imp λσ H Q h=>?_;refine h.el λm st τ d st' Y J e0 j=>?_;obtain⟨d1,s1,e1,e0⟩:=qza e0
  split at e0
  ·rename_i U;obtain⟨q,e2,e0⟩:=qzv e0;refine⟨m,st,τ,d1,s1,Y,J,e1,λv m1 H1 b1 L O i1=>⟨?_,m1,s1,τ,q.1,q.2,O,J.mono b1 L,e2,λxs m2 H2 b2 t2 R2 i2=>⟨m2,q.2,d1,q.1,d,st',R2,qzj b2 t2 _ _ i1,i2,e0,j.mono (b1.trans b2) (L.trans t2)⟩⟩⟩
   cases d1 with
   |loc l=>
    have U:(true&&(M.seqAt s1 (.loc l)).isSome)=true:=U;rw[Qxw]at U;obtain⟨ds,a0⟩:=Qzq.mp U;obtain⟨a',xs,_,rfl,hq,_⟩:=O.seq a0 i1;exact .inl ⟨rfl,xs,hq⟩
   |lst l=>
    have U:(true&&(M.seqAt s1 (.lst l)).isSome)=true:=U;rw[Qxw]at U;obtain⟨ds,a0⟩:=Qzq.mp U;obtain⟨a',xs,_,rfl,hq,_⟩:=O.seq a0 i1;exact .inl ⟨rfl,xs,hq⟩
   |_=>cases U
  ·cases e0
 |@extend a e pa pe apos cpos Z he hb hl=>
  refine(qfg PySem.F.plainAttrs_list PySem.F.slot_list_extend PySem.F.type_list_extend qa2 (A.e c X G a _ Z) (qzs A G (.cons he .nil)) (hb X.env) (by rw[he.star]; rfl) hl (he.star _ _) rfl).imp λσ H Q h=>?_;refine h.el λm st τ d st' Y J e0 j=>?_;obtain⟨d1,s1,e1,e0⟩:=qza e0
  split at e0
  ·rename_i U;obtain⟨q,e2,e0⟩:=qzv e0;refine⟨m,st,τ,d1,s1,Y,J,e1,λv m1 H1 b1 L O i1=>⟨?_,m1,s1,τ,q.1,q.2,O,J.mono b1 L,e2,λxs m2 H2 b2 t2 R2 i2=>⟨m2,q.2,d1,q.1,d,st',R2,qzj b2 t2 _ _ i1,i2,e0,j.mono (b1.trans b2) (L.trans t2)⟩⟩⟩
   cases d1 with
   |loc l=>
    have U:(true&&(M.seqAt s1 (.loc l)).isSome)=true:=U;rw[Qxw]at U;obtain⟨ds,a0⟩:=Qzq.mp U;obtain⟨a',xs,_,rfl,hq,_⟩:=O.seq a0 i1;exact .inl ⟨rfl,xs,hq⟩
   |lst l=>
    have U:(true&&(M.seqAt s1 (.lst l)).isSome)=true:=U;rw[Qxw]at U;obtain⟨ds,a0⟩:=Qzq.mp U;obtain⟨a',xs,_,rfl,hq,_⟩:=O.seq a0 i1;exact .inl ⟨rfl,xs,hq⟩
   |_=>cases U
  ·cases e0
 |@index a e pa pe apos cpos Z he hb hl=>
  refine(qfg PySem.F.plainAttrs_list PySem.F.slot_list_index PySem.F.type_list_index (qct hu) (A.e c X G a _ Z) (qzs A G (.cons he .nil)) (hb X.env) (by rw[he.star]; rfl) hl (he.star _ _) rfl).imp λσ H Q h=>?_;refine h.el λm st τ d st' Y J e0 j=>?_;obtain⟨d1,s1,e1,e0⟩:=qza e0
  split at e0
  ·rename_i U;obtain⟨q,e2,e0⟩:=qzv e0;refine⟨m,st,τ,d1,s1,Y,J,e1,λv m1 H1 b1 L O i1=>⟨?_,m1,s1,τ,q.1,q.2,O,J.mono b1 L,e2,λxs m2 H2 b2 t2 R2 i2=>⟨m2,q.2,d1,q.1,d,st',R2,qzj b2 t2 _ _ i1,i2,e0,j.mono (b1.trans b2) (L.trans t2)⟩⟩⟩
   cases d1 with
   |loc l=>
    have U:(true&&(M.seqAt s1 (.loc l)).isSome)=true:=U;rw[Qxw]at U;obtain⟨ds,a0⟩:=Qzq.mp U;obtain⟨a',xs,_,rfl,hq,_⟩:=O.seq a0 i1;exact .inl ⟨rfl,xs,hq⟩
   |lst l=>
    have U:(true&&(M.seqAt s1 (.lst l)).isSome)=true:=U;rw[Qxw]at U;obtain⟨ds,a0⟩:=Qzq.mp U;obtain⟨a',xs,_,rfl,hq,_⟩:=O.seq a0 i1;exact .inl ⟨rfl,xs,hq⟩
   |_=>cases U
  ·cases e0
 |@insert a e e' pa pe e7 apos cpos Z he b7 hb hl=>
  refine(qfg PySem.F.plainAttrs_list PySem.F.slot_list_insert PySem.F.type_list_insert qa1 (A.e c X G a _ Z) (qzs A G (.cons he (.cons b7 .nil))) (hb X.env) (by rw[he.star,b7.star]; rfl) hl (he.star _ _) (by rw[b7.star]; rfl)).imp λσ H Q h=>?_;refine h.el λm st τ d st' Y J e0 j=>?_;obtain⟨d1,s1,e1,e0⟩:=qza e0
  split at e0
  ·rename_i U;obtain⟨q,e2,e0⟩:=qzv e0;refine⟨m,st,τ,d1,s1,Y,J,e1,λv m1 H1 b1 L O i1=>⟨?_,m1,s1,τ,q.1,q.2,O,J.mono b1 L,e2,λxs m2 H2 b2 t2 R2 i2=>⟨m2,q.2,d1,q.1,d,st',R2,qzj b2 t2 _ _ i1,i2,e0,j.mono (b1.trans b2) (L.trans t2)⟩⟩⟩
   cases d1 with
   |loc l=>
    have U:(true&&(M.seqAt s1 (.loc l)).isSome)=true:=U;rw[Qxw]at U;obtain⟨ds,a0⟩:=Qzq.mp U;obtain⟨a',xs,_,rfl,hq,_⟩:=O.seq a0 i1;exact .inl ⟨rfl,xs,hq⟩
   |lst l=>
    have U:(true&&(M.seqAt s1 (.lst l)).isSome)=true:=U;rw[Qxw]at U;obtain⟨ds,a0⟩:=Qzq.mp U;obtain⟨a',xs,_,rfl,hq,_⟩:=O.seq a0 i1;exact .inl ⟨rfl,xs,hq⟩
   |_=>cases U
  ·cases e0
 |@gc a p hp hg Z=>exact(pe_gc (A.e c X G a _ Z)).imp λ_ _ _ h=>h
 |@dic0 pos=>
  refine pe_dnewK.imp λσ H Q h=>?_;refine h.el λm st τ d st' Y J e j=>?_;have e0:M.wdicAt (st++[Cell.dic true []]) st.length=some []:=by simp[M.wdicAt]
  have e:(match M.wdicAt (st++[Cell.dic true []]) st.length with
   |some []=>(M.pairUp []).bind λkvs=>if kvs.length<=15 then some (D.loc st.length,(st++[Cell.dic true []]).set st.length (Cell.dic true (M.dall kvs))) else none
   |_=>none)=some (d,st'):=e
  rw[e0]at e;have e2:(st++[Cell.dic true []]).set st.length (.dic true [])=st++[.dic true []]:=by simp
  have e:some (D.loc st.length,(st++[Cell.dic true []]).set st.length (.dic true []))=some (d,st'):=e;rw[e2]at e;cases e;intro pp hp;exact j _ (m++[pp]) _ (Sub.app _ _) (Tr.of_same (qzw hp)) (Y.newD (kvs:=[]) (xs:=[]) hp rfl) Y.newLoc
 |@dic es k v ks vs pos hP d9=>
  obtain⟨h1,h2,h3⟩:=qvr A G (pos:=pos) hP;refine(qim h1 h2 h3 (by simp) d9).imp λσ H Q h=>?_;refine h.el λm st τ d st' Y J e j=>?_
  have e:((M.evs ((M.rn fns dl n).ev τ) es (st++[.dic true []])).bind λp=>match M.wdicAt p.2 st.length with
   |some []=>(M.pairUp p.1).bind λkvs=>if kvs.length<=15 then some (D.loc st.length,p.2.set st.length (.dic true (M.dall kvs))) else none
   |_=>none)=some (d,st'):=e
  obtain⟨p,e1,e⟩:=qzv e
  split at e
  ·rename_i c3;obtain⟨kvs,e2,e⟩:=qzv e
   split at e
   ·rename_i hl;cases e;intro pp hp;have sm:=qzw (o:=.dK []) hp;refine qvp hP (Y.newD (kvs:=[]) (xs:=[]) hp rfl) (J.mono (Sub.app _ _) (Tr.of_same sm)) e1 λxs m1 H1 b1 L O ix=>?_;obtain⟨ys,c2,c7⟩:=qyr ix e2;have a1:MS.IsD X.K m1 H1 (.loc st.length) (.ref pp):=qzj b1 (Tr.refl H1) _ _ (Y.newLoc (p:=pp));obtain⟨a',c4,d7,ea,hH,c1,c8⟩:=O.wdict c3 a1;cases ea;have c6:c4=[]:=c1;subst c6;have l1:=c2.length;refine⟨hH,ys,c7,by omega,?_⟩;exact j _ m1 _ ((Sub.app _ _).trans b1) ((Tr.of_same sm).trans (L.trans (Tr.putD hH))) (O.putD c8 d7 hH (c2.merge (show IsKV X.K m1 H1 [] [] from rfl))) (qzj (Sub.refl _) (Tr.putD hH) _ _ a1)
   ·cases e
  ·cases e
 |@didx a b pa pb pos Z hb hs=>exact qfe (by omega) (A.e c X G a pa Z) (A.e c X G b pb hb) hs
 |@din a b pa pb pos Z hb U=>exact qyp (qk0 (by omega) false (A.e c X G a pa Z) (A.e c X G b pb hb)) U
 |@dnin a b pa pb pos Z hb U=>exact qyp (qk0 (by omega) true (A.e c X G a pa Z) (A.e c X G b pb hb)) U
 |@gidx x ks ds b pb p0 pos hg U hd hb hs=>
  obtain⟨ad,h1,h2⟩:=G.mo.gds x ks ds U;exact qfd (G.gl hg) h1 h2 hd (A.e c X G b pb hb) hs
 |@gin x ks ds b pb p0 pos hg U hd hb=>
  obtain⟨ad,h1,h2⟩:=G.mo.gds x ks ds U;exact qyp (qku false (G.gl hg) h1 h2 hd (A.e c X G b pb hb)) rfl
 |@gnin x ks ds b pb p0 pos hg U hd hb=>
  obtain⟨ad,h1,h2⟩:=G.mo.gds x ks ds U;exact qyp (qku true (G.gl hg) h1 h2 hd (A.e c X G b pb hb)) rfl
 |@sli a lo hi pa pl ph p2 pos Z hl hh=>
  refine(qfa sl_D (A.e c X G a pa Z) (po_ok A G hl) (po_ok A G hh)).imp λσ H Q h=>?_;refine h.el λm st τ d st' Y J e j=>?_;have e:(((M.rn fns dl n).ev τ st a).bind λp=>(M.part (M.rn fns dl n) τ p.2 lo).bind λl=>(M.part (M.rn fns dl n) τ l.2 hi).bind λh=>M.sliD h.2 p.1 l.1 h.1)=some (d,st'):=e;obtain⟨d1,s1,e1,e⟩:=qza e;obtain⟨l,e2,e⟩:=qzv e;obtain⟨u,e3,e⟩:=qzv e
  exact⟨m,st,τ,d1,s1,Y,J,e1,λx m1 H1 b1 L O i1=>⟨m1,s1,τ,l.1,l.2,O,J.mono b1 L,e2,λm2 H2 b2 t2 R2=>⟨m2,l.2,τ,u.1,u.2,R2,J.mono (b1.trans b2) (L.trans t2),e3,λm3 H3 b3 t3 R3=>
   ⟨m3,u.2,d1,d,st',R3,qzj (b2.trans b3) (t2.trans t3) _ _ i1,e,j.mono (b1.trans (b2.trans b3)) (L.trans (t2.trans t3))⟩⟩⟩⟩
 |@comp t it elt sr tg b9 a6 a9 pos N hk a4 a3 a1 a2 a7 a5 hs hi ht b0 he=>
  have S:=qqs G hk a4 a3 a1 a2 a7;exact(qcg (tt:=λ_ H Q=>Q true H) G.calm S (qjd A G hi) (λC fp s H=>qqj (G.inner hk a5) ht λi b5 x hx=>.inr (qkn b0 i b5 x hx)) (λC fp s H=>qya) (λC fp s H=>A.e _ _ (G.inner hk a5) elt a6 he) (hs X.env)).imp λσ H Q h=>
   qko (λ_ _ _ q=>q) h
 |@compIf t it q elt sr tg b9 pq a6 a9 pos N hk a4 a3 a1 a2 a7 a5 hs hi ht b0 hq he=>
  have S:=qqs G hk a4 a3 a1 a2 a7;exact(qcg G.calm S (qjd A G hi) (λC fp s H=>qqj (G.inner hk a5) ht λi b5 x hx=>.inr (qkn b0 i b5 x hx)) (λC fp s H=>qyy (A.t _ _ (G.inner hk a5) q pq hq)) (λC fp s H=>A.e _ _ (G.inner hk a5) elt a6 he) (hs X.env)).imp λσ H Q h=>
   qko (λ_ _ _ q=>q) h
 |@attr C a f pa pos Z hc hb=>
  obtain⟨h1,h2⟩:=G.mo.ats C f hc;refine(pe_fld (A.e c X G a pa Z) (hb X.env)).imp λσ H Q h=>?_;refine h.el λm st τ d st' Y J e j=>?_;obtain⟨d1,s1,e1,e⟩:=qza e;obtain⟨fs,e2,e⟩:=qzv e;obtain⟨d2,e3,e4⟩:=mapD e;cases e4;refine⟨m,st,τ,d1,s1,Y,J,e1,λx m1 H1 b1 L O ix=>?_⟩;obtain⟨l,p,dx,ys,rfl,_,rfl,hH,b6,_⟩:=O.inst e2 ix;rcases b6.get f with⟨z,_⟩|⟨d',v,z1,z2,iv⟩
  ·rw[z]at e3; cases e3
  ·rw[z1]at e3;cases e3;exact⟨p,C,dx,ys,v,rfl,hH,h1,h2,z2,j _ m1 H1 b1 L O iv⟩
 |@mcall C f m' x cn a es pa ps apos pos Z hf U hc hs ht=>
  obtain⟨fa,fd,a8,hl,F,hk,hb⟩:=G'.tab f x hf;obtain⟨_,hC,_,_⟩:=G.mo.cls cn C hc;have hM:=hl.2 C m' U;obtain⟨pl,ht⟩:=ht X.env;have b8:∀σ H Q,tD X.K (λτ st=>M.stepEv (M.rn fns dl n) τ st (.mcall C f m' a es)) σ H Q->qhu C m' (spN X.K fns dl f) [] E0 (tD X.K λτ st=>(M.rn fns dl n).ev τ st a) (tL X.K λτ st=>M.evs ((M.rn fns dl n).ev τ) es st) σ H Q:=by
   intro σ H Q h;refine h.el λm st τ d st' Y J e j=>?_;obtain⟨d1,s1,e1,e⟩:=qza e;obtain⟨fs,e2,e⟩:=qzv e;refine⟨m,st,τ,d1,s1,Y,J,e1,λv m1 H1 b1 L O ix=>?_⟩;obtain⟨l,p,dx,ys,rfl,_,rfl,hH,b6,_⟩:=O.inst e2 ix;dsimp only at e
   split at e
   ·cases e
   ·rename_i c0;obtain⟨q,e3,e⟩:=qzv e;rcases b6.get m' with⟨_,z⟩|⟨d',v,z1,_,_⟩
    ·refine⟨p,dx,ys,rfl,hH,z,m1,s1,τ,q.1,q.2,O,J.mono b1 L,e3,λxs m2 H2 b2 t2 R2 i2=>?_⟩;have e:(M.rn fns dl n).call f (.loc l::q.1) q.2=some (d,st'):=e;rw[M.runK_call]at e;show spN X.K fns dl f (.ref p::(xs++[])) H2 Q E0;rw[Qzm];exact⟨m2,q.2,_,d,st',R2,qzi (qzj b2 t2 _ _ ix) i2,e,j.mono (b1.trans b2) (L.trans t2)⟩
    ·rw[z1]at c0;exact absurd rfl c0
  have hr:Room (2*dl) X.A:=G.room.mono (by omega)
  cases hs with
  |nil=>
   refine(qfb (A.e c X G a pa Z) hC hM F hr hb .nil qfh ht).imp λσ H Q h=>?_
   ·obtain⟨m,st,τ,d1,s1,Y,J,e1,k⟩:=b8 σ H Q h;refine⟨m,st,τ,d1,s1,Y,J,e1,λv m1 H1 b1 L O ix=>?_⟩;obtain⟨p,dx,ys,rfl,hH,z,m2,s2,e6,ds,s3,R2,S2,e2,k2⟩:=k v m1 H1 b1 L O ix;cases e2;exact⟨p,dx,ys,rfl,hH,z,k2 [] m2 H1 (Sub.refl _) (Tr.refl _) R2 qqq⟩
  |cons h1 h2=>exact(qih (A.e c X G a pa Z) hC hM F hr hb .nil qfh (qzs A G (.cons h1 h2)) (h1.star _ _) (qjj h2 pos X.env) ht).imp b8
 |@new C f x cn es p ps p0 pos hg hf U hc hd hs=>
  obtain⟨fa,fd,a8,hl,F,hk,hb⟩:=G'.tab f x hf;obtain⟨h1,_,h3,h4⟩:=G.mo.cls cn C hc;have hM:=hl.2 C _ U;have hp:Star p:=by cases hs with|cons h _=>exact h.star
  have ht:(backTo pos (starEach ps X.env)).any (·.1)=false:=by cases hs with|cons _ t=>exact qjj t pos X.env
  refine(qii ⟨h3,hM.at_,hM.fn,h4⟩ F G.room (G.gl hg) h1 hb .nil qfh (qzs A G hs) hd (hp _ _) ht).imp λσ H Q h=>?_;refine h.el λm st τ d st' Y J e j=>?_;obtain⟨q,e1,e⟩:=qzv e;obtain⟨w,e2,e⟩:=qzv e;refine⟨m,st,τ,q.1,q.2,Y,J,e1,λxs m1 H1 b1 L O ix x dx hx d4 c9=>?_⟩;have e2:(M.rn fns dl n).call f (.loc q.2.length::q.1) (q.2++[.obj C []])=some w:=e2;rw[M.runK_call]at e2;obtain⟨sm,R2⟩:=O.newI (C:=C) hx d4 c9;have lc:=O.newLoc (p:=x) (H':=upd (upd H1 dx (.own x)) x (.ins C dx []))
  split at e
  ·rename_i hn;cases e;rw[Qzm];refine⟨m1++[x],_,_,w.1,w.2,R2,qzi lc (qzy (Sub.app m1 [x]) (Tr.of_same sm) _ _ ix),e2,λv m2 H2 b2 t2 R3 iv=>?_⟩;have hw:w.1=.non:=by
    cases hq:w.1 with
    |non=>rfl
    |_=>rw[hq]at hn; cases hn
   rw[hw]at iv;exact⟨iv.non,j _ m2 H2 (b1.trans ((Sub.app m1 [x]).trans b2)) (L.trans ((Tr.of_same sm).trans t2)) R3 (qzj b2 t2 _ _ lc)⟩
  ·cases e
end
end MS
end
section
namespace MS
open PySem PySem.Spec PyProof.Rows L2
open M (D Cell Store Sl E S T Src Fn Out R)
section
variable {fns:List Fn}{dl n:Nat}{c:Ctx}{X:Cx}
theorem qj8{K:Qqq}{r:R}{e:E}{z:L2.St}{H:Hp}{Q:Bool->Hp->Prop}(U:∀τ st,M.stepTst r τ st e=(r.ev τ st e).bind λp=>(M.truth p.2 p.1).map λk=>(k,p.2))
  (h:tTs K (λτ st=>M.stepTst r τ st e) z H Q):(tD K λτ st=>r.ev τ st e) z H λx H'=>∃k,TruV K x H' k/\Q k H':=by
 refine h.el λm st τ d st' R0 S0 j q=>?_;have j:=(U τ st).symm.trans j;obtain⟨d1,L,e1,j⟩:=qza j;obtain⟨k,Z,Y⟩:=mapD j;cases Y;exact⟨m,st,τ,d1,L,R0,S0,e1,λx m1 H1 b1 J F O=>⟨_,qhg F O Z,q m1 H1 b1 J F⟩⟩
theorem qen{K:Qqq}{r:R}{e:E}{f:Sl->Store->Option (D×Store)}{z:L2.St}{H:Hp}{Q:Bool->Hp->Prop}(O:∀τ st,M.stepTst r τ st e=(f τ st).bind λp=>(M.truth p.2 p.1).map λk=>(k,p.2))(U:∀τ st d st',f τ st=some (d,st')->∃k,d=.bl k)
  (h:tTs K (λτ st=>M.stepTst r τ st e) z H Q):tB (tD K f) z H Q:=by
 refine h.el λm st τ d st' R0 Y j q=>?_;have j:=(O τ st).symm.trans j;obtain⟨d1,s1,F,j⟩:=qza j;obtain⟨k,rfl⟩:=U _ _ _ _ F;cases j;exact⟨m,st,τ,_,_,R0,Y,F,λx m1 H1 b1 J Z L=>⟨_,L.bl,q m1 H1 b1 J Z⟩⟩
theorem qhj{r:R}{τ:Sl}{st j:Store}{neg:Bool}{a b:E}{d:D}(h:M.dinR r τ st neg a b=some (d,j)):∃k,d=.bl k:=by
 unfold M.dinR at h;obtain⟨U,F,O,h⟩:=qza h;obtain⟨q,z,L,h⟩:=qza h
 cases q with
 |loc l=>
  obtain⟨kvs,J,h⟩:=qzv h
  split at h
  ·cases h; exact⟨_,rfl⟩
  ·cases h
 |_=>cases h
theorem qg8{r:R}{τ:Sl}{st j:Store}{neg:Bool}{ks:List Str}{b:E}{d:D}(h:M.ginR r τ st neg ks b=some (d,j)):∃k,d=.bl k:=by
 unfold M.ginR at h;obtain⟨q,F,J,h⟩:=qza h
 cases q with
 |str z=>cases h; exact⟨_,rfl⟩
 |_=>cases h
theorem qgb{K:Qqq}{r:R}{a b:E}{F:L2.St}{H:Hp}{Q:Bool->Hp->Prop}(h:tTs K (λτ st=>M.stepTst r τ st (.and a b)) F H Q):tAnd (tTs K λτ st=>r.tst τ st a) (tTs K λτ st=>r.tst τ st b) F H Q:=by
 refine h.el λm st τ d st' R0 L j q=>?_;have j:((r.tst τ st a).bind λp=>if p.1 then r.tst τ p.2 b else some (false,p.2))=some (d,st'):=j;obtain⟨p,Z,j⟩:=qzv j;refine⟨m,st,τ,p.1,p.2,R0,L,Z,λm1 H1 b1 z O=>?_⟩
 cases J:p.1 with
 |true=>
  rw[J,Zt rfl]at j;rw[Zt rfl];exact⟨m1,p.2,τ,d,st',O,L.mono b1 z,j,λY H2 b2 U R2=>q Y H2 (b1.trans b2) (z.trans U) R2⟩
 |false=>
  rw[J,Zs Qqo]at j;cases j;rw[Zs Qqo];exact q m1 H1 b1 z O
theorem tt_or{K:Qqq}{r:R}{a b:E}{F:L2.St}{H:Hp}{Q:Bool->Hp->Prop}(h:tTs K (λτ st=>M.stepTst r τ st (.or a b)) F H Q):tOr (tTs K λτ st=>r.tst τ st a) (tTs K λτ st=>r.tst τ st b) F H Q:=by
 refine h.el λm st τ d st' R0 L j q=>?_;have j:((r.tst τ st a).bind λp=>if p.1 then some (true,p.2) else r.tst τ p.2 b)=some (d,st'):=j;obtain⟨p,Z,j⟩:=qzv j;refine⟨m,st,τ,p.1,p.2,R0,L,Z,λm1 H1 b1 z O=>?_⟩
 cases J:p.1 with
 |false=>
  rw[J,Zs Qqo]at j;rw[Zs Qqo];exact⟨m1,p.2,τ,d,st',O,L.mono b1 z,j,λY H2 b2 U R2=>q Y H2 (b1.trans b2) (z.trans U) R2⟩
 |true=>
  rw[J,Zt rfl]at j;cases j;rw[Zt rfl];exact q m1 H1 b1 z O
theorem qvg{K:Qqq}{m F:List Addr}{H Y U:Hp}{τ:Sl}{Z σ':L2.St}{i:Nat}{M d:D}(S0:SlotOk K m H τ Z)(O:SlotOk K F Y (τ.set i (some M)) σ')(s:Sub m F)(t:Tr Y U)(hd:∀v,MS.IsD K F Y M v->MS.IsD K m U d v):SlotOk K m U (τ.set i (some d)) σ':=by
 refine⟨by have:=O.len; rwa [Qzn]at this ⊢,λj e z=>?_⟩
 by_cases J:i=j
 ·subst J;have hi:i<τ.length:=by
   have:=(Qqx.mp z).1;rwa [Qzn]at this
  rw[Qq9 hi]at z;cases z;obtain⟨v,L,q⟩:=O.at_ i M (Qq9 hi);exact⟨v,L,hd v q⟩
 ·rw[Qqn J]at z;obtain⟨v0,_,q0⟩:=S0.at_ j e z;obtain⟨v,L,q⟩:=O.at_ j e (by rw[Qqn J]; exact z);exact⟨v,L,qzj (Sub.refl m) t _ _ (qx0 s _ _ _ q0 q)⟩
theorem qfj{p:Stmt}{f:Sl->Store->Option (D×Store)}{i:Nat}(h:PS X p (tS X.K λτ st=>(f τ st).bind λq=>(M.setT (.var i) q.1 τ).map λτ'=>(Out.nx τ',q.2))):
  PS X p (tS X.K λτ st=>((f τ st).map λq=>M.gcD st q).bind λq=>(M.setT (.var i) q.1 τ).map λτ'=>(Out.nx τ',q.2)):=by
 intro pins s σ H Dn I q;refine q.el λm st τ o st' R0 S0 e F=>?_;obtain⟨d,s1,e1,e⟩:=qza e;obtain⟨⟨d0,J⟩,e2,e3⟩:=mapD e1;obtain⟨τ',U,e5⟩:=mapD e;cases e5;have U:(if i<τ.length then some (τ.set i (some d)) else none)=some τ':=U
 split at U
 case isFalse=>cases U
 case isTrue hi=>
  cases U;refine thn (h pins s σ H ⟨λj H1=>∃m1,Sub m m1/\Tr H H1/\Rel X.K m1 J H1/\SlotOk X.K m1 H1 (τ.set i (some d0)) j,λ_ _=>False,λ_ _=>False,λ_ _=>False⟩ I ⟨m,st,τ,.nx (τ.set i (some d0)),J,R0,S0,by show(f τ st).bind _=_; rw[e2]; show Option.map _ (if i<τ.length then some (τ.set i (some d0)) else none)=_; rw[Zt hi]; rfl,λm1 H1 b t R j Y=>⟨m1,b,t,R,Y⟩⟩) λfl s2 hf=>?_
  cases fl with
  |next=>
   obtain⟨j,H1,I1,m1,b1,t1,L,Y⟩:=hf;have plain:(d0,J)=(d,s1)->SP X pins Dn .next s2:=λz=>by
    cases z;exact⟨j,H1,I1,F m1 H1 b1 t1 L j Y⟩
   rcases gc_el e3 with z|⟨ok,z⟩
   ·exact plain z
   ·unfold M.gcX at z
    split at z
    ·rename_i hn;cases z;exact⟨j,H1,I1,F m H1 (Sub.refl m) t1 (R0.cut L b1 ok (Tr.refl H1) λ_ _ _ _ _ _=>rfl) j (qvg S0 Y b1 (Tr.refl H1) λv q=>qdk _ _ hn q)⟩
    ·split at z
     ·rename_i l hd;simp only at hd
      split at z
      ·rename_i hl
       split at z
       ·rename_i ds hc
        split at z
        ·rename_i hn;cases z;subst hd;obtain⟨a,ha⟩:=L.addr hc;obtain⟨xs,hx,ix⟩:=L.cell l _ a hc ha;obtain⟨o,I2⟩:=qke I1 hx;have Z:=Tr.lay (o:=o) hx;refine⟨j,_,I2,F m _ (Sub.refl m) (t1.trans Z) (R0.cut L b1 ok Z λl' c a' e ea w=>?_) j (qvg S0 Y b1 Z λv q=>?_)⟩
         ·refine qzq λz=>?_;subst z;have h3:=qx5 e;have:=L.nd l' l a' c _ (b1 l' a' ea) ha h3.2 hc w rfl;omega
         ·obtain⟨a',O,rfl⟩:=q.loc;rw[ha]at O;cases O;exact qa4 (.inl ⟨o,qzk⟩) (qjg _ _ hn (qzy (Sub.refl m1) Z _ _ ix))
        ·exact plain z
       ·exact plain z
      ·exact plain z
     ·exact plain z
  |brk=>obtain⟨_,_,_,z⟩:=hf; exact z.elim
  |cont=>obtain⟨_,_,_,z⟩:=hf; exact z.elim
  |ret u=>obtain⟨_,_,_,_,_,z⟩:=hf; exact z.elim
theorem w_ok(A:AllOk fns dl n)(O:Good fns dl c X){e:E}{op:BoolOp}{ps:List Qx}{pos:Pos}(h:CkE c e (.BoolOp op ps pos)):PW X (.BoolOp op ps pos) (tTs X.K λτ st=>M.stepTst (M.rn fns dl n) τ st e):=by
 have G:=O
 cases h.out with
 |@and2 a b q F pos j z=>exact(qgn (A.t c X G a q j) (qik (A.t c X G b F z))).imp λσ H Q h=>qgb h
 |@andN a b q F J r pos j z=>exact(qgn (A.t c X G a q j) (A.w c X G b _ _ _ z)).imp λσ H Q h=>qgb h
 |@or2 a b q F pos j z=>exact(pw_or (A.t c X G a q j) (pw_or1 (A.t c X G b F z))).imp λσ H Q h=>tt_or h
 |@orN a b q F J r pos j z=>exact(pw_or (A.t c X G a q j) (A.w c X G b _ _ _ z)).imp λσ H Q h=>tt_or h
 |gc L U j=>cases L
theorem t_ok(A:AllOk fns dl n)(G':Good fns dl c X){e:E}{p:Qx}(h:CkE c e p):PT X p (tTs X.K λτ st=>M.stepTst (M.rn fns dl n) τ st e):=by
 have G:=G';have hu:X.A.units+64<cLine:=G'.room.units;have hA:=A.e c X G e p h
 cases h.out with
 |@not a Z pos F=>
  refine(pt_not (A.t c X G a Z F)).imp λσ H Q h=>?_;refine h.el λm st τ d st' R0 S0 e0 q=>?_;obtain⟨p,e1,e2⟩:=mapD e0;cases e2;exact⟨m,st,τ,p.1,p.2,R0,S0,e1,λm1 H1 b1 Y R1=>q m1 H1 b1 Y R1⟩
 |and2 F j=>exact(w_ok A G' (.and2 F j)).pt
 |andN F j=>exact(w_ok A G' (.andN F j)).pt
 |or2 F j=>exact(w_ok A G' (.or2 F j)).pt
 |orN F j=>exact(w_ok A G' (.orN F j)).pt
 |@cmp op a b Z O pos F j U=>
  refine(qiv (qxw hu op) (A.e c X G a Z F) (A.e c X G b O j) U).imp λσ H Q h=>?_;refine h.el λm st τ d st' R0 S0 e0 q=>?_;obtain⟨d1,s1,e1,e0⟩:=qza e0;obtain⟨L,J,e2,e0⟩:=qza e0;obtain⟨k,e3,e4⟩:=mapD e0;cases e4
  exact⟨m,st,τ,d1,s1,R0,S0,e1,λx m1 H1 b1 Y R1 i1=>⟨m1,s1,τ,L,J,R1,S0.mono b1 Y,e2,λy m2 H2 b2 t2 R2 i2=>
   ⟨m2,J,d1,L,.bl d,J,R2,qzj b2 t2 _ _ i1,i2,by show Option.map _ (M.cmpD J op d1 L)=_; rw[show M.cmpD J op d1 L=some d from e3]; rfl,λz m3 H3 b3 t3 R3 i3=>⟨d,i3.bl,q m3 H3 (b1.trans (b2.trans b3)) (Y.trans (t2.trans t3)) R3⟩⟩⟩⟩
 |@cmp2 op a0 a b d Z O pd pos F j hd U=>
  refine(qfx (qxw hu op) (qxw hu a0) (A.e c X G a Z F) (A.e c X G b O j) (A.e c X G d pd hd) U).imp λσ H Q h=>?_;refine h.el λm st τ dd st' R0 S0 e q=>?_;obtain⟨d1,s1,e1,e⟩:=qza e;obtain⟨L,J,e2,e⟩:=qza e;obtain⟨k,e3,e⟩:=qzv e
  refine⟨m,st,τ,d1,s1,R0,S0,e1,λx m1 H1 b1 Y R1 i1=>⟨m1,s1,τ,L,J,R1,S0.mono b1 Y,e2,λy m2 H2 b2 t2 R2 i2=>
   ⟨m2,J,d1,L,.bl k,J,R2,qzj b2 t2 _ _ i1,i2,by show Option.map _ (M.cmpD J op d1 L)=_; rw[show M.cmpD J op d1 L=some k from e3]; rfl,λz m3 H3 b3 t3 R3 i3=>⟨k,i3.bl,?_⟩⟩⟩⟩
  cases k with
  |true=>
   rw[Zt rfl]at e ⊢;obtain⟨d3,s3,e4,e⟩:=qza e;obtain⟨k',e5,e6⟩:=mapD e;cases e6
   exact⟨m3,J,τ,d3,s3,R3,S0.mono (b1.trans (b2.trans b3)) (Y.trans (t2.trans t3)),e4,λy' m4 H4 b4 t4 R4 i4=>
    ⟨m4,s3,L,d3,.bl dd,s3,R4,qzj (b3.trans b4) (t3.trans t4) _ _ i2,i4,by show Option.map _ (M.cmpD s3 a0 L d3)=_; rw[show M.cmpD s3 a0 L d3=some dd from e5]; rfl,
     λz m5 H5 b5 t5 R5 i5=>⟨dd,i5.bl,q m5 H5 (b1.trans (b2.trans (b3.trans (b4.trans b5)))) (Y.trans (t2.trans (t3.trans (t4.trans t5)))) R5⟩⟩⟩
  |false=>
   rw[Zs Qqo]at e ⊢;cases e;exact⟨false,rfl,q m3 H3 (b1.trans (b2.trans b3)) (Y.trans (t2.trans t3)) R3⟩
 |ite hq F j=>exact λpins s σ H Q I q=>by obtain⟨m,st,τ,d,st',_,_,z,_⟩:=q; cases z
 |@din a b Z O pos F j U=>exact(qym (qk0 (by omega) false (A.e c X G a Z F) (A.e c X G b O j)) U).imp λσ H Q h=>qen (λ_ _=>rfl) (λ_ _ _ _ z=>qhj z) h
 |@dnin a b Z O pos F j U=>exact(qym (qk0 (by omega) true (A.e c X G a Z F) (A.e c X G b O j)) U).imp λσ H Q h=>qen (λ_ _=>rfl) (λ_ _ _ _ z=>qhj z) h
 |@gin x ks ds b O p0 pos hg U hd j=>
  obtain⟨ad,h1,h2⟩:=G.mo.gds x ks ds U;exact(qym (qku false (G.gl hg) h1 h2 hd (A.e c X G b O j)) rfl).imp λσ H Q h=>qen (λ_ _=>rfl) (λ_ _ _ _ z=>qg8 z) h
 |@gnin x ks ds b O p0 pos hg U hd j=>
  obtain⟨ad,h1,h2⟩:=G.mo.gds x ks ds U;exact(qym (qku true (G.gl hg) h1 h2 hd (A.e c X G b O j)) rfl).imp λσ H Q h=>qen (λ_ _=>rfl) (λ_ _ _ _ z=>qg8 z) h
 |gc hp hg F=>
  cases p with
  |Call=>exact(qqo hA λ_=>rfl).imp λσ H Q h=>qj8 (λ_ _=>rfl) h
  |ListComp=>exact(qqo hA λ_=>rfl).imp λσ H Q h=>qj8 (λ_ _=>rfl) h
  |List=>exact(qqo hA λ_=>rfl).imp λσ H Q h=>qj8 (λ_ _=>rfl) h
  |BinOp=>exact(qqo hA λ_=>rfl).imp λσ H Q h=>qj8 (λ_ _=>rfl) h
  |Subscript=>exact(qqo hA λ_=>rfl).imp λσ H Q h=>qj8 (λ_ _=>rfl) h
  |_=>cases hp
 |_=>exact(qqo hA λ_=>rfl).imp λσ H Q h=>qj8 (λ_ _=>rfl) h
theorem S_nx{K:Qqq}{m:List Addr}{H:Hp}{τ:Sl}{j:Store}{F:Ends}{z:L2.St}(p:PostO K m H (.nx τ) j F){q:List Addr}{H':Hp}(b:Sub m q)(t:Tr H H')(L:Rel K q j H')(J:SlotOk K q H' τ z):F.nx z H':=p q H' b t L z J
theorem qyf{K:Qqq}{r:R}{i:Nat}{e:E}{L:TE}{Z:Ends}{z:L2.St}{H:Hp}(F:∀Q,(tD K λτ st=>r.ev τ st e) z H Q->L z H Q)(h:tS K (λτ st=>M.stepEx r τ st (.set (.var i) e)) Z z H):tAsg L (qw3 i) Z z H:=by
 refine h.el λm st τ o st' R0 Y J q=>?_;obtain⟨U,s1,e1,J⟩:=qza J;obtain⟨τ',j,e3⟩:=mapD J;cases e3;have j:(if i<τ.length then some (τ.set i (some U)) else none)=some τ':=j
 split at j
 ·cases j;exact F _ ⟨m,st,τ,U,s1,R0,Y,e1,λx m1 H1 b1 O R1 i1=>S_nx q b1 O R1 ((Y.mono b1 O).put i1)⟩
 ·cases j
theorem qcj(IH:∀j,j<=n->AllOk fns dl j)(G:Good fns dl c X)(hf:∀x,X.fn x=true){i:Nat}{e:E}{x:Str}{p:Qx}{pos O:Pos}(hi:c.N[i]?=some x)(hl:c.sc.names.lookup x=some .local\/c.sc.names.lookup x=some .cell)(he:CkE c e p)(hg:∀a,e≠.gc a)(hc:∃elt gs sc q,p=.ListComp elt gs sc q)(hs:∀env:Env,env.scope=c.sc->(swapsWith p (some (.Name x O)) pos.line env=pure false\/swapsWith p (some (.Name x O)) pos.line env=pure true)):
  PS X (.Assign [.Name x O] p pos) (tS X.K λτ st=>M.stepEx (M.rn fns dl n) τ st (.set (.var i) e)):=by
 have A:=IH n (Qqk n);have hN:X.N.Nodup:=by rw[G.N]; exact G.nd
 have loc:∀{x:Str},(c.sc.names.lookup x=some .local\/c.sc.names.lookup x=some .cell)->Loc X.env.scope x:=λ{x} h=>by show X.env.scope.names.lookup x=_\/_=_; rw[G.sc]; exact h
 rcases hs X.env G.sc with z|z
 ·exact(qgo hN (qxd G hi) (loc hl) (A.e c X G e p he) z (.inl (hf x))).imp λD σ H h=>qyf (λ_ q=>q) h
 ·cases n with
  |zero=>exact λpins s σ H Dn I q=>by obtain⟨m,st,τ,d,st',_,_,w,_⟩:=q; cases w
  |succ n=>
   have A1:=IH n (Qxb n);have G1:=G;obtain⟨elt,gs,sc,q,rfl⟩:=hc
   cases he.out with
   |@comp t it a0 sr tg a6 a5 a1 cpos N hk J F Y Z U L a4 hit ht a2 he=>
    have SC:=qqs G1 hk J F Y Z U;exact(qkv (tt:=λ_ H Q=>Q true H) G1.calm SC (qjd A1 G1 hit) (λC fp s H=>qqj (G1.inner hk L) ht λi a3 x hx=>.inr (qkn a2 i a3 x hx)) (λC fp s H=>qya) (λC fp s H=>A1.e _ _ (G1.inner hk L) a0 _ he) (a4 X.env) hN (qxd G hi) (loc hl) (.inl (hf x)) z).imp λD σ H h=>
     qyf (λQ q=>qko (λ_ _ _ q=>q) q) h
   |@compIf t it cq a0 sr tg a6 pq a5 a1 cpos N hk J F Y Z U L a4 hit ht a2 hq he=>
    have SC:=qqs G1 hk J F Y Z U;exact(qkv G1.calm SC (qjd A1 G1 hit) (λC fp s H=>qqj (G1.inner hk L) ht λi a3 x hx=>.inr (qkn a2 i a3 x hx)) (λC fp s H=>qyy (A1.t _ _ (G1.inner hk L) cq pq hq)) (λC fp s H=>A1.e _ _ (G1.inner hk L) a0 _ he) (a4 X.env) hN (qxd G hi) (loc hl) (.inl (hf x)) z).imp λD σ H h=>
     qyf (λQ q=>qko (λ_ _ _ q=>q) q) h
   |gc hp a7 ha=>exact(hg _ rfl).elim
theorem s1_ok(IH:∀j,j<=n->AllOk fns dl j)(G:Good fns dl c X)(hf:∀x,X.fn x=true){s:S}{p:Stmt}(h:CkS c s p):PS X p (tS X.K λτ st=>M.stepEx (M.rn fns dl n) τ st s):=by
 have A:=IH n (Qqk n);have hN:X.N.Nodup:=by rw[G.N]; exact G.nd
 have loc:∀{x:Str},(c.sc.names.lookup x=some .local\/c.sc.names.lookup x=some .cell)->Loc X.env.scope x:=λ{x} h=>by show X.env.scope.names.lookup x=_\/_=_; rw[G.sc]; exact h
 cases h with
 |@set i e x p pos pos' hi hl he hs=>exact(qgo hN (qxd G hi) (loc hl) (A.e c X G e p he) (hs X.env) (.inl (hf x))).imp λD σ H h=>qyf (λ_ q=>q) h
 |@setC i e x p pos pos' hi hl he hc hs=>
  by_cases b5:∃a,e=.gc a
  ·obtain⟨a,rfl⟩:=b5
   cases he.out with
   |gc hp hg ha=>
    cases n with
    |zero=>exact λpins s σ H Dn I q=>by obtain⟨m,st,τ,d,st',_,_,w,_⟩:=q; cases w
    |succ n=>exact(qfj (qcj (λj hj=>IH j (Nat.le_succ_of_le hj)) G hf hi hl ha hg hc hs)).imp λ_ _ _ q=>q
  ·exact qcj IH G hf hi hl he (λa z=>b5 ⟨a,z⟩) hc hs
 |@dset a i e pa pi pe tpos pos ha hi he hs=>
  refine(qia (by have:=G.room.units; omega) (A.e c X G a pa ha) (A.e c X G i pi hi) (A.e c X G e pe he) (hs X.env)).imp λDn σ H h=>?_;refine h.el λm st τ o st' R0 S0 L q=>?_;obtain⟨d1,s1,e1,L⟩:=qza L;obtain⟨d2,s2,e2,L⟩:=qza L;obtain⟨d3,s3,e3,L⟩:=qza L
  cases d2 with
  |loc l=>
   have L:((M.wdicAt s3 l).bind λkvs=>if M.isKey d3&&decide (kvs.length<M.lim) then some (Out.nx τ,s3.set l (.dic true (M.dput kvs d3 d1))) else none)=some (o,st'):=L;obtain⟨kvs,U,L⟩:=qzv L
   split at L
   ·rename_i hk;cases L;rw[Qqc,decide_eq_true_eq]at hk;obtain⟨k,b4⟩:=qq9 hk.1;refine⟨m,st,τ,d1,s1,R0,S0,e1,λx m1 H1 b1 t1 R1 i1=>⟨m1,s1,τ,.loc l,s2,R1,S0.mono b1 t1,e2,λy m2 H2 b2 O R2 i2=>⟨m2,s2,τ,d3,s3,R2,S0.mono (b1.trans b2) (t1.trans O),e3,λz m3 H3 b3 t3 R3 i3=>?_⟩⟩⟩;obtain⟨a',xs,a4,rfl,hH,a9,a8⟩:=R3.wdict U (qzj b3 t3 _ _ i2);have hz:=qlv b4 i3;subst hz;have l1:=a9.length;have l2:=qqe;refine⟨a',_,rfl,DPut.k hH (by omega),?_⟩;have iv:=qzj (b2.trans b3) (O.trans t3) _ _ i1;exact S_nx q (b1.trans (b2.trans b3)) (t1.trans (O.trans (t3.trans (Tr.putD hH)))) (R3.putD a8 a4 hH (a9.put b4 iv)) (S0.mono (b1.trans (b2.trans b3)) (t1.trans (O.trans (t3.trans (Tr.putD hH)))))
   ·cases L
  |_=>cases L
 |@expr e p pos he hs=>
  refine(qiy (A.e c X G e p he) (hs X.env)).imp λDn σ H h=>?_;refine h.el λm st τ o st' R0 S0 L q=>?_;obtain⟨p,e1,e2⟩:=mapD L;cases e2;exact⟨m,st,τ,p.1,p.2,R0,S0,e1,λx m1 H1 b1 t1 R1 i1=>S_nx q b1 t1 R1 (S0.mono b1 t1)⟩
 |@ret e p pos he=>
  refine(ps_ret (A.e c X G e p he)).imp λDn σ H h=>?_;refine h.el λm st τ o st' R0 S0 L q=>?_;obtain⟨p,e1,e2⟩:=mapD L;cases e2;exact⟨m,st,τ,p.1,p.2,R0,S0,e1,λx m1 H1 b1 t1 R1 i1=>q m1 H1 b1 t1 R1 x i1⟩
 |@ite q a b pq pa pb pos hq ha hb=>
  refine(ps_if (A.t c X G q pq hq) (A.s c X G hf a pa ha) (A.s c X G hf b pb hb)).imp λDn σ H h=>?_;refine h.el λm st τ o st' R0 S0 L Y=>?_;obtain⟨p,e1,L⟩:=qzv L;refine⟨m,st,τ,p.1,p.2,R0,S0,e1,λm1 H1 b1 t1 R1=>?_⟩
  cases hp:p.1 with
  |true=>
   rw[hp,Zt rfl]at L;rw[Zt rfl];exact⟨m1,p.2,τ,o,st',R1,S0.mono b1 t1,L,Y.mono b1 t1⟩
  |false=>
   rw[hp,Zs Qqo]at L;rw[Zs Qqo];exact⟨m1,p.2,τ,o,st',R1,S0.mono b1 t1,L,Y.mono b1 t1⟩
 |@forr t it body tg b9 pb pos ht hi hs hb=>
   refine(qgp (by rw[G.xe]; exact PassesOwn.never) G.calm (qjd A G hi) (qqj G ht λi _ x _=>.inl (hf x)) (A.s c X G hf body pb hb) (hs X.env)).imp λDn σ H h=>?_;refine h.el λm st τ o st' R0 S0 L Y=>?_;obtain⟨p,e1,L⟩:=qzv L;refine⟨m,st,τ,p.1,p.2,R0,S0,e1,λm1 H1 J b1 t1 R1 hJ=>?_⟩
   refine⟨λj k a6 H'=>∃m2 Z a0,Sub m1 m2/\Tr H1 H'/\Rel X.K m2 Z H'/\SlotOk X.K m2 H' a0 a6/\M.loop p.1 (λτ st d=>(M.setT t d τ).bind λF=>(M.rn fns dl n).ex F st body) k j a0 Z=some (o,st'),
    ⟨_,m1,p.2,τ,Sub.refl _,Tr.refl _,R1,S0.mono b1 t1,L⟩,?_⟩
   rintro j k a6 H' ⟨m2,Z,a0,b2,O,R2,S2,U⟩
   cases k with
   |zero=>cases U
   |succ k=>
    have U:(p.1.at Z j).bind (λo=>match o with
     |none=>some (Out.nx a0,Z)
     |some d=>((M.setT t d a0).bind λF=>(M.rn fns dl n).ex F Z body).bind λz=>match z.1 with
      |.nx F=>M.loop p.1 (λτ st d=>(M.setT t d τ).bind λF=>(M.rn fns dl n).ex F st body) k (j+1) F z.2
      |.ct F=>M.loop p.1 (λτ st d=>(M.setT t d τ).bind λF=>(M.rn fns dl n).ex F st body) k (j+1) F z.2
      |.bk F=>some (.nx F,z.2)
      |.rt v=>some (.rt v,z.2))=some (o,st'):=U
    obtain⟨oo,e5,U⟩:=qzv U
    cases oo with
    |none=>
     cases U;exact .inl ⟨(hJ.mono b2 O).done R2 e5,S_nx Y (b1.trans b2) (t1.trans O) R2 S2⟩
    |some d=>
     obtain⟨b8,hy⟩:=(hJ.mono b2 O).next R2 e5;dsimp only at U;obtain⟨z,e6,U⟩:=qzv U;obtain⟨a2,e7,e6⟩:=qzv e6;refine .inr ⟨b8,λa3 H3=>∃m3 a7 a2,Sub m1 m3/\Tr H1 H3/\Rel X.K m3 a7 H3/\SlotOk X.K m3 H3 a2 a3/\M.loop p.1 (λτ st d=>(M.setT t d τ).bind λF=>(M.rn fns dl n).ex F st body) k (j+1) a2 a7=some (o,st'),λa3 H3 w3=>⟨k,Qzo k,w3⟩,λx H2 b7=>?_⟩;obtain⟨sm,ix⟩:=hy x H2 b7;have O:=O.trans (Tr.of_same sm);have R2:=R2.same sm;have S2:=S2.mono (Sub.refl _) (Tr.of_same sm);refine qlp ix S2 e7 λa3 S3=>?_;refine⟨m2,Z,_,z.1,z.2,R2,S3,e6,λm3 H3 b3 t3 R3=>?_⟩
     cases hz:z.1 with
     |nx a1=>
      rw[hz]at U;exact λa5 S4=>⟨m3,z.2,a1,b2.trans b3,O.trans t3,R3,S4,U⟩
     |ct a1=>
      rw[hz]at U;exact λa5 S4=>⟨m3,z.2,a1,b2.trans b3,O.trans t3,R3,S4,U⟩
     |bk a1=>
      rw[hz]at U;cases U;exact λa5 S4=>S_nx Y (b1.trans (b2.trans b3)) (t1.trans (O.trans t3)) R3 S4
     |rt v=>
      rw[hz]at U;cases U;exact λw iw=>Y m3 H3 (b1.trans (b2.trans b3)) (t1.trans (O.trans t3)) R3 w iw
 |bad=>exact λpins s σ H Dn I q=>by obtain⟨m,st,τ,d,st',_,_,z,_⟩:=q; cases z
 |@setA C a f e pa pe tpos pos ha he hc hs=>
  obtain⟨h1,h2⟩:=G.mo.ats C f hc;refine(ps_fld (A.e c X G a pa ha) (A.e c X G e pe he) (hs X.env)).imp λDn σ H h=>?_;refine h.el λm st τ o st' R0 S0 L q=>?_;obtain⟨d1,s1,e1,L⟩:=qza L;obtain⟨d2,s2,e2,L⟩:=qza L;obtain⟨fs,e3,L⟩:=qzv L;refine⟨m,st,τ,d1,s1,R0,S0,e1,λx m1 H1 b1 t1 R1 i1=>⟨m1,s1,τ,d2,s2,R1,S0.mono b1 t1,e2,λy m2 H2 b2 O R2 i2=>?_⟩⟩;obtain⟨l,p,dx,ys,rfl,hl,rfl,hH,b6,a8⟩:=R2.inst e3 i2;dsimp only at L
  split at L
  ·rename_i c0;cases L;have l1:=b6.length;exact⟨p,C,dx,ys,rfl,hH,h1,h2,by omega,S_nx q (b1.trans b2) (t1.trans (O.trans (Tr.putI hH))) (R2.putI a8 hl hH (b6.put (qzj b2 O _ _ i1))) (S0.mono (b1.trans b2) (t1.trans (O.trans (Tr.putI hH))))⟩
  ·cases L
 |@ford t a body tg pa pb pos ht ha hs hb=>
  refine(qiw (by rw[G.xe]; exact PassesOwn.never) G.calm (A.e c X G a pa ha) (qqj G ht λi _ x _=>.inl (hf x)) (A.s c X G hf body pb hb) (hs X.env)).imp λDn σ H h=>?_;refine h.el λm st τ o st' R0 S0 L Y=>?_;obtain⟨d1,s1,e1,L⟩:=qza L
  cases d1 with
  |loc l=>
   have L:((M.wdicAt s1 l).bind λkvs=>(M.loop (.tup (M.keysOf kvs)) (λτ st d=>(M.setT t d τ).bind λF=>(M.rn fns dl n).ex F st body) (kvs.length+1) 0 τ (s1.set l (.dic false kvs))).bind λq=>
    match q.2[l]? with
    |some (.dic false b0)=>some (q.1,q.2.set l (.dic true b0))
    |_=>none)=some (o,st'):=L
   obtain⟨kvs,e2,L⟩:=qzv L;obtain⟨w,e3,L⟩:=qzv L
   split at L
   case h_2=>cases L
   case h_1 b0 hw=>
   cases L;refine⟨m,st,τ,.loc l,s1,R0,S0,e1,λx m1 H1 b1 t1 R1 i1=>?_⟩;obtain⟨a',xs,a4,rfl,hH,a9,a8⟩:=R1.wdict e2 i1;refine⟨a',xs,rfl,hH,λob nf=>?_⟩;have R2:=R1.ice (o:=ob) a8 a4 hH a9;have ti:=Tr.ice (o:=ob) hH;have IK:=a9.keys;have lk:=IK.length;rw[Qqw]at lk;have fz:∀{H':Hp},Tr (upd H1 a' (.frz ob (.dK xs))) H'->H' a'=some (.frz ob (.dK xs)):=λO=>O.frz a' ob _ qzk
   refine⟨λj k a6 H'=>∃m2 Z a0,Sub m1 m2/\Tr (upd H1 a' (.frz ob (.dK xs))) H'/\Rel X.K m2 Z H'/\SlotOk X.K m2 H' a0 a6/\M.loop (.tup (M.keysOf kvs)) (λτ st d=>(M.setT t d τ).bind λF=>(M.rn fns dl n).ex F st body) k j a0 Z=some w,
    ⟨_,m1,_,τ,Sub.refl _,Tr.refl _,R2,S0.mono b1 (t1.trans ti),e3⟩,?_⟩
   rintro j k a6 H' ⟨m2,Z,a0,b2,O,R3,S2,U⟩
   cases k with
   |zero=>cases U
   |succ k=>
    have U:(some (M.keysOf kvs)[j]?:Option (Option D)).bind (λo=>match o with
     |none=>some (Out.nx a0,Z)
     |some d=>((M.setT t d a0).bind λF=>(M.rn fns dl n).ex F Z body).bind λz=>match z.1 with
      |.nx F=>M.loop (.tup (M.keysOf kvs)) (λτ st d=>(M.setT t d τ).bind λF=>(M.rn fns dl n).ex F st body) k (j+1) F z.2
      |.ct F=>M.loop (.tup (M.keysOf kvs)) (λτ st d=>(M.setT t d τ).bind λF=>(M.rn fns dl n).ex F st body) k (j+1) F z.2
      |.bk F=>some (.nx F,z.2)
      |.rt v=>some (.rt v,z.2))=some w:=U
    rw[oBs]at U
    cases e5:(M.keysOf kvs)[j]? with
    |none=>
     rw[e5]at U;cases U;refine .inl ⟨⟨fz O,by rw[<- lk]; exact Qzw.mp e5⟩,a',ob,xs,nf,fz O,?_⟩;exact S_nx Y (b1.trans b2) (t1.trans (Tr.thaw hH O)) (R3.thaw hw (b2 l a' a4) (fz O)) (S2.monoW (Sub.refl _) (Tw.thaw (fz O)))
    |some d=>
     rw[e5]at U;dsimp only at U;have hj:=(Qqx.mp e5).1;obtain⟨z,e6,U⟩:=qzv U;obtain⟨a2,e7,e6⟩:=qzv e6;refine .inr ⟨⟨fz O,by omega⟩,λa3 H3=>∃m3 a7 a2,Sub m1 m3/\Tr (upd H1 a' (.frz ob (.dK xs))) H3/\Rel X.K m3 a7 H3/\SlotOk X.K m3 H3 a2 a3/\M.loop (.tup (M.keysOf kvs)) (λτ st d=>(M.setT t d τ).bind λF=>(M.rn fns dl n).ex F st body) k (j+1) a2 a7=some w,λa3 H3 w3=>⟨k,Qzo k,w3⟩,?_⟩;rintro x H2 ⟨rfl,p,hp,rfl⟩;obtain⟨x',ex,ix⟩:=IK.get e5;rw[Qqf,hp]at ex;cases ex;refine qlp (qzj b2 (ti.trans O) _ _ ix) S2 e7 λa3 S3=>?_;refine⟨m2,Z,_,z.1,z.2,R3,S3,e6,λm3 H3 b3 t3 R4=>?_⟩
     cases hz:z.1 with
     |nx a1=>
      rw[hz]at U;exact λa5 S4=>⟨m3,z.2,a1,b2.trans b3,O.trans t3,R4,S4,U⟩
     |ct a1=>
      rw[hz]at U;exact λa5 S4=>⟨m3,z.2,a1,b2.trans b3,O.trans t3,R4,S4,U⟩
     |bk a1=>
      rw[hz]at U;cases U;exact λa5 S4=>⟨a',ob,xs,nf,fz (O.trans t3),S_nx Y (b1.trans (b2.trans b3)) (t1.trans (Tr.thaw hH (O.trans t3))) (R4.thaw hw ((b2.trans b3) l a' a4) (fz (O.trans t3))) (S4.monoW (Sub.refl _) (Tw.thaw (fz (O.trans t3))))⟩
     |rt v=>
      rw[hz]at U;cases U;exact λv' iv=>⟨a',ob,xs,nf,fz (O.trans t3),Y m3 _ (b1.trans (b2.trans b3)) (t1.trans (Tr.thaw hH (O.trans t3))) (R4.thaw hw ((b2.trans b3) l a' a4) (fz (O.trans t3))) v' (qqw (Sub.refl _) (Tw.thaw (fz (O.trans t3))) _ _ iv)⟩
  |_=>cases L
theorem qh3(IH:∀j,j<=n->AllOk fns dl j)(G:Good fns dl c X)(U:∀x,X.fn x=true):∀{ss:List S}{ps:List Stmt},CkSs c ss ps->PSs X ps (tS X.K λτ st=>M.exs (M.stepEx (M.rn fns dl n)) ss τ st)
 |_,_,.nil=>pss_nil.imp λDn σ H h=>by
  refine h.el λm st τ o st' Z Y z q=>?_;cases z;exact q m H (Sub.refl m) (Tr.refl H) Z _ Y
 |_,_,.doc t=>(qyn ps_doc (qh3 IH G U t)).imp λDn σ H h=>h
 |_,_,.cons (s:=s) (ss:=ss) h t=>(qyn (s1_ok IH G U h) (qh3 IH G U t)).imp λDn σ H hq=>by
  refine hq.el λm st τ o st' Z Y z q=>?_;obtain⟨p,e1,z⟩:=qzv z;refine⟨m,st,τ,p.1,p.2,Z,Y,e1,λm1 H1 b1 F L=>?_⟩
  cases J:p.1 with
  |nx O=>
   rw[J]at z;exact λa0 S1=>⟨m1,p.2,O,o,st',L,S1,z,q.mono b1 F⟩
  |rt d=>
   rw[J]at z;cases z;exact q m1 H1 b1 F L
  |bk d=>
   rw[J]at z;cases z;exact q m1 H1 b1 F L
  |ct d=>
   rw[J]at z;cases z;exact q m1 H1 b1 F L
end
theorem allOk(fns:List Fn)(dl:Nat):∀n j,j<=n->AllOk fns dl j:=by
 intro n
 induction n with
 |zero=>intro j h; rw[Nat.le_zero.mp h]; exact qbc fns dl
 |succ n q=>
  intro j h;rcases Qz2 j (n+1) with z|z
  ·exact q j (by omega)
  ·have e:j=n+1:=by omega
   subst e;have A:=q n (Qqk n);exact⟨λc X G e p h=>e_ok A G h,λc X G e p h=>t_ok A G h,λc X G e J ps pos h=>w_ok A G h,λc X G hf F ps h=>qh3 q G hf h⟩
structure FText (K:Qqq) (mg:Str->Option Value) (fns:List Fn) (names:List Str) (glo:Glo) (f:Nat) (x:Str):Prop where
 ex:∃(nm:Str) (fa:Addr) (fd:Qh) (st:Stmt) (N ps:List Str) (F:Fn),fns[f]?=some F/\Fun K nm x st fa fd/\Lc K mg glo f x fa/\Binds K fd ps []/\FnScope N ps (qzx st)/\CkSs ⟨N,qzx st,names,glo⟩ F.body (qzm st)/\F.np=ps.length/\F.nl=N.length
theorem qhz{P:Program}{w:Qk}{K:Qqq}{mg:Str->Option Value}{base:Heap}{fns:List Fn}{names:List Str}{glo:Glo}{n f:Nat}{nm x:Str}{fa:Addr}{fd:Qh}{st:Stmt}{N ps:List Str}{F:Fn}(ih:FTab P w K mg base glo fns names n)(Mg:Mo K mg glo w.params)
  (hF:fns[f]?=some F) (Z:Fun K nm x st fa fd) (L:FnScope N ps (qzx st)) (a2:CkSs ⟨N,qzx st,names,glo⟩ F.body (qzm st)) (a0:F.np=ps.length) (a1:F.nl=N.length):FnOk P w K mg base CX0 (2*(n+1)) fa fd ps (spN K fns (n+1) f):=by
 have U:∀{ds:List D}{j st':Store}{d:D},M.callD fns (n+1) f ds j=some (d,st')->ds.length=F.np/\((M.Lv fns n).ex (ds.map some++List.replicate (F.nl - ds.length) none) j F.body).bind (λp=>match p.1 with
   |.rt d=>some (d,p.2)
   |.nx _=>some (D.non,p.2)
   |_=>none)=some (d,st'):=λ{ds j st' d} e=>by
  have e:M.stepCall fns (M.Lv fns n) f ds j=some (d,st'):=e;unfold M.stepCall at e;rw[hF]at e;dsimp only at e
  split at e
  ·rename_i hl;exact⟨hl,e⟩
  ·cases e
 refine Z.ok L (λvs H Q E h=>?_) (λa3 A outer s H vs Q E hr h=>?_)
 ·obtain⟨m,j,ds,d,st',_,Y,e,_⟩:=h;rw[<- Y.length,(U e).1,a0]
 ·obtain⟨m,j,ds,d,st',R0,Y,e,q⟩:=h;obtain⟨hl,e⟩:=U e;obtain⟨p,e1,J⟩:=qzv e;obtain⟨k,e1⟩:=M.lim1_is e1;have G:Good fns n ⟨N,qzx st,names,glo⟩ (cxOf CX0 P w K mg base N x (qzx st) fa a3 A outer s H E).nox:=⟨hr,rfl,rfl,rfl,L.nd,L.kind,ih,Mg,rfl⟩
  refine⟨_,(allOk fns n k k (Qqk k)).s _ _ G (λ_=>rfl) F.body (qzm st) a2,?_⟩;refine⟨m,j,ds.map some++List.replicate (F.nl - ds.length) none,p.1,p.2,R0,⟨?_,λi d0 hi=>?_⟩,e1,λm1 H1 b1 t1 R1=>?_⟩
  ·unfold L2.start;rw[Qqu,Qqu,Qqw,Qqw,Qx1,Qx1,a1,Y.length]
  ·unfold L2.start
   by_cases O:i<ds.length
   ·rw[Qqt (by simpa using O),Qqf]at hi;have e3:ds[i]?=some d0:=by
     cases z:ds[i]? with
     |none=>rw[z]at hi; cases hi
     |some y=>rw[z]at hi; cases hi; rfl
    obtain⟨v,e4,iv⟩:=Y.get e3;refine⟨v,?_,iv⟩;rw[Qqt (by rw[Qqw,<- Y.length]; exact O),Qqf,e4]
    rfl
   ·rw[Qza (by simpa using O),Qjs]at hi
    split at hi<;>cases hi
  ·cases hp:p.1 with
   |rt d1=>
    rw[hp]at J;cases J;exact λv iv=>q v m1 H1 b1 t1 R1 iv
   |nx a4=>
    rw[hp]at J;cases J;exact λa5 S1=>q _ m1 H1 b1 t1 R1 qvt
   |bk d1=>rw[hp]at J; cases J
   |ct d1=>rw[hp]at J; cases J
theorem tab_ok{P:Program}{w:Qk}{K:Qqq}{mg:Str->Option Value}{base:Heap}{fns:List Fn}{names:List Str}{glo:Glo}(T:∀f x,names[f]?=some x->FText K mg fns names glo f x)(Mg:Mo K mg glo w.params):
  ∀n,FTab P w K mg base glo fns names n:=by
 intro n
 induction n with
 |zero=>
  intro f x M;obtain⟨nm,Y,fd,st,N,ps,F,Z,j,O,U,q,L,z,J⟩:=(T f x M).ex;refine⟨Y,fd,ps,O,?_,j.kp,U⟩;refine⟨λvs H Q E h=>?_,λA outer s H a0 us vs Q E hr he a1 hv h=>?_⟩
  ·obtain⟨m,st,ds,d,st',_,_,e,_⟩:=h; cases e
  ·obtain⟨m,st,ds,d,st',_,_,e,_⟩:=h; cases e
 |succ n ih=>
  intro f x M;obtain⟨nm,Y,fd,st,N,ps,F,Z,j,O,U,q,L,z,J⟩:=(T f x M).ex;exact⟨Y,fd,ps,O,qhz ih Mg Z j q L z J,j.kp,U⟩
noncomputable def qe8(K:Qqq):Sp:=λvs H Q _=>∃(a:Addr) (ns:List Int),vs=[.ref a]/\SqF K H a (ns.map V.int)/\ns.length<=63/\∀H',Q (.bl true) H'
theorem law_sp{K:Qqq}{fns:List Fn}{n f:Nat}(h:∀ns:List Int,ns.length<=63->∃st',M.callD fns n f [.lst (ns.map D.int)] []=some (.bl true,st'))(vs:List V)(H:Hp)(Q:VK)(E:XK)(q:qe8 K vs H Q E):spN K fns n f vs H Q E:=by
 obtain⟨a,ns,rfl,F,z,k⟩:=q;obtain⟨st',e⟩:=h ns z;refine⟨[],[],[.lst (ns.map D.int)],.bl true,st',⟨rfl,λl U b c Z j L J Y w O=>?_,λl c b j L=>?_⟩,qzi (qa4 F (qxq ns)) qqq,e,λv m' H' _ _ _ i=>?_⟩
 ·simp at J
 ·simp at j
 ·rw[i.bl]; exact k H'
theorem qi5{K:Qqq}{H:Hp}{a:Addr}{xs:List V}(j:Only H)(h:SqL K H a xs):SqF K H a xs:=by
 rcases h with (h|⟨o,h⟩)|h
 ·rcases j a with z|⟨ob,ys,z⟩
  ·rw[h]at z; cases z
  ·rw[h]at z; cases z
 ·exact .inl ⟨o,h⟩
 ·exact .inr h
theorem walk_law{l:PySem.W.OpenLaw}{k:Nat}{q:Program}{loose:List Str}{XP:(Str->Option Value)->Heap->Prop}{YP:Qk->Heap->Prop}{d:DefRec}{K:Qp->Qqq}{x:Str}(L:l.most=some 63)(j:d.params.defaults=[])(J:Room k Zl)
  (O:∀(w:Qk) (h:Heap),YP w h->(K w.params).In h)
  (F:∀(w:Qk) (mg:Str->Option Value) (fa:Addr) (h:Heap),(K w.params).In h->h.Ns Qv mg->mg d.name=some (.ref fa)->
   ∃fd:Qh,(∀(s:Qz) (u:Value),BindsTo s fd ⟨[u],[]⟩ [(x,u)])/\∀base:Heap,(K w.params).In base->base.Ns Qv mg->FnOk l.prog w (K w.params) mg base CX0 k fa fd [x] (qe8 (K w.params))) :
  PySem.W.WalkO q loose XP YP l.row.toRowW d [] (λf vs=>PySem.call f vs):=
 L2.walk_of (n:=63) (k:=k) (x:=x) (CX:=λ_=>CX0) (sp:=λw=>qe8 (K w.params)) L (by decide) j J O F (λ_ _ a ns M Y U=>⟨a,ns,rfl,qi5 Y U,M,λ_=>rfl⟩) λ_ _ _ _ _ z=>z
noncomputable def srcOk(sr:List (Option Nat))(N cN:List Str)(scope:Scope):Bool:=(List.range sr.length).all λj=>match sr[j]? with
 |some (some i)=>match N[j]? with
  |some x=>cN[i]?==some x&&scope.names.lookup x==some .free
  |none=>false
 |_=>true
theorem qgl{sr:List (Option Nat)}{N z:List Str}{q:Scope}(h:srcOk sr N z q=true):∀(j i:Nat),sr[j]?=some (some i)->∃x,N[j]?=some x/\z[i]?=some x/\q.names.lookup x=some .free:=by
 intro j i e;unfold srcOk at h;rw[Qzk]at h;have:=h j (Qz4.mpr (Qqx.mp e).1);rw[e]at this;dsimp only at this
 split at this
 ·rename_i x F;rw[Qqc,beq_iff_eq,beq_iff_eq]at this;exact⟨x,F,this.1,this.2⟩
 ·cases this
theorem qe2(elt:Qx)(j:List Comprehension)(sc:Scope)(q:Pos)(t:Str)(p:Pos)(line:Nat)(env:Env):swapsWith (.ListComp elt j sc q) (some (.Name t p)) line env=pure false\/swapsWith (.ListComp elt j sc q) (some (.Name t p)) line env=pure true:=by
 have e:swapsWith (.ListComp elt j sc q) (some (.Name t p)) line env=pure (env.blockKind==.function&&env.kindOf t==some .local&&p.line==q.line && !(sc.names.any λ(n,k)=>n==t&&(k==.local||k==.cell))):=rfl;rw[e]
 cases (env.blockKind==.function&&env.kindOf t==some .local&&p.line==q.line && !(sc.names.any λ(n,k)=>n==t&&(k==.local||k==.cell))) with
 |false=>exact .inl rfl
 |true=>exact .inr rfl
inductive FnK (K:Qqq) (x:Str) (st:Stmt):Addr->Qh->Prop
 |mk {f:Addr}{od an:Option Addr}{sl:Array (Option Value)}{oc kV dc pm cd ct:Value}(a:Qq7 K Qv x=some (some (.ref f))) (l:K.lookup f=some ⟨oc,od,.func (PySem.W.fnOf x x (qzt st) (qzm st) (qzx st) .none kV dc pm an cd ct),sl⟩) (c:PySem.W.codeIn K cd x=true) (k:Qzy K (.ref f)=true):FnK K x st f (PySem.W.fnOf x x (qzt st) (qzm st) (qzx st) .none kV dc pm an cd ct)
inductive MeK (K:Qqq) (C:Addr) (m x:Str) (st:Stmt):Addr->Qh->Prop
 |mk {f:Addr}{od an:Option Addr}{sl:Array (Option Value)}{oc kV dc pm cd ct:Value}(a:PySem.W.findIn K (.ref C) m=some (some (.ref f))) (fn:PySem.W.isFn K (.ref f)=true) (l:K.lookup f=some ⟨oc,od,.func (PySem.W.fnOf m x (qzt st) (qzm st) (qzx st) .none kV dc pm an cd ct),sl⟩) (c:PySem.W.codeIn K cd x=true) (k:Qzy K (.ref f)=true):MeK K C m x st f (PySem.W.fnOf m x (qzt st) (qzm st) (qzx st) .none kV dc pm an cd ct)
inductive ClK (K:Qqq) (cn:Str) (C:Addr):Prop
 |mk (a:Qq7 K Qv cn=some (some (.ref C))) (pg:PySem.W.plainGet K C Str.empty=true) (hd:PySem.W.hasDictIn K C=true) (po:PySem.W.plainOver K C=true) (sa:PySem.W.findIn K (.ref C) "__setattr__" = some (some (.builtin "object.__setattr__"))) (mk:PySem.W.makesIn K C=true) (kp:Qzy K (.ref C)=true):ClK K cn C
theorem ClK.cls{K:Qqq}{j:Str}{C:Addr}(h:ClK K j C):Cls K C:=by
 cases h with
 |mk a pg hd po sa mk kp=>exact⟨pg,hd,po,sa⟩
theorem ClK.mo{K:Qqq}{j:Str}{C:Addr}{h:Heap}{mg:Str->Option Value}(q:ClK K j C)(X:K.In h)(G:h.Ns Qv mg):mg j=some (.ref C)/\Cls K C/\PySem.W.makesIn K C=true/\Qzy K (.ref C)=true:=by
 have c:=q.cls
 cases q with
 |mk a pg hd po sa mk kp=>exact⟨Qxs X G a,c,mk,kp⟩
inductive NoB (K:Qqq):Prop
 |mk (z0:Qq7 K Qv "len" = some none) (z1:Qq7 K Qv "min" = some none) (z2:Qq7 K Qv "max" = some none) (z3:Qq7 K Qv "tuple" = some none) (z4:Qq7 K Qv "list" = some none) (z5:Qq7 K Qv "all" = some none) (z6:Qq7 K Qv "sorted" = some none) (z7:Qq7 K Qv "isinstance" = some none) (z8:Qq7 K Qv "range" = some none) (z9:Qq7 K Qv "int" = some none) (z10:Qq7 K Qv "bool" = some none) (z11:Qq7 K Qv "str" = some none) (z12:Qq7 K Qv "zip" = some none) (z13:Qq7 K Qv "any" = some none) (z14:Qq7 K Qv "enumerate" = some none) (z15:Qq7 K Qv "reversed" = some none) (z16:Qq7 K Qv "sum" = some none) (z17:Qq7 K Qv "set" = some none) (z18:Qq7 K Qv "dict" = some none):NoB K
theorem NoB.mo{K:Qqq}{h:Heap}{mg:Str->Option Value}{glo:Glo}{prm:Qp}(z:NoB K)(X:K.In h)(G:h.Ns Qv mg)(h1:∀x ks ds,(x,ks,ds)∈glo.ds->∃a,mg x=some (.ref a)/\FDict prm K a ks ds)(h2:∀x d,(x,d)∈glo.cs->∃u v,mg x=some u/\RelV v u/\∀m H,IsD K m H d v)(h3:∀Z C,(Z,C)∈glo.cl->mg Z=some (.ref C)/\Cls K C/\PySem.W.makesIn K C=true/\Qzy K (.ref C)=true)(h4:∀C f,(C,f)∈glo.ats->Cls K C/\NoAttr K C f):Mo K mg glo prm:=by
 obtain⟨z0,z1,z2,z3,z4,z5,z6,z7,z8,z9,Y,U,O,M,L,J,F,q,j⟩:=z;exact⟨h3,h4,h1,h2,Qq0 X G z0,Qq0 X G z1,Qq0 X G z2,Qq0 X G z3,Qq0 X G z4,Qq0 X G z5,Qq0 X G z6,Qq0 X G z7,Qq0 X G z8,Qq0 X G z9,Qq0 X G Y,Qq0 X G U,Qq0 X G O,Qq0 X G M,Qq0 X G L,Qq0 X G J,Qq0 X G F,Qq0 X G q,Qq0 X G j⟩
inductive TupK (K:Qqq) (a:Addr) (vs:Array Value):Prop
 |mk {gd:Option Addr}{gn:Nat}{gs:Array (Option Value)}(h:K.lookup a=some ⟨.type "tuple",gd,.seq vs gn,gs⟩):TupK K a vs
end MS
end
section
namespace MS
open PySem PySem.Spec PyProof.Rows L2
open M (D Cell Store Sl E S T Src Fn Out R)
noncomputable def sq(a b:Str):Bool:=a.cps.toList==b.cps.toList
theorem qqg{a b:Str}(h:sq a b=true):a=b:=by
 obtain⟨⟨a⟩⟩:=a;obtain⟨⟨b⟩⟩:=b;have:a=b:=by simpa[sq] using h
 rw[this]
theorem qwn(a:Str):sq a a=true:=by simp[sq]
theorem qam{a b:Str}(h:(!sq a b)=true):(a==b)=false:=by
 cases e:a==b with
 |false=>rfl
 |true=>
  rw[beq_iff_eq]at e;rw[e,qwn]at h;cases h
noncomputable def gd{α:Type}(b:Bool)(x:Option α):Option α:=bif b then x else none
theorem gd_iff{α:Type}{b:Bool}{x:Option α}{e:α}:gd b x=some e↔b=true/\x=some e:=by cases b<;>simp[gd]
noncomputable def lk:List (Str×Qi)->Str->Option Qi
 |[],_=>none
 |(y,k)::r,x=>bif sq x y then some k else lk r x
theorem qv3:∀{l:List (Str×Qi)}{x:Str},lk l x=l.lookup x
 |[],_=>rfl
 |(y,k)::r,x=>by
  unfold lk;rw[Qzj]
  cases e:sq x y with
  |true=>rw[qqg e,beq_self_eq_true]; rfl
  |false=>
   have:(x==y)=false:=by
    cases j:x==y with
    |false=>rfl
    |true=>rw[beq_iff_eq]at j; rw[j,qwn]at e; cases e
   rw[this];exact qv3
noncomputable def ixS(x:Str):List Str->Option Nat
 |[]=>none
 |y::r=>bif sq y x then some 0 else(ixS x r).map (· + 1)
theorem ixS_eq{x:Str}:∀{N:List Str}{i:Nat},ixS x N=some i->N[i]?=some x
 |[],_,h=>nomatch h
 |y::r,i,h=>by
  unfold ixS at h
  cases e:sq y x with
  |true=>rw[e]at h; cases h; rw[qqg e]; rfl
  |false=>
   rw[e]at h;obtain⟨j,q,rfl⟩:=Qqr.mp (show(ixS x r).map (· + 1)=some i from h);exact(ixS_eq q :)
noncomputable def kG:Option Qi->Bool
 |some .globalImplicit=>true
 |_=>false
noncomputable def kL:Option Qi->Bool
 |some .local=>true
 |some .cell=>true
 |_=>false
noncomputable def kV:Option Qi->Bool
 |some .local=>true
 |some .cell=>true
 |some .free=>true
 |_=>false
theorem kG_eq{o:Option Qi}(h:kG o=true):o=some .globalImplicit:=by
 unfold kG at h; split at h
 ·rfl
 ·cases h
theorem kL_eq{o:Option Qi}(h:kL o=true):o=some .local\/o=some .cell:=by
 unfold kL at h; split at h
 ·exact .inl rfl
 ·exact .inr rfl
 ·cases h
theorem qla{o:Option Qi}(h:kV o=true):o=some .local\/o=some .cell\/o=some .free:=by
 unfold kV at h; split at h
 ·exact .inl rfl
 ·exact .inr (.inl rfl)
 ·exact .inr (.inr rfl)
 ·cases h
noncomputable def isG(c:Ctx)(x:Str):Bool:=kG (lk c.sc.names x)
noncomputable def isL(c:Ctx)(x:Str):Bool:=kL (lk c.sc.names x)
theorem qqv{c:Ctx}{x:Str}(h:isG c x=true):c.sc.names.lookup x=some .globalImplicit:=qv3▸kG_eq h
theorem qy8{c:Ctx}{x:Str}(h:isL c x=true):c.sc.names.lookup x=some .local\/c.sc.names.lookup x=some .cell:=qv3▸kL_eq h
noncomputable def noD(x:Str):Bool:=!sq x ("__debug__" : Str)
noncomputable def shOk:Qx->Bool
 |.Starred ..=>false
 |.Slice ..=>false
 |.Set ..=>false
 |.SetComp ..=>false
 |.DictComp ..=>false
 |.Call (.Name _ _) [] _ _=>false
 |_=>true
noncomputable def swOk:Qx->Bool
 |.ListComp ..=>false
 |.SetComp ..=>false
 |.DictComp ..=>false
 |_=>true
theorem sw_ok{p:Qx}(h:swOk p=true)(t:Option Qx)(l:Nat)(env:Env):swapsWith p t l env=pure false:=by
 cases p<;>first|rfl|cases h
theorem sh_sw{p:Qx}(h:shOk p=true){a i:Qx}{j:Pos}(l:Nat)(env:Env):swapsWith p (some (.Subscript a i j)) l env=pure false:=by
 cases p<;>first|rfl|cases h
theorem sh_swA{p:Qx}(h:shOk p=true){a:Qx}{f:Str}{j:Pos}(l:Nat)(env:Env):swapsWith p (some (.Attribute a f j)) l env=pure false:=by
 cases p<;>first|rfl|cases h
theorem qh6{p:Qx}(h:shOk p=true)(o i:Value):subscripted p false o i=operate [o,i] (Q9 o i):=by
 cases p<;>first|rfl|cases h
theorem qe9{p:Qx}(h:shOk p=true)(op:Qr):Qf op p=false:=by
 cases p<;>first|rfl|cases h
theorem qh7{p:Qx}(h:shOk p=true)(env:Env)(x:Value):foldedSetIterable p env x=pure x:=by
 cases p<;>first|rfl|cases h
theorem qks{p:Qx}(h:shOk p=true)(a:Str)(env:Env)(w:Sem Value):attributeBase p a env w=w:=by
 cases p with
 |Call f ps ks pos=>
  cases f with
  |Name x q=>
   cases ps with
   |nil=>cases h
   |cons _ _=>rfl
  |_=>rfl
 |_=>rfl
theorem qgm{env:Env}{pos:Pos}:∀{ps:List Qx},ps.all shOk=true->(backTo pos (starEach ps env)).all (λx=>!x.1)=true
 |[],_=>rfl
 |p::r,h=>by
  rw[Qxv,Qqc]at h;have e:backTo pos (starEach (p::r) env)=(false,eval p env)::backTo pos (starEach r env):=by
   cases p<;>first|rfl|cases h.1
  rw[e,Qxv,qgm h.2]
  rfl
theorem sh_mt{q:Qx}(h:shOk q=true){m:Str}{j:Pos}{ps:List Qx}{pos:Pos}(F:ps.all shOk=true)(L:ps.length<30)(J:(j.endLine==pos.line)=true):qmx q m j ps pos:=by
 intro env;refine⟨(do return (<- importBound q env).getD true),?_⟩
 have e:eval (.Call (.Attribute q m j) ps [] pos) env=(do
  let z <- attributeBase q m env (eval q env)
  standAt j.atName
  methodCall q m j pos env z (ps.length+0) (backTo pos (starEach ps env)) (backToKw pos (keywordEach [] env))):=rfl
 have f:methodCallForm (ps.length+0) (backTo pos (starEach ps env)) (backToKw pos (keywordEach [] env))=true:=by
  unfold methodCallForm;rw[qgm F];simpa[keywordEach,backToKw] using L
 rw[e,qks h];unfold methodCall calleeOf methodCallPos;rw[f,J]
 rfl
end MS
end
section
namespace MS
open PySem PySem.Spec PyProof.Rows L2
open M (D Cell Store Sl E S T Src Fn Out R)
abbrev TrE:=Ctx->Qx->Option E
noncomputable def qbp(c:Ctx)(x:Str):Option E:=
 bif isG c x then(c.glo.cs.find? λq=>sq q.1 x).bind λq=>gd (noD x) (some (.glo q.1 q.2))
 else(ixS x c.N).bind λi=>gd (kV (lk c.sc.names x)&&noD x && !sq x ("__classdict__" : Str)) (some (.var i))
noncomputable def trL(f:Qx->Option E):List Qx->Option (List E)
 |[]=>some []
 |p::r=>(f p).bind λe=>(trL f r).map (e::·)
noncomputable def trP(f:Qx->Option E):List (Option Qx)->List Qx->Option (List E)
 |[],[]=>some []
 |some k::ks,v::vs=>(f k).bind λa=>(f v).bind λb=>(trP f ks vs).map λr=>a::b::r
 |_,_=>none
noncomputable def trO(f:Qx->Option E):Option Qx->Option (Option E)
 |none=>some none
 |some p=>(f p).map some
noncomputable def qf0(c:Ctx):Qx->Option (Str×List Str×List D)
 |.Name x _=>gd (isG c x&&noD x) (c.glo.ds.find? λq=>sq q.1 x)
 |_=>none
noncomputable def inNeg:Qr->Option Bool
 |.In=>some false
 |.NotIn=>some true
 |_=>none
noncomputable def qho(o:Nat)(f:Qx->Option E)(c:Ctx)(a:Qx)(op:Qr)(b:Qx):Option E:=
 match inNeg op with
 |some neg=>match qf0 c b with
  |some q=>(f a).map λx=>.gin neg q.1 q.2.1 x
  |none=>(f a).bind λx=>(f b).map λy=>bif o==1 then .din neg x y else .cmp op x y
 |none=>(f a).bind λx=>(f b).map λy=>.cmp op x y
noncomputable def qhi(o:Nat)(f:Qx->Option E)(c:Ctx)(a:Qx):Qx->Option E
 |.Slice lo hi none _=>(f a).bind λx=>(trO f lo).bind λl=>(trO f hi).map λh=>.sli x l h
 |b=>match qf0 c a with
  |some q=>(f b).map λy=>.gidx q.1 q.2.1 q.2.2 y
  |none=>(f a).bind λx=>(f b).map λy=>bif o==1 then .didx x y else .idx x y
noncomputable def bOf(x:Str):Option M.B:=[M.B.len,.min,.tuple,.list,.all,.sorted,.any].find? λb=>sq (Str.ofString (qey b)) x
noncomputable def tyOf(x:Str):Option M.Ty:=[M.Ty.bl,.int,.str,.tup,.lst].find? λt=>sq (Str.ofString t.name) x
noncomputable def qep(c:Ctx):List Qx->Option (List M.Ty)
 |[]=>some []
 |.Name x _::r=>(tyOf x).bind λt=>gd (isG c x) ((qep c r).map (t::·))
 |_=>none
noncomputable def mOf(x:Str):Option M.Mt:=[(M.Mt.append,("append" : Str)),(.extend,"extend"),(.index,"index")].findSome? λq=>bif sq q.2 x then some q.1 else none
noncomputable def qhm(f:Qx->Option E)(c:Ctx)(a:Qx):Qx->Option E
 |.Name x _=>(tyOf x).bind λt=>gd (isG c x) ((f a).map λe=>.isi e [t] false)
 |.Tuple ps _ _=>(qep c ps).bind λts=>gd (decide (ts.length<=1000)) ((f a).map λe=>.isi e ts true)
 |_=>none
noncomputable def qhn(f:Qx->Option E)(c:Ctx)(x:Str)(p:Qx)(r:List Qx):Option E:=
 match ixS x c.fns with
 |some k=>gd (qa0 x) ((trL f (p::r)).map (.call k))
 |none=>match c.glo.cl.find? λq=>sq q.1 x with
  |some q=>(c.glo.ms.find? λz=>z.2.1==q.2&&sq z.2.2 ("__init__" : Str)).bind λz=>gd (c.fns[z.1]?).isSome ((trL f (p::r)).map (.new q.2 z.1))
  |none=>match r with
   |[t]=>bif sq x ("isinstance" : Str) then qhm f c p t else(bOf x).bind λb=>gd (bOk b) ((trL f (p::r)).map (.bcall b))
   |_=>(bOf x).bind λb=>gd (bOk b) ((trL f (p::r)).map (.bcall b))
noncomputable def qc4(c:Ctx)(x:Str):List Qx->Option Qx
 |[.Call (.Name y _) [a] [] _]=>gd (sq x ("len" : Str)&&sq y ("set" : Str)&&isG c y) (some a)
 |_=>none
noncomputable def qbs(o:Nat)(f:Qx->Option E)(c:Ctx)(a:Qx)(m:Str)(apos:Pos)(ps:List Qx)(pos:Pos):Option E:=
 gd (apos.endLine==pos.line) (bif Nat.ble 3 o then
  (c.glo.ms.find? λz=>z.2.1==o - 3&&sq z.2.2 m).bind λz=>(c.glo.cl.find? λq=>q.2==o - 3).bind λ_=>
   gd ((c.fns[z.1]?).isSome&&decide (ps.length<30)) ((f a).bind λe=>(trL f ps).map λes=>.mcall z.2.1 z.1 z.2.2 e es)
 else match ps with
  |[p,p']=>bif sq m ("insert" : Str) then(f a).bind λe=>(f p).bind λy=>(f p').map λz=>.meth e .insert [y,z] else none
  |[p]=>(mOf m).bind λk=>(f a).bind λe=>(f p).map λy=>.meth e k [y]
  |_=>none)
noncomputable def trT(c:Ctx):Qx->Option T
 |.Name x _=>(ixS x c.N).bind λi=>gd (isL c x) (some (.var i))
 |.Tuple es _ _=>(trTs es).map .tup
 |_=>none
where trTs:List Qx->Option (List Nat)
 |[]=>some []
 |.Name x _::r=>(ixS x c.N).bind λi=>gd (isL c x) ((trTs r).map (i::·))
 |_=>none
noncomputable def trI(f:Qx->Option E)(c:Ctx)(tg:Qx):Qx->Option E
 |.Call (.Name x p) ps [] pos=>
  bif isG c x&&sq x ("range" : Str) then match ps with
   |[a]=>(f a).map .rng1
   |[a,b]=>(f a).bind λx=>(f b).map λy=>.rng2 x y
   |_=>none
  else bif isG c x&&sq x ("zip" : Str) then match ps,tg with
   |[a,b],.Tuple _ _ _=>(f a).bind λx=>(f b).map λy=>.zip x y
   |_,_=>none
  else f (.Call (.Name x p) ps [] pos)
 |e=>f e
noncomputable def ndB:List Str->Bool
 |[]=>true
 |x::r=>!(r.any (sq x))&&ndB r
noncomputable def inN(sc:Scope):List Str:=(sc.names.filter λy=>y.2==.local && !sq y.1 (".0" : Str)).map (·.1)++(sc.names.filter λy=>y.2==.free).map (·.1)
noncomputable def inS(sc:Scope)(N:List Str):List (Option Nat):=(inN sc).map λx=>bif kV (lk sc.names x) && !kL (lk sc.names x) then ixS x N else none
noncomputable def compOk(c:Ctx)(sc:Scope):Bool:=sc.kind==.function&&sc.names.all (λy=>y.2 != .cell)&&sc.names.all (λy=>y.2 != .free||(kV (lk c.sc.names y.1)&&lk c.sc.names y.1 != some .local))&&sc.names.all (λy=>y.2 != .local||lk sc.names y.1==some .local)&&ndB (inN sc)
noncomputable def qbu(R:TrE)(c:Ctx)(elt tg iter:Qx)(ifs:List Qx)(sc:Scope):Option E:=
 gd (compOk c sc&&shOk iter) ((trI (R c) c tg iter).bind λi=>(trT ⟨inN sc,qz5 sc c.sc,c.fns,c.glo⟩ tg).bind λt=>gd (tlOk (inN sc) (qz5 sc c.sc) t)
  (match ifs with
  |[]=>(R ⟨inN sc,qz5 sc c.sc,c.fns,c.glo⟩ elt).map λe=>.comp t i none e (inS sc c.N)
  |[q]=>(R ⟨inN sc,qz5 sc c.sc,c.fns,c.glo⟩ q).bind λk=>(R ⟨inN sc,qz5 sc c.sc,c.fns,c.glo⟩ elt).map λe=>.comp t i (some k) e (inS sc c.N)
  |_=>none))
noncomputable def trC:Const->Option E
 |.int i=>some (.lit (.int i))
 |.bool i=>some (.lit (.bl i))
 |.none=>some (.lit .non)
 |.str i=>some (.lit (.str i))
 |_=>none
noncomputable def trU(f:Qx->Option E)(a:Qx):UnaryOp->Option E
 |.USub=>(f a).map .neg
 |.Not=>(f a).map .not
 |_=>none
noncomputable def bo:BoolOp->E->E->E
 |.And=>.and
 |.Or=>.or
noncomputable def trBo(f:Qx->Option E)(op:BoolOp)(pos:Pos):List Qx->Option E
 |[a,b]=>(f a).bind λx=>(f b).map λy=>bo op x y
 |a::b::d::r=>(f a).bind λx=>(f (.BoolOp op (b::d::r) pos)).map λy=>bo op x y
 |_=>none
noncomputable def trCp(o:Nat)(f:Qx->Option E)(c:Ctx)(a:Qx):List Qr->List Qx->Option E
 |[op],[b]=>qho o f c a op b
 |[op,op'],[b,d]=>(f a).bind λx=>(f b).bind λy=>(f d).map λz=>.cmp2 op op' x y z
 |_,_=>none
noncomputable def trCl(o:Nat)(f:Qx->Option E)(c:Ctx)(pos:Pos):Qx->List Qx->List Zi->Option E
 |.Name x _,p::r,[]=>gd (isG c x&&noD x) (match qc4 c x (p::r) with
  |some a=>(f a).map .lenset
  |none=>qhn f c x p r)
 |.Attribute a m apos,ps,[]=>qbs o f c a m apos ps pos
 |_,_,_=>none
noncomputable def trDi(f:Qx->Option E):List (Option Qx)->List Qx->Option E
 |[],[]=>some (.dic [])
 |k::ks,v::vs=>gd (decide ((k::ks).length<=15)) ((trP f (k::ks) (v::vs)).map .dic)
 |_,_=>none
noncomputable def trLc(R:TrE)(c:Ctx)(elt:Qx)(sc:Scope):List Comprehension->Option E
 |[⟨tg,iter,ifs,k⟩]=>gd (k==0) (qbu R c elt tg iter ifs sc)
 |_=>none
noncomputable def trX(o:Nat)(R:TrE)(c:Ctx):Qx->Option E
 |.Name x _=>qbp c x
 |.Constant k _ _=>trC k
 |.BinOp a op b _=>(R c a).bind λx=>(R c b).map λy=>.bin op x y
 |.UnaryOp op a _=>trU (R c) a op
 |.BoolOp op ps pos=>trBo (R c) op pos ps
 |.Compare a os bs _=>trCp o (R c) c a os bs
 |.IfExp q a b _=>(R c q).bind λx=>(R c a).bind λy=>(R c b).map λz=>.ite x y z
 |.Tuple ps _ _=>(trL (R c) ps).map .tup
 |.List ps _=>(trL (R c) ps).map .lst
 |.Subscript a b _=>qhi o (R c) c a b
 |.Call g ps ks pos=>trCl o (R c) c pos g ps ks
 |.Attribute a f _=>gd (Nat.ble 3 o) ((c.glo.ats.find? λz=>z.1==o - 3&&sq z.2 f).bind λz=>(R c a).map λe=>.attr z.1 e z.2)
 |.Dict ks vs _=>trDi (R c) ks vs
 |.ListComp elt gs sc _=>trLc R c elt sc gs
 |_=>none
noncomputable def isGc:E->Bool
 |.gc _=>true
 |_=>false
noncomputable def pk(p:Pos):Nat:=(p.line*1000+p.col)*1000+p.endCol
noncomputable def trF(o:Nat->Nat)(R:TrE):TrE:=λc p=>gd (shOk p) (match o (pk p.pos) with
 |n=>(trX (n / 2) R c p).map λe=>bif (n % 2==1)&&gcOk p && !isGc e then .gc e else e)
noncomputable def trE(o:Nat->Nat):Nat->TrE
 |0=>λ_ _=>none
 |n+1=>trF o (trE o n)
end MS
end
section
namespace MS
open PySem PySem.Spec PyProof.Rows L2
open M (D Cell Store Sl E S T Src Fn Out R)
theorem bD{α j:Type}{o:Option α}{f:α->Option j}{b:j}(h:o.bind f=some b):∃a,o=some a/\f a=some b:=Qju.mp h
theorem mD{α j:Type}{o:Option α}{f:α->j}{b:j}(h:o.map f=some b):∃a,o=some a/\f a=b:=Qqr.mp h
theorem gD{α:Type}{b:Bool}{x:Option α}{e:α}(h:gd b x=some e):b=true/\x=some e:=gd_iff.mp h
theorem aD{a b:Bool}(h:(a&&b)=true):a=true/\b=true:=(Qqc _ _).mp h
theorem fD{α:Type}{p:α->Bool}{l:List α}{a:α}(h:l.find? p=some a):a∈l/\p a=true:=⟨Qjg h,List.find?_some h⟩
def TrO(R:TrE):Prop:=∀{c:Ctx}{p:Qx}{e:E},R c p=some e->CkE c e p/\shOk p=true
abbrev Fo(c:Ctx)(f:Qx->Option E):Prop:=∀{p:Qx}{e:E},f p=some e->CkE c e p/\shOk p=true
theorem qbo{c:Ctx}{x:Str}{pos:Pos}{e:E}(h:qbp c x=some e):CkE c e (.Name x pos):=by
 unfold qbp at h
 cases g:isG c x with
 |true=>
  rw[g]at h;obtain⟨q,z,h⟩:=bD h;obtain⟨hd,h⟩:=gD h;cases h;obtain⟨F,j⟩:=fD z;cases qqg j;exact .mk (.glo (qqv g) F (qam hd))
 |false=>
  rw[g]at h;obtain⟨i,hi,h⟩:=bD h;obtain⟨hd,h⟩:=gD h;cases h;obtain⟨hd,h2⟩:=aD hd;obtain⟨hd,h1⟩:=aD hd;rw[qv3]at hd;exact .mk (.var (ixS_eq hi) (qla hd) (qam h1) (qam h2))
section
variable {c:Ctx}{f:Qx->Option E}(hf:Fo c f)
include hf
theorem qxe:∀{ps:List Qx}{es:List E},trL f ps=some es->CkL (CkE c) es ps/\ps.all shOk=true
 |[],_,h=>by cases h; exact⟨.nil,rfl⟩
 |p::r,es,h=>by
  obtain⟨e,j,h⟩:=bD h;obtain⟨t,q,rfl⟩:=mD h;obtain⟨h1,h2⟩:=qxe q;exact⟨.cons (hf j).1 h1,by rw[Qxv,(hf j).2,h2]; rfl⟩
theorem qge:∀{ks:List (Option Qx)}{vs:List Qx}{es:List E},trP f ks vs=some es->CkP (CkE c) es ks vs
 |[],[],_,h=>by cases h; exact .nil
 |some k::ks,v::vs,es,h=>by
  obtain⟨a,z,h⟩:=bD h;obtain⟨b,q,h⟩:=bD h;obtain⟨t,j,rfl⟩:=mD h;exact .cons (hf z).1 (hf q).1 (qge j)
 |none::_,_,_,h=>by unfold trP at h; cases h
 |some _::_,[],_,h=>by unfold trP at h; cases h
 |[],_::_,_,h=>by unfold trP at h; cases h
theorem qgf{p:Option Qx}{e:Option E}(h:trO f p=some e):CkO (CkE c) e p:=by
 cases p with
 |none=>cases h; exact .none
 |some p=>
  obtain⟨e,j,rfl⟩:=mD h;exact .some (hf j).1
theorem qax{b:Qx}{q:Str×List Str×List D}(h:qf0 c b=some q):∃pos,b=.Name q.1 pos/\c.sc.names.lookup q.1=some .globalImplicit/\(q.1,q.2.1,q.2.2)∈c.glo.ds/\(q.1==("__debug__" : Str))=false:=by
 unfold qf0 at h
 split at h
 ·rename_i x pos;obtain⟨h1,h⟩:=gD h;obtain⟨h1,h2⟩:=aD h1;obtain⟨z,j⟩:=fD h;have:=qqg j;subst this;exact⟨pos,rfl,qqv h1,z,qam h2⟩
 ·cases h
theorem qeu{o:Nat}{a b:Qx}{op:Qr}{pos:Pos}{e:E}(h:qho o f c a op b=some e):CkE c e (.Compare a [op] [b] pos):=by
 have plain:∀{op e},((f a).bind λx=>(f b).map λy=>E.cmp op x y)=some e->CkE c e (.Compare a [op] [b] pos):=λ{op e} h=>by
  obtain⟨x,z,h⟩:=bD h;obtain⟨y,j,rfl⟩:=mD h;exact .mk (.cmp (hf z).1 (hf j).1 (qe9 (hf j).2 _))
 unfold qho at h
 split at h
 ·rename_i neg hn
  split at h
  ·rename_i q L;obtain⟨p0,rfl,h1,h2,J⟩:=qax hf L;obtain⟨x,z,rfl⟩:=mD h
   cases op<;>first|(cases hn; fail)|skip
   all_goals first|(cases hn; done)|skip
   ·cases hn; exact .mk (.gin h1 h2 J (hf z).1)
   ·cases hn; exact .mk (.gnin h1 h2 J (hf z).1)
  ·cases F:o==1 with
   |false=>rw[F]at h; exact plain h
   |true=>
    rw[F]at h;obtain⟨x,z,h⟩:=bD h;obtain⟨y,j,rfl⟩:=mD h
    cases op<;>first|(cases hn; done)|skip
    ·cases hn; exact .mk (.din (hf z).1 (hf j).1 (qe9 (hf j).2 _))
    ·cases hn; exact .mk (.dnin (hf z).1 (hf j).1 (qe9 (hf j).2 _))
 ·exact plain h
theorem qer{o:Nat}{a b:Qx}{pos:Pos}{e:E}(h:qhi o f c a b=some e):CkE c e (.Subscript a b pos):=by
 unfold qhi at h
 split at h
 ·obtain⟨x,j,h⟩:=bD h;obtain⟨l,J,h⟩:=bD h;obtain⟨k,L,rfl⟩:=mD h;exact .mk (.sli (hf j).1 (qgf hf J) (qgf hf L))
 ·split at h
  ·rename_i q F;obtain⟨p0,rfl,h1,h2,M⟩:=qax hf F;obtain⟨x,j,rfl⟩:=mD h;exact .mk (.gidx h1 h2 M (hf j).1 (qh6 (hf j).2))
  ·obtain⟨x,j,h⟩:=bD h;obtain⟨y,z,rfl⟩:=mD h
   cases O:o==1 with
   |false=>exact .mk (.idx (hf j).1 (hf z).1 (qh6 (hf z).2))
   |true=>exact .mk (.didx (hf j).1 (hf z).1 (qh6 (hf z).2))
omit hf in
theorem qbh{x:Str}{t:M.Ty}(h:tyOf x=some t):t≠.non/\Str.ofString t.name=x:=by
 obtain⟨h1,h2⟩:=fD h;refine⟨?_,qqg h2⟩;rintro rfl;simp at h1
omit hf in
theorem qyk:∀{ps:List Qx}{q:List M.Ty},qep c ps=some q->CkTys c q ps
 |[],_,h=>by cases h; exact .nil
 |p::r,q,h=>by
  unfold qep at h
  split at h
  ·rename_i j; cases j
  ·rename_i j;cases j;obtain⟨t,F,h⟩:=bD h;obtain⟨g,h⟩:=gD h;obtain⟨q,z,rfl⟩:=mD h;obtain⟨h1,rfl⟩:=qbh F;exact .cons h1 (qqv g) (qyk z)
  ·cases h
theorem qes{a t:Qx}{p0 pos:Pos}{e:E}(g:c.sc.names.lookup ("isinstance" : Str)=some .globalImplicit)(h:qhm f c a t=some e):CkE c e (.Call (.Name "isinstance" p0) [a,t] [] pos):=by
 unfold qhm at h
 split at h
 ·obtain⟨t,j,h⟩:=bD h;obtain⟨z,h⟩:=gD h;obtain⟨e,q,rfl⟩:=mD h;obtain⟨h1,rfl⟩:=qbh j;exact .mk (.isi1 g h1 (qqv z) (hf q).1)
 ·obtain⟨F,j,h⟩:=bD h;obtain⟨z,h⟩:=gD h;obtain⟨e,q,rfl⟩:=mD h;exact .mk (.isiN (of_decide_eq_true z) g (qyk j) (hf q).1)
 ·cases h
theorem bc_ok{x:Str}{ps:List Qx}{p:Qx}{p0 pos:Pos}{e:E}(g:isG c x=true)(h:((bOf x).bind λb=>gd (bOk b) ((trL f (p::ps)).map (.bcall b)))=some e):CkE c e (.Call (.Name x p0) (p::ps) [] pos):=by
 obtain⟨b,q,h⟩:=bD h;obtain⟨h1,h⟩:=gD h;obtain⟨es,j,rfl⟩:=mD h;have:=qqg (fD q).2;subst this;exact .mk (.bcall (qqv g) h1 (qxe hf j).1)
theorem qet{x:Str}{r:List Qx}{p:Qx}{p0 pos:Pos}{e:E}(g:isG c x=true)(hd:noD x=true)(h:qhn f c x p r=some e):CkE c e (.Call (.Name x p0) (p::r) [] pos):=by
 unfold qhn at h
 split at h
 ·rename_i k hk;obtain⟨h1,h⟩:=gD h;obtain⟨es,J,rfl⟩:=mD h;exact .mk (.call (qqv g) (ixS_eq hk) (qam hd) h1 (qxe hf J).1)
 ·split at h
  ·rename_i q Z;obtain⟨z,O,h⟩:=bD h;obtain⟨h1,h⟩:=gD h;obtain⟨es,J,rfl⟩:=mD h;obtain⟨y,U⟩:=Qzq.mp h1;obtain⟨hm,Y⟩:=fD Z;obtain⟨F,j⟩:=fD O;obtain⟨ha,hb⟩:=aD j;have:=qqg Y;subst this;obtain⟨zf,M,zm⟩:=z;have L:=qqg hb;have e2:M=q.2:=eq_of_beq ha;dsimp only at L;subst L e2;exact .mk (.new (qqv g) U F hm (qam hd) (qxe hf J).1)
  ·split at h
   ·rename_i t
    cases hi:sq x ("isinstance" : Str) with
    |true=>
     rw[hi]at h;have:=qqg hi;subst this;exact qes hf (qqv g) h
    |false=>rw[hi]at h; exact bc_ok hf g h
   ·exact bc_ok hf g h
omit hf in
theorem qc3{x:Str}{ps:List Qx}{a:Qx}(h:qc4 c x ps=some a):x=("len" : Str)/\∃q j,ps=[.Call (.Name "set" q) [a] [] j]/\c.sc.names.lookup ("set" : Str)=some .globalImplicit:=by
 unfold qc4 at h
 split at h
 ·rename_i y q z j;obtain⟨h1,h⟩:=gD h;cases h;obtain⟨h1,g⟩:=aD h1;have h1:=aD h1;have:=qqg h1.2;subst this;exact⟨qqg h1.1,q,j,rfl,qqv g⟩
 ·cases h
theorem qbr{o:Nat}{a:Qx}{m:Str}{F pos:Pos}{ps:List Qx}{e:E}(h:qbs o f c a m F ps pos=some e):CkE c e (.Call (.Attribute a m F) ps [] pos):=by
 unfold qbs at h;obtain⟨M,h⟩:=gD h
 cases ho:Nat.ble 3 o with
 |true=>
  rw[ho]at h;obtain⟨z,Y,h⟩:=bD h;obtain⟨q,O,h⟩:=bD h;obtain⟨h1,h⟩:=gD h;obtain⟨h1,h2⟩:=aD h1;obtain⟨x,j,h⟩:=bD h;obtain⟨es,he,rfl⟩:=mD h;obtain⟨y,J⟩:=Qzq.mp h1;obtain⟨hm,U⟩:=fD Y;obtain⟨a1,a0⟩:=fD O;obtain⟨ha,hb⟩:=aD U;obtain⟨zf,zc,zm⟩:=z;obtain⟨qx,qc⟩:=q;have e1:=qqg hb;have e2:zc=o - 3:=eq_of_beq ha;have e3:qc=o - 3:=eq_of_beq a0;dsimp only at e1;subst e1;rw[<- e2]at e3;subst e3;exact .mk (.mcall (hf j).1 J hm a1 (qxe hf he).1 (sh_mt (hf j).2 (qxe hf he).2 (of_decide_eq_true h2) M))
 |false=>
  rw[ho]at h;dsimp only[cond]at h
  split at h
  ·rename_i p p'
   cases hg:sq m ("insert" : Str) with
   |true=>
    rw[hg]at h;obtain⟨x,j,h⟩:=bD h;obtain⟨y,J,h⟩:=bD h;obtain⟨z,Y,rfl⟩:=mD h;have:=qqg hg;subst this;exact .mk (.insert (hf j).1 (hf J).1 (hf Y).1 (λenv=>qks (hf j).2 _ _ _) M)
   |false=>rw[hg]at h; cases h
  ·rename_i p;obtain⟨k,L,h⟩:=bD h;obtain⟨x,j,h⟩:=bD h;obtain⟨y,J,rfl⟩:=mD h;have B:∀(s:Str) (env:Env),attributeBase a s env (eval a env)=eval a env:=λs env=>qks (hf j).2 _ _ _;obtain⟨q,O,L⟩:=List.exists_of_findSome?_eq_some L;obtain⟨k',s⟩:=q
   cases Z:sq s m with
   |false=>rw[Z]at L; cases L
   |true=>
    rw[Z]at L;cases L;have:=qqg Z;subst this;simp only[Qqv,Prod.mk.injEq,Qzv,or_false]at O;rcases O with⟨rfl,rfl⟩|⟨rfl,rfl⟩|⟨rfl,rfl⟩
    ·exact .mk (.append (hf j).1 (hf J).1 (B _) M)
    ·exact .mk (.extend (hf j).1 (hf J).1 (B _) M)
    ·exact .mk (.index (hf j).1 (hf J).1 (B _) M)
  ·cases h
omit hf in
theorem qbn:∀{es:List Qx}{is:List Nat},trT.trTs c es=some is->CkTs c is es
 |[],_,h=>by cases h; exact .nil
 |p::r,is,h=>by
  unfold trT.trTs at h
  split at h
  ·rename_i j; cases j
  ·rename_i j;cases j;obtain⟨i,hi,h⟩:=bD h;obtain⟨g,h⟩:=gD h;obtain⟨z,q,rfl⟩:=mD h;exact .cons (ixS_eq hi) (qy8 g) (qbn q)
  ·cases h
omit hf in
theorem qyv{p:Qx}{t:T}(h:trT c p=some t):CkT c t p:=by
 unfold trT at h
 split at h
 ·obtain⟨i,hi,h⟩:=bD h;obtain⟨g,h⟩:=gD h;cases h;exact .var (ixS_eq hi) (qy8 g)
 ·obtain⟨j,hi,rfl⟩:=mD h;exact .tup (qbn hi)
 ·cases h
theorem qgg{J p:Qx}{e:E}(h:trI f c J p=some e):CkI (CkE c) c J e p/\shOk p=true:=by
 unfold trI at h
 split at h
 ·rename_i x q ps pos
  cases z:isG c x&&sq x ("range" : Str) with
  |true=>
   rw[z]at h;obtain⟨g,j⟩:=aD z;have:=qqg j;subst this;dsimp only[cond]at h
   split at h
   ·obtain⟨x,j,rfl⟩:=mD h;exact⟨.rng1 (qqv g) (hf j).1,rfl⟩
   ·obtain⟨x,j,h⟩:=bD h;obtain⟨y,F,rfl⟩:=mD h;exact⟨.rng2 (qqv g) (hf j).1 (hf F).1,rfl⟩
   ·cases h
  |false=>
   rw[z]at h
   cases z:isG c x&&sq x ("zip" : Str) with
   |true=>
    rw[z]at h;obtain⟨g,j⟩:=aD z;have:=qqg j;subst this;dsimp only[cond]at h
    split at h
    ·obtain⟨x,j,h⟩:=bD h;obtain⟨y,F,rfl⟩:=mD h;exact⟨.zip (qqv g) (hf j).1 (hf F).1,rfl⟩
    ·cases h
   |false=>
    rw[z]at h;exact⟨.seq (hf h).1,(hf h).2⟩
 ·exact⟨.seq (hf h).1,(hf h).2⟩
end
theorem qvs:∀{l:List Str},ndB l=true->l.Nodup
 |[],_=>.nil
 |x::r,h=>by
  obtain⟨h1,h2⟩:=aD h;refine Qq5.mpr ⟨λj=>?_,qvs h2⟩;rw[Qxu.mpr ⟨x,j,qwn x⟩]at h1;cases h1
theorem qbt{R:TrE}(hR:TrO R){c:Ctx}{elt tg M:Qx}{a0:List Qx}{sc:Scope}{pos:Pos}{e:E}(h:qbu R c elt tg M a0 sc=some e):CkE c e (.ListComp elt [⟨tg,M,a0,0⟩] sc pos):=by
 unfold qbu at h;obtain⟨L,h⟩:=gD h;obtain⟨L,a2⟩:=aD L;obtain⟨L,h5⟩:=aD L;obtain⟨L,h4⟩:=aD L;obtain⟨L,h3⟩:=aD L;obtain⟨h1,h2⟩:=aD L;obtain⟨i,hi,h⟩:=bD h;obtain⟨t,ht,h⟩:=bD h;obtain⟨a1,h⟩:=gD h;have hk:sc.kind=.function:=eq_of_beq h1;have J:∀y∈sc.names,y.2≠.cell:=λy hy=>by
  have:=Qzk.mp h2 y hy;simpa using this
 have F:∀y∈sc.names,y.2=.free->c.sc.names.lookup y.1=some .cell\/c.sc.names.lookup y.1=some .free:=λy hy e=>by
  have:=Qzk.mp h3 y hy;rw[e]at this;obtain⟨ha,q⟩:=aD (show(kV (lk c.sc.names y.1)&&lk c.sc.names y.1 != some .local)=true from this);rw[qv3]at ha q;rcases qla ha with z|z|z
  ·rw[z]at q; cases q
  ·exact .inl z
  ·exact .inr z
 have U:∀y∈sc.names,y.2=.local->sc.names.lookup y.1=some .local:=λy hy e=>by
  have:=Qzk.mp h4 y hy;rw[e]at this;rw[<- qv3];exact eq_of_beq (show(lk sc.names y.1==some .local)=true from this)
 have Y:(inS sc c.N).length=(inN sc).length:=by unfold inS; rw[Qqw]
 have O:∀(j i:Nat),(inS sc c.N)[j]?=some (some i)->∃x,(inN sc)[j]?=some x/\c.N[i]?=some x/\sc.names.lookup x=some .free:=λj i Z=>by
  unfold inS at Z;rw[Qqf]at Z;obtain⟨x,hx,Z⟩:=mD Z;refine⟨x,hx,?_⟩
  cases q:kV (lk sc.names x) && !kL (lk sc.names x) with
  |false=>rw[q]at Z; cases Z
  |true=>
   rw[q]at Z;obtain⟨ha,q⟩:=aD q;refine⟨ixS_eq Z,?_⟩;rw[<- qv3];rcases qla ha with z|z|z
   ·rw[z]at q; cases q
   ·rw[z]at q; cases q
   ·exact z
 have hs:=λenv x=>qh7 a2 env x;have hI:=(qgg (hR (c:=c)) hi).1
 split at h
 ·obtain⟨e,he,rfl⟩:=mD h;exact .mk (.comp hk J F U Y O (qvs h5) hs hI (qyv ht) a1 (hR he).1)
 ·obtain⟨k,a3,h⟩:=bD h;obtain⟨e,he,rfl⟩:=mD h;exact .mk (.compIf hk J F U Y O (qvs h5) hs hI (qyv ht) a1 (hR a3).1 (hR he).1)
 ·cases h
theorem bo_ok{c:Ctx}{op:BoolOp}{x y:E}{p q:Qx}{pos:Pos}(h:CkE c x p)(k:CkE c y q):CkE c (bo op x y) (.BoolOp op [p,q] pos):=by
 cases op with
 |And=>exact .mk (.and2 h k)
 |Or=>exact .mk (.or2 h k)
theorem boN_ok{c:Ctx}{op:BoolOp}{x y:E}{p a b:Qx}{r:List Qx}{pos:Pos}(h:CkE c x p)(k:CkE c y (.BoolOp op (a::b::r) pos)):CkE c (bo op x y) (.BoolOp op (p::a::b::r) pos):=by
 cases op with
 |And=>exact .mk (.andN h k)
 |Or=>exact .mk (.orN h k)
theorem trX_ok{o:Nat}{R:TrE}(j:TrO R){c:Ctx}{p:Qx}{e:E}(hp:shOk p=true)(h:trX o R c p=some e):CkE c e p:=by
 cases p with
 |Name x q=>exact qbo h
 |Constant k _ _=>
  cases k with
  |int i=>cases h; exact .mk .int
  |bool i=>cases h; exact .mk .bl
  |none=>cases h; exact .mk .non
  |str i=>cases h; exact .mk .str
  |_=>cases h
 |BinOp a M b q=>
  obtain⟨x,F,h⟩:=bD h;obtain⟨y,J,rfl⟩:=mD h;exact .mk (.bin (j F).1 (j J).1)
 |UnaryOp M a q=>
  cases M with
  |USub=>
   obtain⟨x,F,rfl⟩:=mD h;exact .mk (.neg (j F).1)
  |Not=>
   obtain⟨x,F,rfl⟩:=mD h;exact .mk (.not (j F).1)
  |_=>cases h
 |BoolOp M ps q=>
  have h:trBo (R c) M q ps=some e:=h;unfold trBo at h
  split at h
  ·obtain⟨x,F,h⟩:=bD h;obtain⟨y,J,rfl⟩:=mD h;exact bo_ok (j F).1 (j J).1
  ·obtain⟨x,F,h⟩:=bD h;obtain⟨y,J,rfl⟩:=mD h;exact boN_ok (j F).1 (j J).1
  ·cases h
 |Compare a os bs q=>
  have h:trCp o (R c) c a os bs=some e:=h;unfold trCp at h
  split at h
  ·exact qeu j h
  ·obtain⟨x,F,h⟩:=bD h;obtain⟨y,J,h⟩:=bD h;obtain⟨z,L,rfl⟩:=mD h;exact .mk (.cmp2 (j F).1 (j J).1 (j L).1 (qe9 (j L).2 _))
  ·cases h
 |IfExp q a b _=>
  obtain⟨x,F,h⟩:=bD h;obtain⟨y,J,h⟩:=bD h;obtain⟨z,L,rfl⟩:=mD h;exact .mk (.ite (j F).1 (j J).1 (j L).1)
 |Tuple ps _ _=>
  obtain⟨x,F,rfl⟩:=mD h;exact .mk (.tup (qxe j F).1)
 |List ps _=>
  obtain⟨x,F,rfl⟩:=mD h;exact .mk (.lst (qxe j F).1)
 |Subscript a b _=>exact qer j h
 |Call g ps ks q=>
  have h:trCl o (R c) c q g ps ks=some e:=h;unfold trCl at h
  split at h
  ·obtain⟨h1,h⟩:=gD h;obtain⟨g,hd⟩:=aD h1
   split at h
   ·rename_i a U;obtain⟨x,F,rfl⟩:=mD h;obtain⟨rfl,q,p',e,Y⟩:=qc3 U;cases e;exact .mk (.lenset (qqv g) Y (j F).1)
   ·exact qet j g hd h
  ·exact qbr j h
  ·cases h
 |Attribute a f _=>
  obtain⟨ho,h⟩:=gD h;obtain⟨z,L,h⟩:=bD h;obtain⟨x,F,rfl⟩:=mD h;obtain⟨Z,O⟩:=fD L;obtain⟨U,hb⟩:=aD O;have:=qqg hb;subst this;exact .mk (.attr (j F).1 Z (λenv=>qks (j F).2 _ _ _))
 |Dict ks vs _=>
  have h:trDi (R c) ks vs=some e:=h;unfold trDi at h
  split at h
  ·cases h; exact .mk .dic0
  ·obtain⟨h1,h⟩:=gD h;obtain⟨x,F,rfl⟩:=mD h;exact .mk (.dic (qge j F) (of_decide_eq_true h1))
  ·cases h
 |ListComp elt gs sc _=>
  have h:trLc R c elt sc gs=some e:=h;unfold trLc at h
  split at h
  ·obtain⟨h1,h⟩:=gD h;have:=eq_of_beq h1;subst this;exact qbt j h
  ·cases h
 |_=>cases h
theorem trF_ok{o:Nat->Nat}{R:TrE}(F:TrO R):TrO (trF o R):=λ{c p e} h=>by
 unfold trF at h;obtain⟨j,h⟩:=gD h;refine⟨?_,j⟩;obtain⟨x,q,rfl⟩:=mD h;have k:=trX_ok F j q
 cases z:(o (pk p.pos) % 2==1)&&gcOk p && !isGc x with
 |false=>exact k
 |true=>
  obtain⟨h1,h2⟩:=aD z;obtain⟨_,h1⟩:=aD h1;refine .mk (.gc h1 (λb e=>?_) k);rw[e]at h2;cases h2
theorem qyw{o:Nat->Nat}:∀n,TrO (trE o n)
 |0=>λh=>nomatch h
 |n+1=>trF_ok (qyw n)
end MS
end
section
namespace MS
open PySem PySem.Spec PyProof.Rows L2
open M (D Cell Store Sl E S T Src Fn Out R)
noncomputable def qg7:Qx->Bool
 |.ListComp ..=>true
 |_=>false
noncomputable def qhp(o:Nat->Nat)(f:Qx->Option E)(c:Ctx)(p:Qx):Qx->Option S
 |.Name x _=>(ixS x c.N).bind λi=>gd (isL c x) ((f p).map λe=>.set (.var i) e)
 |.Subscript a i tp=>(f p).bind λe=>(f a).bind λx=>(f i).map λy=>.dset x y e
 |.Attribute a m tp=>(f p).bind λe=>gd (Nat.ble 3 (o (pk tp) / 2)) ((c.glo.ats.find? λz=>z.1==o (pk tp) / 2 - 3&&sq z.2 m).bind λz=>(f a).map λx=>.setA z.1 x z.2 e)
 |_=>none
noncomputable def trS1(o:Nat->Nat)(f:Qx->Option E)(B:List Stmt->List S)(c:Ctx):Stmt->Option S
 |.Assign [t] p _=>qhp o f c p t
 |.Expr p _=>gd (swOk p) ((f p).map .expr)
 |.Return (some p) _=>(f p).map .ret
 |.If q a b _=>(f q).map λe=>.ite e (B a) (B b)
 |.For tg it b [] pos=>gd (shOk it) ((trT c tg).bind λt=>bif o (pk pos) / 2==1 then(f it).map λe=>.ford t e (B b) else(trI f c tg it).map λe=>.forr t e (B b))
 |_=>none
noncomputable def qlf:Stmt->Bool
 |.Expr (.Constant (.str _) _ _) _=>true
 |_=>false
noncomputable def trSL(g:Stmt->S):List Stmt->List S
 |[]=>[]
 |p::r=>bif qlf p then trSL g r else g p::trSL g r
noncomputable def trSs(o:Nat->Nat)(f:TrE)(c:Ctx):Nat->List Stmt->List S
 |0,ps=>trSL (λ_=>.bad) ps
 |n+1,ps=>trSL (λp=>(trS1 o (f c) (trSs o f c n) c p).getD .bad) ps
theorem qkm{c:Ctx}{g:Stmt->S}(j:∀p,CkS c (g p) p):∀ps,CkSs c (trSL g ps) ps
 |[]=>.nil
 |p::r=>by
  unfold trSL
  cases hd:qlf p with
  |false=>exact .cons (j p) (qkm j r)
  |true=>
   unfold qlf at hd
   split at hd
   ·exact .doc (qkm j r)
   ·cases hd
theorem qe0{o:Nat->Nat}{f:Qx->Option E}{c:Ctx}(j:Fo c f){p t:Qx}{pos:Pos}{s:S}(h:qhp o f c p t=some s):CkS c s (.Assign [t] p pos):=by
 unfold qhp at h
 split at h
 ·rename_i x M;obtain⟨i,hi,h⟩:=bD h;obtain⟨O,h⟩:=gD h;obtain⟨e,q,rfl⟩:=mD h
  cases F:qg7 p with
  |true=>
   unfold qg7 at F
   split at F
   ·exact .setC (ixS_eq hi) (qy8 O) (j q).1 ⟨_,_,_,_,rfl⟩ λenv _=>qe2 _ _ _ _ _ _ _ env
   ·cases F
  |false=>
   refine .set (ixS_eq hi) (qy8 O) (j q).1 λenv=>sw_ok ?_ _ _ _;have:=(j q).2
   cases p<;>first|rfl|(cases F; done)|(cases this; done)
 ·rename_i a i M;obtain⟨e,q,h⟩:=bD h;obtain⟨x,L,h⟩:=bD h;obtain⟨y,Y,rfl⟩:=mD h;exact .dset (j L).1 (j Y).1 (j q).1 λenv=>sh_sw (j q).2 _ _
 ·rename_i a m M;obtain⟨e,q,h⟩:=bD h;obtain⟨_,h⟩:=gD h;obtain⟨z,U,h⟩:=bD h;obtain⟨x,L,rfl⟩:=mD h;obtain⟨Z,J⟩:=fD U;obtain⟨_,hb⟩:=aD J;have:=qqg hb;subst this;exact .setA (j L).1 (j q).1 Z λenv=>sh_swA (j q).2 _ _
 ·cases h
theorem qhl{o:Nat->Nat}{f:Qx->Option E}{B:List Stmt->List S}{c:Ctx}(q:Fo c f)(hB:∀ps,CkSs c (B ps) ps){p:Stmt}{s:S}(h:trS1 o f B c p=some s):CkS c s p:=by
 unfold trS1 at h
 split at h
 ·exact qe0 q h
 ·obtain⟨h1,h⟩:=gD h;obtain⟨e,j,rfl⟩:=mD h;exact .expr (q j).1 λenv=>sw_ok h1 _ _ _
 ·obtain⟨e,j,rfl⟩:=mD h;exact .ret (q j).1
 ·obtain⟨e,j,rfl⟩:=mD h;exact .ite (q j).1 (hB _) (hB _)
 ·rename_i tg it b pos;obtain⟨h1,h⟩:=gD h;obtain⟨t,z,h⟩:=bD h
  cases F:o (pk pos) / 2==1 with
  |true=>
   rw[F]at h;obtain⟨e,j,rfl⟩:=mD h;exact .ford (qyv z) (q j).1 (λenv x=>qh7 h1 _ _) (hB _)
  |false=>
   rw[F]at h;obtain⟨e,j,rfl⟩:=mD h;exact .forr (qyv z) (qgg q j).1 (λenv x=>qh7 h1 _ _) (hB _)
 ·cases h
theorem qkl{o:Nat->Nat}{f:TrE}(j:TrO f){c:Ctx}:∀n ps,CkSs c (trSs o f c n ps) ps
 |0,ps=>qkm (λ_=>.bad) ps
 |n+1,ps=>qkm (λp=>by
  cases h:trS1 o (f c) (trSs o f c n) c p with
  |none=>exact .bad
  |some s=>exact qhl (j (c:=c)) (qkl j n) h) ps
noncomputable def argN(st:Stmt):List Str:=(qzt st).args.map (·.arg)
noncomputable def locN(st:Stmt):List Str:=argN st++((qzx st).names.filter λy=>kL (some y.2) && !((argN st).any (sq y.1))).map (·.1)
noncomputable def trFn(o:Nat->Nat)(names:List Str)(glo:Glo)(st:Stmt):Fn:=
 ⟨(argN st).length,(locN st).length,trSs o (trE o 30) ⟨locN st,qzx st,names,glo⟩ 12 (qzm st)⟩
noncomputable def scOk(st:Stmt):Bool:=(qzx st).kind==.function && !(qzx st).isCoroutine && !(qzx st).isGenerator&&ndB (locN st)&&(argN st).all (λx=>kL (lk (qzx st).names x))&&(qzx st).names.all (λy=>y.2 != .free)
theorem qcv{st:Stmt}(h:scOk st=true):FnScope (locN st) (argN st) (qzx st):=by
 obtain⟨h,z⟩:=aD h;obtain⟨h,F⟩:=aD h;obtain⟨h,J⟩:=aD h;obtain⟨h,L⟩:=aD h;obtain⟨h1,h2⟩:=aD h;refine⟨eq_of_beq h1,by simpa using h2,by simpa using L,qvs J,by unfold locN; rw[List.take_left],λx q=>?_,λy j=>?_⟩
 ·have:=kL_eq (Qzk.mp F x q);rwa [qv3]at this
 ·simpa using Qzk.mp z y j
end MS
end
section
namespace MS
open PySem PySem.Spec PyProof.Rows L2
open M (D Cell Store Sl E S T Src Fn Out R)
abbrev Orc:=List (Nat×List Nat)
abbrev Rw:=Option Addr×Str×Str×Stmt×Orc
noncomputable def orc:Orc->Nat->Nat
 |[],_=>0
 |(v,l)::r,k=>bif l.any (k.beq ·) then v else orc r k
noncomputable def msT:Nat->List Rw->List (Nat×Addr×Str)
 |_,[]=>[]
 |n,(some C,m,_)::r=>(n,C,m)::msT (n+1) r
 |n,(none,_)::r=>msT (n+1) r
noncomputable def fnsT(names:List Str)(glo:Glo)(t:List Rw):List Fn:=t.map λr=>trFn (orc r.2.2.2.2) names glo r.2.2.2.1
theorem ms_mem{q:Nat×Addr×Str}{t:List Rw}:∀{n:Nat},q∈msT n t->∃k r,q.1=n+k/\t[k]?=some r/\r.1=some q.2.1/\r.2.1=q.2.2:=by
 induction t with
 |nil=>exact λh=>nomatch h
 |cons a t j=>
  obtain⟨C,m,z⟩:=a;intro n h;have up:q∈msT (n+1) t->∃k r,q.1=n+k/\((C,m,z)::t)[k]?=some r/\r.1=some q.2.1/\r.2.1=q.2.2:=λh=>by
   obtain⟨k,r,e,w⟩:=j h;exact⟨k+1,r,by omega,w⟩
  cases C with
  |none=>exact up h
  |some C=>
   rcases Qqv.mp h with rfl|h
   ·exact⟨0,_,rfl,rfl,rfl,rfl⟩
   ·exact up h
abbrev Bd(r:Rw):Prop:=∀(kV doc pm:Value) (an:Option Addr) (cdv ct:Value) (us:List Value),us.length=(argN r.2.2.2.1).length->bindArgs (PySem.W.fnOf r.2.1 r.2.2.1 (qzt r.2.2.2.1) (qzm r.2.2.2.1) (qzx r.2.2.2.1) .none kV doc pm an cdv ct) ⟨us,[]⟩=pure ((argN r.2.2.2.1).zip us)
inductive RwK (K:Qqq):Rw->Prop
 |fn {x:Str}{st:Stmt}{o:Orc}{f:Addr}{od an:Option Addr}{sl:Array (Option Value)}{oc kV dc pm cd ct:Value}(a:Qq7 K Qv x=some (some (.ref f))) (l:K.lookup f=some ⟨oc,od,.func (PySem.W.fnOf x x (qzt st) (qzm st) (qzx st) .none kV dc pm an cd ct),sl⟩) (c:PySem.W.codeIn K cd x=true) (k:Qzy K (.ref f)=true):RwK K (none,x,x,st,o)
 |me {C:Addr}{m x:Str}{st:Stmt}{o:Orc}{f:Addr}{od an:Option Addr}{sl:Array (Option Value)}{oc kV dc pm cd ct:Value}(a:PySem.W.findIn K (.ref C) m=some (some (.ref f))) (fn:PySem.W.isFn K (.ref f)=true) (l:K.lookup f=some ⟨oc,od,.func (PySem.W.fnOf m x (qzt st) (qzm st) (qzx st) .none kV dc pm an cd ct),sl⟩) (c:PySem.W.codeIn K cd x=true) (k:Qzy K (.ref f)=true):RwK K (some C,m,x,st,o)
noncomputable def rwOk(r:Rw):Bool:=scOk r.2.2.2.1&&(r.1.isNone||(qa0 r.2.2.1).not)
theorem qe1{K:Qqq}{h:Heap}{mg:Str->Option Value}{t:List Rw}{glo:Glo}(X:K.In h)(G:h.Ns Qv mg)(j:glo.ms=msT 0 t)(J:∀r∈t,RwK K r)(M:∀r∈t,Bd r)(L:t.all rwOk=true)(f:Nat)(x:Str)(e:(t.map (·.2.2.1))[f]?=some x):FText K mg (fnsT (t.map (·.2.2.1)) glo t) (t.map (·.2.2.1)) glo f x:=by
 rw[Qqf]at e;obtain⟨r,q,rfl⟩:=mD e;have i:=Qq1 q;have F:(fnsT (t.map (·.2.2.1)) glo t)[f]?=some (trFn (orc r.2.2.2.2) (t.map (·.2.2.1)) glo r.2.2.2.1):=by
  unfold fnsT;rw[Qqf,q]
  rfl
 have j:∀C m,(f,C,m)∈glo.ms->r.1=some C/\r.2.1=m:=λC m w=>by
  rw[j]at w;obtain⟨k,r',e,h1,h2⟩:=ms_mem w;obtain rfl:f=k:=e.trans (Qjm k);cases q.symm.trans h1;exact h2
 obtain⟨h1,h2⟩:=aD (Qzk.mp L r i);have b:=M r i;have s:=qcv h1
 cases J r i with
 |fn a l c k=>exact⟨_,_,_,_,_,_,_,F,qwq l c k,⟨λ_=>Qxs X G a,λC m w=>nomatch (j C m w).1⟩,(qwq l c k).binds b,s,qkl (qyw 30) 12 _,rfl,rfl⟩
 |@me C m x st o f Y an sl Z kV dc U cd ct a fn l c k=>
  refine⟨_,_,_,_,_,_,_,F,qwq l c k,⟨λz=>?_,λC m w=>?_⟩,(qwq l c k).binds b,s,qkl (qyw 30) 12 _,rfl,rfl⟩
  ·have h2:(qa0 x).not=true:=h2;rw[z]at h2;cases h2
  ·obtain⟨e,O⟩:=j C m w;cases e;cases O;exact⟨a,fn,k⟩
inductive AtK:Value->D->Prop
 |int {i:Int}{t:Tok}:AtK (.int i t) (.int i)
 |str {s:Str}{t:Tok}:AtK (.str s t) (.str s)
inductive AtsK:List Value->List D->Prop
 |nil:AtsK [] []
 |cons {v:Value}{d:D}{vs:List Value}{ds:List D}(h:AtK v d) (t:AtsK vs ds):AtsK (v::vs) (d::ds)
inductive VaK (K:Qqq):Value->D->Prop
 |at {v:Value}{d:D}(h:AtK v d):VaK K v d
 |tup {a:Addr}{gd:Option Addr}{gn:Nat}{gs:Array (Option Value)}{vs:List Value}{ds:List D}(h:K.lookup a=some ⟨.type "tuple",gd,.seq vs.toArray gn,gs⟩) (q:AtsK vs ds) (n:Nat.ble vs.length sizeLine=true):VaK K (.ref a) (.tup ds)
inductive EnK (prm:Qp) (K:Qqq):List Qt->List Str->List D->Prop
 |nil:EnK prm K [] [] []
 |cons {k:Str}{t:Tok}{u:Value}{d:D}{es:List Qt}{ks:List Str}{ds:List D}(h:VaK K u d) (r:EnK prm K es ks ds):EnK prm K (⟨PyData.keyHash prm k,.str k t,u⟩::es) (k::ks) (d::ds)
abbrev Vof(K:Qqq)(u:Value)(d:D):Prop:=∃v,RelV v u/\∀m H,IsD K m H d v
theorem AtK.of{K:Qqq}{u:Value}{d:D}(h:AtK u d):Vof K u d:=by
 cases h with
 |int=>exact⟨.int _,⟨_,rfl⟩,λm H=>mkInt _⟩
 |str=>exact⟨.str _,⟨_,rfl⟩,λm H=>mkStr _⟩
theorem AtsK.of{K:Qqq}{us:List Value}{ds:List D}(h:AtsK us ds):∃vs,Vals vs us/\∀m H,IsDs K m H ds vs:=by
 induction h with
 |nil=>exact⟨[],.nil,λ_ _=>qqq⟩
 |cons h _ j=>
  obtain⟨v,a,b⟩:=h.of (K:=K);obtain⟨vs,c,d⟩:=j;exact⟨v::vs,.cons a c,λm H=>qzi (b m H) (d m H)⟩
theorem VaK.of{K:Qqq}{u:Value}{d:D}(h:VaK K u d):Vof K u d:=by
 cases h with
 |«at» h=>exact h.of
 |tup h q n=>
  obtain⟨vs,c,d⟩:=q.of (K:=K);exact⟨.ref _,rfl,λm H=>qq5 (.inr ⟨_,_,_,h,rfl,rfl,Nat.le_of_ble_eq_true n,c⟩) (d m H)⟩
theorem EnK.of{j:Qp}{K:Qqq}{es:List Qt}{ks:List Str}{ds:List D}(h:EnK j K es ks ds):∃q vs,EntOk j es ks q/\Vals vs q/\∀m H,IsDs K m H ds vs:=by
 induction h with
 |nil=>exact⟨[],[],.nil,.nil,λ_ _=>qqq⟩
 |cons h _ z=>
  obtain⟨v,a,b⟩:=h.of;obtain⟨q,vs,e,c,d⟩:=z;exact⟨_,v::vs,.cons e,.cons a c,λm H=>qzi (b m H) (d m H)⟩
inductive GlK (K:Qqq) (q:Str×D):Prop
 |mk {v:Value}(g:Qq7 K Qv q.1=some (some v)) (h:VaK K v q.2):GlK K q
inductive GdK (prm:Qp) (K:Qqq) (q:Str×List Str×List D):Prop
 |mk {a:Addr}{es:List Qt}{ep:Nat}(g:Qq7 K Qv q.1=some (some (.ref a))) (l:K.lookup a=some { cls:=.type "dict",data:=.dict es.toArray ep }) (h:EnK prm K es q.2.1 q.2.2) (n:(a==Qo)=false):GdK prm K q
noncomputable def gloOk(g:Glo):Bool:=(g.ats.all λq=>g.cl.any λz=>z.2==q.1)&&g.ds.all λq=>ndB q.2.1
theorem glo_mo{K:Qqq}{h:Heap}{mg:Str->Option Value}{prm:Qp}{glo:Glo}(X:K.In h)(G:h.Ns Qv mg)(L:gloOk glo=true)(U:∀q∈glo.ds,GdK prm K q)(O:∀q∈glo.cs,GlK K q)(j:∀q∈glo.cl,ClK K q.1 q.2)(M:∀q∈glo.ats,PySem.W.findIn K (.ref q.1) q.2=some none)(z:NoB K):Mo K mg glo prm:=by
 obtain⟨c1,c2⟩:=aD L;refine z.mo X G (λx ks ds i=>?_) (λx d i=>?_) (λY C i=>(j _ i).mo X G) λC f i=>⟨?_,M _ i⟩
 ·cases U _ i with
  |mk g l q n=>
   obtain⟨F,vs,e,c,d⟩:=q.of;exact⟨_,Qxs X G g,⟨F,vs,_,_,l,e,c,d⟩,qvs (Qzk.mp c2 _ i),n⟩
 ·cases O _ i with
  |mk g q=>
   obtain⟨v,a,b⟩:=q.of;exact⟨_,v,Qxs X G g,a,b⟩
 ·obtain⟨y,J,e⟩:=Qxu.mp (Qzk.mp c1 _ i);have e:=eq_of_beq e;subst e;exact(j _ J).cls
theorem law_mk{l:PySem.W.OpenLaw}{w:Qk}{K:Qqq}{h:Heap}{mg:Str->Option Value}{fa:Addr}{t:List Rw}{glo:Glo}{i n:Nat}{x y:Str}{st:Stmt}{o:Orc}(X:K.In h)(G:h.Ns Qv mg)(J:mg x=some (.ref fa))(O:t[i]?=some (none,x,x,st,o))(hy:argN st=[y])(hm:glo.ms=msT 0 t)(U:∀r∈t,Bd r)(hc:(t.all rwOk&&gloOk glo)=true)(ok:∀ns:List Int,ns.length<=63->∃st',M.callD (fnsT (t.map (·.2.2.1)) glo t) (n+1) i [.lst (ns.map D.int)] []=some (.bl true,st'))
  (L:∀r∈t,RwK K r) (h1:∀q∈glo.ds,GdK w.params K q) (h2:∀q∈glo.cs,GlK K q) (h3:∀q∈glo.cl,ClK K q.1 q.2) (h4:∀q∈glo.ats,PySem.W.findIn K (.ref q.1) q.2=some none) (z:NoB K):∃fd:Qh,(∀(s:Qz) (v:Value),BindsTo s fd ⟨[v],[]⟩ [(y,v)])/\∀base:Heap,K.In base->base.Ns Qv mg->FnOk l.prog w K mg base CX0 (2*(n+1)) fa fd [y] (qe8 K):=by
 obtain⟨c1,c2⟩:=aD hc;have Y:=glo_mo (mg:=mg) X G c2 h1 h2 h3 h4 z;have T:=qe1 X G hm L U c1;have j:=Qq1 O;have b:=U _ j;have s:=qcv (aD (Qzk.mp c1 _ j)).1
 cases L _ j with
 |fn a Z c k=>
  cases J.symm.trans (Qxs X G a);have F:=λbase=>(qhz (P:=l.prog) (base:=base) (n:=n) (f:=i) (tab_ok T Y _) Y (by unfold fnsT; rw[Qqf,O]; rfl) (qwq Z c k) s (qkl (qyw 30) 12 _) rfl rfl).imp (law_sp ok);have b:Bd (none,x,x,st,o):=b;dsimp only[Bd]at b;rw[hy]at F b;exact⟨_,λs v=>.of_eq (b _ _ _ _ _ _ [v] rfl),λbase _ _=>F base⟩
end MS
end
section
namespace K28
open PySem L2 MS
open M (D Fn)
noncomputable abbrev tF(x:Str)(i:Nat)(l:Orc):Rw:=(none,x,x,top i,l)
noncomputable abbrev tM(C:Addr)(m x:Str)(i j:Nat)(l:Orc):Rw:=(some C,m,x,cb (top i) j,l)
noncomputable def tab:List Rw:=[tF "inside" 14 [],
 tF "has_one" 15 [(1,[27015052])],
 tF "can_part" 16 [],
 tF "parted" 17 [],
 tF "counted" 20 [],
 tF "through" 21 [(1,[50011030])],
 tM 191 "__init__" "Claim.__init__" 23 0 [(388,[55008018,56008019,57008017,58008017,59008019,60008018])],
 tM 191 "piece" "Claim.piece" 23 1 [(388,[63042051,63054063,64008020,64023034])],
 tM 191 "state" "Claim.state" 23 3 [(388,[71011021,73017026,75011022])],
 tM 273 "__init__" "Claims.__init__" 24 0 [(552,[81008017,82008017,83008016])],
 tM 273 "names" "Claims.names" 24 1 [(552,[86020029])],
 tM 273 "named" "Claims.named" 24 2 [(2,[89011032,91015030]),(552,[89023032,91015024])],
 tM 273 "standing" "Claims.standing" 24 3 [(552,[94033041,94045054]),(2,[94045060]),(388,[94045071])],
 tM 273 "stake" "Claims.stake" 24 4 [(552,[97008017,97059068,98008037]),(2,[97008022]),(1,[97070075])],
 tM 273 "vest" "Claims.vest" 24 5 [(552,[101016025,104012020]),(2,[101016031]),(388,[102011027,102054066,103012024])],
 tM 273 "vest_all" "Claims.vest_all" 24 6 [(553,[107020032]),(552,[108012042])],
 tM 273 "change" "Claims.change" 24 7 [(2,[112011032,114016031]),(552,[112023032,114016025,118019039,121033042]),(388,[115011027,120012022,121012022,121044054,123012023,125012023])],
 tM 273 "part" "Claims.part" 24 8 [(552,[129016025,134008017,136012020,136028036]),(2,[129016034,134008022]),(388,[130024036,133008020,134025056,135011023])],
 tF "bounds" 34 [],
 tF "fits" 35 [],
 tF "all_fit" 36 [(1,[160015079]),(2,[160028039])],
 tF "is_cell" 37 [(1,[162040072])],
 tF "good_steps" 38 [(1,[164040081])],
 tF "good_outcrops" 39 [(1,[168015059])],
 tF "sound_vein" 40 [],
 tF "numbers_agree" 41 [],
 tF "sound" 42 [(1,[184011049])],
 tF "check_district" 66 [],
 tF "check_day" 67 [],
 tM 642 "__init__" "Field.__init__" 68 0 [(1290,[263008019,264008017,265008016,266008018,267008019,268008019,269008016,270008018])],
 tM 642 "enter" "Field.enter" 68 1 [(1290,[274021032,276018026,278008016,279015032])],
 tM 642 "answer" "Field.answer" 68 2 [(1290,[283019040,285019040,287019041,289019039,291019039,292015026,292034042]),(552,[292015049])],
 tM 642 "enter_vein" "Field.enter_vein" 68 3 [(1290,[295008018,295019027,296008019,296029037]),(2,[295008028]),(552,[296008047])],
 tM 642 "enter_join" "Field.enter_join" 68 4 [(2,[302011033,302037060,306011030,308008025]),(1290,[302023033,302050060,306019030,308008019])],
 tM 642 "enter_stake" "Field.enter_stake" 68 5 [(2,[313008048,314028044]),(1290,[313020030,314028038,315008019,315026034]),(552,[315008065])],
 tM 642 "pass_to" "Field.pass_to" 68 10 [(1290,[343017025,345008016])],
 tM 642 "claim" "Field.claim" 68 18 [(1290,[373016027]),(552,[373016039]),(388,[374016027,374029041,374043053,374055067,374069080])],
 tM 642 "standing" "Field.standing" 68 21 [(1290,[383015026,383036044]),(552,[383015045])],
 tF "_law_draw" 70 [],
 tF "_law_size" 71 [(1,[410017101,411017111,411030111])],
 tF "_law_term" 72 [(1,[415011085])],
 tF "_law_rect" 73 [(1,[417013127,417020126,418013131,418020130])],
 tF "_law_steps" 74 [(1,[421017125,421018039])],
 tF "_law_outs" 75 [(1,[427072085])],
 tF "_law_who" 76 [(1,[433054073])],
 tF "_law_pick" 77 [],
 tF "_law_vein" 78 [(1,[439075124])],
 tF "_law_claim_fact" 79 [(1,[447011129])],
 tF "_law_fact" 80 [(1,[450017105,451017116])],
 tF "_law_plan" 81 [(1,[461016029])],
 tF "_law_kept_order" 82 [(1,[469011073,469077139])],
 tF "law" 83 [(1,[473021101,476016018,477036134,477053134,483021079,484025043,484051101,487024108,487036108,488019083]),(1290,[479012040,481012054,483022049]),(1291,[482019040])]]
noncomputable def names:List Str:=tab.map (·.2.2.1)
noncomputable def glo:Glo:=⟨[("COINS",(.tup [(.int 1),(.int 1000000)])),("DAYS",(.tup [(.int 1),(.int 400)])),("DEPTHS",(.tup [(.int 0),(.int 12)])),("FOLK",(.tup [(.int 1),(.int 40)])),("LEFT",(.int 0)),("LENGTHS",(.tup [(.int 1),(.int 24)])),("LINES",(.tup [(.int 1),(.int 23)])),("LOW",(.int 3)),("MOST_COLUMNS",(.int 16)),("RIGHT",(.int 2)),("SIDES",(.tup [(.int 0),(.int 1)])),("STEPS",(.tup [(.int 0),(.int 4)])),("TERMS",(.tup [(.int 1),(.int 400)])),("TOP",(.int 1))],[("ASKS",["join","stake","work","sell","part","give","dig","pay"],[(.tup [(.str "day"),(.str "day"),(.str "below")]),(.tup [(.str "folk"),(.str "x"),(.str "y"),(.str "x"),(.str "y")]),(.tup [(.str "day")]),(.tup [(.str "day"),(.str "folk")]),(.tup [(.str "day"),(.str "side"),(.str "line"),(.str "folk")]),(.tup [(.str "day")]),(.tup [(.str "folk"),(.str "x"),(.str "y"),(.str "x"),(.str "y"),(.str "floor"),(.str "coins")]),(.tup [(.str "folk"),(.str "folk"),(.str "coins")])])],msT 0 tab,[("Claim",191),("Claims",273),("Field",642)],[(191,"days"),(191,"given"),(191,"ground"),(191,"last"),(191,"owner"),(191,"vested"),(273,"book"),(273,"row"),(273,"year"),(642,"day"),(642,"debts"),(642,"dug"),(642,"extent"),(642,"found"),(642,"joints"),(642,"staked"),(642,"year")]⟩
noncomputable def fns:List Fn:=fnsT names glo tab
end K28
end
section
namespace K28
open PySem (Str)
open M
noncomputable abbrev sO(x:String):D:=.str (Str.ofString x)
structure Cl where
 nm:Int
 j:Nat
 o:Int
 g:Int×Int×Int×Int
 ds:List Int
 la:Int
 v:Option Int
 gv:Option Int
noncomputable def oD:Option Int->D
 |none=>.non
 |some i=>.int i
noncomputable def rD(g:Int×Int×Int×Int):D:=.tup [.int g.1,.int g.2.1,.int g.2.2.1,.int g.2.2.2]
noncomputable def Cl.cell(c:Cl):Cell:=.obj 191 [("owner",.int c.o),("ground",rD c.g),("days",.loc (c.j+8)),("last",.int c.la),("vested",oD c.v),("given",oD c.gv)]
noncomputable def Cl.dl(c:Cl):Cell:=.lst true (c.ds.map .int)
noncomputable def FS(sz:D)(T d:Int)(fo jo bo:List (D×D))(ro:List D)(rest:Store):Store:=
 .obj 642 [("extent",sz),("year",.int T),("day",.int d),("found",.loc 1),("joints",.loc 2),("staked",.loc 3),("dug",.loc 6),("debts",.loc 7)]::.dic true fo::.dic true jo::.obj 273 [("year",.int T),("book",.loc 4),("row",.loc 5)]::.dic true bo::.lst true ro::.dic true []::.lst true []::rest
theorem isN{o:Option Int}(h:o=none):isNon (oD o)=true:=by rw[h]; rfl
theorem isS{o:Option Int}{x:Int}(h:o=some x):isNon (oD o)=false:=by rw[h]; rfl
theorem nnN{o:Option Int}(h:o=none):(!isNon (oD o))=false:=by rw[h]; rfl
theorem nnS{o:Option Int}{x:Int}(h:o=some x):(!isNon (oD o))=true:=by rw[h]; rfl
section
variable {sz:D}{T d:Int}{fo jo bo:List (D×D)}{ro:List D}{rest:Store}
noncomputable def stW(c:Cl)(day:Int):String:=if c.gv.isSome then "given" else if c.la<day then "fallen" else if c.v.isNone then "unvested" else "stands"
theorem qqc(m:Nat)(c:Cl)(day:Int)(h:rest[c.j+1]?=some c.cell):callD fns (m+1) 8 [.loc (c.j+9),.int day] (FS sz T d fo jo bo ro rest)=some (sO (stW c day),FS sz T d fo jo bo ro rest):=by
 unfold stW
 cases z:c.gv with
 |some x=>
  exact qzz 8 [] 1 (λq=>_/\_/\q) [.r c.cell,.b true] ⟨h,nnS z,rfl⟩
 |none=>
  by_cases j:c.la<day
  ·rw[Zt j];exact qzz 8 [] 1 (λq=>_/\_/\_/\_/\q) [.r c.cell,.b false,.r c.cell,.b true] ⟨h,nnN z,h,Zp j,rfl⟩
  ·rw[Zs j]
   cases F:c.v with
   |none=>exact qzz 8 [] 1 (λq=>_/\_/\_/\_/\_/\_/\q) [.r c.cell,.b false,.r c.cell,.b false,.r c.cell,.b true] ⟨h,nnN z,h,Zr j,h,isN F,rfl⟩
   |some x=>exact qzz 8 [] 1 (λq=>_/\_/\_/\_/\_/\_/\q) [.r c.cell,.b false,.r c.cell,.b false,.r c.cell,.b false] ⟨h,nnN z,h,Zr j,h,isS F,rfl⟩
end
noncomputable def cD(p:Int×Int):D:=.tup [.int p.1,.int p.2]
noncomputable def inB(g:Int×Int×Int×Int)(p:Int×Int):Bool:=decide (g.1<=p.1)&&decide (p.1<=g.2.2.1)&&(decide (g.2.1<=p.2)&&decide (p.2<=g.2.2.2))
theorem qdy(m:Nat)(st:Store)(g:Int×Int×Int×Int)(p:Int×Int):callD fns (m+1) 0 [rD g,cD p] st=some (.bl (inB g p),st):=by
 unfold inB
 by_cases h1:g.1<=p.1
 ·by_cases h2:p.1<=g.2.2.1
  ·by_cases j:g.2.1<=p.2
   ·by_cases z:p.2<=g.2.2.2
    ·rw[Zp h1,Zp h2,Zp j,Zp z];exact qzz 0 [] 1 (λq=>_/\_/\_/\_/\q) [.b true,.b true,.b true,.b true] ⟨Zp h1,Zp h2,Zp j,Zp z,rfl⟩
    ·rw[Zp h1,Zp h2,Zp j,Zr z];exact qzz 0 [] 1 (λq=>_/\_/\_/\_/\q) [.b true,.b true,.b true,.b false] ⟨Zp h1,Zp h2,Zp j,Zr z,rfl⟩
   ·rw[Zp h1,Zp h2,Zr j,Bool.false_and];exact qzz 0 [] 1 (λq=>_/\_/\_/\q) [.b true,.b true,.b false] ⟨Zp h1,Zp h2,Zr j,rfl⟩
  ·rw[Zp h1,Zr h2];exact qzz 0 [] 1 (λq=>_/\_/\q) [.b true,.b false] ⟨Zp h1,Zr h2,rfl⟩
 ·rw[Zr h1];exact qzz 0 [] 1 (λq=>_/\q) [.b false] ⟨Zr h1,rfl⟩
theorem asB:∀bs:List Bool,asBools (bs.map .bl)=some bs
 |[]=>rfl
 |b::r=>by show(asBools (r.map .bl)).map (b::·)=_; rw[asB r]; rfl
theorem nlB(bs:List Bool):noLocs (bs.map .bl)=true:=qqp λ_ _=>rfl
theorem qb8{c:CF}{τ:Sl}{st:Store}{i:Nat}{q:D}{ds:List D}(h:τ[i]?=some (some q))(j:rowAt st q=some ds):∃s,src (RL c) τ st (.var i)=some (s,st)/\(∀i,s.at st i=some ds[i]?)/\s.size st=ds.length:=by
 have e:(RL c).ev τ st (.var i)=some (q,st):=qj1 c τ st (.var i) (q,st) (by show(match τ[i]? with|some (some d)=>some (d,st)|_=>none)=_; rw[h])
 cases q with
 |tup xs=>
  cases j;exact⟨.tup ds,by show((RL c).ev τ st (.var i)).bind _=_; rw[e]; rfl,λi=>rfl,rfl⟩
 |lst xs=>
  have j:seqAt st (.lst xs)=some ds:=j;exact⟨.lst (.lst xs),by show((RL c).ev τ st (.var i)).bind _=_; rw[e]; rfl,qae j,qxt j⟩
 |loc l=>
  have j:seqAt st (.loc l)=some ds:=j;exact⟨.lst (.loc l),by show((RL c).ev τ st (.var i)).bind _=_; rw[e]; show(seqAt st (.loc l)).map _=_; rw[j]; rfl,qae j,qxt j⟩
 |_=>cases j
theorem qjo{α:Type}{c:CF}{τ:Sl}{st:Store}{i:Nat}{q:D}{elt:E}{sr:List (Option Nat)}{rst:Sl}(xs:List α)(f g:α->D)(h:τ[i]?=some (some q))(J:rowAt st q=some (xs.map f))(L:xs.length<lim)(j:inner sr τ=none::rst)(M:∀x∈xs,(RL c).ev (some (f x)::rst) st elt=some (g x,st)):
  stepEv (RL c) τ st (.comp (.var 0) (.var i) none elt sr)=some (.loc st.length,st++[.lst true (xs.map g)]):=by
 obtain⟨s,h1,h2,O⟩:=qb8 (c:=c) h J;refine qf7 h1 h2 O j (by simp) (by simpa using L) λk d e hd z=>?_;rw[Qqf]at hd z;obtain⟨x,F,rfl⟩:=Qqr.mp hd;rw[F]at z;cases z;exact M x (Qq1 F)
noncomputable def hasB(g:Int×Int×Int×Int)(ps:List (Int×Int)):Bool:=ps.any (inB g)
theorem has_ok(m:Nat){st:Store}{g:Int×Int×Int×Int}{q:D}{ps:List (Int×Int)}(j:rowAt st q=some (ps.map cD))(z:ps.length<lim):callD fns (m+2) 1 [rD g,q] st=some (.bl (hasB g ps),st):=by
 have h1:=qjo (c:=callD fns (m+1)) (τ:=[some (rD g),some q]) (i:=1) (rst:=[some (rD g)]) (elt:=.call 0 [.var 1,.var 0]) (sr:=[none,some 0]) ps cD (λp=>.bl (inB g p)) rfl j z rfl λp _=>qzo 0 [0] 1 (λq=>_/\q) [.c (.bl (inB g p),st)] ⟨qdy m st g p,rfl⟩;have e:ps.map (λp=>D.bl (inB g p))=(ps.map (inB g)).map .bl:=by rw[Qzc]; rfl
 rw[e]at h1;have F:bfun st .any [.lst ((ps.map (inB g)).map .bl)]=some (.bl (hasB g ps),st):=by
  show(asBools _).map _=_;rw[asB];simp[hasB,List.any_map,Function.comp_def]
 exact qzz 0 [] 2 (λq=>_/\_/\_/\q) [.c (.loc st.length,st++[.lst true ((ps.map (inB g)).map .bl)]),.l ((ps.map (inB g)).map .bl),.c (.bl (hasB g ps),st)] ⟨h1,qzb (st:=st) (nlB (ps.map (inB g))),F,rfl⟩
theorem gl{st:Store}{c:Cell}:(st++[c])[st.length]?=some c:=by simp
theorem sl{st:Store}{c c':Cell}:(st++[c]).set st.length c'=st++[c']:=by simp
theorem for_of{c:CF}{τ:Sl}{st:Store}{i:Nat}{q:D}{ds:List D}{t:M.T}{body:List M.S}(P:Nat->Sl->Store->Prop)(h:τ[i]?=some (some q))(h0:P 0 τ st)(U:∀k j st',P k j st'->rowAt st' q=some ds)
  (hs:∀k j st' d,ds[k]?=some d->P k j st'->∃z F,((setT t d j).bind λO=>(RL c).ex O st' body)=some (.nx z,F)/\P (k+1) z F) :
  ∃j st',stepEx (RL c) τ st (.forr t (.var i) body)=some (.nx j,st')/\P ds.length j st':=by
 have e:(RL c).ev τ st (.var i)=some (q,st):=qj1 c τ st (.var i) (q,st) (by show(match τ[i]? with|some (some d)=>some (d,st)|_=>none)=_; rw[h]);have J:∀s:Src,src (RL c) τ st (.var i)=some (s,st)->s.size st=ds.length->(∀k j st',P k j st'->s.at st' k=some ds[k]?)->∃j st',stepEx (RL c) τ st (.forr t (.var i) body)=some (.nx j,st')/\P ds.length j st':=λs h1 h2 h3=>by
  obtain⟨j,st',Z,Y⟩:=qk2 (f:=λτ st d=>(setT t d τ).bind λj=>(RL c).ex j st body) P (λ_ _=>False) h0 h2 h3 (λk j st' d hd L=>by
   obtain⟨z,F,Z,Y⟩:=hs k j st' d hd L
   exact .inl ⟨z,F,.inl Z,Y⟩)
  refine⟨j,st',?_,Y.resolve_right id⟩;show(src (RL c) τ st (.var i)).bind _=_;rw[h1];exact Z
 have h1:=U 0 τ st h0
 cases q with
 |tup xs=>
  cases h1;exact J (.tup ds) (by show((RL c).ev τ st (.var i)).bind _=_; rw[e]; rfl) rfl λk j st' _=>rfl
 |lst xs=>
  exact J (.lst (.lst xs)) (by show((RL c).ev τ st (.var i)).bind _=_; rw[e]; rfl) (qxt h1) λk j st' L=>qae (show seqAt st' (.lst xs)=_ from U k j st' L) k
 |loc l=>
  have h1:seqAt st (.loc l)=some ds:=h1;exact J (.lst (.loc l)) (by show((RL c).ev τ st (.var i)).bind _=_; rw[e]; show(seqAt st (.loc l)).map _=_; rw[h1]; rfl) (qxt h1) λk j st' L=>qae (show seqAt st' (.loc l)=_ from U k j st' L) k
 |_=>cases h1
theorem qw1{st:Store}{w:Bool}{ks:List Int}(h:ks≠[]):idxD (st++[.lst w (ks.map .int)]) (.loc st.length) (.int (-1))=some (.int (ks.getLast h)):=by
 have j:0<ks.length:=Qxa.mpr h;show(seqAt (st++[.lst w (ks.map .int)]) (.loc st.length)).bind _=_;have:seqAt (st++[.lst w (ks.map .int)]) (.loc st.length)=some (ks.map .int):=by show listAt _ _=_; unfold listAt; rw[gl]
 rw[this];show atI (ks.map D.int) (-1)=_;unfold atI ixN;rw[Zs (by decide),Zt (by simp; omega)];simp only[oBs,Qqw];rw[show(-1+(ks.length:Int)).toNat=ks.length - 1 by omega,Qqf,List.getLast_eq_getElem,Qqs (by omega)]
 rfl
theorem qbw(m:Nat){st:Store}{T:Int}{q:D}{xs:List Int}(Z:xs≠[])(hl:xs.length<1000)(hq:∀r,rowAt (st++r) q=some (xs.map .int)):∃ks:List Int,ks≠[]/\callD fns (m+1) 4 [.int T,q] st=some (.loc st.length,st++[.lst true (ks.map .int)]):=by
 obtain⟨z,st',h1,k,o,ks,rfl,rfl,h4,h5⟩:=for_of (c:=callD fns m) (τ:=[some (.int T),some q,some (.loc st.length),none]) (st:=st++[.lst true []]) (i:=1) (ds:=xs.map .int) (t:=.var 3) (body:=[.ite (.or (.not (.var 2)) (.cmp .LtE (.var 3) (.bin .Add (.idx (.var 2) (.neg (.lit (.int 1)))) (.var 0)))) [.expr (.meth (.var 2) .append [.var 3])] []])
  (λk z st'=>k<=xs.length/\∃o ks,z=[some (.int T),some q,some (.loc st.length),o]/\st'=st++[.lst true ((ks:List Int).map .int)]/\(0<k->ks≠[])/\ks.length<=k)
  rfl ⟨Qz1 _,none,[],rfl,rfl,λh=>absurd h (by omega),Qqk _⟩ (λk z st' h=>by obtain⟨_,o,ks,_,rfl,_⟩:=h; exact hq _) (λk z st' d hd h=>by
   obtain⟨hk,o,ks,rfl,rfl,h1,h2⟩:=h;rw[Qqf]at hd;obtain⟨x,O,rfl⟩:=Qqr.mp hd;have J:k<xs.length:=(Qqx.mp O).1;have F:(ks.map D.int).length<lim:=by simp; unfold lim; omega
   have U:(st++[Cell.lst true (ks.map .int)]).set st.length (.lst true (ks.map .int++[.int x]))=st++[.lst true ((ks++[x]).map .int)]:=by rw[sl]; simp
   have L:=gl (st:=st) (c:=.lst true (ks.map .int))
   by_cases j:ks=[]
   ·subst j;exact⟨[some (.int T),some q,some (.loc st.length),some (.int x)],(st++[Cell.lst true []]).set st.length (.lst true [.int x]),qqm 0 [] 0 (λq=>_/\_/\_/\_/\q) [.r (.lst true []),.k,.r (.lst true []),.r (.lst true []),.b true] ⟨L,L,L,Zp F,rfl⟩,J,some (.int x),[x],rfl,sl,λ_=>by simp,by simp⟩
   ·have M:(!(ks.map D.int).isEmpty)=true:=by cases ks with|nil=>exact absurd rfl j|cons a b=>rfl
    by_cases Y:x<=ks.getLast j+T
    ·exact⟨[some (.int T),some q,some (.loc st.length),some (.int x)],(st++[Cell.lst true (ks.map .int)]).set st.length (.lst true (ks.map .int++[.int x])),qqm 0 [] 0 (λq=>_/\_/\_/\_/\_/\_/\_/\q) [.r (.lst true (ks.map .int)),.b true,.i (.int (ks.getLast j)),.b true,.r (.lst true (ks.map .int)),.r (.lst true (ks.map .int)),.b true] ⟨L,M,qw1 (st:=st) (w:=true) j,Zp Y,L,L,Zp F,rfl⟩,J,some (.int x),ks++[x],rfl,U,λ_=>by simp,by simp; omega⟩
    ·exact⟨[some (.int T),some q,some (.loc st.length),some (.int x)],st++[.lst true (ks.map .int)],qqm 0 [] 0 (λq=>_/\_/\_/\_/\q) [.r (.lst true (ks.map .int)),.b true,.i (.int (ks.getLast j)),.b false] ⟨L,M,qw1 (st:=st) (w:=true) j,Zr Y,rfl⟩,J,some (.int x),ks,rfl,rfl,λ_=>j,by omega⟩)
 refine⟨ks,h4 (by simp; exact Qxa.mpr Z),?_⟩;exact qzz 0 [] 1 (λq=>_/\q) [.s (.nx [some (.int T),some q,some (.loc st.length),o],st++[.lst true (ks.map .int)])] ⟨h1,rfl⟩
theorem nlI(ks:List Int):noLocs (ks.map .int)=true:=qqp λ_ _=>rfl
theorem qj9(m:Nat){st:Store}{T:Int}{q:D}{xs:List Int}(j:xs≠[])(F:xs.length<1000)(z:∀r,rowAt (st++r) q=some (xs.map .int)):∃L:Int,callD fns (m+2) 5 [.int T,q] st=some (.int L,st):=by
 obtain⟨ks,h1,h2⟩:=qbw m (T:=T) j F z;refine⟨ks.getLast h1+T,?_⟩;have e:idxD st (.lst (ks.map .int)) (.int (-1))=some (.int (ks.getLast h1)):=by
  have:=qw1 (st:=[]) (w:=true) h1;exact this
 exact qzz 0 [4] 2 (λq=>_/\_/\_/\q) [.c (.loc st.length,st++[.lst true (ks.map .int)]),.l (ks.map .int),.i (.int (ks.getLast h1))] ⟨h2,qzb (st:=st) (nlI ks),e,rfl⟩
noncomputable def ik(st:Store)(C:Nat)(F:List (Str×D)):Nat->Store
 |0=>st++[.obj C (F.take 0)]
 |k+1=>(ik st C F k).set st.length (.obj C (F.take (k+1)))
theorem qln{st:Store}{C:Nat}{F:List (Str×D)}:∀k,ik st C F k=st++[.obj C (F.take k)]
 |0=>rfl
 |k+1=>by show(ik st C F k).set _ _=_; rw[qln k,sl]
theorem ik_at{st:Store}{C:Nat}{F:List (Str×D)}(k:Nat):(ik st C F k)[st.length]?=some (.obj C (F.take k)):=by rw[qln k,gl]
noncomputable def clF(o:Int)(g:Int×Int×Int×Int)(dl:D)(la:Int):List (Str×D):=[("owner",.int o),("ground",rD g),("days",dl),("last",.int la),("vested",.non),("given",.non)]
theorem cinit(m:Nat)(st:Store)(o la:Int)(g:Int×Int×Int×Int)(dl:D):callD fns (m+1) 6 [.loc st.length,.int o,rD g,dl,.int la] (st++[.obj 191 []])=some (.non,st++[.obj 191 (clF o g dl la)]):=by
 have h:=λk=>ik_at (st:=st) (C:=191) (F:=clF o g dl la) k;exact qva 0 [] 1 (.non,ik st 191 (clF o g dl la) 6) (λq=>_/\_/\_/\_/\_/\_/\q) [.r (.obj 191 ((clF o g dl la).take 0)),.r (.obj 191 ((clF o g dl la).take 1)),.r (.obj 191 ((clF o g dl la).take 2)),.r (.obj 191 ((clF o g dl la).take 3)),.r (.obj 191 ((clF o g dl la).take 4)),.r (.obj 191 ((clF o g dl la).take 5))] ⟨h 0,h 1,h 2,h 3,h 4,h 5,by rw[qln]; rfl⟩
structure Inv (B:Nat) (rest:Store) (cs:List Cl):Prop where
 lo:∀c∈cs,B<=c.j
 at_:∀c∈cs,rest[c.j]?=some c.dl/\rest[c.j+1]?=some c.cell
 pw:cs.Pairwise λa b=>a.j+1<b.j
 ne:∀c∈cs,c.ds≠[]/\c.ds.length<900
 nd:(cs.map (·.nm)).Nodup
noncomputable def qze(cs:List Cl):List (D×D):=cs.map λc=>(.int c.nm,.loc (c.j+9))
theorem Inv.inj{B:Nat}{rest:Store}{cs:List Cl}(h:Inv B rest cs){a b:Cl}(z:a∈cs)(J:b∈cs)(e:a.nm=b.nm):a=b:=by
 have:=h.nd;clear h
 induction cs with
 |nil=>cases z
 |cons c r F=>
  rw[Qqd,Qq5]at this;rcases Qqv.mp z with rfl|q<;>rcases Qqv.mp J with rfl|j
  ·rfl
  ·exact absurd (Qqy.mpr ⟨b,j,e.symm⟩) this.1
  ·exact absurd (Qqy.mpr ⟨a,q,e⟩) this.1
  ·exact F q j this.2
theorem qww(a:Cl)(r:List Cl)(n:Int):dget (qze (a::r)) (.int n)=bif a.nm==n then some (.loc (a.j+9)) else dget (qze r) (.int n):=by
 unfold dget qze;rw[Qqd,Qzx];show Option.map _ (match (a.nm==n) with|true=>_|false=>_)=_;cases a.nm==n<;>rfl
theorem ql2{cs:List Cl}{n:Int}(h:∀c∈cs,c.nm≠n):dget (qze cs) (.int n)=none:=by
 induction cs with
 |nil=>rfl
 |cons c r j=>
  rw[qww,beq_false_of_ne (h c (.head _))];exact j λc q=>h c (.tail _ q)
theorem qf6{cs:List Cl}{c:Cl}(h:c∈cs)(j:(cs.map (·.nm)).Nodup):dget (qze cs) (.int c.nm)=some (.loc (c.j+9)):=by
 induction cs with
 |nil=>cases h
 |cons a r q=>
  rw[qww];rw[Qqd,Qq5]at j;rcases Qqv.mp h with rfl|h'
  ·rw[beq_self_eq_true]; rfl
  ·rw[beq_false_of_ne λe=>j.1 (Qqy.mpr ⟨c,h',e.symm⟩)];exact q h' j.2
theorem Inv.get{B:Nat}{rest:Store}{cs:List Cl}(h:Inv B rest cs){c:Cl}(j:c∈cs):dget (qze cs) (.int c.nm)=some (.loc (c.j+9)):=qf6 j h.nd
theorem Inv.apart{B:Nat}{rest:Store}{cs:List Cl}(h:Inv B rest cs){a b:Cl}(z:a∈cs)(J:b∈cs)(e:a.nm≠b.nm):a.j+1<b.j\/b.j+1<a.j:=by
 have:=h.pw;clear h
 induction cs with
 |nil=>cases z
 |cons c r F=>
  rw[Qze]at this;rcases Qqv.mp z with rfl|q<;>rcases Qqv.mp J with rfl|j
  ·exact absurd rfl e
  ·exact .inl (this.1 b j)
  ·exact .inr (this.1 a q)
  ·exact F q j this.2
noncomputable def upd(cs:List Cl)(c':Cl):List Cl:=cs.map λx=>if x.nm=c'.nm then c' else x
theorem qxs{cs:List Cl}{c c':Cl}(L:c∈cs)(j:(cs.map (·.nm)).Nodup)(e:c'.nm=c.nm)(O:c'.j=c.j):qze (upd cs c')=qze cs:=by
 unfold qze upd;rw[Qzc];refine Qz0 λx F=>?_;show(D.int (if x.nm=c'.nm then c' else x).nm,D.loc ((if x.nm=c'.nm then c' else x).j+9))=_
 by_cases h:x.nm=c'.nm
 ·have J:x=c:=by
   have:∀{l:List Cl},(l.map (·.nm)).Nodup->x∈l->c∈l->x.nm=c.nm->x=c:=λ{l} j F L e=>by
    induction l with
    |nil=>cases F
    |cons y r M=>
     rw[Qqd,Qq5]at j;rcases Qqv.mp F with rfl|q<;>rcases Qqv.mp L with rfl|z
     ·rfl
     ·exact absurd (Qqy.mpr ⟨c,z,e.symm⟩) j.1
     ·exact absurd (Qqy.mpr ⟨x,q,e⟩) j.1
     ·exact M j.2 q z
   exact this j F L (h.trans e)
  rw[Zt h,e,O,J]
 ·rw[Zs h]
theorem qbf{cs:List Cl}{c':Cl}:(upd cs c').map (·.nm)=cs.map (·.nm):=by
 unfold upd;rw[Qzc];refine Qz0 λx _=>?_;show(if x.nm=c'.nm then c' else x).nm=x.nm
 by_cases h:x.nm=c'.nm
 ·rw[Zt h,h]
 ·rw[Zs h]
theorem Inv.put{B:Nat}{rest:Store}{cs:List Cl}(h:Inv B rest cs){c c':Cl}(F:c∈cs)(e:c'.nm=c.nm)(J:c'.j=c.j)(hd:c'.ds≠[]/\c'.ds.length<900):Inv B ((rest.set c.j c'.dl).set (c.j+1) c'.cell) (upd cs c'):=by
 have lt:c.j+1<rest.length:=(Qqx.mp (h.at_ c F).2).1;refine⟨λx q=>?_,λx q=>?_,?_,λx q=>?_,by rw[qbf]; exact h.nd⟩
 ·obtain⟨y,j,rfl⟩:=Qqy.mp q
  by_cases hn:y.nm=c'.nm
  ·rw[Zt hn,J]; exact h.lo c F
  ·rw[Zs hn]; exact h.lo y j
 ·obtain⟨y,j,rfl⟩:=Qqy.mp q
  by_cases hn:y.nm=c'.nm
  ·rw[Zt hn,J];constructor
   ·rw[Qqn (by omega),Qq9 (by omega)]
   ·rw[Qq9 (by rw[Qzn]; omega)]
  ·rw[Zs hn];have:=h.at_ y j;rcases h.apart j F (λz=>hn (z.trans e.symm)) with z|z
   ·exact⟨by rw[Qqn (by omega),Qqn (by omega)]; exact this.1,by rw[Qqn (by omega),Qqn (by omega)]; exact this.2⟩
   ·exact⟨by rw[Qqn (by omega),Qqn (by omega)]; exact this.1,by rw[Qqn (by omega),Qqn (by omega)]; exact this.2⟩
 ·unfold upd;rw[Qjb];have L:∀y∈cs,(if y.nm=c'.nm then c' else y).j=y.j:=λy j=>by
   by_cases hn:y.nm=c'.nm
   ·rw[Zt hn,J,h.inj j F (hn.trans e)]
   ·rw[Zs hn]
  refine List.Pairwise.imp_of_mem (λ{a b} O M z=>?_) h.pw;rw[L a O,L b M];exact z
 ·obtain⟨y,j,rfl⟩:=Qqy.mp q
  by_cases hn:y.nm=c'.nm
  ·rw[Zt hn]; exact hd
  ·rw[Zs hn]; exact h.ne y j
theorem Inv.cell{B:Nat}{rest:Store}{cs:List Cl}(h:Inv B rest cs){c c':Cl}(j:c∈cs)(e:c'.nm=c.nm)(q:c'.j=c.j)(hd:c'.ds=c.ds):Inv B (rest.set (c.j+1) c'.cell) (upd cs c'):=by
 have:=h.put j e q (hd▸h.ne c j);have lt:c.j+1<rest.length:=(Qqx.mp (h.at_ c j).2).1;have z:rest.set c.j c'.dl=rest:=by
  apply Qje;intro i
  by_cases hi:c.j=i
  ·subst hi;rw[Qq9 (by omega),(h.at_ c j).1];unfold Cl.dl;rw[hd]
  ·rw[Qqn hi]
 rwa [z]at this
theorem Inv.more{B:Nat}{rest:Store}{cs:List Cl}(h:Inv B rest cs)(r:Store):Inv B (rest++r) cs:=
 ⟨h.lo,λc j=>⟨by rw[Qqt (Qqx.mp (h.at_ c j).1).1]; exact(h.at_ c j).1,by rw[Qqt (Qqx.mp (h.at_ c j).2).1]; exact(h.at_ c j).2⟩,h.pw,h.ne,h.nd⟩
theorem Inv.add{B:Nat}{rest:Store}{cs:List Cl}(h:Inv B rest cs)(c:Cl)(J:c.j=rest.length)(F:∀x∈cs,x.nm≠c.nm)(hd:c.ds≠[]/\c.ds.length<900)(hB:B<=rest.length):Inv B (rest++[c.dl,c.cell]) (cs++[c]):=by
 have m:=h.more [c.dl,c.cell];refine⟨λx j=>?_,λx j=>?_,?_,λx j=>?_,?_⟩
 ·rcases Qqi.mp j with j|j
  ·exact h.lo x j
  ·cases Qqa.mp j; omega
 ·rcases Qqi.mp j with j|j
  ·exact m.at_ x j
  ·cases Qqa.mp j;rw[J];constructor<;>simp
 ·rw[Qzp];refine⟨h.pw,List.pairwise_singleton ..,λa z b q=>?_⟩;cases Qqa.mp q;have:=(Qqx.mp (h.at_ a z).2).1;omega
 ·rcases Qqi.mp j with j|j
  ·exact h.ne x j
  ·cases Qqa.mp j; exact hd
 ·rw[Qqp,Qzs];refine⟨h.nd,by simp,λa z b q=>?_⟩;obtain⟨x,j,rfl⟩:=Qqy.mp z;simp only[Qqd,Qxx,Qqa]at q;subst q;exact F x j
theorem qay{cs:List Cl}{c:Cl}(z:∀x∈cs,x.nm≠c.nm):dput (qze cs) (.int c.nm) (.loc (c.j+9))=qze (cs++[c]):=by
 unfold dput;have:(qze cs).any (λp=>eqT p.1 (.int c.nm))=false:=by
  rw[Qjw];intro p q;obtain⟨x,j,rfl⟩:=Qqy.mp q;show ¬ (x.nm==c.nm)=true;simpa using z x j
 rw[this];simp[qze]
theorem qqn{B i:Nat}{rest:Store}{c:Cell}(h:B<=i):(rest.set i c).take B=rest.take B:=by
 apply Qje;intro k;rw[Qxm,Qxm]
 by_cases j:k<B
 ·rw[Zt j,Zt j,Qqn (by omega)]
 ·rw[Zs j,Zs j]
theorem qbg{A R:List Cl}{c c':Cl}(e:c'.nm=c.nm)(h:((A++c::R).map (·.nm)).Nodup):upd (A++c::R) c'=A++c'::R:=by
 rw[Qqp,Qqd,Qzs,Qq5]at h;have a:∀x∈A,x.nm≠c'.nm:=λx j=>by
  rw[e];exact h.2.2 _ (Qqy.mpr ⟨x,j,rfl⟩) _ (Qql ..)
 have b:∀x∈R,x.nm≠c'.nm:=λx j z=>h.2.1.1 (Qqy.mpr ⟨x,j,by rw[z,e]⟩);unfold upd;rw[Qqp,Qqd,Zt e.symm];have F:A.map (λx=>if x.nm=c'.nm then c' else x)=A:=by
  conv=>rhs; rw[<- List.map_id A]
  exact Qz0 λx j=>Zs (a x j)
 have q:R.map (λx=>if x.nm=c'.nm then c' else x)=R:=by
  conv=>rhs; rw[<- List.map_id R]
  exact Qz0 λx j=>Zs (b x j)
 rw[F,q]
noncomputable abbrev rowD(ro:List Int):List D:=ro.map .int
section
variable {sz:D}{T d:Int}{fo jo:List (D×D)}{ro:List Int}{rest:Store}{cs:List Cl}{B:Nat}
noncomputable abbrev FC(sz:D)(T d:Int)(fo jo:List (D×D))(cs:List Cl)(ro:List Int)(rest:Store):Store:=FS sz T d fo jo (qze cs) (rowD ro) rest
theorem qz0(c:Cl)(day:Int):(stW c day = "unvested"/\c.v=none/\c.gv=none/\day<=c.la)\/(stW c day = "stands"/\c.v≠none/\c.gv=none/\day<=c.la)\/(stW c day = "given"/\c.gv≠none)\/(stW c day = "fallen"/\c.la<day/\c.gv=none):=by
 unfold stW
 cases z:c.gv with
 |some x=>exact .inr (.inr (.inl ⟨rfl,by simp⟩))
 |none=>
  by_cases j:c.la<day
  ·exact .inr (.inr (.inr ⟨by simp[j],j,rfl⟩))
  ·cases q:c.v with
   |none=>exact .inl ⟨by simp[j],rfl,rfl,by omega⟩
   |some x=>exact .inr (.inl ⟨by simp[j],by simp,rfl,by omega⟩)
noncomputable def hit(day:Int)(ps:List (Int×Int))(c:Cl):Bool:=decide (stW c day = "unvested")&&hasB c.g ps
noncomputable def vst(day:Int)(ps:List (Int×Int))(c:Cl):Cl:=if hit day ps c then { c with v:=some day } else c
theorem qbe(m:Nat)(I:Inv B rest cs){c:Cl}(L:c∈cs)(day:Int){q:D}{ps:List (Int×Int)}(U:rowAt (FC sz T d fo jo cs ro rest) q=some (ps.map cD))(Y:ps.length<lim)(Z:ro.length<1000):
  callD fns (m+3) 14 [.loc 3,.int c.nm,.int day,q] (FC sz T d fo jo cs ro rest)=some (.non,if hit day ps c then FC sz T d fo jo cs (ro++[c.nm]) (rest.set (c.j+1) (vst day ps c).cell) else FC sz T d fo jo cs ro rest):=by
 have z:=qqc (sz:=sz) (T:=T) (d:=d) (fo:=fo) (jo:=jo) (bo:=qze cs) (ro:=rowD ro) (m+1) c day (I.at_ c L).2;have F:=I.get L;have J:=has_ok m (g:=c.g) U Y;have j:=(I.at_ c L).2;have no:∀w,stW c day=w->(w = "stands"\/w = "given"\/w = "fallen")->hit day ps c=false:=λw e h=>by
  unfold hit;rw[e];rcases h with rfl|rfl|rfl<;>rfl
 rcases qz0 c day with⟨e,h1,h2,h3⟩|⟨e,_⟩|⟨e,_⟩|⟨e,_⟩
 ·rw[e]at z;have hi:hit day ps c=hasB c.g ps:=by unfold hit; rw[e]; rfl
  cases M:hasB c.g ps with
  |true=>
   rw[M]at hi J;have O:vst day ps c={ c with v:=some day }:=by unfold vst; rw[hi]; rfl
   rw[hi,Zt rfl,O];have el:rowD (ro++[c.nm])=rowD ro++[.int c.nm]:=by simp
   unfold FC;rw[el];exact qzz 8 [8,1] 3 (λq=>_/\_/\_/\_/\_/\_/\_/\q) [.q (some (.loc (c.j+9))),.r c.cell,.c (sO "unvested",FC sz T d fo jo cs ro rest),.r c.cell,.c (.bl true,FC sz T d fo jo cs ro rest),.r c.cell,.b true] ⟨F,j,z,j,J,j,Zp (show(rowD ro).length<lim by simp; unfold lim; omega),rfl⟩
  |false=>
   rw[M]at hi J;rw[hi,Zs (by simp)];exact qzz 8 [8,1] 3 (λq=>_/\_/\_/\_/\_/\q) [.q (some (.loc (c.j+9))),.r c.cell,.c (sO "unvested",FC sz T d fo jo cs ro rest),.r c.cell,.c (.bl false,FC sz T d fo jo cs ro rest)] ⟨F,j,z,j,J,rfl⟩
 ·rw[no _ e (.inl rfl),Zs (by simp)];rw[e]at z;exact qzz 8 [8,1] 3 (λq=>_/\_/\_/\q) [.q (some (.loc (c.j+9))),.r c.cell,.c (sO "stands",FC sz T d fo jo cs ro rest)] ⟨F,j,z,rfl⟩
 ·rw[no _ e (.inr (.inl rfl)),Zs (by simp)];rw[e]at z;exact qzz 8 [8,1] 3 (λq=>_/\_/\_/\q) [.q (some (.loc (c.j+9))),.r c.cell,.c (sO "given",FC sz T d fo jo cs ro rest)] ⟨F,j,z,rfl⟩
 ·rw[no _ e (.inr (.inr rfl)),Zs (by simp)];rw[e]at z;exact qzz 8 [8,1] 3 (λq=>_/\_/\_/\q) [.q (some (.loc (c.j+9))),.r c.cell,.c (sO "fallen",FC sz T d fo jo cs ro rest)] ⟨F,j,z,rfl⟩
theorem qk9{c:CF}{τ:Sl}{st:Store}{it:E}{s:Src}{ds:List D}{t:M.T}{body:List M.S}(P:Nat->Sl->Store->Prop)(h1:src (RL c) τ st it=some (s,st))(Z:s.size st=ds.length)(Y:∀k j st',P k j st'->s.at st' k=some ds[k]?)(h0:P 0 τ st)
  (O:∀k j st' d,ds[k]?=some d->P k j st'->∃q z,((setT t d j).bind λF=>(RL c).ex F st' body)=some (.nx q,z)/\P (k+1) q z) :
  ∃j st',stepEx (RL c) τ st (.forr t it body)=some (.nx j,st')/\P ds.length j st':=by
 obtain⟨j,st',L,J⟩:=qk2 (f:=λτ st d=>(setT t d τ).bind λj=>(RL c).ex j st body) P (λ_ _=>False) h0 Z Y (λk j st' d hd U=>by
  obtain⟨q,z,L,J⟩:=O k j st' d hd U
  exact .inl ⟨q,z,.inl L,J⟩)
 refine⟨j,st',?_,J.resolve_right id⟩;show(src (RL c) τ st it).bind _=_;rw[h1];exact L
theorem qz7(day:Int)(ps:List (Int×Int))(c:Cl):(vst day ps c).nm=c.nm/\(vst day ps c).j=c.j/\(vst day ps c).ds=c.ds:=by
 unfold vst;cases hit day ps c<;>exact⟨rfl,rfl,rfl⟩
theorem qhb(m:Nat)(I:Inv B rest cs)(day:Int)(ps:List (Int×Int))(hl:ps.length<lim)(hr:ro.length+cs.length<1000):
  ∃j,callD fns (m+4) 15 [.loc 3,.int day,.tup (ps.map cD)] (FC sz T d fo jo cs ro rest)=some (.non,FC sz T d fo jo (cs.map (vst day ps)) (ro++(cs.filter (hit day ps)).map (·.nm)) j)/\Inv B j (cs.map (vst day ps))/\j.take B=rest.take B/\j.length=rest.length:=by
 have bk:∀A R:List Cl,qze (A.map (vst day ps)++R)=qze (A++R):=λA R=>by
  unfold qze;rw[Qqp,Qqp,Qzc]
  congr 1
  exact Qz0 λc _=>by
   show(D.int (vst day ps c).nm,D.loc ((vst day ps c).j+9))=_;rw[(qz7 day ps c).1,(qz7 day ps c).2.1]
 have keys:keysOf (qze cs)=cs.map λc=>D.int c.nm:=by unfold keysOf qze; rw[Qzc]; rfl
 have Z:(RL (callD fns (m+3))).ev [some (.loc 3),some (.int day),some (.tup (ps.map cD)),none] (FC sz T d fo jo cs ro rest) (.gc (.mcall 273 10 "names" (.var 0) []))=some (.lst (cs.map λc=>D.int c.nm),FC sz T d fo jo cs ro rest):=by
  have g:=qzb (st:=FC sz T d fo jo cs ro rest) (ds:=keysOf (qze cs)) (by rw[keys]; exact qqp λ_ _=>rfl);rw[<- keys];exact qzo 8 [] 3 (λq=>_/\q) [.l (keysOf (qze cs))] ⟨g,rfl⟩
 obtain⟨z,st',h1,o,r',h2,h3,M,O,h6⟩:=qk9 (c:=callD fns (m+3)) (τ:=[some (.loc 3),some (.int day),some (.tup (ps.map cD)),none]) (st:=FC sz T d fo jo cs ro rest) (it:=.gc (.mcall 273 10 "names" (.var 0) [])) (s:=.lst (.lst (cs.map λc=>D.int c.nm))) (ds:=cs.map λc=>D.int c.nm) (t:=.var 3) (body:=[.expr (.mcall 273 14 "vest" (.var 0) [.var 3,.var 1,.var 2])])
  (λk z st'=>∃o r',z=[some (.loc 3),some (.int day),some (.tup (ps.map cD)),o]/\st'=FC sz T d fo jo ((cs.take k).map (vst day ps)++cs.drop k) (ro++((cs.take k).filter (hit day ps)).map (·.nm)) r'/\Inv B r' ((cs.take k).map (vst day ps)++cs.drop k)/\r'.take B=rest.take B/\r'.length=rest.length)
  (by show((RL (callD fns (m+3))).ev _ _ _).bind _=_; rw[Z]; rfl) (by simp[Src.size,seqAt]) (λk z st' h=>rfl) ⟨none,rest,rfl,by simp,by simpa using I,rfl,rfl⟩ (λk z st' x hx h=>by
   obtain⟨o,r',rfl,rfl,J,M,O⟩:=h;rw[Qqf]at hx;obtain⟨c,hc,rfl⟩:=Qqr.mp hx;have hk:k<cs.length:=(Qqx.mp hc).1;have L:cs[k]=c:=(Qqx.mp hc).2;have dr:cs.drop k=c::cs.drop (k+1):=by rw[Qjh hk,L]
   have tk:cs.take (k+1)=cs.take k++[c]:=by rw[Qzf hk,L]
   rw[dr]at J ⊢;have Y:c∈(cs.take k).map (vst day ps)++c::cs.drop (k+1):=by simp
   have U:(ro++((cs.take k).filter (hit day ps)).map (·.nm)).length<1000:=by
    have:=Qz6 (hit day ps) (cs.take k);rw[Qqu,Qqw];rw[Qzb]at this;omega
   have hv:=qbe (sz:=sz) (T:=T) (d:=d) (fo:=fo) (jo:=jo) (ro:=ro++((cs.take k).filter (hit day ps)).map (·.nm)) m J Y day (q:=.tup (ps.map cD)) (ps:=ps) rfl hl U;generalize hS:(if hit day ps c=true then _ else _:Store)=S1 at hv;refine⟨[some (.loc 3),some (.int day),some (.tup (ps.map cD)),some (.int c.nm)],S1,qqm 8 [14] 3 (λq=>_/\q) [.c (.non,S1)] ⟨hv,rfl⟩,some (.int c.nm),if hit day ps c then r'.set (c.j+1) (vst day ps c).cell else r',rfl,?_,?_,?_,?_⟩
   ·rw[<- hS]
    cases F:hit day ps c with
    |true=>
     have hb:qze ((cs.take (k+1)).map (vst day ps)++cs.drop (k+1))=qze ((cs.take k).map (vst day ps)++c::cs.drop (k+1)):=by rw[bk,bk,Qx3,<- dr,Qx3]
     rw[Zt rfl,Zt rfl];unfold FC;rw[hb,tk,Qxl,Qqp];simp[F]
    |false=>
     rw[Zs (by simp),Zs (by simp),tk,Qqp,Qxl,Qqp];have:vst day ps c=c:=by unfold vst; rw[F]; rfl
     simp[F,this]
   ·rw[tk,Qqp,Qjy];show Inv B _ (List.map (vst day ps) (cs.take k)++vst day ps c::cs.drop (k+1))
    cases F:hit day ps c with
    |true=>
     have:=J.cell Y (qz7 day ps c).1 (qz7 day ps c).2.1 (qz7 day ps c).2.2;rwa [qbg (qz7 day ps c).1 J.nd]at this
    |false=>
     have:vst day ps c=c:=by unfold vst; rw[F]; rfl
     rw[this];exact J
   ·cases F:hit day ps c with
    |true=>
     rw[Zt rfl,qqn (by have:=J.lo c Y; omega)];exact M
    |false=>exact M
   ·cases F:hit day ps c with
    |true=>rw[Zt rfl,Qzn]; exact O
    |false=>exact O)
 simp only[Qqw,Qxe,List.drop_length,Qzm]at h3 M;subst h2 h3;exact⟨r',qzz 8 [] 4 (λq=>_/\q) [.s (.nx [some (.loc 3),some (.int day),some (.tup (ps.map cD)),o],FC sz T d fo jo (cs.map (vst day ps)) (ro++(cs.filter (hit day ps)).map (·.nm)) r')] ⟨h1,rfl⟩,M,O,h6⟩
end
section
variable {sz:D}{T d:Int}{fo jo:List (D×D)}{ro:List Int}{rest:Store}{cs:List Cl}{B:Nat}
theorem set2{a b j:Cell}:∀{rest:Store},(rest++[a,b]).set (rest.length+1) j=rest++[a,j]
 |[]=>rfl
 |x::r=>congrArg (x::·) (set2 (rest:=r))
theorem bk1{cs:List Cl}{c c':Cl}(e:c'.nm=c.nm)(j:c'.j=c.j):qze (cs++[c'])=qze (cs++[c]):=by simp[qze,e,j]
theorem qhq(bo:List (D×D))(r:List D)(s:Store):(FS sz T d fo jo bo r s).length=s.length+8:=by simp[FS]
theorem qe7(m:Nat)(I:Inv B rest cs)(hB:B<=rest.length)(dy o:Int)(g:Int×Int×Int×Int){q:D}{ps:List (Int×Int)}(Z:∀bo r,rowAt (FS sz T d fo jo bo (rowD ro) (rest++r)) q=some (ps.map cD))(hl:ps.length<lim)(hr:ro.length+cs.length<900)(O:∀x∈cs,x.nm≠dy):
  ∃L:Int,callD fns (m+4) 13 [.loc 3,.int dy,.int o,rD g,q] (FC sz T d fo jo cs ro rest)=some (.non,FC sz T d fo jo (cs++[vst dy ps ⟨dy,rest.length,o,g,[dy],L,none,none⟩]) (ro++if hit dy ps ⟨dy,rest.length,o,g,[dy],L,none,none⟩ then [dy] else []) (rest++[.lst true [.int dy],(vst dy ps ⟨dy,rest.length,o,g,[dy],L,none,none⟩).cell]))/\
   Inv B (rest++[.lst true [.int dy],(vst dy ps ⟨dy,rest.length,o,g,[dy],L,none,none⟩).cell]) (cs++[vst dy ps ⟨dy,rest.length,o,g,[dy],L,none,none⟩]):=by
 obtain⟨L,hL⟩:=qj9 (m+1) (st:=FC sz T d fo jo cs ro (rest++[.lst true [.int dy]])) (T:=T) (q:=.lst [.int dy]) (xs:=[dy]) (by simp) (by simp) (λr=>rfl);refine⟨L,?_⟩;generalize j:(⟨dy,rest.length,o,g,[dy],L,none,none⟩:Cl)=c;have c1:c.nm=dy:=by rw[<- j]
 have c2:c.j=rest.length:=by rw[<- j]
 have c3:c.dl=.lst true [.int dy]:=by rw[<- j]; rfl
 have c4:c.cell=.obj 191 (clF o g (.loc (rest.length+8)) L):=by rw[<- j]; rfl
 have J:Inv B (rest++[c.dl,c.cell]) (cs++[c]):=I.add c c2 (by rw[c1]; exact O) (by rw[<- j]; simp) hB;have V:=qz7 dy ps c;have F:=cinit (m+2) (FC sz T d fo jo cs ro (rest++[.lst true [.int dy]])) o L g (.loc (rest.length+8));have z:=qbe (sz:=sz) (T:=T) (d:=d) (fo:=fo) (jo:=jo) (ro:=ro) m J (c:=c) (by simp) dy (q:=q) (ps:=ps) (Z _ _) hl (by omega);have U:FS sz T d fo jo (dput (qze cs) (.int dy) (.loc (FC sz T d fo jo cs ro (rest++[.lst true [.int dy]])).length)) (rowD ro) (rest++[.lst true [.int dy]]++[.obj 191 (clF o g (.loc (rest.length+8)) L)])=FC sz T d fo jo (cs++[c]) ro (rest++[c.dl,c.cell]):=by
  have:(FC sz T d fo jo cs ro (rest++[.lst true [.int dy]])).length=c.j+9:=by rw[qhq,c2]; simp
  rw[this,<- c1,qay (by rw[c1]; exact O),c1,<- c3,<- c4];simp
 rw[c1,<- U]at z;have hg:=qzb (st:=FC sz T d fo jo cs ro (rest++[.lst true [.int dy]])) (ds:=[.int dy]) rfl;generalize hS:(if hit dy ps c=true then _ else _:Store)=Y at z;have M:decide ((qze cs).length<lim)=true:=Zp (by unfold qze lim; rw[Qqw]; omega);have run:callD fns (m+4) 13 [.loc 3,.int dy,.int o,rD g,q] (FC sz T d fo jo cs ro rest)=some (.non,Y):=
  qzz 8 [5,6,14] 4 (λq=>_/\_/\_/\_/\_/\q) [.l [.int dy],.c (.int L,FC sz T d fo jo cs ro (rest++[.lst true [.int dy]])),.c (.non,FC sz T d fo jo cs ro (rest++[.lst true [.int dy]])++[.obj 191 (clF o g (.loc (rest.length+8)) L)]),.b true,.c (.non,Y)] ⟨hg,hL,F,M,z,rfl⟩
 rw[run,<- hS];rw[U]
 cases hh:hit dy ps c with
 |true=>
  have:=J.cell (c:=c) (by simp) V.1 V.2.1 V.2.2;rw[qbg (A:=cs) (R:=[]) V.1 J.nd,c2,set2]at this;rw[c3]at this;refine⟨?_,this⟩;rw[Zt rfl,Zt rfl,c2,set2,c3];unfold FC;rw[bk1 V.1 V.2.1]
 |false=>
  have:vst dy ps c=c:=by unfold vst; rw[hh]; rfl
  rw[this,<- c3];refine⟨?_,J⟩;rw[Zs (by simp),Zs (by simp),Qzm]
end
def over(day:Int)(c:Cl):Prop:=c.gv≠none\/c.la<day
inductive Op (day:Int):List Cl->List Int->List Cl->List Int->Prop
 |same {cs ro}:Op day cs ro cs ro
 |upd {cs ro c c'} (hc:c∈cs) (ho:¬ over day c) (hn:c'.nm=c.nm) (hv:c'.v=c.v):Op day cs ro (upd cs c') ro
 |vein {cs ro} (ps:List (Int×Int)):Op day cs ro (cs.map (vst day ps)) (ro++(cs.filter (hit day ps)).map (·.nm))
 |stake {cs ro c} (ps:List (Int×Int)) (hn:c.nm=day) (hv:c.v=none):Op day cs ro (cs++[vst day ps c]) (ro++if hit day ps c then [day] else [])
 |part0 {cs ro c c' p} (hc:c∈cs) (ho:¬ over day c) (hn:c'.nm=c.nm) (hv:c'.v=c.v) (pn:p.nm=day) (pv:p.v=c.v) (h:c.v=none):Op day cs ro (K28.upd cs c'++[p]) ro
 |part1 {cs ro c c' p A R} (hc:c∈cs) (ho:¬ over day c) (hn:c'.nm=c.nm) (hv:c'.v=c.v) (pn:p.nm=day) (pv:p.v=c.v) (h:c.v≠none) (hr:ro=A++c.nm::R):Op day cs ro (K28.upd cs c'++[p]) (A++c.nm::day::R)
theorem ix1{st:Store}{a b:D}{r:List D}:idxD st (.tup (a::b::r)) (.int 1)=some b:=by
 show atI (a::b::r) 1=_;unfold atI ixN;rw[Zt (by decide),Zt (by simp; omega)]
 rfl
section
variable {sz:D}{T d:Int}{fo jo:List (D×D)}{ro:List Int}{rest:Store}{cs:List Cl}{B:Nat}
theorem chg_no(m:Nat)(day n:Int)(w:String)(r:List D)(j:∀c∈cs,c.nm≠n):callD fns (m+1) 16 [.loc 3,.int day,.tup (sO w::.int n::r)] (FC sz T d fo jo cs ro rest)=some (sO "noclaim",FC sz T d fo jo cs ro rest):=
 qzz 8 [] 1 (λq=>_/\_/\q) [.i (.int n),.q none] ⟨ix1 (st:=FC sz T d fo jo cs ro rest) (a:=sO w) (b:=.int n) (r:=r),ql2 j,rfl⟩
theorem qgq(m:Nat)(I:Inv B rest cs)(day:Int)(w:String)(r:List D){c:Cl}(L:c∈cs)(M:over day c):callD fns (m+2) 16 [.loc 3,.int day,.tup (sO w::.int c.nm::r)] (FC sz T d fo jo cs ro rest)=some (sO "ended",FC sz T d fo jo cs ro rest):=by
 have F:=qqc (sz:=sz) (T:=T) (d:=d) (fo:=fo) (jo:=jo) (bo:=qze cs) (ro:=rowD ro) m c day (I.at_ c L).2;have J:=I.get L;have j:=(I.at_ c L).2;rcases qz0 c day with⟨e,h1,h2,O⟩|⟨e,h1,h2,O⟩|⟨e,_⟩|⟨e,_⟩
 ·rcases M with z|z
  ·exact absurd h2 z
  ·omega
 ·rcases M with z|z
  ·exact absurd h2 z
  ·omega
 ·rw[e]at F;exact qzz 8 [8] 2 (λq=>_/\_/\_/\_/\_/\q) [.i (.int c.nm),.q (some (.loc (c.j+9))),.q (some (.loc (c.j+9))),.r c.cell,.c (sO "given",FC sz T d fo jo cs ro rest)] ⟨ix1 (st:=FC sz T d fo jo cs ro rest) (a:=sO w) (b:=.int c.nm) (r:=r),J,J,j,F,rfl⟩
 ·rw[e]at F;exact qzz 8 [8] 2 (λq=>_/\_/\_/\_/\_/\q) [.i (.int c.nm),.q (some (.loc (c.j+9))),.q (some (.loc (c.j+9))),.r c.cell,.c (sO "fallen",FC sz T d fo jo cs ro rest)] ⟨ix1 (st:=FC sz T d fo jo cs ro rest) (a:=sO w) (b:=.int c.nm) (r:=r),J,J,j,F,rfl⟩
theorem qy1{c:Cl}{day:Int}(j:¬ over day c):stW c day = "unvested"\/stW c day = "stands":=by
 rcases qz0 c day with⟨e,_⟩|⟨e,_⟩|⟨_,e⟩|⟨_,e,_⟩
 ·exact .inl e
 ·exact .inr e
 ·exact absurd (.inl e) j
 ·exact absurd (.inr e) j
theorem qgx(m:Nat)(I:Inv B rest cs)(day:Int){c:Cl}(J:c∈cs)(L:¬ over day c):callD fns (m+2) 16 [.loc 3,.int day,.tup [sO "give",.int c.nm]] (FC sz T d fo jo cs ro rest)=some (sO "good",FC sz T d fo jo cs ro (rest.set (c.j+1) { c with gv:=some day:Cl }.cell)):=by
 have z:=qqc (sz:=sz) (T:=T) (d:=d) (fo:=fo) (jo:=jo) (bo:=qze cs) (ro:=rowD ro) m c day (I.at_ c J).2;have F:=I.get J;have j:=(I.at_ c J).2;rcases qy1 L with e|e
 ·rw[e]at z;exact qzz 8 [8] 2 (λq=>_/\_/\_/\_/\_/\q) [.q (some (.loc (c.j+9))),.q (some (.loc (c.j+9))),.r c.cell,.c (sO "unvested",FC sz T d fo jo cs ro rest),.r c.cell] ⟨F,F,j,z,j,rfl⟩
 ·rw[e]at z;exact qzz 8 [8] 2 (λq=>_/\_/\_/\_/\_/\q) [.q (some (.loc (c.j+9))),.q (some (.loc (c.j+9))),.r c.cell,.c (sO "stands",FC sz T d fo jo cs ro rest),.r c.cell] ⟨F,F,j,z,j,rfl⟩
theorem qgz(m:Nat)(I:Inv B rest cs)(day o:Int){c:Cl}(J:c∈cs)(L:¬ over day c):callD fns (m+2) 16 [.loc 3,.int day,.tup [sO "sell",.int c.nm,.int o]] (FC sz T d fo jo cs ro rest)=some (sO "good",FC sz T d fo jo cs ro (rest.set (c.j+1) { c with o:=o:Cl }.cell)):=by
 have z:=qqc (sz:=sz) (T:=T) (d:=d) (fo:=fo) (jo:=jo) (bo:=qze cs) (ro:=rowD ro) m c day (I.at_ c J).2;have F:=I.get J;have j:=(I.at_ c J).2;rcases qy1 L with e|e
 ·rw[e]at z;exact qzz 8 [8] 2 (λq=>_/\_/\_/\_/\_/\q) [.q (some (.loc (c.j+9))),.q (some (.loc (c.j+9))),.r c.cell,.c (sO "unvested",FC sz T d fo jo cs ro rest),.r c.cell] ⟨F,F,j,z,j,rfl⟩
 ·rw[e]at z;exact qzz 8 [8] 2 (λq=>_/\_/\_/\_/\_/\q) [.q (some (.loc (c.j+9))),.q (some (.loc (c.j+9))),.r c.cell,.c (sO "stands",FC sz T d fo jo cs ro rest),.r c.cell] ⟨F,F,j,z,j,rfl⟩
theorem qf9(m:Nat)(I:Inv B rest cs)(day:Int){c:Cl}(U:c∈cs)(Z:¬ over day c)(h9:c.ds.length<899):∃L:Int,callD fns (m+3) 16 [.loc 3,.int day,.tup [sO "work",.int c.nm]] (FC sz T d fo jo cs ro rest)=some (sO "good",FC sz T d fo jo cs ro ((rest.set c.j { c with ds:=c.ds++[day],la:=L:Cl }.dl).set (c.j+1) { c with ds:=c.ds++[day],la:=L:Cl }.cell)):=by
 have M:=qqc (sz:=sz) (T:=T) (d:=d) (fo:=fo) (jo:=jo) (bo:=qze cs) (ro:=rowD ro) (m+1) c day (I.at_ c U).2;have O:=I.get U;obtain⟨z,F⟩:=I.at_ c U;have lt:c.j<rest.length:=(Qqx.mp z).1;have j:(rest.set c.j (.lst true (c.ds.map .int++[.int day])))[c.j+1]?=some c.cell:=by rw[Qqn (by omega)]; exact F
 have J:(c.ds.map D.int).length<lim:=by rw[Qqw]; unfold lim; omega
 obtain⟨L,Y⟩:=qj9 m (st:=FC sz T d fo jo cs ro (rest.set c.j (.lst true (c.ds.map .int++[.int day])))) (T:=T) (q:=.loc (c.j+8)) (xs:=c.ds++[day]) (by simp) (by simp; omega) (λr=>by
  show listAt _ _=_;unfold listAt;have:(FC sz T d fo jo cs ro (rest.set c.j (.lst true (c.ds.map .int++[.int day])))++r)[c.j+8]?=((rest.set c.j (.lst true (c.ds.map .int++[.int day])))++r)[c.j]?:=rfl;rw[this,Qqt (by rw[Qzn]; exact lt),Qq9 lt]
  simp)
 refine⟨L,?_⟩;have e1:({ c with ds:=c.ds++[day],la:=L:Cl }).dl=.lst true (c.ds.map .int++[.int day]):=by unfold Cl.dl; simp
 rw[e1];rcases qy1 Z with e|e
 ·rw[e]at M;exact qzz 8 [8,5] 3 (λq=>_/\_/\_/\_/\_/\_/\_/\_/\_/\_/\_/\q) [.q (some (.loc (c.j+9))),.q (some (.loc (c.j+9))),.r c.cell,.c (sO "unvested",FC sz T d fo jo cs ro rest),.r c.cell,.r c.dl,.r c.dl,.b true,.r c.cell,.c (.int L,FC sz T d fo jo cs ro (rest.set c.j (.lst true (c.ds.map .int++[.int day])))),.r c.cell] ⟨O,O,F,M,F,z,z,Zp J,j,Y,j,rfl⟩
 ·rw[e]at M;exact qzz 8 [8,5] 3 (λq=>_/\_/\_/\_/\_/\_/\_/\_/\_/\_/\_/\q) [.q (some (.loc (c.j+9))),.q (some (.loc (c.j+9))),.r c.cell,.c (sO "stands",FC sz T d fo jo cs ro rest),.r c.cell,.r c.dl,.r c.dl,.b true,.r c.cell,.c (.int L,FC sz T d fo jo cs ro (rest.set c.j (.lst true (c.ds.map .int++[.int day])))),.r c.cell] ⟨O,O,F,M,F,z,z,Zp J,j,Y,j,rfl⟩
end
section
variable {sz:D}{T d:Int}{fo jo:List (D×D)}{ro:List Int}{rest:Store}{cs:List Cl}{B:Nat}
theorem qfv(m:Nat){c:Cl}(F:rest[c.j]?=some c.dl)(j:rest[c.j+1]?=some c.cell)(nm o:Int)(g:Int×Int×Int×Int):callD fns (m+2) 7 [.loc (c.j+9),.int o,rD g] (FC sz T d fo jo cs ro rest)=some (.loc (rest.length+9),FC sz T d fo jo cs ro (rest++[c.dl,(⟨nm,rest.length,o,g,c.ds,c.la,c.v,none⟩:Cl).cell])):=by
 have z:=cinit m (FC sz T d fo jo cs ro (rest++[c.dl])) o c.la g (.loc (rest.length+8));have h1:(rest++[c.dl])[c.j+1]?=some c.cell:=by rw[Qqt (Qqx.mp j).1]; exact j
 have h2:(rest++[c.dl]++[Cell.obj 191 (clF o g (.loc (rest.length+8)) c.la)])[c.j+1]?=some c.cell:=by rw[Qqt (Qqx.mp h1).1]; exact h1
 have J:=gl (st:=rest++[c.dl]) (c:=.obj 191 (clF o g (.loc (rest.length+8)) c.la));refine qva 8 [6] 2 (.loc (FC sz T d fo jo cs ro (rest++[c.dl])).length,FC sz T d fo jo cs ro ((rest++[c.dl]++[Cell.obj 191 (clF o g (.loc (rest.length+8)) c.la)]).set (rest++[c.dl]).length (⟨nm,rest.length,o,g,c.ds,c.la,c.v,none⟩:Cl).cell)) (λq=>_/\_/\_/\_/\_/\_/\q) [.r c.cell,.r c.dl,.r c.cell,.c (.non,FC sz T d fo jo cs ro (rest++[c.dl])++[.obj 191 (clF o g (.loc (rest.length+8)) c.la)]),.r c.cell,.r (.obj 191 (clF o g (.loc (rest.length+8)) c.la))] ⟨j,F,h1,z,h2,J,?_⟩;rw[sl,qhq];simp
theorem qci(m:Nat)(st:Store)(g:Int×Int×Int×Int)(s line:Int)(j:s=0\/s=1):callD fns (m+2) 3 [rD g,.int s,.int line] st=some (.non,st)\/∃a b,callD fns (m+2) 3 [rD g,.int s,.int line] st=some (.tup [rD a,rD b],st):=by
 rcases j with rfl|rfl
 ·by_cases h1:g.1<line
  ·by_cases h2:line<=g.2.2.1
   ·exact .inr ⟨(g.1,g.2.1,line - 1,g.2.2.2),(line,g.2.1,g.2.2.1,g.2.2.2),qzz 0 [] 2 (λq=>_/\_/\q) [.b true,.b true,.k] ⟨Zp h1,Zp h2,rfl⟩⟩
   ·exact .inl (qzz 0 [] 2 (λq=>_/\_/\q) [.b true,.b false] ⟨Zp h1,Zr h2,rfl⟩)
  ·exact .inl (qzz 0 [] 2 (λq=>_/\q) [.b false] ⟨Zr h1,rfl⟩)
 ·by_cases h1:g.2.1<line
  ·by_cases h2:line<=g.2.2.2
   ·exact .inr ⟨(g.1,g.2.1,g.2.2.1,line - 1),(g.1,line,g.2.2.1,g.2.2.2),qzz 0 [] 2 (λq=>_/\_/\q) [.b true,.b true,.k] ⟨Zp h1,Zp h2,rfl⟩⟩
   ·exact .inl (qzz 0 [] 2 (λq=>_/\_/\q) [.b true,.b false] ⟨Zp h1,Zr h2,rfl⟩)
  ·exact .inl (qzz 0 [] 2 (λq=>_/\q) [.b false] ⟨Zr h1,rfl⟩)
theorem qli(X:List D)(y z:D)(Z:List D):(X++y::Z).take (X.length+1)++z::(X++y::Z).drop (X.length+1)=X++y::z::Z:=by
 induction X with
 |nil=>rfl
 |cons x r j=>exact congrArg (x::·) j
theorem eqI(a b:Int):eqT (.int a) (.int b)=(a==b):=rfl
theorem row_ix{A R:List Int}{n:Int}(h:n ∉ A)(st:Store):(if flat 9 (.int n)&&flats 9 (rowD (A++n::R)) then((rowD (A++n::R)).findIdx? λy=>eqT y (.int n)).map λ(j:Nat)=>(D.int (j:Int),st) else none)=some (.int (A.length:Int),st):=by
 have f:∀l:List Int,flats 9 (rowD l)=true:=λl=>by
  induction l with
  |nil=>rfl
  |cons a r q=>show(flat 9 (.int a)&&flats 9 (rowD r))=true; rw[q]; rfl
 rw[f,show flat 9 (.int n)=true from rfl,Qjv,Zt rfl];have:(rowD (A++n::R)).findIdx? (λy=>eqT y (.int n))=some A.length:=by
  induction A with
  |nil=>show(if (n==n)=true then _ else _)=_; simp
  |cons a r q=>
   have F:(a==n)=false:=by simp only[Qqv,not_or]at h; simpa using λe=>h.1 e.symm
   show List.findIdx? _ (D.int a::rowD (r++n::R))=_;rw[List.findIdx?_cons];rw[eqI,F];simp only[Qqm,if_false];rw[q (λz=>h (Qqh _ z))]
   rfl
 rw[this]
 rfl
theorem qis(m:Nat)(I:Inv B rest cs)(hB:B<=rest.length)(day line o s:Int)(hs:s=0\/s=1){c:Cl}(O:c∈cs)(hr:ro.length+cs.length<900)(hn:∀x∈cs,x.nm≠day)(hv:c.v≠none->∃A R,ro=A++c.nm::R/\c.nm ∉ A)(ho:¬ over day c):
  ∃w a0 a2 j,callD fns (m+3) 17 [.loc 3,.int day,.tup [sO "part",.int c.nm,.int s,.int line,.int o]] (FC sz T d fo jo cs ro rest)=some (sO w,FC sz T d fo jo a0 a2 j)/\Inv B j a0/\Op day cs ro a0 a2/\j.take B=rest.take B/\rest.length<=j.length/\(∀c∈a0,∃x,x.ds.length<=c.ds.length/\c.ds.length<=x.ds.length+1/\x∈cs):=by
 have hg:=I.get O;obtain⟨b0,M⟩:=I.at_ c O;rcases qci (m:=m) (FC sz T d fo jo cs ro rest) c.g s line hs with hp|⟨a,b,hp⟩
 ·exact⟨"nocut",cs,ro,rest,qzz 8 [3] 3 (λq=>_/\_/\_/\q) [.q (some (.loc (c.j+9))),.r c.cell,.c (.non,FC sz T d fo jo cs ro rest),.k] ⟨hg,M,hp,rfl⟩,I,.same,rfl,Qqk _,λc O=>⟨c,by omega,by omega,O⟩⟩
 ·have J:=I.cell (c':={ c with g:=a }) O rfl rfl rfl;have lt:c.j+1<rest.length:=(Qqx.mp M).1;have k1:(rest.set (c.j+1) ({ c with g:=a }:Cl).cell)[c.j]?=some ({ c with g:=a }:Cl).dl:=by rw[Qqn (by omega)]; exact b0
  have k2:(rest.set (c.j+1) ({ c with g:=a }:Cl).cell)[c.j+1]?=some ({ c with g:=a }:Cl).cell:=Qq9 (by omega);have L:=qfv (sz:=sz) (T:=T) (d:=d) (fo:=fo) (jo:=jo) (cs:=cs) (ro:=ro) (m:=m) (rest:=rest.set (c.j+1) ({ c with g:=a }:Cl).cell) (c:={ c with g:=a }) k1 k2 day o b;have b1:=qxs (c':={ c with g:=a }) O I.nd rfl rfl;generalize Z:rest.set (c.j+1) ({ c with g:=a }:Cl).cell=Y at J k1 k2 L;have b2:Y.length=rest.length:=by rw[<- Z,Qzn]
  have a8:Y.take B=rest.take B:=by rw[<- Z]; exact qqn (by have:=I.lo c O; omega)
  generalize F:(⟨day,Y.length,o,b,({ c with g:=a }:Cl).ds,({ c with g:=a }:Cl).la,({ c with g:=a }:Cl).v,none⟩:Cl)=p at L;have p1:p.nm=day:=by rw[<- F]
  have p2:p.j=Y.length:=by rw[<- F]
  have p3:p.dl=({ c with g:=a }:Cl).dl:=by rw[<- F]; rfl
  have p4:p.v=c.v:=by rw[<- F]
  have a3:∀x∈upd cs { c with g:=a },x.nm≠p.nm:=λx hx=>by
   have:x.nm∈(upd cs { c with g:=a }).map (·.nm):=Qqy.mpr ⟨x,hx,rfl⟩;rw[qbf]at this;obtain⟨y,hy,e⟩:=Qqy.mp this;rw[<- e,p1];exact hn y hy
  have J2:=J.add p p2 a3 (by rw[<- F]; exact I.ne c O) (by omega);rw[p3]at J2;have a1:dput (qze cs) (.int day) (.loc (Y.length+9))=qze (upd cs { c with g:=a }++[p]):=by
   rw[<- qay a3,b1,p1,p2]
  have tk:(Y++[({ c with g:=a }:Cl).dl,p.cell]).take B=rest.take B:=by rw[Qx9 (by omega),a8]
  have ln:rest.length<=(Y++[({ c with g:=a }:Cl).dl,p.cell]).length:=by rw[Qqu]; omega
  have k3:(Y++[({ c with g:=a }:Cl).dl,p.cell])[c.j+1]?=some ({ c with g:=a }:Cl).cell:=by rw[Qqt (by omega)]; exact k2
  have a7:decide ((qze cs).length<lim)=true:=Zp (by unfold qze lim; rw[Qqw]; omega);have a6:∀y∈upd cs { c with g:=a }++[p],∃x,x.ds.length<=y.ds.length/\y.ds.length<=x.ds.length+1/\x∈cs:=λy hy=>by
   rcases Qqi.mp hy with hy|hy
   ·obtain⟨z,hz,rfl⟩:=Qqy.mp hy
    by_cases e:z.nm=({ c with g:=a }:Cl).nm
    ·rw[Zt e]; exact⟨c,Qqk _,Qxb _,O⟩
    ·rw[Zs e]; exact⟨z,Qqk _,Qxb _,hz⟩
   ·cases Qqa.mp hy;exact⟨c,by rw[<- F]; exact Qqk _,by rw[<- F]; exact Qxb _,O⟩
  cases U:c.v with
  |none=>
   refine⟨"good",upd cs { c with g:=a }++[p],ro,Y++[({ c with g:=a }:Cl).dl,p.cell],?_,J2,.part0 O ho rfl rfl p1 p4 U,tk,ln,a6⟩;rw[<- Z]at L k2 k3 a1 ⊢;unfold FC;rw[<- a1];exact qzz 8 [3,7] 3 (λq=>_/\_/\_/\_/\_/\_/\_/\_/\_/\q) [.q (some (.loc (c.j+9))),.r c.cell,.c (.tup [rD a,rD b],FC sz T d fo jo cs ro rest),.k,.r c.cell,.r ({ c with g:=a }:Cl).cell,.c (.loc ((rest.set (c.j+1) ({ c with g:=a }:Cl).cell).length+9),FC sz T d fo jo cs ro (rest.set (c.j+1) ({ c with g:=a }:Cl).cell++[({ c with g:=a }:Cl).dl,p.cell])),.b true,.r ({ c with g:=a }:Cl).cell,.b false] ⟨hg,M,hp,M,k2,L,a7,k3,nnN (o:=({ c with g:=a }:Cl).v) U,rfl⟩
  |some x=>
   obtain⟨A,R,e,hA⟩:=hv (by rw[U]; simp);refine⟨"good",upd cs { c with g:=a }++[p],A++c.nm::day::R,Y++[({ c with g:=a }:Cl).dl,p.cell],?_,J2,.part1 O ho rfl rfl p1 p4 (by rw[U]; simp) e,tk,ln,a6⟩;rw[<- Z]at L k2 k3 a1 ⊢;have a5:=row_ix (R:=R) hA (FS sz T d fo jo (dput (qze cs) (.int day) (.loc ((rest.set (c.j+1) ({ c with g:=a }:Cl).cell).length+9))) (rowD ro) (rest.set (c.j+1) ({ c with g:=a }:Cl).cell++[({ c with g:=a }:Cl).dl,p.cell]));rw[<- e]at a5;have a4:(rowD ro).length=ro.length:=by simp
   have b3:ro.length=A.length+(R.length+1):=by rw[e]; simp
   have hok:decide (0<=(A.length:Int)+1/\(A.length:Int)+1<=(rowD ro).length/\(rowD ro).length<lim)=true:=Zp ⟨by omega,by rw[a4]; omega,by rw[a4]; unfold lim; omega⟩;have a9:(rowD ro).take ((A.length:Int)+1).toNat++.int day::(rowD ro).drop ((A.length:Int)+1).toNat=rowD (A++c.nm::day::R):=by
    rw[show((A.length:Int)+1).toNat=(rowD A).length+1 by simp,e];have:=qli (rowD A) (.int c.nm) (.int day) (rowD R);simpa[rowD] using this
   unfold FC;rw[<- a1,<- a9];exact qzz 8 [3,7] 3 (λq=>_/\_/\_/\_/\_/\_/\_/\_/\_/\_/\_/\q) [.q (some (.loc (c.j+9))),.r c.cell,.c (.tup [rD a,rD b],FC sz T d fo jo cs ro rest),.k,.r c.cell,.r ({ c with g:=a }:Cl).cell,.c (.loc ((rest.set (c.j+1) ({ c with g:=a }:Cl).cell).length+9),FC sz T d fo jo cs ro (rest.set (c.j+1) ({ c with g:=a }:Cl).cell++[({ c with g:=a }:Cl).dl,p.cell])),.b true,.r ({ c with g:=a }:Cl).cell,.b true,.c (.int (A.length:Int),FS sz T d fo jo (dput (qze cs) (.int day) (.loc ((rest.set (c.j+1) ({ c with g:=a }:Cl).cell).length+9))) (rowD ro) (rest.set (c.j+1) ({ c with g:=a }:Cl).cell++[({ c with g:=a }:Cl).dl,p.cell])),.b true] ⟨hg,M,hp,M,k2,L,a7,k3,nnS (o:=({ c with g:=a }:Cl).v) U,a5,hok,rfl⟩
end
noncomputable def vOf(cs:List Cl)(n:Int):Int:=match cs.find? λc=>c.nm==n with
 |some c=>c.v.getD 0
 |none=>0
structure RowI (day:Int) (cs:List Cl) (ro:List Int):Prop where
 nd:ro.Nodup
 in1:∀n∈ro,∃c∈cs,c.nm=n/\c.v=some (vOf cs n)/\vOf cs n<=day
 in2:∀c∈cs,c.v≠none->c.nm∈ro
 so:(ro.map (vOf cs)).Pairwise (· <= ·)
 le:∀c∈cs,c.nm<=day
noncomputable def voD(vs:List (Int×D×List (Int×Int))):List (D×D):=vs.map λv=>(.int v.1,.tup [v.2.1,.tup (v.2.2.map cD)])
section
variable {sz:D}{T d:Int}{fo jo:List (D×D)}{ro:List Int}{rest:Store}{cs:List Cl}{B:Nat}
theorem qg1{day:Int}{cs cs':List Cl}{ro J:List Int}(h:Op day cs ro cs' J):(∀c∈cs',(∃x∈cs,x.nm=c.nm)\/c.nm=day)/\cs'.length<=cs.length+1/\J.length+cs.length<=ro.length+cs'.length+cs.length:=by
 have F:∀(cs:List Cl) z,(upd cs z).length=cs.length:=λcs z=>by unfold upd; simp
 have un:∀(cs:List Cl) z,∀c∈upd cs z,∃x∈cs,x.nm=c.nm:=λcs z c q=>by
  have:c.nm∈(upd cs z).map (·.nm):=Qqy.mpr ⟨c,q,rfl⟩;rw[qbf]at this;exact Qqy.mp this
 cases h with
 |same=>exact⟨λc q=>.inl ⟨c,q,rfl⟩,by omega,by omega⟩
 |upd q M hn L=>exact⟨λc q=>.inl (un _ _ c q),by rw[F]; omega,by rw[F]; omega⟩
 |vein ps=>
  refine⟨λc q=>?_,by simp,?_⟩
  ·obtain⟨x,j,rfl⟩:=Qqy.mp q;exact .inl ⟨x,j,(qz7 day ps x).1.symm⟩
  ·have:=Qz6 (hit day ps) cs;simp;omega
 |@stake c ps hn L=>
  refine⟨λx j=>?_,by simp,?_⟩
  ·rcases Qqi.mp j with j|j
   ·exact .inl ⟨x,j,rfl⟩
   ·cases Qqa.mp j;exact .inr ((qz7 day ps c).1.trans hn)
  ·split<;>simp<;>omega
 |@part0 c z p q M hn L pn pv h=>
  refine⟨λx j=>?_,by simp[F],by simp[F]<;>omega⟩;rcases Qqi.mp j with j|j
  ·exact .inl (un _ _ x j)
  ·cases Qqa.mp j; exact .inr pn
 |@part1 c z p A R q M hn L pn pv h O=>
  subst O;refine⟨λx j=>?_,by simp[F],by simp[F]; omega⟩;rcases Qqi.mp j with j|j
  ·exact .inl (un _ _ x j)
  ·cases Qqa.mp j; exact .inr pn
inductive CF':D->Prop
 |work (n:Int):CF' (.tup [sO "work",.int n])
 |give (n:Int):CF' (.tup [sO "give",.int n])
 |sell (n o:Int):CF' (.tup [sO "sell",.int n,.int o])
 |part (n s l o:Int) (hs:s=0\/s=1):CF' (.tup [sO "part",.int n,.int s,.int l,.int o])
theorem qaq(cs:List Cl)(n:Int):(∀c∈cs,c.nm≠n)\/∃c∈cs,c.nm=n:=by
 by_cases h:∃c∈cs,c.nm=n
 ·exact .inr h
 ·exact .inl λc j e=>h ⟨c,j,e⟩
theorem qvu{n:Int}:∀{l:List Int},n∈l->∃A R,l=A++n::R/\n ∉ A
 |a::r,h=>by
  by_cases e:a=n
  ·exact⟨[],r,by rw[e]; rfl,by simp⟩
  ·rcases Qqv.mp h with z|z
   ·exact absurd z.symm e
   ·obtain⟨A,R,rfl,j⟩:=qvu z;exact⟨a::A,R,rfl,by simp only[Qqv,not_or]; exact⟨λq=>e q.symm,j⟩⟩
theorem qdu(m:Nat)(I:Inv B rest cs)(hB:B<=rest.length)(Z day:Int)(hd:Z<day)(hr:ro.length+cs.length<900)(h9:∀c∈cs,c.ds.length<899)(Rw:RowI Z cs ro){f:D}(hf:CF' f):
  ∃w F M j,callD fns (m+4) 16 [.loc 3,.int day,f] (FC sz T d fo jo cs ro rest)=some (sO w,FC sz T d fo jo F M j)/\Inv B j F/\Op day cs ro F M/\j.take B=rest.take B/\rest.length<=j.length/\(∀c∈F,∃x,x.ds.length<=c.ds.length/\c.ds.length<=x.ds.length+1/\(x∈cs)):=by
 have self:∀c∈cs,∃x,x.ds.length<=c.ds.length/\c.ds.length<=x.ds.length+1/\x∈cs:=λc J=>⟨c,by omega,by omega,J⟩
 have U:∀{c c':Cl},c∈cs->c.ds.length<=c'.ds.length->c'.ds.length<=c.ds.length+1->∀y∈upd cs c',∃x,x.ds.length<=y.ds.length/\y.ds.length<=x.ds.length+1/\x∈cs:=λ{c c'} J h1 h2 y hy=>by
  obtain⟨z,hz,rfl⟩:=Qqy.mp hy
  by_cases e:z.nm=c'.nm
  ·rw[Zt e]; exact⟨c,h1,h2,J⟩
  ·rw[Zs e]; exact self z hz
 have no:∀n w r,(∀c∈cs,c.nm≠n)->∃w' F M j,callD fns (m+4) 16 [.loc 3,.int day,.tup (sO w::.int n::r)] (FC sz T d fo jo cs ro rest)=some (sO w',FC sz T d fo jo F M j)/\Inv B j F/\Op day cs ro F M/\j.take B=rest.take B/\rest.length<=j.length/\(∀c∈F,∃x,x.ds.length<=c.ds.length/\c.ds.length<=x.ds.length+1/\(x∈cs)):=λn w r h=>
  ⟨"noclaim",cs,ro,rest,chg_no (m+3) day n w r h,I,.same,rfl,Qqk _,self⟩
 have ov:∀c w r,c∈cs->over day c->∃w' F M j,callD fns (m+4) 16 [.loc 3,.int day,.tup (sO w::.int c.nm::r)] (FC sz T d fo jo cs ro rest)=some (sO w',FC sz T d fo jo F M j)/\Inv B j F/\Op day cs ro F M/\j.take B=rest.take B/\rest.length<=j.length/\(∀c∈F,∃x,x.ds.length<=c.ds.length/\c.ds.length<=x.ds.length+1/\(x∈cs)):=λc w r h O=>
  ⟨"ended",cs,ro,rest,qgq (m+2) I day w r h O,I,.same,rfl,Qqk _,self⟩
 cases hf with
 |work n=>
  rcases qaq cs n with h|⟨c,J,rfl⟩
  ·exact no n _ _ h
  ·by_cases O:over day c
   ·exact ov c _ _ J O
   ·obtain⟨L,h⟩:=qf9 (sz:=sz) (T:=T) (d:=d) (fo:=fo) (jo:=jo) (ro:=ro) (m+1) I day J O (h9 c J);refine⟨"good",upd cs { c with ds:=c.ds++[day],la:=L },ro,_,?_,I.put (c':={ c with ds:=c.ds++[day],la:=L }) J rfl rfl ⟨by simp,by have:=h9 c J; simp; omega⟩,.upd J O rfl rfl,?_,?_,U J (by simp) (by simp)⟩
    ·unfold FC;rw[qxs (c':={ c with ds:=c.ds++[day],la:=L }) J I.nd rfl rfl];exact h
    ·rw[qqn (by have:=I.lo c J; omega),qqn (I.lo c J)]
    ·simp
 |give n=>
  rcases qaq cs n with h|⟨c,J,rfl⟩
  ·exact no n _ _ h
  ·by_cases O:over day c
   ·exact ov c _ _ J O
   ·refine⟨"good",upd cs { c with gv:=some day },ro,_,?_,I.cell (c':={ c with gv:=some day }) J rfl rfl rfl,.upd J O rfl rfl,qqn (by have:=I.lo c J; omega),by simp,U J (Qqk _) (by simp)⟩;unfold FC;rw[qxs (c':={ c with gv:=some day }) J I.nd rfl rfl];exact qgx (m+2) I day J O
 |sell n o=>
  rcases qaq cs n with h|⟨c,J,rfl⟩
  ·exact no n _ _ h
  ·by_cases O:over day c
   ·exact ov c _ _ J O
   ·refine⟨"good",upd cs { c with o:=o },ro,_,?_,I.cell (c':={ c with o:=o }) J rfl rfl rfl,.upd J O rfl rfl,qqn (by have:=I.lo c J; omega),by simp,U J (Qqk _) (by simp)⟩;unfold FC;rw[qxs (c':={ c with o:=o }) J I.nd rfl rfl];exact qgz (m+2) I day o J O
 |part n s l o hs=>
  rcases qaq cs n with h|⟨c,J,rfl⟩
  ·exact no n _ _ h
  ·by_cases O:over day c
   ·exact ov c _ _ J O
   ·obtain⟨w,F,M,j,h1,h2,h3,h4,h5,h6⟩:=qis (sz:=sz) (T:=T) (d:=d) (fo:=fo) (jo:=jo) (ro:=ro) m I hB day l o s hs J hr (λx hx e=>by have:=Rw.le x hx; omega) (λhv=>qvu (Rw.in2 c J hv)) O;have hg:=I.get J;have a0:=(I.at_ c J).2;have Y:=qqc (sz:=sz) (T:=T) (d:=d) (fo:=fo) (jo:=jo) (bo:=qze cs) (ro:=rowD ro) (m+2) c day a0;refine⟨w,F,M,j,?_,h2,h3,h4,h5,h6⟩;rcases qy1 O with e|e
    ·rw[e]at Y;exact qzz 8 [8,17] 4 (λq=>_/\_/\_/\_/\_/\q) [.q (some (.loc (c.j+9))),.q (some (.loc (c.j+9))),.r c.cell,.c (sO "unvested",FC sz T d fo jo cs ro rest),.c (sO w,FC sz T d fo jo F M j)] ⟨hg,hg,a0,Y,h1,rfl⟩
    ·rw[e]at Y;exact qzz 8 [8,17] 4 (λq=>_/\_/\_/\_/\_/\q) [.q (some (.loc (c.j+9))),.q (some (.loc (c.j+9))),.r c.cell,.c (sO "stands",FC sz T d fo jo cs ro rest),.c (sO w,FC sz T d fo jo F M j)] ⟨hg,hg,a0,Y,h1,rfl⟩
end
section
variable {sz:D}{T d:Int}{fo jo:List (D×D)}{ro:List Int}{rest:Store}{cs:List Cl}{B:Nat}
theorem qhk(m:Nat)(st:Store)(day:Int)(z:1<=day)(j:day<=400):callD fns (m+2) 28 [.int day] st=some (.non,st):=
 qzz 0 [] 2 (λq=>_/\_/\q) [.b true,.b true] ⟨Zp z,Zp j,rfl⟩
theorem qx3(m:Nat){day:Int}{f v:D}{S:Store}(J:1<=day)(F:day<=400)(hd:d<day)(j:callD fns (m+6) 26 [sz,f] (FC sz T d fo jo cs ro rest)=some (.bl true,FC sz T d fo jo cs ro rest))(z:callD fns (m+6) 31 [.loc 0,f] (FC sz T day fo jo cs ro rest)=some (v,S)):
  callD fns (m+7) 30 [.loc 0,.int day,f] (FC sz T d fo jo cs ro rest)=some (v,S):=
 qzz 8 [28,26,31] 7 (λq=>_/\_/\_/\_/\q) [.c (.non,FC sz T d fo jo cs ro rest),.c (.bl true,FC sz T d fo jo cs ro rest),.b false,.c (v,S)] ⟨qhk (m+4) (FC sz T d fo jo cs ro rest) day J F,j,Zr (show ¬ day<=d by omega),z,rfl⟩
theorem qir(m:Nat){day:Int}(z:1<=day)(j:day<=400)(hd:d<=day):callD fns (m+3) 35 [.loc 0,.int day] (FC sz T d fo jo cs ro rest)=some (.non,FC sz T day fo jo cs ro rest):=
 qzz 8 [28] 3 (λq=>_/\_/\q) [.c (.non,FC sz T d fo jo cs ro rest),.b false] ⟨qhk m (FC sz T d fo jo cs ro rest) day z j,Zr (show ¬ day<d by omega),rfl⟩
theorem qed(m:Nat){f v:D}{S:Store}(j:CF' f)(h:callD fns (m+4) 16 [.loc 3,.int d,f] (FC sz T d fo jo cs ro rest)=some (v,S)):callD fns (m+5) 31 [.loc 0,f] (FC sz T d fo jo cs ro rest)=some (v,S):=by
 cases j with
 |work n=>exact qzz 8 [16] 5 (λq=>_/\q) [.c (v,S)] ⟨h,rfl⟩
 |give n=>exact qzz 8 [16] 5 (λq=>_/\q) [.c (v,S)] ⟨h,rfl⟩
 |sell n o=>exact qzz 8 [16] 5 (λq=>_/\q) [.c (v,S)] ⟨h,rfl⟩
 |part n s l o z=>exact qzz 8 [16] 5 (λq=>_/\q) [.c (v,S)] ⟨h,rfl⟩
theorem qgv(m:Nat)(a b f:Int)(M:jo.length<1000):∃w j,callD fns (m+2) 31 [.loc 0,.tup [sO "join",.int a,.int b,.int f]] (FC sz T d fo jo cs ro rest)=some (sO w,FC sz T d fo j cs ro rest)/\j.length<=jo.length+1:=by
 have L:decide (jo.length<lim)=true:=Zp (by unfold lim; omega);have dl:∀v,(dput jo (.int a) v).length<=jo.length+1:=λv=>by unfold dput; split<;>simp
 cases h1:dget fo (.int a) with
 |none=>exact⟨"novein",jo,qzz 8 [] 2 (λq=>_/\q) [.q none] ⟨h1,rfl⟩,by omega⟩
 |some x=>
  cases h2:dget fo (.int b) with
  |none=>exact⟨"novein",jo,qzz 8 [] 2 (λq=>_/\_/\q) [.q (some x),.q none] ⟨h1,h2,rfl⟩,by omega⟩
  |some y=>
   by_cases F:a<=b
   ·exact⟨"order",jo,qzz 8 [] 2 (λq=>_/\_/\_/\q) [.q (some x),.q (some y),.b true] ⟨h1,h2,Zp F,rfl⟩,by omega⟩
   ·cases J:dget jo (.int a) with
    |some z=>exact⟨"joined",jo,qzz 8 [] 2 (λq=>_/\_/\_/\_/\q) [.q (some x),.q (some y),.b false,.q (some z)] ⟨h1,h2,Zr F,J,rfl⟩,by omega⟩
    |none=>exact⟨"good",dput jo (.int a) (.tup [.int b,.int f]),qzz 8 [] 2 (λq=>_/\_/\_/\_/\_/\q) [.q (some x),.q (some y),.b false,.q none,.b true] ⟨h1,h2,Zr F,J,L,rfl⟩,dl _⟩
theorem qbk{kvs:List (D×D)}{n:Int}{v:D}(h:∀p∈kvs,eqT p.1 (.int n)=false):dput kvs (.int n) v=kvs++[(.int n,v)]:=by
 unfold dput;have:kvs.any (λp=>eqT p.1 (.int n))=false:=by
  rw[Qjw];intro p j;rw[h p j];simp
 rw[this];simp
theorem qei{vs:List (Int×D×List (Int×Int))}{n:Int}(h:∀v∈vs,v.1≠n)(s:D)(ps:List (Int×Int)):dput (voD vs) (.int n) (.tup [s,.tup (ps.map cD)])=voD (vs++[(n,s,ps)]):=by
 rw[qbk λp q=>?_]
 ·simp[voD]
 ·obtain⟨v,j,rfl⟩:=Qqy.mp q;show(v.1==n)=false;simpa using h v j
theorem qgk(m:Nat)(I:Inv B rest cs)(s:D)(ps:List (Int×Int))(vs:List (Int×D×List (Int×Int)))(F:∀v∈vs,v.1≠d)(z:vs.length<1000)(U:ps.length<1000)(J:ro.length+cs.length<1000):
  ∃j,callD fns (m+6) 31 [.loc 0,.tup [sO "vein",s,.tup (ps.map cD)]] (FC sz T d (voD vs) jo cs ro rest)=some (sO "good",FC sz T d (voD (vs++[(d,s,ps)])) jo (cs.map (vst d ps)) (ro++(cs.filter (hit d ps)).map (·.nm)) j)/\Inv B j (cs.map (vst d ps))/\j.take B=rest.take B/\j.length=rest.length:=by
 obtain⟨j,h1,h2,O,M⟩:=qhb (sz:=sz) (T:=T) (d:=d) (fo:=voD (vs++[(d,s,ps)])) (jo:=jo) (ro:=ro) m I d ps (by unfold lim; omega) J;refine⟨j,?_,h2,O,M⟩;have L:decide ((voD vs).length<lim)=true:=Zp (by unfold voD lim; rw[Qqw]; omega);rw[<- qei F]at h1 ⊢;exact qzz 8 [15] 6 (λq=>_/\_/\q) [.b true,.c (.non,FC sz T d (dput (voD vs) (.int d) (.tup [s,.tup (ps.map cD)])) jo (cs.map (vst d ps)) (ro++(cs.filter (hit d ps)).map (·.nm)) j)] ⟨L,h1,rfl⟩
end
section
variable {sz:D}{T d:Int}{fo jo:List (D×D)}{ro:List Int}{rest:Store}{cs:List Cl}{B:Nat}
noncomputable def FSf(sz:D)(T d:Int)(fo jo bo:List (D×D))(ro:List D)(rest:Store):Store:=
 .obj 642 [("extent",sz),("year",.int T),("day",.int d),("found",.loc 1),("joints",.loc 2),("staked",.loc 3),("dug",.loc 6),("debts",.loc 7)]::.dic false fo::.dic true jo::.obj 273 [("year",.int T),("book",.loc 4),("row",.loc 5)]::.dic true bo::.lst true ro::.dic true []::.lst true []::rest
theorem qgy:∀{vs:List (Int×D×List (Int×Int))}{v:Int×D×List (Int×Int)},v∈vs->(vs.map (·.1)).Nodup->dget (voD vs) (.int v.1)=some (.tup [v.2.1,.tup (v.2.2.map cD)])
 |a::r,v,h,hn=>by
  unfold dget voD;rw[Qqd,Qzx];show Option.map _ (match (a.1==v.1) with|true=>_|false=>_)=_;rw[Qqd,Qq5]at hn;rcases Qqv.mp h with rfl|h'
  ·simp
  ·have e:(a.1==v.1)=false:=by
    rw[beq_eq_false_iff_ne];exact λe=>hn.1 (Qqy.mpr ⟨v,h',e.symm⟩)
   rw[e];exact qgy h' hn.2
theorem qec(m:Nat)(I:Inv B rest cs)(hB:B<=rest.length)(o:Int)(g:Int×Int×Int×Int)(vs:List (Int×D×List (Int×Int)))(a1:(vs.map (·.1)).Nodup)(a5:vs.length<1000)(M:∀v∈vs,v.2.2.length<=16)(hr:ro.length+cs.length<900)(hn:∀x∈cs,x.nm≠d):
  ∃z F j,callD fns (m+6) 31 [.loc 0,.tup [sO "stake",.int o,.int g.1,.int g.2.1,.int g.2.2.1,.int g.2.2.2]] (FC sz T d (voD vs) jo cs ro rest)=some (sO "good",FC sz T d (voD vs) jo z F j)/\Inv B j z/\Op d cs ro z F/\j.take B=rest.take B/\rest.length<=j.length/\(∀c∈z,c∈cs\/c.ds.length=1):=by
 have keys:keysOf (voD vs)=vs.map λv=>D.int v.1:=by unfold keysOf voD; rw[Qzc]; rfl
 have Z:∀k,((vs.take k).flatMap (·.2.2)).length<=16*k:=λk=>by
  rw[List.length_flatMap];have:∀l:List (Int×D×List (Int×Int)),(∀v∈l,v.2.2.length<=16)->(l.map λv=>v.2.2.length).sum<=16*l.length:=λl=>by
   induction l with
   |nil=>intro _; simp
   |cons a r ih=>
    intro h;have h1:=h a (Qql ..);have h2:=ih λv O=>h v (Qqh _ O);simp only[Qqd,List.sum_cons,Qqe];omega
  have h:=this (vs.take k) λv O=>M v (List.mem_of_mem_take O);have:(vs.take k).length<=k:=by rw[Qzb]; omega
  omega
 obtain⟨J,st',h1,h2⟩:=qk2 (f:=λτ st x=>(setT (.var 3) x τ).bind λJ=>(RL (callD fns (m+4))).ex J st [.expr (.meth (.var 2) .extend [.idx (.didx (.attr 642 (.var 0) "found") (.var 3)) (.lit (.int 1))])]) (s:=.tup (keysOf (voD vs))) (ds:=vs.map λv=>D.int v.1) (τ:=[some (.loc 0),some (.tup [sO "stake",.int o,.int g.1,.int g.2.1,.int g.2.2.1,.int g.2.2.2]),some (.loc (rest.length+8)),none]) (st:=FSf sz T d (voD vs) jo (qze cs) (rowD ro) (rest++[.lst true []]))
  (λk J st'=>∃x,J=[some (.loc 0),some (.tup [sO "stake",.int o,.int g.1,.int g.2.1,.int g.2.2.1,.int g.2.2.2]),some (.loc (rest.length+8)),x]/\st'=FSf sz T d (voD vs) jo (qze cs) (rowD ro) (rest++[.lst true (((vs.take k).flatMap (·.2.2)).map cD)])) (λ_ _=>False)
  ⟨none,rfl,by simp⟩ (by simp[Src.size,keys]) (λk J st' _=>by rw[keys]; rfl) (λk J st' x hx h=>by
   obtain⟨y,rfl,rfl⟩:=h;rw[Qqf]at hx;obtain⟨v,O,rfl⟩:=Qqr.mp hx;have hk:k<vs.length:=(Qqx.mp O).1;have a4:vs[k]=v:=(Qqx.mp O).2;have tk:vs.take (k+1)=vs.take k++[v]:=by rw[Qzf hk,a4]
   have hg:=qgy (Qq1 O) a1;have g0:=gl (st:=rest) (c:=.lst true (((vs.take k).flatMap (·.2.2)).map cD))
   have hb:decide ((((vs.take k).flatMap (·.2.2)).map cD).length+(v.2.2.map cD).length<=lim)=true:=Zp (by
    have:=Z k;have:=M v (Qq1 O);rw[Qqw,Qqw];unfold lim
    omega)
   refine .inl ⟨[some (.loc 0),some (.tup [sO "stake",.int o,.int g.1,.int g.2.1,.int g.2.2.1,.int g.2.2.2]),some (.loc (rest.length+8)),some (.int v.1)],FSf sz T d (voD vs) jo (qze cs) (rowD ro) ((rest++[Cell.lst true (((vs.take k).flatMap (·.2.2)).map cD)]).set rest.length (.lst true (((vs.take k).flatMap (·.2.2)).map cD++v.2.2.map cD))),.inl (qqm 8 [] 4 (λq=>_/\_/\_/\_/\q) [.r (.lst true (((vs.take k).flatMap (·.2.2)).map cD)),.q (some (.tup [v.2.1,.tup (v.2.2.map cD)])),.r (.lst true (((vs.take k).flatMap (·.2.2)).map cD)),.b true] ⟨g0,hg,g0,hb,rfl⟩),some (.int v.1),rfl,?_⟩;rw[sl,tk]
   simp)
 obtain⟨x,rfl,rfl⟩:=h2.resolve_right id;rw[Qqw,Qxe]at h1;generalize a2:vs.flatMap (·.2.2)=ps at h1;have a3:ps.length<lim:=by
  have:=Z vs.length;rw[Qxe,a2]at this;unfold lim;omega
 have U:stepEx (RL (callD fns (m+4))) [some (.loc 0),some (.tup [sO "stake",.int o,.int g.1,.int g.2.1,.int g.2.2.1,.int g.2.2.2]),some (.loc (rest.length+8)),none] (FC sz T d (voD vs) jo cs ro (rest++[.lst true []])) (.ford (.var 3) (.attr 642 (.var 0) "found") [.expr (.meth (.var 2) .extend [.idx (.didx (.attr 642 (.var 0) "found") (.var 3)) (.lit (.int 1))])])=some (.nx [some (.loc 0),some (.tup [sO "stake",.int o,.int g.1,.int g.2.1,.int g.2.2.1,.int g.2.2.2]),some (.loc (rest.length+8)),x],FC sz T d (voD vs) jo cs ro (rest++[.lst true (ps.map cD)])):=by
  have ea:(RL (callD fns (m+4))).ev [some (.loc 0),some (.tup [sO "stake",.int o,.int g.1,.int g.2.1,.int g.2.2.1,.int g.2.2.2]),some (.loc (rest.length+8)),none] (FC sz T d (voD vs) jo cs ro (rest++[.lst true []])) (.attr 642 (.var 0) "found")=some (.loc 1,FC sz T d (voD vs) jo cs ro (rest++[.lst true []])):=qzo 8 [] 4 (λq=>q) [] rfl;show((RL (callD fns (m+4))).ev _ _ _).bind _=_;rw[ea];show((loop (.tup (keysOf (voD vs))) _ ((voD vs).length+1) 0 _ (FSf sz T d (voD vs) jo (qze cs) (rowD ro) (rest++[.lst true []]))).bind _)=_;have:(voD vs).length+1=(Src.tup (keysOf (voD vs))).size (FSf sz T d (voD vs) jo (qze cs) (rowD ro) (rest++[.lst true []]))+1:=by simp[Src.size,keysOf]
  rw[this,h1]
  rfl
 obtain⟨L,h3,h4⟩:=qe7 (sz:=sz) (T:=T) (d:=d) (fo:=voD vs) (jo:=jo) (ro:=ro) m (I.more [.lst true (ps.map cD)]) (by simp; omega) d o g (q:=.loc (rest.length+8)) (ps:=ps) (λbo r=>by
  show listAt _ _=_;unfold listAt;have:(FS sz T d (voD vs) jo bo (rowD ro) (rest++[.lst true (ps.map cD)]++r))[rest.length+8]?=(rest++[Cell.lst true (ps.map cD)]++r)[rest.length]?:=rfl;rw[this]
  simp) a3 hr hn
 have a0:∀z F j,callD fns (m+4) 13 [.loc 3,.int d,.int o,rD g,.loc (rest.length+8)] (FC sz T d (voD vs) jo cs ro (rest++[.lst true (ps.map cD)]))=some (.non,FC sz T d (voD vs) jo z F j)->callD fns (m+6) 31 [.loc 0,.tup [sO "stake",.int o,.int g.1,.int g.2.1,.int g.2.2.1,.int g.2.2.2]] (FC sz T d (voD vs) jo cs ro rest)=some (sO "good",FC sz T d (voD vs) jo z F j):=λz F j h3=>
  qzz 8 [13] 6 (λq=>_/\_/\q) [.s (.nx [some (.loc 0),some (.tup [sO "stake",.int o,.int g.1,.int g.2.1,.int g.2.2.1,.int g.2.2.2]),some (.loc (rest.length+8)),x],FC sz T d (voD vs) jo cs ro (rest++[.lst true (ps.map cD)])),.c (.non,FC sz T d (voD vs) jo z F j)] ⟨U,h3,rfl⟩
 refine⟨_,_,_,a0 _ _ _ h3,h4,.stake ps rfl rfl,?_,?_,?_⟩
 ·rw[Qjy,Qx9 hB]
 ·simp
 ·intro c Y;rcases Qqi.mp Y with Y|Y
  ·exact .inl Y
  ·cases Qqa.mp Y;rw[(qz7 _ _ _).2.2];exact .inr rfl
end
noncomputable def stB(cs:List Cl)(day:Int)(n:Int):Bool:=match cs.find? λc=>c.nm==n with
 |some c=>decide (stW c day = "stands")
 |none=>false
section
variable {sz:D}{T d:Int}{fo jo:List (D×D)}{ro:List Int}{rest:Store}{cs:List Cl}{B:Nat}
theorem qb7(q:(cs.map (·.nm)).Nodup){c:Cl}(z:c∈cs)(day:Int):stB cs day c.nm=decide (stW c day = "stands"):=by
 have:cs.find? (λx=>x.nm==c.nm)=some c:=by
  induction cs with
  |nil=>cases z
  |cons a r F=>
   rw[Qqd,Qq5]at q;rw[Qzx];rcases Qqv.mp z with rfl|j
   ·simp
   ·have e:(a.nm==c.nm)=false:=by
     rw[beq_eq_false_iff_ne];exact λe=>q.1 (Qqy.mpr ⟨c,j,e.symm⟩)
    rw[e];exact F q.2 j
 unfold stB;rw[this]
theorem qe6(m:Nat)(I:Inv B rest cs)(L:∀n∈ro,∃c∈cs,c.nm=n)(U:ro.length<1000):callD fns (m+3) 37 [.loc 0] (FC sz T d fo jo cs ro rest)=some (.loc (FC sz T d fo jo cs ro rest).length,FC sz T d fo jo cs ro rest++[.lst true (rowD (ro.filter (stB cs d)))]):=by
 have M:(RL (callD fns (m+1))).ev [some (.loc 3),some (.int d)] (FC sz T d fo jo cs ro rest) (.attr 273 (.var 0) "row")=some (.loc 5,FC sz T d fo jo cs ro rest):=qzo 8 [] 1 (λq=>q) [] rfl;have h:=qw8 (r:=RL (callD fns (m+1))) (τ:=[some (.loc 3),some (.int d)]) (S:=FC sz T d fo jo cs ro rest) (S':=FC sz T d fo jo cs ro rest) (it:=.attr 273 (.var 0) "row") (elt:=.var 0) (c:=.cmp .Eq (.mcall 191 8 "state" (.didx (.attr 273 (.var 2) "book") (.var 0)) [.var 1]) (.lit (sO "stands"))) (sr:=[none,some 1,some 0]) (s:=.lst (.loc 5)) (rest:=[some (.int d),some (.loc 3)]) (ds:=rowD ro) (p:=λx=>match x with|.int n=>stB cs d n|_=>false) id
  (by show((RL (callD fns (m+1))).ev _ _ _).bind _=_; rw[M]; rfl) (λi=>rfl) rfl rfl (by simp; unfold lim; omega)
  (λi x O=>by
   rw[Qqf]at O;obtain⟨n,hn,rfl⟩:=Qqr.mp O;obtain⟨c,J,rfl⟩:=L n (Qq1 hn);have j:=qqc (sz:=sz) (T:=T) (d:=d) (fo:=fo) (jo:=jo) (bo:=qze cs) (ro:=rowD ro) m c d (I.at_ c J).2;have F:=I.get J;have z:=(I.at_ c J).2;show _=some (stB cs d c.nm,_);rw[qb7 I.nd J];rcases qz0 c d with⟨e,_⟩|⟨e,_⟩|⟨e,_⟩|⟨e,_⟩<;>rw[e]at j ⊢
   ·exact qzg 8 [8] 1 (λq=>_/\_/\_/\q) [.q (some (.loc (c.j+9))),.r c.cell,.c (sO "unvested",FC sz T d fo jo cs ro rest)] ⟨F,z,j,rfl⟩
   ·exact qzg 8 [8] 1 (λq=>_/\_/\_/\q) [.q (some (.loc (c.j+9))),.r c.cell,.c (sO "stands",FC sz T d fo jo cs ro rest)] ⟨F,z,j,rfl⟩
   ·exact qzg 8 [8] 1 (λq=>_/\_/\_/\q) [.q (some (.loc (c.j+9))),.r c.cell,.c (sO "given",FC sz T d fo jo cs ro rest)] ⟨F,z,j,rfl⟩
   ·exact qzg 8 [8] 1 (λq=>_/\_/\_/\q) [.q (some (.loc (c.j+9))),.r c.cell,.c (sO "fallen",FC sz T d fo jo cs ro rest)] ⟨F,z,j,rfl⟩)
  (λi x _ _=>qj1 _ _ _ _ _ rfl)
 have e:((rowD ro).filter λx=>match x with|.int n=>stB cs d n|_=>false).map id=rowD (ro.filter (stB cs d)):=by
  rw[List.map_id];unfold rowD;rw[List.filter_map]
  rfl
 rw[e]at h;exact qzz 8 [] 3 (λq=>_/\q) [.c (.loc (FC sz T d fo jo cs ro rest).length,FC sz T d fo jo cs ro rest++[.lst true (rowD (ro.filter (stB cs d)))])] ⟨h,rfl⟩
theorem qf8(m:Nat)(I:Inv B rest cs){c:Cl}(F:c∈cs):callD fns (m+2) 36 [.loc 0,.int c.nm] (FC sz T d fo jo cs ro rest)=some (.tup [.int c.o,rD c.g,.int c.la,oD c.v,oD c.gv],FC sz T d fo jo cs ro rest):=by
 have z:=I.get F;have j:=(I.at_ c F).2;exact qzz 8 [] 2 (λq=>_/\_/\_/\_/\_/\_/\_/\q) [.q (some (.loc (c.j+9))),.q (some (.loc (c.j+9))),.r c.cell,.r c.cell,.r c.cell,.r c.cell,.r c.cell] ⟨z,z,j,j,j,j,j,rfl⟩
end
theorem qwl{cs:List Cl}{c c':Cl}(q:(cs.map (·.nm)).Nodup)(M:c∈cs)(e:c'.nm=c.nm):∀x∈cs,(x=c/\c'∈upd cs c')\/(x.nm≠c.nm/\x∈upd cs c'):=λx j=>by
 by_cases h:x.nm=c'.nm
 ·refine .inl ⟨?_,Qqy.mpr ⟨x,j,Zt h⟩⟩;have L:∀{l:List Cl},(l.map (·.nm)).Nodup->x∈l->c∈l->x.nm=c.nm->x=c:=λ{l} q j M e=>by
   induction l with
   |nil=>cases j
   |cons y r O=>
    rw[Qqd,Qq5]at q;rcases Qqv.mp j with rfl|F<;>rcases Qqv.mp M with rfl|J
    ·rfl
    ·exact absurd (Qqy.mpr ⟨c,J,e.symm⟩) q.1
    ·exact absurd (Qqy.mpr ⟨x,F,e⟩) q.1
    ·exact O q.2 F J
  exact L q j M (h.trans e)
 ·exact .inr ⟨λz=>h (z.trans e.symm),Qqy.mpr ⟨x,j,Zs h⟩⟩
def Fol(day:Int)(c c1:Cl):Prop:=c1.nm=c.nm/\(c.v≠none->c1.v=c.v)/\(over day c->over day c1)
theorem qg2{day:Int}{cs L:List Cl}{ro O:List Int}(U:(cs.map (·.nm)).Nodup)(h:Op day cs ro L O):∀c∈cs,∃c1∈L,Fol day c c1:=by
 cases h with
 |same=>exact λc J=>⟨c,J,rfl,λ_=>rfl,id⟩
 |@upd c M J F e q=>
  intro x j;rcases qwl U J e x j with⟨rfl,h⟩|⟨_,h⟩
  ·exact⟨M,h,e,λ_=>q,λz=>absurd z F⟩
  ·exact⟨x,h,rfl,λ_=>rfl,id⟩
 |vein ps=>
  intro x j;refine⟨vst day ps x,Qqy.mpr ⟨x,j,rfl⟩,(qz7 day ps x).1,λq=>?_,λF=>?_⟩
  ·unfold vst hit;have:stW x day ≠ "unvested":=λe=>by
    rcases qz0 x day with⟨_,z,_⟩|⟨z,_⟩|⟨z,_⟩|⟨z,_⟩
    ·exact q z
    all_goals rw[z]at e; exact absurd e (by decide)
   rw[Zr this]
   rfl
  ·unfold vst;cases hit day ps x<;>exact F
 |@stake c ps e q=>exact λx j=>⟨x,Qzz _ j,rfl,λ_=>rfl,id⟩
 |@part0 c M p J F e q pn pv Y=>
  intro x j;rcases qwl U J e x j with⟨rfl,h⟩|⟨_,h⟩
  ·exact⟨M,Qzz _ h,e,λ_=>q,λz=>absurd z F⟩
  ·exact⟨x,Qzz _ h,rfl,λ_=>rfl,id⟩
 |@part1 c M p A R J F e q pn pv Y Z=>
  intro x j;rcases qwl U J e x j with⟨rfl,h⟩|⟨_,h⟩
  ·exact⟨M,Qzz _ h,e,λ_=>q,λz=>absurd z F⟩
  ·exact⟨x,Qzz _ h,rfl,λ_=>rfl,id⟩
theorem qcm{day:Int}{cs j:List Cl}{ro ro':List Int}(h:Op day cs ro j ro'):ro.Sublist ro':=by
 cases h with
 |same=>exact .refl _
 |upd=>exact .refl _
 |vein ps=>exact Qjp ..
 |stake ps _ _=>exact Qjp ..
 |part0=>exact .refl _
 |@part1 c L p A R J F e z pn pv h q=>
  subst q;exact(List.Sublist.refl A).append (.cons_cons _ (.cons _ (.refl R)))
theorem qj7{cs:List Cl}(q:(cs.map (·.nm)).Nodup){c:Cl}(z:c∈cs):vOf cs c.nm=c.v.getD 0:=by
 have:cs.find? (λx=>x.nm==c.nm)=some c:=by
  induction cs with
  |nil=>cases z
  |cons a r F=>
   rw[Qqd,Qq5]at q;rw[Qzx];rcases Qqv.mp z with rfl|j
   ·simp
   ·have e:(a.nm==c.nm)=false:=by
     rw[beq_eq_false_iff_ne];exact λe=>q.1 (Qqy.mpr ⟨c,j,e.symm⟩)
    rw[e];exact F q.2 j
 unfold vOf;rw[this]
theorem nm_inj{cs:List Cl}{x c:Cl}:(cs.map (·.nm)).Nodup->x∈cs->c∈cs->x.nm=c.nm->x=c:=λhn z J e=>by
 induction cs with
 |nil=>cases z
 |cons y r F=>
  rw[Qqd,Qq5]at hn;rcases Qqv.mp z with rfl|j<;>rcases Qqv.mp J with rfl|q
  ·rfl
  ·exact absurd (Qqy.mpr ⟨c,q,e.symm⟩) hn.1
  ·exact absurd (Qqy.mpr ⟨x,j,e⟩) hn.1
  ·exact F hn.2 j q
theorem hit_v{day:Int}{ps:List (Int×Int)}{c:Cl}(h:hit day ps c=true):c.v=none:=by
 unfold hit at h;rw[Qqc,decide_eq_true_eq]at h;rcases qz0 c day with⟨_,z,_⟩|⟨z,_⟩|⟨z,_⟩|⟨z,_⟩
 ·exact z
 all_goals rw[z]at h; exact absurd h.1 (by decide)
theorem RowI.later{j day:Int}{cs:List Cl}{ro:List Int}(R:RowI j cs ro)(h:j<=day):RowI day cs ro:=
 ⟨R.nd,λn hn=>by obtain⟨c,h1,h2,z,F⟩:=R.in1 n hn; exact⟨c,h1,h2,z,by omega⟩,R.in2,R.so,λc q=>by have:=R.le c q; omega⟩
theorem op_row{d0 day:Int}{cs J:List Cl}{ro ro':List Int}(hn:(cs.map (·.nm)).Nodup)(a0:(J.map (·.nm)).Nodup)(hd:d0<day)(R:RowI d0 cs ro)(h:Op day cs ro J ro'):RowI day J ro':=by
 have a2:∀n∈ro,vOf J n=vOf cs n/\∃c1∈J,c1.nm=n/\c1.v=some (vOf cs n):=λn Y=>by
  obtain⟨c,L,rfl,Z,_⟩:=R.in1 n Y;obtain⟨c1,h1,e,h2,_⟩:=qg2 hn h c L;have h3:=(h2 (by rw[Z]; simp)).trans Z;refine⟨?_,c1,h1,e,h3⟩;have:=qj7 a0 h1;rw[e,h3]at this;exact this
 have om:ro.map (vOf J)=ro.map (vOf cs):=Qz0 λn Y=>(a2 n Y).1;have oi:∀n∈ro,∃c∈J,c.nm=n/\c.v=some (vOf J n)/\vOf J n<=day:=λn Y=>by
  obtain⟨e,c1,h1,h2,h3⟩:=a2 n Y;obtain⟨_,_,_,_,h4⟩:=R.in1 n Y;exact⟨c1,h1,h2,by rw[e]; exact h3,by rw[e]; omega⟩
 have os:(ro.map (vOf J)).Pairwise (· <= ·):=by rw[om]; exact R.so
 have a8:∀x∈ro.map (vOf J),x<=day:=λx j=>by
  obtain⟨n,Y,rfl⟩:=Qqy.mp j;obtain⟨_,_,_,_,h⟩:=oi n Y;exact h
 have a5:∀n∈ro,n<=d0:=λn Y=>by
  obtain⟨c,L,rfl,_⟩:=R.in1 n Y;exact R.le c L
 have U:∀c∈J,c.nm<=day:=λc L=>by
  rcases (qg1 h).1 c L with⟨x,j,e⟩|e
  ·have:=R.le x j; omega
  ·omega
 have a1:∀l:List Int,(∀n∈l,vOf J n=day)->((ro++l).map (vOf J)).Pairwise (· <= ·):=λl hl=>by
  rw[Qqp,Qzp];refine⟨os,?_,λa O b M=>?_⟩
  ·rw[Qjb];have:∀l:List Int,(∀n∈l,vOf J n=day)->l.Pairwise λa b=>vOf J a<=vOf J b:=λl=>by
    induction l with
    |nil=>intro _; exact .nil
    |cons a r ih=>
     intro h;refine .cons (λb M=>?_) (ih λn hn=>h n (Qqh _ hn));rw[h a (Qql ..),h b (Qqh _ M)];exact Int.le_refl _
   exact this l hl
  ·obtain⟨n,hn,rfl⟩:=Qqy.mp M;rw[hl n hn];exact a8 a O
 cases h with
 |same=>exact R.later (by omega)
 |@upd c c' L ho e Z=>
  refine⟨R.nd,oi,λx j F=>?_,os,U⟩;obtain⟨y,hy,rfl⟩:=Qqy.mp j
  by_cases z:y.nm=c'.nm
  ·rw[Zt z]at F ⊢;rw[e];exact R.in2 c L (by rw[<- Z]; exact F)
  ·rw[Zs z]at F ⊢;exact R.in2 y hy F
 |vein ps=>
  have nv:∀n∈(cs.filter (hit day ps)).map (·.nm),∃c∈cs,c.nm=n/\hit day ps c=true:=λn j=>by
   obtain⟨c,L,e⟩:=Qqy.mp j;exact⟨c,(Qzd.mp L).1,e,(Qzd.mp L).2⟩
  have a6:∀n∈(cs.filter (hit day ps)).map (·.nm),∃c1∈cs.map (vst day ps),c1.nm=n/\c1.v=some day/\vOf (cs.map (vst day ps)) n=day:=λn j=>by
   obtain⟨c,L,e,hh⟩:=nv n j;have hm:vst day ps c∈cs.map (vst day ps):=Qqy.mpr ⟨c,L,rfl⟩;have e1:=(qz7 day ps c).1.trans e;have e2:(vst day ps c).v=some day:=by unfold vst; rw[hh]; rfl
   exact⟨_,hm,e1,e2,by have:=qj7 a0 hm; rw[e1,e2]at this; exact this⟩
  refine⟨?_,λn j=>?_,λx j F=>?_,a1 _ λn j=>?_,U⟩
  ·rw[Qzs];refine⟨R.nd,(Qjz.map _).nodup hn,λa O b M e=>?_⟩;subst e;obtain⟨c,L,rfl,hh⟩:=nv a M;obtain⟨c2,a9,e2,a7,_⟩:=R.in1 _ O;have:=nm_inj hn a9 L e2;subst this;rw[hit_v hh]at a7;cases a7
  ·rcases Qqi.mp j with j|j
   ·exact oi n j
   ·obtain⟨c1,h1,h2,h3,h4⟩:=a6 n j;exact⟨c1,h1,h2,by rw[h4]; exact h3,by rw[h4]; exact Int.le_refl _⟩
  ·obtain⟨y,hy,rfl⟩:=Qqy.mp j
   cases hh:hit day ps y with
   |true=>exact Qq3 _ (Qqy.mpr ⟨y,Qzd.mpr ⟨hy,hh⟩,(qz7 day ps y).1.symm⟩)
   |false=>
    have:vst day ps y=y:=by unfold vst; rw[hh]; rfl
    rw[this]at F ⊢;exact Qzz _ (R.in2 y hy F)
  ·obtain⟨_,_,_,_,h4⟩:=a6 n j;exact h4
 |@stake c ps e Z=>
  have hm:vst day ps c∈cs++[vst day ps c]:=by simp
  have e1:=(qz7 day ps c).1.trans e
  cases hh:hit day ps c with
  |true=>
   have e2:(vst day ps c).v=some day:=by unfold vst; rw[hh]; rfl
   have e3:vOf (cs++[vst day ps c]) day=day:=by
    have:=qj7 a0 hm;rw[e1,e2]at this;exact this
   refine⟨?_,λn j=>?_,λx j F=>?_,a1 _ λn j=>?_,U⟩
   ·rw[Zt rfl,Qzs];refine⟨R.nd,by simp,λa O b M z=>?_⟩;have:=a5 a O;simp only[Qqa]at M;omega
   ·rcases Qqi.mp j with j|j
    ·exact oi n j
    ·rw[Zt rfl]at j;cases Qqa.mp j;exact⟨_,hm,e1,by rw[e3]; exact e2,by rw[e3]; exact Int.le_refl _⟩
   ·rcases Qqi.mp j with j|j
    ·exact Qzz _ (R.in2 x j F)
    ·cases Qqa.mp j;rw[Zt rfl,e1];simp
   ·rw[Zt rfl]at j;cases Qqa.mp j;exact e3
  |false=>
   have e2:(vst day ps c).v=none:=by unfold vst; rw[hh]; exact Z
   rw[Zs (by simp),Qzm];refine⟨R.nd,oi,λx j F=>?_,os,U⟩;rcases Qqi.mp j with j|j
   ·exact R.in2 x j F
   ·cases Qqa.mp j;exact absurd e2 F
 |@part0 c c' p L ho e Z pn pv a3=>
  refine⟨R.nd,oi,λx j F=>?_,os,U⟩;rcases Qqi.mp j with j|j
  ·obtain⟨y,hy,rfl⟩:=Qqy.mp j
   by_cases z:y.nm=c'.nm
   ·rw[Zt z]at F ⊢;rw[e];exact R.in2 c L (by rw[<- Z]; exact F)
   ·rw[Zs z]at F ⊢;exact R.in2 y hy F
  ·cases Qqa.mp j;exact absurd (pv.trans a3) F
 |@part1 c c' p A Q L ho e Z pn pv a3 Y=>
  subst Y;have hp:p∈upd cs c'++[p]:=by simp
  have a4:c.nm∈A++c.nm::Q:=by simp
  obtain⟨f1,_⟩:=a2 _ a4;have f2:vOf (upd cs c'++[p]) day=vOf (upd cs c'++[p]) c.nm:=by
   have:=qj7 a0 hp;rw[pn,pv]at this;rw[f1,this,qj7 hn L]
  have f3:day ∉ A++c.nm::Q:=λz=>by have:=a5 _ z; omega
  refine⟨?_,λn j=>?_,λx j F=>?_,?_,U⟩
  ·have:=R.nd;simp only[Qqi,Qqv,not_or]at f3;rw[Qzs]at this ⊢;refine⟨this.1,?_,λa O b M=>?_⟩
   ·rw[Qq5]at this ⊢;refine⟨?_,Qq5.mpr ⟨f3.2.2,this.2.1.2⟩⟩;simp only[Qqv,not_or];exact⟨λz=>f3.2.1 z.symm,this.2.1.1⟩
   ·rcases Qqv.mp M with rfl|M
    ·exact this.2.2 a O _ (Qql ..)
    ·rcases Qqv.mp M with rfl|M
     ·exact λz=>f3.1 (z▸O)
     ·exact this.2.2 a O b (Qqh _ M)
  ·have:n=day\/n∈A++c.nm::Q:=by
    simp only[Qqi,Qqv]at j ⊢;rcases j with z|z|z|z
    ·exact .inr (.inl z)
    ·exact .inr (.inr (.inl z))
    ·exact .inl z
    ·exact .inr (.inr (.inr z))
   rcases this with rfl|z
   ·obtain⟨_,_,_,_,h5⟩:=oi _ a4;refine⟨p,hp,pn,?_,by rw[f2]; exact h5⟩;rw[f2,f1,pv,qj7 hn L]
    cases hq:c.v with
    |none=>exact absurd hq a3
    |some q=>rfl
   ·exact oi n z
  ·have ext:∀n,n∈A++c.nm::Q->n∈A++c.nm::day::Q:=λn z=>by
    simp only[Qqi,Qqv]at z ⊢;rcases z with z|z|z
    ·exact .inl z
    ·exact .inr (.inl z)
    ·exact .inr (.inr (.inr z))
   rcases Qqi.mp j with j|j
   ·obtain⟨y,hy,rfl⟩:=Qqy.mp j
    by_cases z:y.nm=c'.nm
    ·rw[Zt z]at F ⊢;rw[e];exact ext _ a4
    ·rw[Zs z]at F ⊢;exact ext _ (R.in2 y hy F)
   ·cases Qqa.mp j;rw[pn];simp
  ·have:=os;rw[Qqp,Qqd,Qzp,Qze]at this;rw[Qqp,Qqd,Qqd,Qzp,Qze,Qze,f2];refine⟨this.1,⟨λa O=>?_,this.2.1.1,this.2.1.2⟩,λa O b M=>?_⟩
   ·rcases Qqv.mp O with rfl|O
    ·exact Int.le_refl _
    ·exact this.2.1.1 a O
   ·rcases Qqv.mp M with rfl|M
    ·exact this.2.2 a O _ (Qql ..)
    ·rcases Qqv.mp M with rfl|M
     ·exact this.2.2 a O _ (Qql ..)
     ·exact this.2.2 a O b (Qqh _ M)
theorem qv2{it:Src}{f:Sl->Store->D->Option (Option D×Sl×Store)}{ds:List D}{S:Store}(g:D->Option D)(P:Sl->Prop)(q:∀i,it.at S i=some ds[i]?)(L:ds.length<lim)(J:∀τ d,d∈ds->P τ->∃j,f τ S d=some (g d,j,S)/\P j):
  ∀(k i:Nat) (τ:Sl),i+k=ds.length->P τ->loopC it f (k+1) i ((ds.take i).filterMap g) τ S=some (ds.filterMap g,S)
 |0,i,τ,h,p=>by
  have e:i=ds.length:=by omega
  subst e;rw[loopC,q,Qz5 (Qqk _),Qxe];simp only[oBs];rw[Zs (by have:=Qjr g ds; omega)]
 |k+1,i,τ,h,p=>by
  have hi:i<ds.length:=by omega
  obtain⟨j,O,M⟩:=J τ ds[i] (Qjl hi) p;rw[loopC,q,Qqs hi];simp only[oBs];rw[Zs (by have:=Qjr g (ds.take i); rw[Qzb]at this; omega),O];have z:=qv2 g P q L J k (i+1) j (by omega) M;rw[Qzf hi,List.filterMap_append]at z;simp only[oBs]
  cases F:g ds[i] with
  |none=>simpa[F] using z
  |some x=>simpa[F] using z
theorem qx4{c:CF}{τ:Sl}{st:Store}{t:M.T}{it elt:E}{test:Option E}{sr:List (Option Nat)}{s:Src}{ds:List D}(g:D->Option D)(P:Sl->Prop)(F:src (RL c) τ st it=some (s,st))(z:∀i,s.at st i=some ds[i]?)(hz:s.size st=ds.length)(J:ds.length<lim)(O:P (inner sr τ))(L:∀τ d,d∈ds->P τ->∃j,turnC (RL c) t test elt τ st d=some (g d,j,st)/\P j):
  stepEv (RL c) τ st (.comp t it test elt sr)=some (.loc st.length,st++[.lst true (ds.filterMap g)]):=by
 show((src (RL c) τ st it).bind λp=>(loopC p.1 (turnC (RL c) t test elt) (p.1.size p.2+1) 0 [] (inner sr τ) p.2).map λq=>alloc q.2 (.lst true q.1))=_;rw[F];simp only[oBs,hz];have:=qv2 (it:=s) (f:=turnC (RL c) t test elt) g P z J L ds.length 0 (inner sr τ) (by omega) O;rw[Qj4,List.filterMap_nil]at this;rw[this]
 rfl
theorem qbl{c:CF}{t:M.T}{elt:E}{τ τ':Sl}{st:Store}{d x:D}(h:setT t d τ=some τ')(j:(RL c).ev τ' st elt=some (x,st)):turnC (RL c) t none elt τ st d=some (some x,τ',st):=by
 unfold turnC;rw[h];simp only[oBs,j,oMs]
theorem turn_if{c:CF}{t:M.T}{q elt:E}{τ τ':Sl}{st:Store}{d x:D}{b:Bool}(h:setT t d τ=some τ')(j:(RL c).tst τ' st q=some (b,st))(z:b=true->(RL c).ev τ' st elt=some (x,st)):turnC (RL c) t (some q) elt τ st d=some (if b then some x else none,τ',st):=by
 unfold turnC;rw[h];simp only[oBs,j]
 cases b with
 |false=>rfl
 |true=>rw[Zt rfl,z rfl]; rfl
noncomputable def szD(W H P:Int):D:=.tup [.int W,.int H,.int P]
noncomputable def bD(W H P:Int):List (D×D):=[(sO "day",.tup [.int 1,.int 400]),(sO "folk",.tup [.int 1,.int 40]),(sO "x",.tup [.int 0,.int (W - 1)]),(sO "y",.tup [.int 0,.int (H - 1)]),(sO "floor",.tup [.int 0,.int P]),(sO "below",.tup [.int 1,.int P]),(sO "side",.tup [.int 0,.int 1]),(sO "line",.tup [.int 1,.int 23]),(sO "step",.tup [.int 0,.int 4]),(sO "coins",.tup [.int 1,.int 1000000])]
def Fit(W H P:Int)(p:Int×String):Prop:=∃lo hi,dget (bD W H P) (sO p.2)=some (.tup [.int lo,.int hi])/\lo<=p.1/\p.1<=hi
theorem qls(m:Nat)(st:Store){v lo j:Int}(F:lo<=v)(z:v<=j):callD fns (m+1) 19 [.int v,.tup [.int lo,.int j]] st=some (.bl true,st):=
 qzz 0 [] 1 (λq=>_/\_/\q) [.b true,.b true] ⟨Zp F,Zp z,rfl⟩
theorem qez(m:Nat)(st:Store)(W H P:Int):callD fns (m+1) 18 [szD W H P] st=some (.loc st.length,st++[.dic true (bD W H P)]):=
 qva 0 [] 1 (.loc st.length,(st++[Cell.dic true []]).set st.length (.dic true (bD W H P))) (λq=>_/\q) [.r (.dic true [])] ⟨gl (st:=st) (c:=.dic true []),by rw[sl]⟩
theorem qxi(m:Nat)(st:Store){W H P:Int}(j:List (Int×String))(hl:j.length<1000)(U:∀p∈j,Fit W H P p):callD fns (m+2) 20 [szD W H P,.tup (j.map λp=>sO p.2),.tup (j.map λp=>.int p.1)] st=some (.bl true,st++[.dic true (bD W H P)]):=by
 have h1:(!((((j.map λp=>D.int p.1).length:Nat):Int)==((j.map λp=>sO p.2).length:Nat)))=false:=by simp
 have L:∀i,pairAt (j.map λp=>D.int p.1) (j.map λp=>sO p.2) i=(j.map λp=>D.tup [.int p.1,sO p.2])[i]?:=λi=>by
  unfold pairAt;rw[Qqf,Qqf,Qqf];cases j[i]?<;>rfl
 have J:=qx4 (c:=callD fns (m+1)) (τ:=[some (szD W H P),some (.tup (j.map λp=>sO p.2)),some (.tup (j.map λp=>.int p.1)),some (.loc st.length)]) (st:=st++[.dic true (bD W H P)]) (t:=.tup [0,1]) (it:=.zip (.var 2) (.var 1)) (test:=none) (elt:=.call 19 [.var 0,.didx (.var 2) (.var 1)]) (sr:=[none,none,some 3]) (s:=.zip (.tup (j.map λp=>.int p.1)) (.tup (j.map λp=>sO p.2))) (ds:=j.map λp=>D.tup [.int p.1,sO p.2]) (λ_=>some (.bl true)) (λτ=>∃a b,τ=[a,b,some (.loc st.length)])
  (by
   have e2:(RL (callD fns (m+1))).ev [some (szD W H P),some (.tup (j.map λp=>sO p.2)),some (.tup (j.map λp=>.int p.1)),some (.loc st.length)] (st++[.dic true (bD W H P)]) (.var 2)=some (.tup (j.map λp=>.int p.1),st++[.dic true (bD W H P)]):=qj1 _ _ _ _ _ rfl;have e1:(RL (callD fns (m+1))).ev [some (szD W H P),some (.tup (j.map λp=>sO p.2)),some (.tup (j.map λp=>.int p.1)),some (.loc st.length)] (st++[.dic true (bD W H P)]) (.var 1)=some (.tup (j.map λp=>sO p.2),st++[.dic true (bD W H P)]):=qj1 _ _ _ _ _ rfl;show((RL (callD fns (m+1))).ev _ _ (.var 2)).bind _=_;rw[e2];show((RL (callD fns (m+1))).ev _ _ (.var 1)).bind _=_;rw[e1]
   rfl) (λi=>by rw[<- L]; rfl) (by simp[Src.size,rowAt]) (by simp; unfold lim; omega) ⟨none,none,rfl⟩ (λτ x M z=>by
   obtain⟨a,b,rfl⟩:=z;obtain⟨p,z,rfl⟩:=Qqy.mp M;obtain⟨lo,hi,O,Y,F⟩:=U p z;refine⟨[some (.int p.1),some (sO p.2),some (.loc st.length)],?_,some (.int p.1),some (sO p.2),rfl⟩;have:=qzo (fns:=fns) (k:=m) (τ:=[some (.int p.1),some (sO p.2),some (.loc st.length)]) (st:=st++[.dic true (bD W H P)]) (e:=.call 19 [.var 0,.didx (.var 2) (.var 1)]) (r:=(.bl true,st++[.dic true (bD W H P)])) 0 [19] 1 (λq=>_/\_/\_/\q) [.r (.dic true (bD W H P)),.q (some (.tup [.int lo,.int hi])),.c (.bl true,st++[.dic true (bD W H P)])] ⟨gl (st:=st) (c:=.dic true (bD W H P)),O,qls m (st++[.dic true (bD W H P)]) Y F,rfl⟩
   exact qbl rfl this)
 have Z:(j.map λp=>D.tup [.int p.1,sO p.2]).filterMap (λ_=>some (D.bl true))=(j.map λ_=>true).map .bl:=by
  rw[Qjj,Qzc];exact List.filterMap_eq_map (f:=λ_=>D.bl true)▸rfl
 rw[Z]at J;have F:bfun (st++[.dic true (bD W H P)]) .all [.lst ((j.map λ_=>true).map .bl)]=some (.bl true,st++[.dic true (bD W H P)]):=by
  show(asBools _).map _=_;rw[asB];exact congrArg (λb=>some (D.bl b,_)) (by simp)
 exact qzz 0 [18] 2 (λq=>_/\_/\_/\_/\_/\q) [.b false,.c (.loc st.length,st++[.dic true (bD W H P)]),.c (.loc (st++[Cell.dic true (bD W H P)]).length,st++[.dic true (bD W H P)]++[.lst true ((j.map λ_=>true).map .bl)]),.l ((j.map λ_=>true).map .bl),.c (.bl true,st++[.dic true (bD W H P)])] ⟨h1,qez m st W H P,J,qzb (st:=st++[.dic true (bD W H P)]) (nlB (j.map λ_=>true)),F,rfl⟩
theorem tkl{st:Store}{c:Cell}:(st++[c]).take st.length=st:=by simp
theorem gB(st:Store)(c:Cell):noLoc (.bl true)=true/\(st++[c]).take st.length=st:=⟨rfl,tkl⟩
section
variable {W H P:Int}
theorem qbx{n:Int}(q:1<=n)(j:n<=400):Fit W H P (n,"day"):=⟨1,400,by kernel_rfl,q,j⟩
theorem qdg{n:Int}(q:1<=n)(j:n<=40):Fit W H P (n,"folk"):=⟨1,40,by kernel_rfl,q,j⟩
theorem f_x{n:Int}(j:0<=n)(q:n<W):Fit W H P (n,"x"):=⟨0,W - 1,by kernel_rfl,j,by simp; omega⟩
theorem f_y{n:Int}(j:0<=n)(q:n<H):Fit W H P (n,"y"):=⟨0,H - 1,by kernel_rfl,j,by simp; omega⟩
theorem qlu{n:Int}(q:1<=n)(j:n<=P):Fit W H P (n,"below"):=⟨1,P,by kernel_rfl,q,j⟩
theorem f_side{n:Int}(q:0<=n)(j:n<=1):Fit W H P (n,"side"):=⟨0,1,by kernel_rfl,q,j⟩
theorem f_line{n:Int}(q:1<=n)(j:n<=23):Fit W H P (n,"line"):=⟨1,23,by kernel_rfl,q,j⟩
theorem f_step{n:Int}(q:0<=n)(j:n<=4):Fit W H P (n,"step"):=⟨0,4,by kernel_rfl,q,j⟩
theorem s_work(m:Nat)(st:Store){n:Int}(z:1<=n)(j:n<=400):callD fns (m+3) 26 [szD W H P,.tup [sO "work",.int n]] st=some (.bl true,st):=
 qzz 0 [20] 3 (λq=>_/\_/\q) [.c (.bl true,st++[.dic true (bD W H P)]),.g] ⟨qxi m st (W:=W) (H:=H) (P:=P) [(n,"day")] (by simp) (by simp only[Qqa,forall_eq]; exact qbx z j),gB st (.dic true (bD W H P)),rfl⟩
theorem s_give(m:Nat)(st:Store){n:Int}(z:1<=n)(j:n<=400):callD fns (m+3) 26 [szD W H P,.tup [sO "give",.int n]] st=some (.bl true,st):=
 qzz 0 [20] 3 (λq=>_/\_/\q) [.c (.bl true,st++[.dic true (bD W H P)]),.g] ⟨qxi m st (W:=W) (H:=H) (P:=P) [(n,"day")] (by simp) (by simp only[Qqa,forall_eq]; exact qbx z j),gB st (.dic true (bD W H P)),rfl⟩
theorem s_sell(m:Nat)(st:Store){n o:Int}(J:1<=n)(F:n<=400)(z:1<=o)(j:o<=40):callD fns (m+3) 26 [szD W H P,.tup [sO "sell",.int n,.int o]] st=some (.bl true,st):=
 qzz 0 [20] 3 (λq=>_/\_/\q) [.c (.bl true,st++[.dic true (bD W H P)]),.g] ⟨qxi m st (W:=W) (H:=H) (P:=P) [(n,"day"),(o,"folk")] (by simp) (by simp only[Qqv,Qzv,or_false,forall_eq_or_imp,forall_eq]; exact⟨qbx J F,qdg z j⟩),gB st (.dic true (bD W H P)),rfl⟩
theorem s_part(m:Nat)(st:Store){n s l o:Int}(U:1<=n)(O:n<=400)(M:0<=s)(L:s<=1)(J:1<=l)(F:l<=23)(z:1<=o)(j:o<=40):callD fns (m+3) 26 [szD W H P,.tup [sO "part",.int n,.int s,.int l,.int o]] st=some (.bl true,st):=
 qzz 0 [20] 3 (λq=>_/\_/\q) [.c (.bl true,st++[.dic true (bD W H P)]),.g] ⟨qxi m st (W:=W) (H:=H) (P:=P) [(n,"day"),(s,"side"),(l,"line"),(o,"folk")] (by simp) (by simp only[Qqv,Qzv,or_false,forall_eq_or_imp,forall_eq]; exact⟨qbx U O,f_side M L,f_line J F,qdg z j⟩),gB st (.dic true (bD W H P)),rfl⟩
theorem s_join(m:Nat)(st:Store){a b f:Int}(M:1<=a)(L:a<=400)(J:1<=b)(F:b<=400)(z:1<=f)(j:f<=P):callD fns (m+3) 26 [szD W H P,.tup [sO "join",.int a,.int b,.int f]] st=some (.bl true,st):=
 qzz 0 [20] 3 (λq=>_/\_/\q) [.c (.bl true,st++[.dic true (bD W H P)]),.g] ⟨qxi m st (W:=W) (H:=H) (P:=P) [(a,"day"),(b,"day"),(f,"below")] (by simp) (by simp only[Qqv,Qzv,or_false,forall_eq_or_imp,forall_eq]; exact⟨qbx M L,qbx J F,qlu z j⟩),gB st (.dic true (bD W H P)),rfl⟩
theorem s_stake(m:Nat)(st:Store){o:Int}{g:Int×Int×Int×Int}(U:1<=o)(O:o<=40)(M:0<=g.1)(L:g.1<=g.2.2.1)(J:g.2.2.1<W)(F:0<=g.2.1)(z:g.2.1<=g.2.2.2)(j:g.2.2.2<H):callD fns (m+3) 26 [szD W H P,.tup [sO "stake",.int o,.int g.1,.int g.2.1,.int g.2.2.1,.int g.2.2.2]] st=some (.bl true,st):=
 qzz 0 [20] 3 (λq=>_/\_/\_/\_/\q) [.c (.bl true,st++[.dic true (bD W H P)]),.g,.b true,.b true] ⟨qxi m st (W:=W) (H:=H) (P:=P) [(o,"folk"),(g.1,"x"),(g.2.1,"y"),(g.2.2.1,"x"),(g.2.2.2,"y")] (by simp) (by simp only[Qqv,Qzv,or_false,forall_eq_or_imp,forall_eq]; exact⟨qdg U O,f_x M (by omega),f_y F (by omega),f_x (by omega) J,f_y (by omega) j⟩),gB st (.dic true (bD W H P)),Zp L,Zp z,rfl⟩
def Cin(W H:Int)(p:Int×Int):Prop:=0<=p.1/\p.1<W/\0<=p.2/\p.2<H
theorem ql7(m:Nat)(st:Store){p:Int×Int}(h:Cin W H p):callD fns (m+3) 21 [szD W H P,cD p] st=some (.bl true,st):=
 qzz 0 [20] 3 (λq=>_/\_/\q) [.c (.bl true,st++[.dic true (bD W H P)]),.g] ⟨qxi m st (W:=W) (H:=H) (P:=P) [(p.1,"x"),(p.2,"y")] (by simp) (by simp only[Qqv,Qzv,or_false,forall_eq_or_imp,forall_eq]; exact⟨f_x h.1 h.2.1,f_y h.2.2.1 h.2.2.2⟩),gB st (.dic true (bD W H P)),rfl⟩
theorem qjm:∀(ks:List (List Int)),ks.Nodup->∀S,(S++ks).Nodup->ks.foldl addK S=S++ks
 |[],_,S,_=>by simp
 |k::r,h,S,j=>by
  rw[Qx5];have:addK S k=S++[k]:=by
   unfold addK;rw[Zs];rw[Qzs]at j;exact λz=>j.2.2 k z k (Qql ..) rfl
  rw[this,qjm r (Qq5.mp h).2 (S++[k]) (by simpa using j)];simp
theorem qg6:∀ps:List (Int×Int),(ps.map cD).mapM keyD=some (ps.map λp=>[p.1,p.2])
 |[]=>rfl
 |p::r=>by
  rw[Qqd,Qj6,qg6 r]
  rfl
theorem qlq{ps:List (Int×Int)}(q:ps.Nodup)(F:ps.length<=16):qk5 (.tup (ps.map cD))=some (.int (ps.length:Int)):=by
 show((ps.map cD).mapM keyD).bind _=_;rw[qg6];have h:(ps.map λp=>[p.1,p.2]).Nodup:=by
  refine List.Pairwise.map _ (λa b j z=>j ?_) q;simp only[List.cons.injEq,and_true]at z;exact Prod.ext z.1 z.2
 show(if (ps.map cD).length<=16 then _ else _)=_;rw[Zt (by simpa using F)];unfold distinct;rw[qjm _ h [] (by simpa using h)];simp
theorem s_vein(m:Nat)(st:Store){ss:List Int}{ps:List (Int×Int)}(hP:(ss.length:Int)=P)(a0:ss.length<=100)(Z:∀s∈ss,0<=s/\s<=4)(h1:1<=ps.length)(h2:ps.length<=16)(hn:ps.Nodup)(hc:∀p∈ps,Cin W H p):callD fns (m+6) 26 [szD W H P,.tup [sO "vein",.tup (ss.map .int),.tup (ps.map cD)]] st=some (.bl true,st):=by
 have j:=qxi (m+1) st (W:=W) (H:=H) (P:=P) (ss.map λs=>(s,"step")) (by simp; omega) (λp J=>by obtain⟨s,z,rfl⟩:=Qqy.mp J; exact f_step (Z s z).1 (Z s z).2);rw[Qzc,Qzc]at j;have e1:ss.map ((λp:Int×String=>sO p.2)∘λs=>(s,"step"))=List.replicate ss.length (sO "step"):=by
  rw[List.eq_replicate_iff];refine⟨by simp,λb hb=>?_⟩;obtain⟨s,_,rfl⟩:=Qqy.mp hb
  rfl
 have e2:ss.map ((λp:Int×String=>D.int p.1)∘λs=>(s,"step"))=ss.map .int:=rfl;rw[e1,e2]at j;have hm:binop st .Mult (.tup [sO "step"]) (.int P)=some (.tup (List.replicate ss.length (sO "step")),st):=by
  show(if decide (P < -(2 ^ 62))||decide (2 ^ 62<=P)||decide (lim<1*P.toNat) then none else some (D.tup (List.replicate P.toNat [sO "step"]).flatten,st))=_;have:P.toNat=ss.length:=by omega
  rw[Zs (by simp; unfold lim; omega),this]
  congr 3
  induction ss.length with
  |zero=>rfl
  |succ k ih=>rw[Qzl,Qz7,ih]; rfl
 have U:decide ((1:Int)<=((ps.map cD).length:Nat))=true:=Zp (by simp; omega);have O:decide (((ps.map cD).length:Int)<=16)=true:=Zp (by simp; omega);have F:=qjo (c:=callD fns (m+3)) (τ:=[some (szD W H P),some (.tup (ps.map cD))]) (st:=st) (i:=1) (rst:=[some (szD W H P)]) (elt:=.call 21 [.var 1,.var 0]) (sr:=[none,some 0]) ps cD (λ_=>.bl true) rfl rfl (by unfold lim; omega) rfl λp J=>qzo 0 [21] 3 (λq=>_/\q) [.c (.bl true,st)] ⟨ql7 m st (P:=P) (hc p J),rfl⟩;have e3:ps.map (λ_=>D.bl true)=(ps.map λ_=>true).map .bl:=by rw[Qzc]; rfl
 rw[e3]at F;have Y:bfun st .all [.lst ((ps.map λ_=>true).map .bl)]=some (.bl true,st):=by
  show(asBools _).map _=_;rw[asB];exact congrArg (λb=>some (D.bl b,_)) (by simp)
 have L:qk5 (.tup (ps.map cD))=some (.int ((ps.map cD).length:Int)):=by rw[qlq hn h2]; simp
 have M:(((ps.map cD).length:Int)==((ps.map cD).length:Nat))=true:=by simp
 exact qzz 0 [20,21] 6 (λq=>_/\_/\_/\_/\_/\_/\_/\_/\_/\_/\q) [.k,.c (.tup (List.replicate ss.length (sO "step")),st),.c (.bl true,st++[.dic true (bD W H P)]),.g,.b true,.b true,.c (.loc st.length,st++[.lst true ((ps.map λ_=>true).map .bl)]),.l ((ps.map λ_=>true).map .bl),.c (.bl true,st),.i (.int ((ps.map cD).length:Int)),.b true] ⟨hm,j,gB st (.dic true (bD W H P)),U,O,F,qzb (st:=st) (nlB (ps.map λ_=>true)),Y,L,M,rfl⟩
end
noncomputable def scr(ns:List Int):D:=.lst (ns.map .int)
section
variable {ns:List Int}(hn:ns.length<=63)
include hn
theorem dr(m:Nat)(st:Store)(k j:Int){many:Int}(F:0<=j)(z:j<100000)(q:0<many):∃v:Int,callD fns (m+1) 38 [scr ns,.int k,.int j,.int many] st=some (.int v,st)/\0<=v/\v<many:=
 ⟨_,qdm (f:=38) (show fns[38]?=some qf2 by kernel_rfl) (by omega) hn F z q,qvx _ _ _ q,qvj _ _ _ q⟩
theorem qh5(m:Nat)(st:Store)(k:Int):∃W H P:Int,callD fns (m+2) 39 [scr ns,.int k] st=some (szD W H P,st)/\1<=W/\W<=24/\1<=H/\H<=24/\0<=P/\P<=12:=by
 obtain⟨a,O,a1,a2⟩:=dr hn m st k 0 (many:=6) (by decide) (by decide) (by decide);obtain⟨b,M,b1,b2⟩:=dr hn m st k 1 (many:=6) (by decide) (by decide) (by decide);obtain⟨c,L,c1,c2⟩:=dr hn m st k 2 (many:=6) (by decide) (by decide) (by decide);obtain⟨e,J,e1,e2⟩:=dr hn m st k 3 (many:=12) (by decide) (by decide) (by decide);have Z:=qzb (st:=st) (ds:=[.tup [.int 24,.int (1+(1+b) / 3),.int (c / 2)],.tup [.int (1+(1+a) / 3),.int 24,.int (c / 2)]]) rfl;have Y:=qzb (st:=st) (ds:=[.tup [.int (1+(1+a) / 3),.int (1+(1+b) / 3),.int 12],.tup [.int (1+a),.int (1+b),.int c]]) rfl;have U:=qzb (st:=st) (ds:=[.tup [.int 24,.int (1+(1+b) / 3),.int (c / 2)],.tup [.int (1+(1+a) / 3),.int 24,.int (c / 2)],.tup [.int (1+(1+a) / 3),.int (1+(1+b) / 3),.int 12],.tup [.int (1+a),.int (1+b),.int c]]) rfl;have j:∀(i:Int) (r:D),(if decide (e<3) then e else 3)=i->idxD st (.lst [.tup [.int 24,.int (1+(1+b) / 3),.int (c / 2)],.tup [.int (1+(1+a) / 3),.int 24,.int (c / 2)],.tup [.int (1+(1+a) / 3),.int (1+(1+b) / 3),.int 12],.tup [.int (1+a),.int (1+b),.int c]]) (.int i)=some r->callD fns (m+2) 39 [scr ns,.int k] st=some (r,st):=λi r hi z=>by
  rw[<- hi]at z
  by_cases F:e<3
  ·rw[Zp F]at z;exact qzz 0 [38] 2 (λq=>_/\_/\_/\_/\_/\_/\_/\_/\_/\q) [.c (.int a,st),.c (.int b,st),.c (.int c,st),.l [.tup [.int 24,.int (1+(1+b) / 3),.int (c / 2)],.tup [.int (1+(1+a) / 3),.int 24,.int (c / 2)]],.l [.tup [.int (1+(1+a) / 3),.int (1+(1+b) / 3),.int 12],.tup [.int (1+a),.int (1+b),.int c]],.k,.l [.tup [.int 24,.int (1+(1+b) / 3),.int (c / 2)],.tup [.int (1+(1+a) / 3),.int 24,.int (c / 2)],.tup [.int (1+(1+a) / 3),.int (1+(1+b) / 3),.int 12],.tup [.int (1+a),.int (1+b),.int c]],.c (.int e,st),.b true,.i r] ⟨O,M,L,Z,Y,U,J,Zp F,z,rfl⟩
  ·rw[Zr F]at z;exact qzz 0 [38] 2 (λq=>_/\_/\_/\_/\_/\_/\_/\_/\_/\q) [.c (.int a,st),.c (.int b,st),.c (.int c,st),.l [.tup [.int 24,.int (1+(1+b) / 3),.int (c / 2)],.tup [.int (1+(1+a) / 3),.int 24,.int (c / 2)]],.l [.tup [.int (1+(1+a) / 3),.int (1+(1+b) / 3),.int 12],.tup [.int (1+a),.int (1+b),.int c]],.k,.l [.tup [.int 24,.int (1+(1+b) / 3),.int (c / 2)],.tup [.int (1+(1+a) / 3),.int 24,.int (c / 2)],.tup [.int (1+(1+a) / 3),.int (1+(1+b) / 3),.int 12],.tup [.int (1+a),.int (1+b),.int c]],.c (.int e,st),.b false,.i r] ⟨O,M,L,Z,Y,U,J,Zr F,z,rfl⟩
 by_cases h0:e=0
 ·exact⟨24,1+(1+b) / 3,c / 2,j 0 _ (by subst h0; rfl) rfl,by omega,by omega,by omega,by omega,by omega,by omega⟩
 ·by_cases h1:e=1
  ·exact⟨1+(1+a) / 3,24,c / 2,j 1 _ (by subst h1; rfl) rfl,by omega,by omega,by omega,by omega,by omega,by omega⟩
  ·by_cases h2:e=2
   ·exact⟨1+(1+a) / 3,1+(1+b) / 3,12,j 2 _ (by subst h2; rfl) rfl,by omega,by omega,by omega,by omega,by omega,by omega⟩
   ·exact⟨1+a,1+b,c,j 3 _ (by rw[Zr (by omega)]; rfl) rfl,by omega,by omega,by omega,by omega,by omega,by omega⟩
theorem qhs(m:Nat)(st:Store)(k:Int):∃T:Int,callD fns (m+2) 40 [scr ns,.int k] st=some (.int T,st)/\1<=T/\T<=400:=by
 obtain⟨a,J,M,L⟩:=dr hn m st k 5 (many:=400) (by decide) (by decide) (by decide);obtain⟨b,F,b1,b2⟩:=dr hn m st k 4 (many:=4) (by decide) (by decide) (by decide);have g:=qzb (st:=st) (ds:=[.int (1+a),.int (1+a % 4),.int (4+a % 50),.int (4+a % 50)]) rfl;have j:∀T:Int,idxD st (.lst [.int (1+a),.int (1+a % 4),.int (4+a % 50),.int (4+a % 50)]) (.int b)=some (.int T)->callD fns (m+2) 40 [scr ns,.int k] st=some (.int T,st):=λT h=>
  qzz 0 [38] 2 (λq=>_/\_/\_/\_/\q) [.c (.int a,st),.l [.int (1+a),.int (1+a % 4),.int (4+a % 50),.int (4+a % 50)],.c (.int b,st),.i (.int T)] ⟨J,g,F,h,rfl⟩
 have z:b=0\/b=1\/b=2\/b=3:=by omega
 rcases z with rfl|rfl|rfl|rfl
 ·exact⟨1+a,j _ rfl,by omega,by omega⟩
 ·exact⟨1+a % 4,j _ rfl,by omega,by omega⟩
 ·exact⟨4+a % 50,j _ rfl,by omega,by omega⟩
 ·exact⟨4+a % 50,j _ rfl,by omega,by omega⟩
theorem qix(m:Nat)(st:Store)(k j:Int){W H:Int}(L:0<=j)(J:j<1000)(z:0<W)(F:0<H):∃g:Int×Int×Int×Int,callD fns (m+2) 41 [scr ns,.int k,.int j,.int W,.int H] st=some (rD g,st)/\0<=g.1/\g.1<=g.2.2.1/\g.2.2.1<W/\0<=g.2.1/\g.2.1<=g.2.2.2/\g.2.2.2<H:=by
 obtain⟨a,Y,a1,a2⟩:=dr hn m st k j (many:=W) L (by omega) z;obtain⟨b,U,b1,b2⟩:=dr hn m st k (j+1) (many:=W) (by omega) (by omega) z;obtain⟨c,O,c1,c2⟩:=dr hn m st k (j+2) (many:=H) (by omega) (by omega) F;obtain⟨e,M,e1,Z⟩:=dr hn m st k (j+3) (many:=H) (by omega) (by omega) F;have so:∀x y:Int,bfun st .sorted [.lst [.int x,.int y]]=some (.loc st.length,st++[.lst true [.int (min x y),.int (max x y)]]):=λx y=>by
  show some (alloc st (.lst true ((sortInt [x,y]).map .int)))=_;have:sortInt [x,y]=[min x y,max x y]:=by
   show(if x<=y then [x,y] else [y,x])=_
   by_cases h:x<=y
   ·rw[Zt h,Int.min_eq_left h,Int.max_eq_right h]
   ·rw[Zs h,Int.min_eq_right (by omega),Int.max_eq_left (by omega)]
  rw[this]
  rfl
 refine⟨(min a b,min c e,max a b,max c e),?_,by simp only; omega,by simp only; omega,by simp only; omega,by simp only; omega,by simp only; omega,by simp only; omega⟩;exact qzz 0 [38] 2 (λq=>_/\_/\_/\_/\_/\_/\_/\_/\_/\_/\q) [.c (.int a,st),.c (.int b,st),.l [.int a,.int b],.c (.loc st.length,st++[.lst true [.int (min a b),.int (max a b)]]),.l [.int (min a b),.int (max a b)],.c (.int c,st),.c (.int e,st),.l [.int c,.int e],.c (.loc st.length,st++[.lst true [.int (min c e),.int (max c e)]]),.l [.int (min c e),.int (max c e)]] ⟨Y,U,qzb (st:=st) (ds:=[.int a,.int b]) rfl,so a b,qzb (st:=st) (ds:=[.int (min a b),.int (max a b)]) rfl,O,M,qzb (st:=st) (ds:=[.int c,.int e]) rfl,so c e,qzb (st:=st) (ds:=[.int (min c e),.int (max c e)]) rfl,rfl⟩
theorem qgw(m:Nat)(st:Store)(k j:Int)(F:0<=j)(z:j<1000):∃o:Int,callD fns (m+2) 44 [scr ns,.int k,.int j] st=some (.int o,st)/\1<=o/\o<=40:=by
 obtain⟨a,L,O,M⟩:=dr hn m st k (j+1) (many:=6) (by omega) (by omega) (by decide);have g:=qzb (st:=st) (ds:=[.int 40,.int 4,.int 4,.int 4,.int 4,.int 4]) rfl;have ⟨w,hw,w1,w2⟩:∃w:Int,idxD st (.lst [.int 40,.int 4,.int 4,.int 4,.int 4,.int 4]) (.int a)=some (.int w)/\0<w/\w<=40:=by
  have:a=0\/a=1\/a=2\/a=3\/a=4\/a=5:=by omega
  rcases this with rfl|rfl|rfl|rfl|rfl|rfl
  ·exact⟨40,rfl,by decide,by decide⟩
  all_goals exact⟨4,rfl,by decide,by decide⟩
 obtain⟨b,J,b1,b2⟩:=dr hn m st k j (many:=w) F (by omega) w1;exact⟨1+b,qzz 0 [38] 2 (λq=>_/\_/\_/\_/\q) [.l [.int 40,.int 4,.int 4,.int 4,.int 4,.int 4],.c (.int a,st),.i (.int w),.c (.int b,st)] ⟨g,L,hw,J,rfl⟩,by omega,by omega⟩
theorem qwo(m:Nat)(st:Store)(k j:Int)(hj:0<=j)(Y:j<1000){xs:List Int}(U:∀x∈xs,1<=x/\x<=400):∃n:Int,callD fns (m+2) 45 [scr ns,.int k,.int j,.lst (xs.map .int)] st=some (.int n,st)/\1<=n/\n<=400:=by
 obtain⟨b,L,b1,b2⟩:=dr hn m st k (j+1) (many:=400) (by omega) (by omega) (by decide)
 by_cases J:xs=[]
 ·subst J;exact⟨1+b,qzz 0 [38] 2 (λq=>_/\q) [.k,.c (.int b,st)] ⟨L,rfl⟩,by omega,by omega⟩
 ·have hl:0<xs.length:=Qxa.mpr J;have O:(((xs.map D.int).length:Int)==0)=false:=by
   rw[beq_eq_false_iff_ne];simp;exact J
  obtain⟨a,M,a1,a2⟩:=dr hn m st k j (many:=14) (by omega) (by omega) (by decide)
  by_cases h1:a=0
  ·exact⟨1+b,qzz 0 [38] 2 (λq=>_/\_/\_/\_/\q) [.b false,.c (.int a,st),.b true,.c (.int b,st)] ⟨O,M,(show(a==0)=true by simpa using h1),L,rfl⟩,by omega,by omega⟩
  ·obtain⟨c,Z,c1,c2⟩:=dr hn m st k (j+1) (many:=((xs.map D.int).length:Int)) (by omega) (by omega) (by simp; omega);rw[Qqw]at c2;have hi:c.toNat<xs.length:=by omega
   have z:=U xs[c.toNat] (Qjl hi);have F:idxD st (.lst (xs.map .int)) (.int c)=some (.int xs[c.toNat]):=by
    show atI (xs.map D.int) c=_;unfold atI ixN;rw[Zt c1,Zt (by simpa using c2)];simp[Qqs hi]
   exact⟨xs[c.toNat],qzz 0 [38] 2 (λq=>_/\_/\_/\_/\_/\q) [.b false,.c (.int a,st),.b false,.c (.int c,st),.i (.int xs[c.toNat])] ⟨O,M,(show(a==0)=false by simpa using h1),Z,F,rfl⟩,z.1,z.2⟩
end
section
variable {ns:List Int}(hn:ns.length<=63)
include hn
theorem dr'(m:Nat)(st:Store)(k j:Int){many:Int}(F:0<=j)(q:j<100000)(z:0<many):callD fns (m+1) 38 [scr ns,.int k,.int j,.int many] st=some (.int (qz6 ns k j many),st):=
 qdm (f:=38) (show fns[38]?=some qf2 by kernel_rfl) (by omega) hn F q z
omit hn in
noncomputable def stT(d:Int):Int:=[0,1,2,3,4,0,0].getD d.toNat 0
theorem qe4(m:Nat)(st:Store)(k j:Int){P:Int}(Z:0<=j)(Y:j<1000)(h0:0<=P)(h1:P<=12):∃z:List Int,callD fns (m+2) 42 [scr ns,.int k,.int j,.int P] st=some (.tup (z.map .int),st)/\(z.length:Int)=P/\∀s∈z,0<=s/\s<=4:=by
 have O:(List.range P.toNat).map (λ(i:Nat)=>D.int (0+i))=(List.range P.toNat).map λ(i:Nat)=>D.int i:=Qz0 λi _=>by simp
 have h:=qx4 (c:=callD fns (m+1)) (τ:=[some (scr ns),some (.int k),some (.int j),some (.int P)]) (st:=st) (t:=.var 0) (it:=.rng1 (.var 3)) (test:=none) (elt:=.idx (.gc (.lst [.lit (.int 0),.lit (.int 1),.lit (.int 2),.lit (.int 3),.lit (.int 4),.lit (.int 0),.lit (.int 0)])) (.call 38 [.var 3,.var 2,.bin .Add (.var 1) (.var 0),.lit (.int 7)])) (sr:=[none,some 2,some 1,some 0]) (s:=.rng 0 P.toNat) (ds:=(List.range P.toNat).map λ(i:Nat)=>D.int i) (λd=>match d with|.int i=>some (.int (stT (qz6 ns k (j+i) 7)))|_=>none) (λτ=>∃a,τ=[a,some (.int j),some (.int k),some (scr ns)])
  (by
   have e:(RL (callD fns (m+1))).ev [some (scr ns),some (.int k),some (.int j),some (.int P)] st (.var 3)=some (.int P,st):=qj1 _ _ _ _ _ rfl;show((RL (callD fns (m+1))).ev _ _ (.var 3)).bind _=_;rw[e];show(if big P=true then none else some (Src.rng 0 P.toNat,st))=_
   rw[Zs (by unfold big; simp; omega)])
  (λi=>by rw[qea,O]) (by simp[Src.size]) (by simp; unfold lim; omega) ⟨none,rfl⟩ (λτ d hd U=>by
   obtain⟨a,rfl⟩:=U;obtain⟨i,hi,rfl⟩:=Qqy.mp hd;have hi:=Qz4.mp hi;refine⟨[some (.int (i:Nat)),some (.int j),some (.int k),some (scr ns)],?_,some (.int (i:Nat)),rfl⟩;have J:=qvx ns k (j+(i:Nat)) (many:=7) (by decide);have F:=qvj ns k (j+(i:Nat)) (many:=7) (by decide);have hd:=dr' hn m st k (j+(i:Nat)) (many:=7) (by omega) (by omega) (by decide);have L:idxD st (.lst [.int 0,.int 1,.int 2,.int 3,.int 4,.int 0,.int 0]) (.int (qz6 ns k (j+(i:Nat)) 7))=some (.int (stT (qz6 ns k (j+(i:Nat)) 7))):=by
    generalize qz6 ns k (j+(i:Nat)) 7=v at J F;have:v=0\/v=1\/v=2\/v=3\/v=4\/v=5\/v=6:=by omega
    rcases this with rfl|rfl|rfl|rfl|rfl|rfl|rfl<;>rfl
   exact qbl rfl (qzo (k:=m) 0 [38] 1 (λq=>_/\_/\_/\q) [.l [.int 0,.int 1,.int 2,.int 3,.int 4,.int 0,.int 0],.c (.int (qz6 ns k (j+(i:Nat)) 7),st),.i (.int (stT (qz6 ns k (j+(i:Nat)) 7)))] ⟨qzb (st:=st) (ds:=[.int 0,.int 1,.int 2,.int 3,.int 4,.int 0,.int 0]) rfl,hd,L,rfl⟩))
 have e:((List.range P.toNat).map λ(i:Nat)=>D.int i).filterMap (λd=>match d with|.int i=>some (D.int (stT (qz6 ns k (j+i) 7)))|_=>none)=((List.range P.toNat).map λ(i:Nat)=>stT (qz6 ns k (j+(i:Nat)) 7)).map .int:=by
  rw[Qjj,Qzc];exact List.filterMap_eq_map (f:=λ(i:Nat)=>D.int (stT (qz6 ns k (j+(i:Nat)) 7)))▸rfl
 rw[e]at h;refine⟨(List.range P.toNat).map λ(i:Nat)=>stT (qz6 ns k (j+(i:Nat)) 7),qzz 0 [] 2 (λq=>_/\_/\q) [.c (.loc st.length,st++[.lst true (((List.range P.toNat).map λ(i:Nat)=>stT (qz6 ns k (j+(i:Nat)) 7)).map .int)]),.l (((List.range P.toNat).map λ(i:Nat)=>stT (qz6 ns k (j+(i:Nat)) 7)).map .int)] ⟨h,qzb (st:=st) (nlI ((List.range P.toNat).map λ(i:Nat)=>stT (qz6 ns k (j+(i:Nat)) 7))),rfl⟩,by simp; omega,λs M=>?_⟩;obtain⟨i,_,rfl⟩:=Qqy.mp M;have J:=qvx ns k (j+(i:Nat)) (many:=7) (by decide);have F:=qvj ns k (j+(i:Nat)) (many:=7) (by decide);generalize qz6 ns k (j+(i:Nat)) 7=v at J F;have:v=0\/v=1\/v=2\/v=3\/v=4\/v=5\/v=6:=by omega
 rcases this with rfl|rfl|rfl|rfl|rfl|rfl|rfl<;>decide
omit hn in
theorem flat_c(ps:List (Int×Int)):flats 9 (ps.map cD)=true:=by
 induction ps with
 |nil=>rfl
 |cons p r j=>show(flat 9 (cD p)&&flats 9 (r.map cD))=true; rw[j]; rfl
omit hn in
theorem any_c(ps:List (Int×Int))(p:Int×Int):((ps.map cD).any λy=>eqT y (cD p))=decide (p∈ps):=by
 induction ps with
 |nil=>rfl
 |cons a r j=>
  have e:eqT (cD a) (cD p)=decide (p=a):=by
   show((a.1==p.1)&&((a.2==p.2)&&true))=_;rw[Qjv,Qx6];simp only[Qqc,beq_iff_eq,decide_eq_true_eq];exact⟨λh=>Prod.ext h.1.symm h.2.symm,λh=>by rw[h]; exact⟨rfl,rfl⟩⟩
  rw[Qqd,Qz9,j,e];simp only[Qqv]
  by_cases h1:p=a<;>by_cases h2:p∈r<;>simp[h1,h2]
theorem qiu(m:Nat)(st:Store)(k j:Int){W H P:Int}(hj:0<=j)(a4:j<1000)(w1:1<=W)(w2:W<=24)(h1:1<=H)(h2:H<=24):∃ps:List (Int×Int),callD fns (m+2) 43 [scr ns,.int k,.int j,szD W H P] st=some (.tup (ps.map cD),st++[.lst true (ps.map cD)])/\1<=ps.length/\ps.length<=16/\ps.Nodup/\∀p∈ps,Cin W H p:=by
 have hc:0<W*H:=Int.mul_pos (by omega) (by omega);have a5:W*H<=24*24:=Int.mul_le_mul w2 h2 (by omega) (by omega);obtain⟨f,hf,f1,f2⟩:=dr hn m st k j (many:=W*H) hj (by omega) hc;obtain⟨g,hg,g1,g2⟩:=dr hn m st k (j+1) (many:=W*H) (by omega) (by omega) hc;obtain⟨a,ha,a1,a2⟩:=dr hn m (st++[.lst true []]) k (j+2) (many:=4) (by omega) (by omega) (by decide);have ⟨w,hw,x1,x2⟩:∃w:Int,idxD (st++[.lst true []]) (.lst [.int 16,.int 4,.int 4,.int 4]) (.int a)=some (.int w)/\0<w/\w<=16:=by
  have:a=0\/a=1\/a=2\/a=3:=by omega
  rcases this with rfl|rfl|rfl|rfl
  ·exact⟨16,rfl,by decide,by decide⟩
  all_goals exact⟨4,rfl,by decide,by decide⟩
 obtain⟨b,hb,b1,b2⟩:=dr hn m (st++[.lst true []]) k (j+3) (many:=w) (by omega) (by omega) x1;have a3:(RL (callD fns (m+1))).ev [some (scr ns),some (.int k),some (.int j),some (szD W H P),some (.int (W*H)),some (.int f),some (.int (1+g)),some (.loc st.length),none,none] (st++[.lst true []]) (.bin .Add (.lit (.int 1)) (.call 38 [.var 0,.var 1,.bin .Add (.var 2) (.lit (.int 3)),.idx (.gc (.lst [.lit (.int 16),.lit (.int 4),.lit (.int 4),.lit (.int 4)])) (.call 38 [.var 0,.var 1,.bin .Add (.var 2) (.lit (.int 2)),.lit (.int 4)])]))=some (.int (1+b),st++[.lst true []]):=
  qzo (k:=m) 0 [38] 1 (λq=>_/\_/\_/\_/\q) [.l [.int 16,.int 4,.int 4,.int 4],.c (.int a,st++[.lst true []]),.i (.int w),.c (.int b,st++[.lst true []])] ⟨qzb (st:=st++[.lst true []]) (ds:=[.int 16,.int 4,.int 4,.int 4]) rfl,ha,hw,hb,rfl⟩
 obtain⟨F,st',h3,k',o,o2,ps,rfl,rfl,p1,p2,p3,Z⟩:=qk9 (c:=callD fns (m+1)) (τ:=[some (scr ns),some (.int k),some (.int j),some (szD W H P),some (.int (W*H)),some (.int f),some (.int (1+g)),some (.loc st.length),none,none]) (st:=st++[.lst true []]) (it:=.rng1 (.bin .Add (.lit (.int 1)) (.call 38 [.var 0,.var 1,.bin .Add (.var 2) (.lit (.int 3)),.idx (.gc (.lst [.lit (.int 16),.lit (.int 4),.lit (.int 4),.lit (.int 4)])) (.call 38 [.var 0,.var 1,.bin .Add (.var 2) (.lit (.int 2)),.lit (.int 4)])]))) (s:=.rng 0 (1+b).toNat) (ds:=(List.range (1+b).toNat).map λ(i:Nat)=>D.int (0+i)) (t:=.var 8)
  (body:=[.set (.var 9) (.bin .Mod (.bin .Add (.var 5) (.bin .Mult (.var 8) (.var 6))) (.var 4)),.ite (.cmp .NotIn (.tup [.bin .Mod (.var 9) (.idx (.var 3) (.lit (.int 0))),.bin .FloorDiv (.var 9) (.idx (.var 3) (.lit (.int 0)))]) (.var 7)) [.expr (.meth (.var 7) .append [.tup [.bin .Mod (.var 9) (.idx (.var 3) (.lit (.int 0))),.bin .FloorDiv (.var 9) (.idx (.var 3) (.lit (.int 0)))]])] []])
  (λi F st'=>i<=(1+b).toNat/\∃o o2 ps,F=[some (scr ns),some (.int k),some (.int j),some (szD W H P),some (.int (W*H)),some (.int f),some (.int (1+g)),some (.loc st.length),o,o2]/\st'=st++[.lst true ((ps:List (Int×Int)).map cD)]/\ps.length<=i/\(0<i->1<=ps.length)/\ps.Nodup/\∀p∈ps,Cin W H p)
  (by
   show((RL (callD fns (m+1))).ev _ _ _).bind _=_;rw[a3];show(if big (1+b)=true then none else some (Src.rng 0 (1+b).toNat,_))=_
   rw[Zs (by unfold big; simp; omega)])
  (by simp[Src.size]) (λi F st' _=>qea _ _ _) ⟨Qz1 _,none,none,[],rfl,rfl,by simp,by simp,List.nodup_nil,by simp⟩ (λi F st' d hd M=>by
   obtain⟨_,o,o2,ps,rfl,rfl,p1,p2,p3,Z⟩:=M;rw[Qqf]at hd;obtain⟨i',O,rfl⟩:=Qqr.mp hd;have a0:i<(1+b).toNat:=by
    have:=(Qqx.mp O).1;simpa using this
   rw[Qxf a0]at O;cases O;generalize L:(f+(0+(i:Int))*(1+g)) % (W*H)=pl;have l1:0<=pl:=by rw[<- L]; exact Int.emod_nonneg _ (by omega)
   have l2:pl<W*H:=by rw[<- L]; exact Int.emod_lt_of_pos _ hc
   have q1:mulOk (0+(i:Int)) (1+g)=true:=qws (by omega) (by omega);have q2:binop (st++[.lst true (ps.map cD)]) .Mod (.int (f+(0+(i:Int))*(1+g))) (.int (W*H))=some (.int pl,st++[.lst true (ps.map cD)]):=by rw[bMo _ _ hc,L]
   have q3:binop (st++[.lst true (ps.map cD)]) .Mod (.int pl) (.int W)=some (.int (pl % W),st++[.lst true (ps.map cD)]):=bMo _ _ (by omega);have q4:binop (st++[.lst true (ps.map cD)]) .FloorDiv (.int pl) (.int W)=some (.int (pl / W),st++[.lst true (ps.map cD)]):=bDi _ _ (by omega) (by omega);have g0:=gl (st:=st) (c:=.lst true (ps.map cD));have J:cmpD (st++[.lst true (ps.map cD)]) .NotIn (cD (pl % W,pl / W)) (.loc st.length)=some (!decide ((pl % W,pl / W)∈ps)):=by
    have e:inD (st++[.lst true (ps.map cD)]) (cD (pl % W,pl / W)) (.loc st.length)=some (decide ((pl % W,pl / W)∈ps)):=by
     show(seqAt (st++[.lst true (ps.map cD)]) (.loc st.length)).bind _=_;have:seqAt (st++[.lst true (ps.map cD)]) (.loc st.length)=some (ps.map cD):=by show listAt _ _=_; unfold listAt; rw[gl]
     rw[this];show(if flat 9 (cD (pl % W,pl / W))&&flats 9 (ps.map cD) then some ((ps.map cD).any λy=>eqT y (cD (pl % W,pl / W))) else none)=_;rw[flat_c,any_c]
     rfl
    show(inD _ _ _).map (!·)=_;rw[e]
    rfl
   by_cases U:(pl % W,pl / W)∈ps
   ·rw[Zp U]at J;refine⟨_,_,qqm (k:=m) 0 [] 1 (λq=>_/\_/\_/\_/\_/\q) [.b true,.c (.int pl,st++[.lst true (ps.map cD)]),.c (.int (pl % W),st++[.lst true (ps.map cD)]),.c (.int (pl / W),st++[.lst true (ps.map cD)]),.b false] (r:=(.nx [some (scr ns),some (.int k),some (.int j),some (szD W H P),some (.int (W*H)),some (.int f),some (.int (1+g)),some (.loc st.length),some (.int (0+(i:Int))),some (.int pl)],st++[.lst true (ps.map cD)])) ⟨q1,q2,q3,q4,J,rfl⟩,by omega,some (.int (0+(i:Int))),some (.int pl),ps,rfl,rfl,by omega,λ_=>Qxa.mpr (λz=>by rw[z]at U; cases U),p3,Z⟩
   ·rw[Zr U]at J;have Y:(ps.map cD).length<lim:=by rw[Qqw]; unfold lim; omega
    refine⟨_,_,qqm (k:=m) 0 [] 1 (λq=>_/\_/\_/\_/\_/\_/\_/\_/\_/\_/\q) [.b true,.c (.int pl,st++[.lst true (ps.map cD)]),.c (.int (pl % W),st++[.lst true (ps.map cD)]),.c (.int (pl / W),st++[.lst true (ps.map cD)]),.b true,.r (.lst true (ps.map cD)),.c (.int (pl % W),st++[.lst true (ps.map cD)]),.c (.int (pl / W),st++[.lst true (ps.map cD)]),.r (.lst true (ps.map cD)),.b true] (r:=(.nx [some (scr ns),some (.int k),some (.int j),some (szD W H P),some (.int (W*H)),some (.int f),some (.int (1+g)),some (.loc st.length),some (.int (0+(i:Int))),some (.int pl)],(st++[Cell.lst true (ps.map cD)]).set st.length (.lst true (ps.map cD++[cD (pl % W,pl / W)])))) ⟨q1,q2,q3,q4,J,g0,q3,q4,g0,Zp Y,rfl⟩,by omega,some (.int (0+(i:Int))),some (.int pl),ps++[(pl % W,pl / W)],rfl,by rw[sl]; simp,by simp; omega,λ_=>by simp,?_,λp M=>?_⟩
    ·rw[Qzs];exact⟨p3,by simp,λa ha b hb=>by cases Qqa.mp hb; exact λz=>U (z▸ha)⟩
    ·rcases Qqi.mp M with M|M
     ·exact Z p M
     ·cases Qqa.mp M;refine⟨Int.emod_nonneg _ (by omega),Int.emod_lt_of_pos _ (by omega),Int.ediv_nonneg l1 (by omega),?_⟩
      exact Int.ediv_lt_of_lt_mul (by omega) (by rw[Int.mul_comm]; exact l2))
 rw[Qqw,List.length_range]at p1 p2 k';refine⟨ps,?_,p2 (by omega),by omega,p3,Z⟩;have q5:mulOk W H=true:=qws (by omega) (by omega);exact qzz (k:=m) 0 [38] 2 (λq=>_/\_/\_/\_/\_/\q) [.b true,.c (.int f,st),.c (.int g,st),.s (.nx [some (scr ns),some (.int k),some (.int j),some (szD W H P),some (.int (W*H)),some (.int f),some (.int (1+g)),some (.loc st.length),o,o2],st++[.lst true (ps.map cD)]),.r (.lst true (ps.map cD))] ⟨q5,hf,hg,h3,gl (st:=st) (c:=.lst true (ps.map cD)),rfl⟩
end
inductive DF (W H P:Int):D->Prop
 |vein {ss:List Int}{ps:List (Int×Int)}(hP:(ss.length:Int)=P) (hP2:ss.length<=100) (hs:∀s∈ss,0<=s/\s<=4) (h1:1<=ps.length) (h2:ps.length<=16) (hn:ps.Nodup) (hc:∀p∈ps,Cin W H p):DF W H P (.tup [sO "vein",.tup (ss.map .int),.tup (ps.map cD)])
 |join {a b f:Int}(h1:1<=a) (h2:a<=400) (h3:1<=b) (h4:b<=400) (h5:1<=f) (h6:f<=P):DF W H P (.tup [sO "join",.int a,.int b,.int f])
 |stake {o:Int}{g:Int×Int×Int×Int}(h1:1<=o) (h2:o<=40) (x0:0<=g.1) (x1:g.1<=g.2.2.1) (x2:g.2.2.1<W) (y0:0<=g.2.1) (y1:g.2.1<=g.2.2.2) (y2:g.2.2.2<H):DF W H P (.tup [sO "stake",.int o,.int g.1,.int g.2.1,.int g.2.2.1,.int g.2.2.2])
 |claim {f:D}(h:CF' f) (hs:∀m st,callD fns (m+6) 26 [szD W H P,f] st=some (.bl true,st)):DF W H P f
theorem DF.sound{W H P:Int}{f:D}(h:DF W H P f)(m:Nat)(st:Store):callD fns (m+6) 26 [szD W H P,f] st=some (.bl true,st):=by
 cases h with
 |vein Y q j h1 h2 hn U=>exact s_vein m st Y q j h1 h2 hn U
 |join h1 h2 h3 h4 h5 Z=>exact s_join (m+3) st h1 h2 h3 h4 h5 Z
 |stake h1 h2 O M L J F z=>exact s_stake (m+3) st h1 h2 O M L J F z
 |claim h j=>exact j m st
noncomputable def wIs(f:D)(ws:List String):Bool:=match f with
 |.tup (.str z::_)=>ws.any λw=>MS.sq z (Str.ofString w)
 |_=>false
noncomputable def pD(p:Int×D):D:=.tup [.int p.1,p.2]
theorem qcs(ps:List (Int×Int)):noLoc (.tup (ps.map cD))=true:=by rw[qjv]; exact qqp λ_ _=>rfl
theorem gT(st:Store)(ps:List (Int×Int)):noLoc (.tup (ps.map cD))=true/\(st++[Cell.lst true (ps.map cD)]).take st.length=st:=⟨qcs ps,tkl⟩
section
variable {ns:List Int}(hn:ns.length<=63){W H P:Int}(w1:1<=W)(w2:W<=24)(h1:1<=H)(h2:H<=24)(p0:0<=P)(p1:P<=12)
include hn w1 w2 h1 h2 p0 p1
theorem qhc(m:Nat)(st:Store)(k:Int):∃f,callD fns (m+3) 46 [scr ns,.int k,szD W H P] st=some (f,st)/\DF W H P f:=by
 obtain⟨j,U,F,z⟩:=qe4 hn m st k 8 (P:=P) (by decide) (by decide) p0 p1;obtain⟨ps,Y,O,M,L,J⟩:=qiu hn m st k 1 (P:=P) (by decide) (by decide) w1 w2 h1 h2;exact⟨_,qzz (k:=m) 0 [42,43] 3 (λq=>_/\_/\_/\q) [.c (.tup (j.map .int),st),.c (.tup (ps.map cD),st++[.lst true (ps.map cD)]),.g] (r:=(.tup [sO "vein",.tup (j.map .int),.tup (ps.map cD)],st)) ⟨U,Y,gT st ps,rfl⟩,.vein F (by omega) z O M L J⟩
theorem qgj(m:Nat)(st:Store)(k z:Int)(y0:0<=z)(y1:z<8){xs:List Int}(hx:∀x∈xs,1<=x/\x<=400):∃f,callD fns (m+3) 47 [scr ns,.int k,.int z,szD W H P,.lst (xs.map .int)] st=some (f,st)/\DF W H P f:=by
 obtain⟨c,Y,c1,c2⟩:=qwo hn m st k 1 (by decide) (by decide) hx;obtain⟨o,U,o1,o2⟩:=qgw hn m st k 3 (by decide) (by decide);obtain⟨s,O,s1,s2⟩:=dr hn (m+1) st k 5 (many:=2) (by decide) (by decide) (by decide);have ⟨l,J,Z,l2,b,L,a1⟩:∃l:Int,(∃mn:Int,callD fns (m+2) 38 [scr ns,.int k,.int 6,.int mn] st=some (.int l,st)/\mn=(if decide ((if s=0 then W else H)<23) then(if s=0 then W else H) else 23))/\0<=l/\l<23/\∃b,decide ((if s=0 then W else H)<23)=b/\True:=by
  by_cases h:(if s=0 then W else H)<23
  ·have hp:0<(if s=0 then W else H):=by split<;>omega
   obtain⟨l,J,Z,l2⟩:=dr hn (m+1) st k 6 (many:=if s=0 then W else H) (by decide) (by decide) hp;exact⟨l,⟨_,J,by rw[Zp h]; rfl⟩,Z,by omega,true,Zp h,trivial⟩
  ·obtain⟨l,J,Z,l2⟩:=dr hn (m+1) st k 6 (many:=23) (by decide) (by decide) (by decide);exact⟨l,⟨_,J,by rw[Zr h]; rfl⟩,Z,by omega,false,Zr h,trivial⟩
 obtain⟨mn,J,j⟩:=J;have dw:DF W H P (.tup [sO "work",.int c]):=.claim (.work c) λm st=>s_work (m+3) st c1 c2;have dg:DF W H P (.tup [sO "give",.int c]):=.claim (.give c) λm st=>s_give (m+3) st c1 c2;have ds:DF W H P (.tup [sO "sell",.int c,.int o]):=.claim (.sell c o) λm st=>s_sell (m+3) st c1 c2 o1 o2;have dp:DF W H P (.tup [sO "part",.int c,.int s,.int (1+l),.int o]):=.claim (.part c s (1+l) o (by omega)) λm st=>s_part (m+3) st c1 c2 s1 (by omega) (by omega) (by omega) o1 o2;have g:=qzb (st:=st) (ds:=[.tup [sO "sell",.int c,.int o],.tup [sO "part",.int c,.int s,.int (1+l),.int o],.tup [sO "give",.int c]]) rfl;have M:∀f,(z<3/\f=.tup [sO "work",.int c])\/(¬ z<3/\idxD st (.lst [.tup [sO "sell",.int c,.int o],.tup [sO "part",.int c,.int s,.int (1+l),.int o],.tup [sO "give",.int c]]) (.int (z / 2 - 1))=some f)->callD fns (m+3) 47 [scr ns,.int k,.int z,szD W H P,.lst (xs.map .int)] st=some (f,st):=λf hf=>by
  have a0:s=0\/s=1:=by omega
  rcases a0 with rfl|rfl
  ·rw[Zt rfl]at L j
   cases b with
   |true=>
    rw[L,Zt rfl]at j;subst j;rcases hf with⟨F,rfl⟩|⟨F,hf⟩
    ·exact qzz (k:=m) 0 [38,44,45] 3 (λq=>_/\_/\_/\_/\_/\_/\q) [.c (.int c,st),.c (.int o,st),.c (.int 0,st),.b true,.c (.int l,st),.b true] ⟨Y,U,O,L,J,Zp F,rfl⟩
    ·exact qzz (k:=m) 0 [38,44,45] 3 (λq=>_/\_/\_/\_/\_/\_/\_/\_/\q) [.c (.int c,st),.c (.int o,st),.c (.int 0,st),.b true,.c (.int l,st),.b false,.l [.tup [sO "sell",.int c,.int o],.tup [sO "part",.int c,.int 0,.int (1+l),.int o],.tup [sO "give",.int c]],.i f] ⟨Y,U,O,L,J,Zr F,g,hf,rfl⟩
   |false=>
    rw[L,Zs (by simp)]at j;subst j;rcases hf with⟨F,rfl⟩|⟨F,hf⟩
    ·exact qzz (k:=m) 0 [38,44,45] 3 (λq=>_/\_/\_/\_/\_/\_/\q) [.c (.int c,st),.c (.int o,st),.c (.int 0,st),.b false,.c (.int l,st),.b true] ⟨Y,U,O,L,J,Zp F,rfl⟩
    ·exact qzz (k:=m) 0 [38,44,45] 3 (λq=>_/\_/\_/\_/\_/\_/\_/\_/\q) [.c (.int c,st),.c (.int o,st),.c (.int 0,st),.b false,.c (.int l,st),.b false,.l [.tup [sO "sell",.int c,.int o],.tup [sO "part",.int c,.int 0,.int (1+l),.int o],.tup [sO "give",.int c]],.i f] ⟨Y,U,O,L,J,Zr F,g,hf,rfl⟩
  ·rw[Zs (show ¬ (1:Int)=0 by decide)]at L j
   cases b with
   |true=>
    rw[L,Zt rfl]at j;subst j;rcases hf with⟨F,rfl⟩|⟨F,hf⟩
    ·exact qzz (k:=m) 0 [38,44,45] 3 (λq=>_/\_/\_/\_/\_/\_/\q) [.c (.int c,st),.c (.int o,st),.c (.int 1,st),.b true,.c (.int l,st),.b true] ⟨Y,U,O,L,J,Zp F,rfl⟩
    ·exact qzz (k:=m) 0 [38,44,45] 3 (λq=>_/\_/\_/\_/\_/\_/\_/\_/\q) [.c (.int c,st),.c (.int o,st),.c (.int 1,st),.b true,.c (.int l,st),.b false,.l [.tup [sO "sell",.int c,.int o],.tup [sO "part",.int c,.int 1,.int (1+l),.int o],.tup [sO "give",.int c]],.i f] ⟨Y,U,O,L,J,Zr F,g,hf,rfl⟩
   |false=>
    rw[L,Zs (by simp)]at j;subst j;rcases hf with⟨F,rfl⟩|⟨F,hf⟩
    ·exact qzz (k:=m) 0 [38,44,45] 3 (λq=>_/\_/\_/\_/\_/\_/\q) [.c (.int c,st),.c (.int o,st),.c (.int 1,st),.b false,.c (.int l,st),.b true] ⟨Y,U,O,L,J,Zp F,rfl⟩
    ·exact qzz (k:=m) 0 [38,44,45] 3 (λq=>_/\_/\_/\_/\_/\_/\_/\_/\q) [.c (.int c,st),.c (.int o,st),.c (.int 1,st),.b false,.c (.int l,st),.b false,.l [.tup [sO "sell",.int c,.int o],.tup [sO "part",.int c,.int 1,.int (1+l),.int o],.tup [sO "give",.int c]],.i f] ⟨Y,U,O,L,J,Zr F,g,hf,rfl⟩
 by_cases F:z<3
 ·exact⟨_,M _ (.inl ⟨F,rfl⟩),dw⟩
 ·have:z / 2 - 1=0\/z / 2 - 1=1\/z / 2 - 1=2:=by omega
  rcases this with e|e|e
  ·exact⟨_,M _ (.inr ⟨F,by rw[e]; rfl⟩),ds⟩
  ·exact⟨_,M _ (.inr ⟨F,by rw[e]; rfl⟩),dp⟩
  ·exact⟨_,M _ (.inr ⟨F,by rw[e]; rfl⟩),dg⟩
end
noncomputable def dys(pl:List (Int×D))(ws:List String):List Int:=(pl.filter λp=>wIs p.2 ws).map (·.1)
theorem dys_in{pl:List (Int×D)}{j:List String}{x:Int}(h:x∈dys pl j):∃p∈pl,p.1=x:=by
 obtain⟨p,q,rfl⟩:=Qqy.mp h;exact⟨p,(Qzd.mp q).1,rfl⟩
noncomputable def gW(ws:List String):D->Option D
 |.tup [.int x,f]=>if wIs f ws then some (.int x) else none
 |_=>none
theorem ql1(pl:List (Int×D))(j:List String):(pl.map pD).filterMap (gW j)=(dys pl j).map .int:=by
 unfold dys
 induction pl with
 |nil=>rfl
 |cons p r q=>
  have e:gW j (pD p)=if wIs p.2 j then some (.int p.1) else none:=rfl
  rw[Qqd,Qxq,e,q]
  cases h:wIs p.2 j with
  |true=>simp[Qz3,h]
  |false=>simp[Qz3,h]
section
variable {ns:List Int}(hn:ns.length<=63){W H P:Int}(w1:1<=W)(w2:W<=24)(h1:1<=H)(h2:H<=24)(p0:0<=P)(p1:P<=12)
theorem qh9{st:Store}{pl:List D}:rowAt (st++[.lst true pl]) (.loc st.length)=some pl:=by
 show listAt _ _=_;unfold listAt;rw[gl]
theorem qhw(m:Nat)(st:Store){τ:Sl}{q:E}{pl:List (Int×D)}(z:List String)(L:∀p∈pl,DF W H P p.2)(Y:pl.length<1000)(j:τ[3]?=some (some (.loc st.length)))(J:∀p:Int×D,DF W H P p.2->(RL (callD fns m)).tst [some (.int p.1),some p.2] (st++[.lst true (pl.map pD)]) q=some (wIs p.2 z,st++[.lst true (pl.map pD)])):
  stepEv (RL (callD fns m)) τ (st++[.lst true (pl.map pD)]) (.comp (.tup [0,1]) (.var 3) (some q) (.var 0) [none,none])=some (.loc (st++[Cell.lst true (pl.map pD)]).length,st++[.lst true (pl.map pD)]++[.lst true ((dys pl z).map .int)]):=by
 obtain⟨s,U,O,M⟩:=qb8 (c:=callD fns m) j (qh9 (st:=st) (pl:=pl.map pD))
 have h:=qx4 (c:=callD fns m) (τ:=τ) (st:=st++[.lst true (pl.map pD)]) (t:=.tup [0,1]) (it:=.var 3) (test:=some q) (elt:=.var 0) (sr:=[none,none]) (s:=s) (ds:=pl.map pD) (gW z) (λτ=>∃a b,τ=[a,b]) U O M (by simp; unfold lim; omega) ⟨none,none,rfl⟩ (λτ d hd j=>by
  obtain⟨a,b,rfl⟩:=j;obtain⟨p,F,rfl⟩:=Qqy.mp hd
  exact⟨[some (.int p.1),some p.2],turn_if rfl (J p (L p F)) λ_=>qj1 _ _ _ _ _ rfl,some (.int p.1),some p.2,rfl⟩)
 rw[ql1]at h;exact h
theorem t_vein(m:Nat)(S:Store)(p:Int×D)(h:DF W H P p.2):(RL (callD fns m)).tst [some (.int p.1),some p.2] S (.cmp .Eq (.idx (.var 1) (.lit (.int 0))) (.lit (sO "vein")))=some (wIs p.2 ["vein"],S):=by
 obtain⟨x,f⟩:=p
 cases h with
 |vein=>exact qzg (k:=m) 0 [] 0 (λq=>q) [] rfl
 |join=>exact qzg (k:=m) 0 [] 0 (λq=>q) [] rfl
 |stake=>exact qzg (k:=m) 0 [] 0 (λq=>q) [] rfl
 |claim h _=>cases h<;>exact qzg (k:=m) 0 [] 0 (λq=>q) [] rfl
theorem t_name(m:Nat)(S:Store)(p:Int×D)(h:DF W H P p.2):(RL (callD fns m)).tst [some (.int p.1),some p.2] S (.cmp .In (.idx (.var 1) (.lit (.int 0))) (.tup [.lit (sO "stake"),.lit (sO "part")]))=some (wIs p.2 ["stake","part"],S):=by
 obtain⟨x,f⟩:=p
 cases h with
 |vein=>exact qzg (k:=m) 0 [] 0 (λq=>q) [] rfl
 |join=>exact qzg (k:=m) 0 [] 0 (λq=>q) [] rfl
 |stake=>exact qzg (k:=m) 0 [] 0 (λq=>q) [] rfl
 |claim h _=>cases h<;>exact qzg (k:=m) 0 [] 0 (λq=>q) [] rfl
include hn w1 w2 h1 h2 p0 p1
theorem qlt(m:Nat)(st:Store)(k:Int){pl:List (Int×D)}(hp:∀p∈pl,DF W H P p.2/\1<=p.1/\p.1<=400)(hl:pl.length<100):∃f,callD fns (m+4) 48 [scr ns,.int k,szD W H P,.loc st.length] (st++[.lst true (pl.map pD)])=some (f,st++[.lst true (pl.map pD)])/\DF W H P f:=by
 obtain⟨y,M,y1,y2⟩:=dr hn (m+2) (st++[.lst true (pl.map pD)]) k 0 (many:=20) (by decide) (by decide) (by decide);have d1:∀ws,∀x∈dys pl ws,1<=x/\x<=400:=λws x hx=>by
  obtain⟨p,J,rfl⟩:=dys_in hx;exact(hp p J).2
 have dl:∀ws,(((dys pl ws).map D.int).length:Int)=((dys pl ws).length:Int):=λws=>by simp
 have c1:=qhw (m+3) st (τ:=[some (scr ns),some (.int k),some (szD W H P),some (.loc st.length),some (.int y),none,none,none]) (pl:=pl) ["vein"] (λp J=>(hp p J).1) (by omega) rfl (λp h=>t_vein (m+3) _ p h);have c2:=qhw (m+3) st (τ:=[some (scr ns),some (.int k),some (szD W H P),some (.loc st.length),some (.int y),some (.lst ((dys pl ["vein"]).map .int)),none,none]) (pl:=pl) ["stake","part"] (λp J=>(hp p J).1) (by omega) rfl (λp h=>t_name (m+3) _ p h);generalize hS:st++[.lst true (pl.map pD)]=S at M c1 c2 ⊢;generalize a4:dys pl ["vein"]=vs at c1 c2;generalize a5:dys pl ["stake","part"]=j at c2;have dv:∀x∈vs,1<=x/\x<=400:=by rw[<- a4]; exact d1 _
 have du:∀x∈j,1<=x/\x<=400:=by rw[<- a5]; exact d1 _
 have gv:=qzb (st:=S) (nlI vs);have Z:=qzb (st:=S) (nlI j);have ez:∀xs:List Int,xs=[]->((((xs.map D.int).length:Nat):Int)==0)=true:=λxs h=>by rw[h]; rfl
 have en:∀xs:List Int,xs≠[]->((((xs.map D.int).length:Nat):Int)==0)=false:=λxs h=>by
  rw[beq_eq_false_iff_ne];simpa using h
 obtain⟨fv,hv,a3⟩:=qhc hn w1 w2 h1 h2 p0 p1 m S k
 by_cases U:y<3
 ·exact⟨fv,qzz (k:=m) 0 [38,41,44,45,46,47] 4 (λq=>_/\_/\_/\_/\_/\_/\_/\q) [.c (.int y,S),.c (.loc S.length,S++[.lst true (vs.map .int)]),.l (vs.map .int),.c (.loc S.length,S++[.lst true (j.map .int)]),.l (j.map .int),.b true,.c (fv,S)] (r:=(fv,S)) ⟨M,c1,gv,c2,Z,Zp U,hv,rfl⟩,a3⟩
 ·by_cases tA:y<8/\vs=[]
  ·exact⟨fv,qzz (k:=m) 0 [38,41,44,45,46,47] 4 (λq=>_/\_/\_/\_/\_/\_/\_/\_/\_/\q) [.c (.int y,S),.c (.loc S.length,S++[.lst true (vs.map .int)]),.l (vs.map .int),.c (.loc S.length,S++[.lst true (j.map .int)]),.l (j.map .int),.b false,.b true,.b true,.c (fv,S)] (r:=(fv,S)) ⟨M,c1,gv,c2,Z,Zr U,Zp tA.1,ez vs tA.2,hv,rfl⟩,a3⟩
  ·by_cases tB:y<5/\0<P
   ·have Y:vs≠[]:=λz=>tA ⟨by omega,z⟩;have L:y<8:=by omega
    obtain⟨fl,hf,f1,f2⟩:=dr hn (m+2) S k 5 (many:=P) (by decide) (by decide) tB.2;obtain⟨a,ha,a1,a2⟩:=qwo hn (m+1) S k 1 (by decide) (by decide) dv;obtain⟨b,hb,b1,b2⟩:=qwo hn (m+1) S k 3 (by decide) (by decide) dv;exact⟨_,qzz (k:=m) 0 [38,41,44,45,46,47] 4 (λq=>_/\_/\_/\_/\_/\_/\_/\_/\_/\_/\_/\_/\_/\q) [.c (.int y,S),.c (.loc S.length,S++[.lst true (vs.map .int)]),.l (vs.map .int),.c (.loc S.length,S++[.lst true (j.map .int)]),.l (j.map .int),.b false,.b true,.b false,.b true,.b true,.c (.int fl,S),.c (.int a,S),.c (.int b,S)] (r:=(.tup [sO "join",.int a,.int b,.int (1+fl)],S)) ⟨M,c1,gv,c2,Z,Zr U,Zp L,en vs Y,Zp tB.1,Zp tB.2,hf,ha,hb,rfl⟩,.join a1 a2 b1 b2 (by omega) (by omega)⟩
   ·obtain⟨o,ho,o1,o2⟩:=qgw hn (m+1) S k 1 (by decide) (by decide);obtain⟨g,hg,x0,x1,x2,z0,z1,z2⟩:=qix hn (m+1) S k 3 (W:=W) (H:=H) (by decide) (by decide) (by omega) (by omega);have ds:DF W H P (.tup [sO "stake",.int o,.int g.1,.int g.2.1,.int g.2.2.1,.int g.2.2.2]):=.stake o1 o2 x0 x1 x2 z0 z1 z2
    by_cases F:y<12
    ·by_cases L:y<8
     ·have Y:vs≠[]:=λz=>tA ⟨L,z⟩
      by_cases O:y<5
      ·have tp:¬ 0<P:=λz=>tB ⟨O,z⟩;exact⟨_,qzz (k:=m) 0 [38,41,44,45,46,47] 4 (λq=>_/\_/\_/\_/\_/\_/\_/\_/\_/\_/\_/\_/\_/\q) [.c (.int y,S),.c (.loc S.length,S++[.lst true (vs.map .int)]),.l (vs.map .int),.c (.loc S.length,S++[.lst true (j.map .int)]),.l (j.map .int),.b false,.b true,.b false,.b true,.b false,.b true,.c (.int o,S),.c (rD g,S)] (r:=(.tup [sO "stake",.int o,.int g.1,.int g.2.1,.int g.2.2.1,.int g.2.2.2],S)) ⟨M,c1,gv,c2,Z,Zr U,Zp L,en vs Y,Zp O,Zr tp,Zp F,ho,hg,rfl⟩,ds⟩
      ·exact⟨_,qzz (k:=m) 0 [38,41,44,45,46,47] 4 (λq=>_/\_/\_/\_/\_/\_/\_/\_/\_/\_/\_/\_/\q) [.c (.int y,S),.c (.loc S.length,S++[.lst true (vs.map .int)]),.l (vs.map .int),.c (.loc S.length,S++[.lst true (j.map .int)]),.l (j.map .int),.b false,.b true,.b false,.b false,.b true,.c (.int o,S),.c (rD g,S)] (r:=(.tup [sO "stake",.int o,.int g.1,.int g.2.1,.int g.2.2.1,.int g.2.2.2],S)) ⟨M,c1,gv,c2,Z,Zr U,Zp L,en vs Y,Zr O,Zp F,ho,hg,rfl⟩,ds⟩
     ·have O:¬ y<5:=by omega
      exact⟨_,qzz (k:=m) 0 [38,41,44,45,46,47] 4 (λq=>_/\_/\_/\_/\_/\_/\_/\_/\_/\_/\_/\q) [.c (.int y,S),.c (.loc S.length,S++[.lst true (vs.map .int)]),.l (vs.map .int),.c (.loc S.length,S++[.lst true (j.map .int)]),.l (j.map .int),.b false,.b false,.b false,.b true,.c (.int o,S),.c (rD g,S)] (r:=(.tup [sO "stake",.int o,.int g.1,.int g.2.1,.int g.2.2.1,.int g.2.2.2],S)) ⟨M,c1,gv,c2,Z,Zr U,Zr L,Zr O,Zp F,ho,hg,rfl⟩,ds⟩
    ·have L:¬ y<8:=by omega
     have O:¬ y<5:=by omega
     by_cases tC:y<17/\j=[]
     ·exact⟨_,qzz (k:=m) 0 [38,41,44,45,46,47] 4 (λq=>_/\_/\_/\_/\_/\_/\_/\_/\_/\_/\_/\_/\_/\q) [.c (.int y,S),.c (.loc S.length,S++[.lst true (vs.map .int)]),.l (vs.map .int),.c (.loc S.length,S++[.lst true (j.map .int)]),.l (j.map .int),.b false,.b false,.b false,.b false,.b true,.b true,.c (.int o,S),.c (rD g,S)] (r:=(.tup [sO "stake",.int o,.int g.1,.int g.2.1,.int g.2.2.1,.int g.2.2.2],S)) ⟨M,c1,gv,c2,Z,Zr U,Zr L,Zr O,Zr F,Zp tC.1,ez j tC.2,ho,hg,rfl⟩,ds⟩
     ·obtain⟨f,hf,df⟩:=qgj hn w1 w2 h1 h2 p0 p1 m S k (y - 12) (by omega) (by omega) du
      by_cases a0:y<17
      ·have a6:j≠[]:=λz=>tC ⟨a0,z⟩;exact⟨f,qzz (k:=m) 0 [38,41,44,45,46,47] 4 (λq=>_/\_/\_/\_/\_/\_/\_/\_/\_/\_/\_/\_/\q) [.c (.int y,S),.c (.loc S.length,S++[.lst true (vs.map .int)]),.l (vs.map .int),.c (.loc S.length,S++[.lst true (j.map .int)]),.l (j.map .int),.b false,.b false,.b false,.b false,.b true,.b false,.c (f,S)] (r:=(f,S)) ⟨M,c1,gv,c2,Z,Zr U,Zr L,Zr O,Zr F,Zp a0,en j a6,hf,rfl⟩,df⟩
      ·exact⟨f,qzz (k:=m) 0 [38,41,44,45,46,47] 4 (λq=>_/\_/\_/\_/\_/\_/\_/\_/\_/\_/\_/\q) [.c (.int y,S),.c (.loc S.length,S++[.lst true (vs.map .int)]),.l (vs.map .int),.c (.loc S.length,S++[.lst true (j.map .int)]),.l (j.map .int),.b false,.b false,.b false,.b false,.b false,.c (f,S)] (r:=(f,S)) ⟨M,c1,gv,c2,Z,Zr U,Zr L,Zr O,Zr F,Zr a0,hf,rfl⟩,df⟩
theorem qie(m:Nat)(st:Store)(k:Int){many:Int}(k1:0<=k)(k2:k<1000)(m1:1<=many)(m2:many<=24):∃pl:List (Int×D),callD fns (m+5) 49 [scr ns,.int k,szD W H P,.int many] st=some (.loc st.length,st++[.lst true (pl.map pD)])/\(pl.length:Int)=many/\(∀p∈pl,DF W H P p.2/\1<=p.1/\p.1<=360)/\(pl.map (·.1)).Pairwise (· < ·):=by
 obtain⟨a,ha,a1,a2⟩:=dr hn (m+3) st k 0 (many:=4) (by decide) (by decide) (by decide);have M:∃z:Int,idxD st (.lst [.int 1,.int 3,.int 8,.int 15]) (.int a)=some (.int z)/\1<=z/\z<=15:=by
  have:a=0\/a=1\/a=2\/a=3:=by omega
  rcases this with rfl|rfl|rfl|rfl
  ·exact⟨1,rfl,by decide,by decide⟩
  ·exact⟨3,rfl,by decide,by decide⟩
  ·exact⟨8,rfl,by decide,by decide⟩
  ·exact⟨15,rfl,by decide,by decide⟩
 obtain⟨z,Z,q1,q2⟩:=M;have g:=qzb (st:=st) (ds:=[.int 1,.int 3,.int 8,.int 15]) rfl;obtain⟨F,st',h3,k',d,o,pl,rfl,rfl,Y,r2,L,U⟩:=qk9 (c:=callD fns (m+4)) (τ:=[some (scr ns),some (.int k),some (szD W H P),some (.int many),some (.int z),some (.loc st.length),some (.int 0),none]) (st:=st++[.lst true []]) (it:=.rng2 (.bin .Add (.var 1) (.lit (.int 1))) (.bin .Add (.bin .Add (.var 1) (.lit (.int 1))) (.var 3))) (s:=.rng (k+1) many.toNat) (ds:=(List.range many.toNat).map λ(i:Nat)=>D.int (k+1+i)) (t:=.var 7)
  (body:=[.set (.var 6) (.bin .Add (.bin .Add (.var 6) (.lit (.int 1))) (.call 38 [.var 0,.var 7,.lit (.int 25),.var 4])),.expr (.meth (.var 5) .append [.tup [.var 6,.call 48 [.var 0,.var 7,.var 2,.var 5]]])])
  (λi F st'=>i<=many.toNat/\∃(d:Int) (o:Option D) (pl:List (Int×D)),F=[some (scr ns),some (.int k),some (szD W H P),some (.int many),some (.int z),some (.loc st.length),some (.int d),o]/\st'=st++[.lst true (pl.map pD)]/\pl.length=i/\(0<=d/\d<=15*i)/\(∀p∈pl,DF W H P p.2/\1<=p.1/\p.1<=d)/\(pl.map (·.1)).Pairwise (· < ·))
  (by
   have e1:(RL (callD fns (m+4))).ev [some (scr ns),some (.int k),some (szD W H P),some (.int many),some (.int z),some (.loc st.length),some (.int 0),none] (st++[.lst true []]) (.bin .Add (.var 1) (.lit (.int 1)))=some (.int (k+1),st++[.lst true []]):=qzo (k:=m) 0 [] 4 (λq=>q) [] rfl;have e2:(RL (callD fns (m+4))).ev [some (scr ns),some (.int k),some (szD W H P),some (.int many),some (.int z),some (.loc st.length),some (.int 0),none] (st++[.lst true []]) (.bin .Add (.bin .Add (.var 1) (.lit (.int 1))) (.var 3))=some (.int (k+1+many),st++[.lst true []]):=qzo (k:=m) 0 [] 4 (λq=>q) [] rfl;show((RL (callD fns (m+4))).ev _ _ _).bind _=_;rw[e1];show((RL (callD fns (m+4))).ev _ _ _).bind _=_;rw[e2];show(if (big (k+1)||big (k+1+many))=true then none else some (Src.rng (k+1) (k+1+many - (k+1)).toNat,_))=_
   rw[Zs (by unfold big; simp; omega),show k+1+many - (k+1)=many by omega])
  (by simp[Src.size]) (λi F st' _=>qea _ _ _) ⟨Qz1 _,0,none,[],rfl,rfl,rfl,⟨by omega,by omega⟩,by simp,.nil⟩ (λi F st' x hx j=>by
   obtain⟨_,d,o,pl,rfl,rfl,Y,r2,L,U⟩:=j;rw[Qqf]at hx;obtain⟨i',J,rfl⟩:=Qqr.mp hx;have a0:i<many.toNat:=by
    have:=(Qqx.mp J).1;simpa using this
   rw[Qxf a0]at J;cases J;obtain⟨v,hv,v1,v2⟩:=dr hn (m+3) (st++[.lst true (pl.map pD)]) (k+1+(i:Nat)) 25 (many:=z) (by decide) (by decide) (by omega);obtain⟨f,hf,df⟩:=qlt hn w1 w2 h1 h2 p0 p1 m st (k+1+(i:Nat)) (pl:=pl) (λp j=>by have:=L p j; exact⟨this.1,this.2.1,by omega⟩) (by omega);have g0:=gl (st:=st) (c:=.lst true (pl.map pD));have O:(pl.map pD).length<lim:=by rw[Qqw]; unfold lim; omega
   refine⟨_,_,qqm (k:=m) 0 [38,48] 4 (λq=>_/\_/\_/\_/\_/\q) [.c (.int v,st++[.lst true (pl.map pD)]),.r (.lst true (pl.map pD)),.c (f,st++[.lst true (pl.map pD)]),.r (.lst true (pl.map pD)),.b true] (r:=(.nx [some (scr ns),some (.int k),some (szD W H P),some (.int many),some (.int z),some (.loc st.length),some (.int (d+1+v)),some (.int (k+1+(i:Nat)))],(st++[Cell.lst true (pl.map pD)]).set st.length (.lst true (pl.map pD++[pD (d+1+v,f)])))) ⟨hv,g0,hf,g0,Zp O,rfl⟩,by omega,d+1+v,some (.int (k+1+(i:Nat))),pl++[(d+1+v,f)],rfl,by rw[sl]; simp,by simp[Y],⟨by omega,by omega⟩,λp j=>?_,?_⟩
   ·rcases Qqi.mp j with j|j
    ·have:=L p j;exact⟨this.1,this.2.1,by omega⟩
    ·cases Qqa.mp j;exact⟨df,by simp only; omega,Int.le_refl _⟩
   ·rw[Qqp,Qzp];refine⟨U,by simp,λa ha b hb=>?_⟩;obtain⟨p,j,rfl⟩:=Qqy.mp ha;simp only[Qqd,Qxx,Qqa]at hb;have:=L p j
    omega)
 rw[Qqw,List.length_range]at Y r2;refine⟨pl,qzz (k:=m) 0 [38] 5 (λq=>_/\_/\_/\_/\q) [.l [.int 1,.int 3,.int 8,.int 15],.c (.int a,st),.i (.int z),.s (.nx [some (scr ns),some (.int k),some (szD W H P),some (.int many),some (.int z),some (.loc st.length),some (.int d),o],st++[.lst true (pl.map pD)])] ⟨g,ha,Z,h3,rfl⟩,by omega,λp j=>?_,U⟩;have:=L p j;exact⟨this.1,this.2.1,by omega⟩
end
theorem qak(xs:List Int):flats 9 (rowD xs)=true:=by
 induction xs with
 |nil=>rfl
 |cons a r j=>show(flat 9 (.int a)&&flats 9 (rowD r))=true; rw[j]; rfl
theorem any_i(xs:List Int)(n:Int):((rowD xs).any λy=>eqT y (.int n))=decide (n∈xs):=by
 induction xs with
 |nil=>rfl
 |cons a r j=>
  show((a==n)||(rowD r).any λy=>eqT y (.int n))=_;rw[j];rw[show(a==n)=decide (n=a) from by rw[Qx6,beq_iff_eq,decide_eq_true_iff]; exact eq_comm,<- Bool.decide_or];exact decide_eq_decide.mpr Qqv.symm
theorem in_i(st:Store)(xs:List Int)(n:Int):cmpD st .In (.int n) (.lst (rowD xs))=some (decide (n∈xs)):=by
 show(if flat 9 (.int n)&&flats 9 (rowD xs) then some ((rowD xs).any λy=>eqT y (.int n)) else none)=_;rw[qak,any_i]
 rfl
theorem nin_i(st:Store)(xs:List Int)(n:Int):cmpD st .NotIn (.int n) (.lst (rowD xs))=some (!decide (n∈xs)):=by
 show(inD st (.int n) (.lst (rowD xs))).map (!·)=_;have:inD st (.int n) (.lst (rowD xs))=some (decide (n∈xs)):=in_i st xs n;rw[this]
 rfl
theorem eqs_i(xs:List Int):eqTs (rowD xs) (rowD xs)=true:=by
 induction xs with
 |nil=>rfl
 |cons a r j=>show((a==a)&&eqTs (rowD r) (rowD r))=true; rw[j]; simp
theorem eq_i(st:Store)(xs:List Int):cmpD st .Eq (.lst (rowD xs)) (.lst (rowD xs))=some true:=by
 show(if flats 9 (rowD xs)&&flats 9 (rowD xs) then some (eqTs (rowD xs) (rowD xs)) else none)=_;rw[qak,eqs_i]
 rfl
theorem ne_i(st:Store)(xs:List Int):cmpD st .NotEq (.lst (rowD xs)) (.lst (rowD xs))=some false:=by
 have:=eq_i st xs;show(eqD st _ _).map (!·)=_;rw[show eqD st (.lst (rowD xs)) (.lst (rowD xs))=some true from this]
 rfl
noncomputable def gF(p:Int->Bool):D->Option D
 |.int n=>if p n then some (.int n) else none
 |_=>none
theorem gF_map(p:Int->Bool)(xs:List Int):(rowD xs).filterMap (gF p)=rowD (xs.filter p):=by
 induction xs with
 |nil=>rfl
 |cons a r j=>
  rw[show rowD (a::r)=.int a::rowD r from rfl,Qxq,show gF p (.int a)=if p a then some (.int a) else none from rfl,j]
  cases h:p a with
  |true=>simp[Qz3,h]
  |false=>simp[Qz3,h]
theorem qvk{c:CF}{τ:Sl}{st:Store}{it q:E}{sr:List (Option Nat)}(p:Int->Bool)(xs:List Int)(ys:D)(F:src (RL c) τ st it=some (.lst (.lst (rowD xs)),st))(J:inner sr τ=[none,some ys])(L:xs.length<1000)(z:∀n,(RL c).tst [some (.int n),some ys] st q=some (p n,st)):stepEv (RL c) τ st (.comp (.var 0) it (some q) (.var 0) sr)=some (.loc st.length,st++[.lst true (rowD (xs.filter p))]):=by
 have h:=qx4 (c:=c) (τ:=τ) (st:=st) (t:=.var 0) (it:=it) (test:=some q) (elt:=.var 0) (sr:=sr) (s:=.lst (.lst (rowD xs))) (ds:=rowD xs) (gF p) (λτ=>∃a,τ=[a,some ys]) F (λi=>rfl) rfl (by simp; unfold lim; omega) ⟨none,J⟩ (λτ d hd j=>by
  obtain⟨a,rfl⟩:=j;obtain⟨n,_,rfl⟩:=Qqy.mp hd
  exact⟨[some (.int n),some ys],turn_if rfl (z n) λ_=>qj1 _ _ _ _ _ rfl,some (.int n),rfl⟩)
 rw[gF_map]at h;exact h
theorem src_l{c:CF}{τ:Sl}{st:Store}{i:Nat}{xs:List D}(h:τ[i]?=some (some (.lst xs))):src (RL c) τ st (.var i)=some (.lst (.lst xs),st):=by
 have e:(RL c).ev τ st (.var i)=some (.lst xs,st):=qj1 c τ st (.var i) (.lst xs,st) (by show(match τ[i]? with|some (some d)=>some (d,st)|_=>none)=_; rw[h]);show((RL c).ev τ st (.var i)).bind _=_;rw[e]
 rfl
theorem qkq{R xs:List Int}(h:xs.Sublist R)(j:R.Nodup):xs=R.filter λn=>decide (n∈xs):=by
 induction h with
 |slnil=>rfl
 |@cons l1 F a h q=>
  rw[Qq5]at j;have L:a ∉ l1:=λz=>j.1 (h.subset z);rw[Qz3,Zs (by simpa using L)];exact q j.2
 |@cons_cons l1 F a h q=>
  rw[Qq5]at j;rw[Qz3,Zt (by simp)]
  congr 1
  conv=>lhs; rw[q j.2]
  refine List.filter_congr λx J=>?_;have:x≠a:=λz=>j.1 (z▸J);simp[this]
theorem qly{R a b:List Int}(F:a.Sublist R)(z:b.Sublist R)(j:R.Nodup):(a.filter λn=>decide (n∈b))=b.filter λn=>decide (n∈a):=by
 conv=>lhs; rw[qkq F j]
 conv=>rhs; rw[qkq z j]
 rw[List.filter_filter,List.filter_filter];refine List.filter_congr λx q=>?_
 by_cases h1:x∈a<;>by_cases h2:x∈b<;>simp[h1,h2,Qzd,q]
theorem qlw(m:Nat)(st:Store){R a b:List Int}(z:a.Sublist R)(j:b.Sublist R)(F:R.Nodup)(M:R.length<1000):callD fns (m+1) 50 [.lst (rowD a),.lst (rowD b)] st=some (.bl true,st):=by
 have L:=z.length_le;have J:=j.length_le;have t:∀(ys:List Int) n,(RL (callD fns m)).tst [some (.int n),some (.lst (rowD ys))] st (.cmp .In (.var 0) (.var 1))=some (decide (n∈ys),st):=λys n=>by
  cases hd:decide (n∈ys) with
  |true=>exact qzg (k:=m) 0 [] 0 (λq=>_/\q) [.b true] ⟨(in_i st ys n).trans (by rw[hd]),rfl⟩
  |false=>exact qzg (k:=m) 0 [] 0 (λq=>_/\q) [.b false] ⟨(in_i st ys n).trans (by rw[hd]),rfl⟩
 have c1:=qvk (c:=callD fns m) (τ:=[some (.lst (rowD a)),some (.lst (rowD b))]) (st:=st) (it:=.var 0) (q:=.cmp .In (.var 0) (.var 1)) (sr:=[none,some 1]) (λn=>decide (n∈b)) a (.lst (rowD b)) (src_l rfl) rfl (by omega) (t b);have c2:=qvk (c:=callD fns m) (τ:=[some (.lst (rowD a)),some (.lst (rowD b))]) (st:=st) (it:=.var 1) (q:=.cmp .In (.var 0) (.var 1)) (sr:=[none,some 0]) (λn=>decide (n∈a)) b (.lst (rowD a)) (src_l rfl) rfl (by omega) (t a);rw[<- qly z j F]at c2;generalize (a.filter λn=>decide (n∈b))=xs at c1 c2;exact qzz (k:=m) 0 [] 1 (λq=>_/\_/\_/\_/\_/\q) [.c (.loc st.length,st++[.lst true (rowD xs)]),.l (rowD xs),.c (.loc st.length,st++[.lst true (rowD xs)]),.l (rowD xs),.b true] ⟨c1,qzb (st:=st) (nlI xs),c2,qzb (st:=st) (nlI xs),eq_i st xs,rfl⟩
theorem qcq:∀{xs:List Int},xs.Pairwise (· <= ·)->sortInt xs=xs
 |[],_=>rfl
 |x::r,h=>by
  rw[Qze]at h;show insInt x (sortInt r)=_;rw[qcq h.2]
  cases r with
  |nil=>rfl
  |cons y s=>show(if x<=y then x::y::s else y::insInt x s)=_; rw[Zt (h.1 y (Qql ..))]
theorem asI:∀xs:List Int,asInts (rowD xs)=some xs
 |[]=>rfl
 |x::r=>by show(asInts (rowD r)).map (x::·)=_; rw[asI r]; rfl
theorem qcz(st:Store){xs:List Int}(h:xs.Pairwise (· <= ·))(j:xs.length<64):bfun st .sorted [.lst (rowD xs)]=some (.loc st.length,st++[.lst true (rowD xs)]):=by
 show(if 64<=(rowD xs).length then none else asInts (rowD xs)).map _=_;rw[Zs (by simp; omega),asI];show some (alloc st (.lst true ((sortInt xs).map .int)))=_;rw[qcq h]
 rfl
theorem DF.noLoc{W H P:Int}{f:D}(h:DF W H P f):M.noLoc f=true/\isNon f=false:=by
 cases h with
 |vein=>
  refine⟨?_,rfl⟩;rename_i j ps _ _ _ _ _ _ _;show(true&&(M.noLoc (.tup (j.map .int))&&(M.noLoc (.tup (ps.map cD))&&true)))=true;rw[qcs,qjv,nlI]
  rfl
 |join=>exact⟨rfl,rfl⟩
 |stake=>exact⟨rfl,rfl⟩
 |claim h _=>cases h<;>exact⟨rfl,rfl⟩
structure Ok (k:Nat) (d:Int) (vs:List (Int×D×List (Int×Int))) (jo:List (D×D)) (cs:List Cl) (ro:List Int) (rest:Store):Prop where
 I:Inv 1 rest cs
 hB:1<=rest.length
 R:RowI d cs ro
 cl:cs.length<=k
 rl:ro.length<=25*k
 dl:∀c∈cs,c.ds.length<=k
 vl:vs.length<=k
 vn:(vs.map (·.1)).Nodup
 vd:∀v∈vs,v.1<=d
 v16:∀v∈vs,v.2.2.length<=16
 jl:jo.length<=k
section
variable {W H P:Int}{T d day:Int}{jo:List (D×D)}{ro:List Int}{rest:Store}{cs:List Cl}{k:Nat}{vs:List (Int×D×List (Int×Int))}
theorem Ok.later(h:Ok k d vs jo cs ro rest)(hd:d<=day):Ok k day vs jo cs ro rest:=
 ⟨h.I,h.hB,h.R.later hd,h.cl,h.rl,h.dl,h.vl,h.vn,λv j=>by have:=h.vd v j; omega,h.v16,h.jl⟩
theorem qf4(m:Nat)(h:Ok k d vs jo cs ro rest)(hk:k<25){f:D}(hf:DF W H P f)(h1:1<=day)(h2:day<=400)(hd:d<day):
  ∃v a0 U q F j,callD fns (m+7) 30 [.loc 0,.int day,f] (FC (szD W H P) T d (voD vs) jo cs ro rest)=some (v,FC (szD W H P) T day (voD a0) U q F j)/\Ok (k+1) day a0 U q F j/\Op day cs ro q F/\j.take 1=rest.take 1:=by
 have hs:=hf.sound m (FC (szD W H P) T d (voD vs) jo cs ro rest);have ⟨I,hB,R,cl,rl,dl,vl,vn,vd,v16,jl⟩:=h;have M:∀{q F},Op day cs ro q F->(q.map (·.nm)).Nodup->RowI day q F/\q.length<=k+1/\F.length<=25*(k+1):=λ{q F} o n=>by
  obtain⟨_,b,c⟩:=qg1 o;exact⟨op_row I.nd n hd R o,by omega,by omega⟩
 cases hf with
 |vein hP a9 a6 a8 a4 a7 L=>
  rename_i ss ps;obtain⟨j,e,O,t,l⟩:=qgk (sz:=szD W H P) (T:=T) (d:=day) (jo:=jo) (ro:=ro) m I (.tup (ss.map .int)) ps vs (λv J=>by have:=vd v J; omega) (by omega) (by omega) (by omega);have o:Op day cs ro _ _:=.vein ps;obtain⟨a1,Z,Y⟩:=M o O.nd;refine⟨_,_,_,_,_,_,qx3 m h1 h2 hd hs e,⟨O,by omega,a1,Z,Y,λc L=>?_,by simp; omega,?_,λv J=>?_,λv J=>?_,by omega⟩,o,t⟩
  ·obtain⟨x,hx,rfl⟩:=Qqy.mp L;have:=dl x hx;have e:(vst day ps x).ds=x.ds:=by unfold vst; split<;>rfl
   rw[e]; omega
  ·rw[Qqp,Qzs];refine⟨vn,by simp,λa ha b hb z=>?_⟩;obtain⟨v,J,rfl⟩:=Qqy.mp ha;simp only[Qqd,Qxx,Qqa]at hb;have:=vd v J;omega
  ·rcases Qqi.mp J with J|J
   ·have:=vd v J; omega
   ·cases Qqa.mp J; exact Int.le_refl _
  ·rcases Qqi.mp J with J|J
   ·exact v16 v J
   ·cases Qqa.mp J; exact a4
 |join=>
  rename_i a b f _ _ _ _ _ _;obtain⟨w,U,e,l⟩:=qgv (sz:=szD W H P) (T:=T) (d:=day) (fo:=voD vs) (jo:=jo) (cs:=cs) (ro:=ro) (rest:=rest) (m+4) a b f (by omega);obtain⟨a1,Z,Y⟩:=M .same I.nd;exact⟨_,_,_,_,_,_,qx3 m h1 h2 hd hs e,⟨I,hB,a1,Z,Y,λc L=>by have:=dl c L; omega,by omega,vn,λv J=>by have:=vd v J; omega,v16,by omega⟩,.same,rfl⟩
 |stake=>
  rename_i o g _ _ _ _ _ _ _ _;obtain⟨q,F,j,e,O,op,t,l,ds⟩:=qec (sz:=szD W H P) (T:=T) (d:=day) (jo:=jo) (ro:=ro) m I hB o g vs vn (by omega) v16 (by omega) (λx hx=>by have:=R.le x hx; omega);obtain⟨a1,Z,Y⟩:=M op O.nd;refine⟨_,_,_,_,_,_,qx3 m h1 h2 hd hs e,⟨O,by omega,a1,Z,Y,λc L=>?_,by omega,vn,λv J=>by have:=vd v J; omega,v16,by omega⟩,op,t⟩;rcases ds c L with L|L
  ·have:=dl c L; omega
  ·omega
 |claim L a5=>
  obtain⟨w,q,F,j,e,O,op,t,l,ds⟩:=qdu (sz:=szD W H P) (T:=T) (d:=day) (fo:=voD vs) (jo:=jo) (ro:=ro) (m+1) I hB d day hd (by omega) (λc L=>by have:=dl c L; omega) R L;obtain⟨a1,Z,Y⟩:=M op O.nd;refine⟨_,_,_,_,_,_,qx3 m h1 h2 hd hs (qed (m+1) L e),⟨O,by omega,a1,Z,Y,λc L=>?_,by omega,vn,λv J=>by have:=vd v J; omega,v16,by omega⟩,op,t⟩;obtain⟨x,_,l2,hx⟩:=ds c L;have:=dl x hx;omega
end
theorem qvq{f:Sl->Store->M.S->Option (Out×Store)}:∀{a b:List M.S}{τ j:Sl}{st q:Store}{r:Out×Store},exs f a τ st=some (.nx j,q)->exs f b j q=some r->exs f (a++b) τ st=some r
 |[],b,τ,j,st,q,r,h,h2=>by cases h; exact h2
 |s::a,b,τ,j,st,q,r,h,h2=>by
  have h:(f τ st s).bind (λp=>match p.1 with|.nx τ'=>exs f a τ' p.2|o=>some (o,p.2))=some (.nx j,q):=h;show(f τ st s).bind (λp=>match p.1 with|.nx τ'=>exs f (a++b) τ' p.2|o=>some (o,p.2))=some r
  cases e:f τ st s with
  |none=>rw[e]at h; cases h
  |some p=>
   rw[e]at h;obtain⟨o,F⟩:=p
   cases o with
   |nx z=>exact qvq (a:=a) h h2
   |_=>cases h
theorem qg3:∀{a b:List Int},a.Nodup->(∀x∈a,x∈b)->a.length<=b.length
 |[],_,_,_=>Qz1 _
 |x::a,b,h,F=>by
  rw[Qq5]at h;have q:=F x (Qql ..);have:=qg3 (a:=a) (b:=b.erase x) h.2 λy j=>(List.mem_erase_of_ne λ(z:y=x)=>h.1 (z▸j)).mpr (F y (Qqh _ j));rw[List.length_erase_of_mem q]at this;have:=List.length_pos_of_mem q;simp only[Qqe];omega
theorem qc5(xs:List D)(y:D):atI (xs++[y]) (-1)=some y:=by
 unfold atI ixN;rw[Zs (by decide),Zt (by simp; omega)];simp only[oBs,Qqu,Qxj];rw[show(-1+((xs.length+1:Nat):Int)).toNat=xs.length by omega];simp
noncomputable abbrev nw(S:Store)(xs:List D):D×Store:=(.loc S.length,S++[.lst true xs])
noncomputable def lkD(rows:List (List Int)):Cell:=.lst true (rows.map λr=>.lst (rowD r))
theorem inv_hd{x y:Cell}{q:Store}{cs:List Cl}(I:Inv 1 (x::q) cs):Inv 1 (y::q) cs:=
 ⟨I.lo,λc z=>by
  have:=I.lo c z;obtain⟨j,F⟩:∃j,c.j=j+1:=⟨c.j - 1,by omega⟩
  have h:=I.at_ c z;rw[F]at h ⊢
  exact h,I.pw,I.ne,I.nd⟩
structure LI (k i:Nat) (d:Int) (vs:List (Int×D×List (Int×Int))) (jo:List (D×D)) (cs:List Cl) (ro:List Int) (r0:Store) (rows:List (List Int)) (gone:List Int):Prop where
 ok:Ok k d vs jo cs ro (lkD rows::r0)
 sub:∀r∈rows,r.Sublist ro
 gn:∀n∈gone,∃c∈cs,c.nm=n/\over d c
 rw_:rows.length<=i
 gl_:gone.length<=24*i
section
variable {ns:List Int}{W H P:Int}{T d:Int}{jo:List (D×D)}{ro:List Int}{r0:Store}{cs:List Cl}{k i:Nat}{vs:List (Int×D×List (Int×Int))}{rows:List (List Int)}{gone:List Int}{pl:List D}{f:D}{o9 o10:Option D}
theorem LI.rlen(L:LI k i d vs jo cs ro r0 rows gone):ro.length<=cs.length:=by
 have:=qg3 (b:=cs.map (·.nm)) L.ok.R.nd λn hn=>by
  obtain⟨c,j,rfl,_⟩:=L.ok.R.in1 n hn;exact Qqy.mpr ⟨c,j,rfl⟩
 simpa using this
noncomputable abbrev tl(ns:List Int)(W H P T:Int)(pl:List D)(gone:List Int)(d:Int)(f:D)(o9 o10:Option D):Sl:=[some (scr ns),some (szD W H P),some (.int T),some (.lst pl),some (.loc 0),some (.loc 8),some (.lst (rowD gone)),some (.int d),some f,o9,o10]
theorem stands{c:Cl}(q:(cs.map (·.nm)).Nodup)(F:c∈cs)(j:c.v≠none):stB cs d c.nm=true\/over d c:=by
 rw[qb7 q F];rcases qz0 c d with⟨e,z,_⟩|⟨e,_⟩|⟨e,z⟩|⟨e,z,_⟩
 ·exact absurd z j
 ·exact .inl (by rw[e]; rfl)
 ·exact .inr (.inl z)
 ·exact .inr (.inr z)
theorem qau{c:Cl}(z:(cs.map (·.nm)).Nodup)(F:c∈cs)(q:over d c):stB cs d c.nm=false:=by
 rw[qb7 z F];rcases qz0 c d with⟨e,_⟩|⟨e,_,j,J⟩|⟨e,_⟩|⟨e,_⟩
 ·rw[e]; rfl
 ·rcases q with h|h
  ·exact absurd j h
  ·omega
 ·rw[e]; rfl
 ·rw[e]; rfl
theorem partA(m:Nat)(L:LI k i d vs jo cs ro r0 rows gone)(hk:k<=24)(hi:i<=30):∃o10,exs (stepEx (RL (callD fns (m+7)))) [.set (.var 9) (.gc (.mcall 642 37 "standing" (.var 4) [])),.set (.var 10) (.gc (.comp (.var 0) (.var 9) none (.idx (.mcall 642 36 "claim" (.var 1) [.var 0]) (.lit (.int 3))) [none,some 4])),.ite (.or (.cmp .NotEq (.var 10) (.gc (.bcall .sorted [.var 10]))) (.bcall .any [.gc (.comp (.var 0) (.var 9) none (.cmp .In (.var 0) (.var 1)) [none,some 6])])) [.ret (.lit (.bl false))] []] (tl ns W H P T pl gone d f o9 o10') (FC (szD W H P) T d (voD vs) jo cs ro (lkD rows::r0))=some (.nx (tl ns W H P T pl gone d f (some (.lst (rowD (ro.filter (stB cs d))))) o10),FC (szD W H P) T d (voD vs) jo cs ro (lkD rows::r0)):=by
 have a0:=L.rlen;have a1:=L.ok.cl;have I:=L.ok.I;have R:=L.ok.R;have J:=qe6 (sz:=szD W H P) (T:=T) (d:=d) (fo:=voD vs) (jo:=jo) (m+4) I (λn hn=>by obtain⟨c,U,e,_⟩:=R.in1 n hn; exact⟨c,U,e⟩) (by omega);have M:((ro.filter (stB cs d)).map (vOf cs)).Pairwise (· <= ·):=R.so.sublist (Qjz.map _);have F:∀n∈ro.filter (stB cs d),n∈ro/\stB cs d n=true:=λn hn=>Qzd.mp hn;have O:(ro.filter (stB cs d)).length<=24:=by have:=Qz6 (stB cs d) ro; omega
 generalize ro.filter (stB cs d)=row at J M F O ⊢;generalize Z:FC (szD W H P) T d (voD vs) jo cs ro (lkD rows::r0)=S at J;have cl:∀n∈row,(RL (callD fns (m+7))).ev [some (.int n),some (.loc 0)] S (.idx (.mcall 642 36 "claim" (.var 1) [.var 0]) (.lit (.int 3)))=some (.int (vOf cs n),S):=λn hn=>by
  obtain⟨c,U,rfl,hv,_⟩:=R.in1 n (F n hn).1;have h:=qf8 (sz:=szD W H P) (T:=T) (d:=d) (fo:=voD vs) (jo:=jo) (ro:=ro) (m+5) I U;rw[hv]at h;rw[<- Z];exact qzo (k:=m) 9 [36] 7 (λq=>_/\q) [.c (.tup [.int c.o,rD c.g,.int c.la,.int (vOf cs c.nm),oD c.gv],FC (szD W H P) T d (voD vs) jo cs ro (lkD rows::r0))] ⟨h,rfl⟩
 have c1:=qjo (c:=callD fns (m+7)) (τ:=tl ns W H P T pl gone d f (some (.lst (rowD row))) o10') (st:=S) (i:=9) (q:=.lst (rowD row)) (sr:=[none,some 4]) (rst:=[some (.loc 0)]) row D.int (λn=>.int (vOf cs n)) rfl rfl (by unfold lim; omega) rfl cl;have e1:row.map (λn=>D.int (vOf cs n))=rowD (row.map (vOf cs)):=by unfold rowD; rw[Qzc]; rfl
 rw[e1]at c1;have so:=qcz S M (by rw[Qqw]; omega);have ne:=ne_i S (row.map (vOf cs));generalize row.map (vOf cs)=j at c1 so ne;have an:∀n∈row,(RL (callD fns (m+7))).ev [some (.int n),some (.lst (rowD gone))] S (.cmp .In (.var 0) (.var 1))=some (.bl false,S):=λn hn=>by
  have:decide (n∈gone)=false:=Zr λz=>by
   obtain⟨c,U,rfl,ho⟩:=L.gn n z;have:=(F _ hn).2;rw[qau I.nd U ho]at this;cases this
  exact qzo (k:=m) 0 [] 7 (λq=>_/\q) [.b false] ⟨(in_i S gone n).trans (by rw[this]),rfl⟩
 have c2:=qjo (c:=callD fns (m+7)) (τ:=tl ns W H P T pl gone d f (some (.lst (rowD row))) (some (.lst (rowD j)))) (st:=S) (i:=9) (q:=.lst (rowD row)) (sr:=[none,some 6]) (rst:=[some (.lst (rowD gone))]) row D.int (λ_=>.bl false) rfl rfl (by unfold lim; omega) rfl an;have e2:row.map (λ_=>D.bl false)=(row.map λ_=>false).map .bl:=by rw[Qzc]; rfl
 rw[e2]at c2;have Y:bfun S .any [.lst ((row.map λ_=>false).map .bl)]=some (.bl false,S):=by
  show(asBools _).map _=_;rw[asB];exact congrArg (λb=>some (D.bl b,_)) (by simp)
 generalize (row.map λ_=>false)=bs at c2 Y;subst Z;have g1:=qzb (st:=FC (szD W H P) T d (voD vs) jo cs ro (lkD rows::r0)) (nlI row);have g2:=qzb (st:=FC (szD W H P) T d (voD vs) jo cs ro (lkD rows::r0)) (nlI j);have g3:=qzb (st:=FC (szD W H P) T d (voD vs) jo cs ro (lkD rows::r0)) (nlB bs);exact⟨some (.lst (rowD j)),qqd (k:=m) 9 [36,37] 7 (λq=>_/\_/\_/\_/\_/\_/\_/\_/\_/\_/\q) [.c (nw (FC (szD W H P) T d (voD vs) jo cs ro (lkD rows::r0)) (rowD row)),.l (rowD row),.c (nw (FC (szD W H P) T d (voD vs) jo cs ro (lkD rows::r0)) (rowD j)),.l (rowD j),.c (nw (FC (szD W H P) T d (voD vs) jo cs ro (lkD rows::r0)) (rowD j)),.l (rowD j),.b false,.c (nw (FC (szD W H P) T d (voD vs) jo cs ro (lkD rows::r0)) (bs.map .bl)),.l (bs.map .bl),.c (.bl false,FC (szD W H P) T d (voD vs) jo cs ro (lkD rows::r0))] ⟨J,g1,c1,g2,so,g2,ne,c2,g3,Y,rfl⟩⟩
end
section
variable {ns:List Int}{W H P:Int}{T d:Int}{jo:List (D×D)}{ro:List Int}{r0:Store}{cs:List Cl}{k i:Nat}{vs:List (Int×D×List (Int×Int))}{rows:List (List Int)}{gone row:List Int}{pl:List D}{f:D}{o9 o10:Option D}
theorem partB(m:Nat)(L:LI k i d vs jo cs ro r0 rows gone)(hk:k<=24)(hi:i<=30)(J:row=ro.filter (stB cs d)):∃gone',exs (stepEx (RL (callD fns (m+7)))) [.ite (.cmp .Gt (.bcall .len [.var 5]) (.lit (.int 0))) [.set (.var 6) (.gc (.bin .Add (.var 6) (.gc (.comp (.var 0) (.idx (.var 5) (.neg (.lit (.int 1)))) (some (.cmp .NotIn (.var 0) (.var 1))) (.var 0) [none,some 9]))))] []] (tl ns W H P T pl gone d f (some (.lst (rowD row))) o10) (FC (szD W H P) T d (voD vs) jo cs ro (lkD rows::r0))=some (.nx (tl ns W H P T pl gone' d f (some (.lst (rowD row))) o10),FC (szD W H P) T d (voD vs) jo cs ro (lkD rows::r0))/\LI k (i+1) d vs jo cs ro r0 rows gone':=by
 have a0:=L.rlen;have a2:=L.ok.cl;have I:=L.ok.I;have R:=L.ok.R;have g_:=L.gl_;have r_:=L.rw_;rcases List.eq_nil_or_concat rows with rfl|⟨F,la,rfl⟩
 ·exact⟨gone,qqd (k:=m) 9 [] 7 (λq=>q) [.k] rfl,L.ok,L.sub,L.gn,by omega,by omega⟩
 ·rw[List.concat_eq_append]at *;have j:=L.sub la (by simp);have a1:=j.length_le;have lst:∀n∈la.filter (λn=>!decide (n∈row)),∃c∈cs,c.nm=n/\over d c:=λn hn=>by
   obtain⟨h1,h2⟩:=Qzd.mp hn;have U:=j.subset h1;obtain⟨c,Y,rfl,hv,_⟩:=R.in1 n U;refine⟨c,Y,rfl,(stands I.nd Y (by rw[hv]; simp)).resolve_left λz=>?_⟩;rw[J]at h2;simp[Qzd,U,z]at h2
  have M:(la.filter (λn=>!decide (n∈row))).length<=24:=by have:=Qz6 (λn=>!decide (n∈row)) la; omega
  generalize Z:FC (szD W H P) T d (voD vs) jo cs ro (lkD (F++[la])::r0)=S;have O:idxD S (.loc 8) (.int (-1))=some (.lst (rowD la)):=by
   rw[<- Z];show atI ((F++[la]).map λr=>D.lst (rowD r)) (-1)=_;rw[Qqp];exact qc5 _ _
  have he:(RL (callD fns (m+7))).ev (tl ns W H P T pl gone d f (some (.lst (rowD row))) o10) S (.idx (.var 5) (.neg (.lit (.int 1))))=some (.lst (rowD la),S):=qzo (k:=m) 0 [] 7 (λq=>_/\q) [.i (.lst (rowD la))] ⟨O,rfl⟩;have t:∀n,(RL (callD fns (m+7))).tst [some (.int n),some (.lst (rowD row))] S (.cmp .NotIn (.var 0) (.var 1))=some (!decide (n∈row),S):=λn=>by
   cases hd:!decide (n∈row) with
   |true=>exact qzg (k:=m) 0 [] 7 (λq=>_/\q) [.b true] ⟨(nin_i S row n).trans (by rw[hd]),rfl⟩
   |false=>exact qzg (k:=m) 0 [] 7 (λq=>_/\q) [.b false] ⟨(nin_i S row n).trans (by rw[hd]),rfl⟩
  have c1:=qvk (c:=callD fns (m+7)) (τ:=tl ns W H P T pl gone d f (some (.lst (rowD row))) o10) (st:=S) (it:=.idx (.var 5) (.neg (.lit (.int 1)))) (q:=.cmp .NotIn (.var 0) (.var 1)) (sr:=[none,some 9]) (λn=>!decide (n∈row)) la (.lst (rowD row)) (by show((RL (callD fns (m+7))).ev _ _ _).bind _=_; rw[he]; rfl) rfl (by omega) t;generalize (la.filter λn=>!decide (n∈row))=new at c1 lst M;have g1:=qzb (st:=S) (nlI new);have g2:=qzb (st:=S) (ds:=rowD gone++rowD new) (by rw[show rowD gone++rowD new=rowD (gone++new) from (Qqp ..).symm]; exact nlI _);have hb:decide (lim<(rowD gone).length+(rowD new).length)=false:=Zr (by unfold rowD; rw[Qqw,Qqw]; unfold lim; omega);have hp:decide (((((F++[la]).map λr=>D.lst (rowD r)).length:Nat):Int) > 0)=true:=Zp (by simp);refine⟨gone++new,?_,L.ok,L.sub,λn hn=>?_,by omega,by rw[Qqu]; omega⟩
  ·subst Z;have h:=qqd (k:=m) (fns:=fns) (ss:=[.ite (.cmp .Gt (.bcall .len [.var 5]) (.lit (.int 0))) [.set (.var 6) (.gc (.bin .Add (.var 6) (.gc (.comp (.var 0) (.idx (.var 5) (.neg (.lit (.int 1)))) (some (.cmp .NotIn (.var 0) (.var 1))) (.var 0) [none,some 9]))))] []]) (τ:=tl ns W H P T pl gone d f (some (.lst (rowD row))) o10) (st:=FC (szD W H P) T d (voD vs) jo cs ro (lkD (F++[la])::r0)) (r:=(.nx [some (scr ns),some (szD W H P),some (.int T),some (.lst pl),some (.loc 0),some (.loc 8),some (.lst (rowD gone++rowD new)),some (.int d),some f,some (.lst (rowD row)),o10],FC (szD W H P) T d (voD vs) jo cs ro (lkD (F++[la])::r0))) 9 [] 7 (λq=>_/\_/\_/\_/\_/\q) [.b true,.c (nw (FC (szD W H P) T d (voD vs) jo cs ro (lkD (F++[la])::r0)) (rowD new)),.l (rowD new),.b false,.l (rowD gone++rowD new)] ⟨hp,c1,g1,hb,g2,rfl⟩;rw[show tl ns W H P T pl (gone++new) d f (some (.lst (rowD row))) o10=[some (scr ns),some (szD W H P),some (.int T),some (.lst pl),some (.loc 0),some (.loc 8),some (.lst (rowD gone++rowD new)),some (.int d),some f,some (.lst (rowD row)),o10] from by unfold tl rowD; rw[Qqp]];exact h
  ·rcases Qqi.mp hn with h|h
   ·exact L.gn n h
   ·exact lst n h
theorem partC(m:Nat)(L:LI k (i+1) d vs jo cs ro r0 rows gone)(z:rows.length<=i)(hk:k<=24)(hi:i<=30)(j:row.Sublist ro):exs (stepEx (RL (callD fns (m+7)))) [.ite (.not (.bcall .all [.gc (.comp (.var 0) (.var 5) none (.call 50 [.var 0,.var 1]) [none,some 9])])) [.ret (.lit (.bl false))] [],.expr (.meth (.var 5) .append [.var 9])] (tl ns W H P T pl gone d f (some (.lst (rowD row))) o10) (FC (szD W H P) T d (voD vs) jo cs ro (lkD rows::r0))=some (.nx (tl ns W H P T pl gone d f (some (.lst (rowD row))) o10),FC (szD W H P) T d (voD vs) jo cs ro (lkD (rows++[row])::r0))/\LI k (i+1) d vs jo cs ro r0 (rows++[row]) gone:=by
 have O:=L.rlen;have U:=L.ok.cl;have R:=L.ok.R;generalize J:FC (szD W H P) T d (voD vs) jo cs ro (lkD rows::r0)=S;have M:∀r∈rows,(RL (callD fns (m+7))).ev [some (.lst (rowD r)),some (.lst (rowD row))] S (.call 50 [.var 0,.var 1])=some (.bl true,S):=λr z=>
  qzo (k:=m) 0 [50] 7 (λq=>_/\q) [.c (.bl true,S)] ⟨qlw (m+6) S (L.sub r z) j R.nd (by omega),rfl⟩
 have c1:=qjo (c:=callD fns (m+7)) (τ:=tl ns W H P T pl gone d f (some (.lst (rowD row))) o10) (st:=S) (i:=5) (q:=.loc 8) (elt:=.call 50 [.var 0,.var 1]) (sr:=[none,some 9]) (rst:=[some (.lst (rowD row))]) rows (λr=>.lst (rowD r)) (λ_=>.bl true) rfl (by rw[<- J]; rfl) (by unfold lim; omega) rfl M;have e2:rows.map (λ_=>D.bl true)=(rows.map λ_=>true).map .bl:=by rw[Qzc]; rfl
 rw[e2]at c1;have F:bfun S .all [.lst ((rows.map λ_=>true).map .bl)]=some (.bl true,S):=by
  show(asBools _).map _=_;rw[asB];exact congrArg (λb=>some (D.bl b,_)) (by simp)
 generalize (rows.map λ_=>true)=bs at c1 F;have Z:=qzb (st:=S) (nlB bs);have Y:decide ((rows.map λr=>D.lst (rowD r)).length<lim)=true:=Zp (by rw[Qqw]; unfold lim; omega);subst J;have h:=qqd (k:=m) (fns:=fns) (ss:=[.ite (.not (.bcall .all [.gc (.comp (.var 0) (.var 5) none (.call 50 [.var 0,.var 1]) [none,some 9])])) [.ret (.lit (.bl false))] [],.expr (.meth (.var 5) .append [.var 9])]) (τ:=tl ns W H P T pl gone d f (some (.lst (rowD row))) o10) (st:=FC (szD W H P) T d (voD vs) jo cs ro (lkD rows::r0)) (r:=(.nx (tl ns W H P T pl gone d f (some (.lst (rowD row))) o10),FC (szD W H P) T d (voD vs) jo cs ro (.lst true ((rows.map λr=>.lst (rowD r))++[.lst (rowD row)])::r0))) 9 [50] 7 (λq=>_/\_/\_/\_/\q) [.c (nw (FC (szD W H P) T d (voD vs) jo cs ro (lkD rows::r0)) (bs.map .bl)),.l (bs.map .bl),.c (.bl true,FC (szD W H P) T d (voD vs) jo cs ro (lkD rows::r0)),.b true] ⟨c1,Z,F,Y,rfl⟩;have e:lkD (rows++[row])=.lst true ((rows.map λr=>.lst (rowD r))++[.lst (rowD row)]):=by unfold lkD; rw[Qqp]; rfl
 have ⟨⟨I,hB,R,cl,rl,dl,vl,vn,vd,v16,jl⟩,sub,gn,rw_,gl_⟩:=L;refine⟨by rw[e]; exact h,⟨inv_hd I,by simp,R,cl,rl,dl,vl,vn,vd,v16,jl⟩,λr z=>?_,gn,by simp; omega,gl_⟩;rcases Qqi.mp z with h|h
 ·exact sub r h
 ·cases Qqa.mp h; exact j
end
theorem qkw{d day:Int}{c:Cl}(h:over d c)(hd:d<=day):over day c:=h.imp id λz=>by omega
section
variable {ns:List Int}{W H P:Int}{T d day:Int}{jo:List (D×D)}{ro:List Int}{r0:Store}{cs:List Cl}{k i:Nat}{vs:List (Int×D×List (Int×Int))}{rows:List (List Int)}{gone row:List Int}{pl:List D}{f:D}{o9 o10:Option D}
noncomputable def body:List M.S:=[.ite (.cmp .Is (.var 8) (.lit .non)) [.expr (.mcall 642 35 "pass_to" (.var 4) [.var 7])] [.expr (.mcall 642 30 "enter" (.var 4) [.var 7,.var 8])],.set (.var 9) (.gc (.mcall 642 37 "standing" (.var 4) [])),.set (.var 10) (.gc (.comp (.var 0) (.var 9) none (.idx (.mcall 642 36 "claim" (.var 1) [.var 0]) (.lit (.int 3))) [none,some 4])),.ite (.or (.cmp .NotEq (.var 10) (.gc (.bcall .sorted [.var 10]))) (.bcall .any [.gc (.comp (.var 0) (.var 9) none (.cmp .In (.var 0) (.var 1)) [none,some 6])])) [.ret (.lit (.bl false))] [],.ite (.cmp .Gt (.bcall .len [.var 5]) (.lit (.int 0))) [.set (.var 6) (.gc (.bin .Add (.var 6) (.gc (.comp (.var 0) (.idx (.var 5) (.neg (.lit (.int 1)))) (some (.cmp .NotIn (.var 0) (.var 1))) (.var 0) [none,some 9]))))] [],.ite (.not (.bcall .all [.gc (.comp (.var 0) (.var 5) none (.call 50 [.var 0,.var 1]) [none,some 9])])) [.ret (.lit (.bl false))] [],.expr (.meth (.var 5) .append [.var 9])]
theorem qe5(m:Nat)(L:LI k i d vs jo cs ro r0 rows gone)(hk:k<=24)(hf:(k<24/\DF W H P f)\/f=.non)(h1:1<=day)(h2:day<=400)(hd:d<day):
  ∃Z j M O F r0',Z<=24/\exs (stepEx (RL (callD fns (m+7)))) [.ite (.cmp .Is (.var 8) (.lit .non)) [.expr (.mcall 642 35 "pass_to" (.var 4) [.var 7])] [.expr (.mcall 642 30 "enter" (.var 4) [.var 7,.var 8])]] (tl ns W H P T pl gone day f o9 o10) (FC (szD W H P) T d (voD vs) jo cs ro (lkD rows::r0))=some (.nx (tl ns W H P T pl gone day f o9 o10),FC (szD W H P) T day (voD j) M O F (lkD rows::r0'))/\LI Z i day j M O F r0' rows gone/\(f=.non->Z=k)/\Z<=k+1:=by
 rcases hf with⟨a1,hf⟩|rfl
 ·obtain⟨v,j,M,O,F,J,e,ok,op,tk⟩:=qf4 (T:=T) m L.ok (by omega) hf h1 h2 hd;have U:∃r0',J=lkD rows::r0':=by
   cases J with
   |nil=>cases tk
   |cons x r=>cases tk; exact⟨r,rfl⟩
  obtain⟨r0',rfl⟩:=U;have Y:=hf.noLoc.2;refine⟨k+1,j,M,O,F,r0',by omega,qqd (k:=m) 9 [30,35] 7 (λq=>_/\_/\q) [.b false,.c (v,FC (szD W H P) T day (voD j) M O F (lkD rows::r0'))] ⟨Y,e,rfl⟩,⟨ok,λr hr=>(L.sub r hr).trans (qcm op),λn hn=>?_,L.rw_,L.gl_⟩,λz=>?_,by omega⟩
  ·obtain⟨c,hc,rfl,ho⟩:=L.gn n hn;obtain⟨c1,a0,e,_,h⟩:=qg2 L.ok.I.nd op c hc;exact⟨c1,a0,e,h (qkw ho (by omega))⟩
  ·rw[z]at Y; cases Y
 ·have e:=qir (sz:=szD W H P) (T:=T) (d:=d) (fo:=voD vs) (jo:=jo) (cs:=cs) (ro:=ro) (rest:=lkD rows::r0) (m+4) h1 h2 (show d<=day by omega);refine⟨k,vs,jo,cs,ro,r0,hk,qqd (k:=m) 9 [30,35] 7 (λq=>_/\q) [.k,.c (.non,FC (szD W H P) T day (voD vs) jo cs ro (lkD rows::r0))] ⟨e,rfl⟩,⟨L.ok.later (by omega),L.sub,λn hn=>?_,L.rw_,L.gl_⟩,λ_=>rfl,by omega⟩;obtain⟨c,hc,e,ho⟩:=L.gn n hn;exact⟨c,hc,e,qkw ho (by omega)⟩
theorem qhf(m:Nat)(L:LI k i d vs jo cs ro r0 rows gone)(hk:k<=24)(hi:i<=30)(hf:(k<24/\DF W H P f)\/f=.non)(h1:1<=day)(h2:day<=400)(hd:d<day):
  ∃Z F O U J M q j a0 Y,Z<=24/\(RL (callD fns (m+7))).ex (tl ns W H P T pl gone day f o9 o10) (FC (szD W H P) T d (voD vs) jo cs ro (lkD rows::r0)) body=some (.nx (tl ns W H P T pl j day f a0 Y),FC (szD W H P) T day (voD F) O U J (lkD q::M))/\LI Z (i+1) day F O U J M q j/\Z<=k+1:=by
 obtain⟨Z,F,O,U,J,M,z,e1,L1,_,a1⟩:=qe5 (ns:=ns) (T:=T) (pl:=pl) (o9:=o9) (o10:=o10) m L hk hf h1 h2 hd;obtain⟨o,e2⟩:=partA (ns:=ns) (W:=W) (H:=H) (P:=P) (T:=T) (pl:=pl) (f:=f) (o9:=o9) (o10':=o10) m L1 z hi;obtain⟨j,e3,L3⟩:=partB (ns:=ns) (W:=W) (H:=H) (P:=P) (T:=T) (pl:=pl) (f:=f) (o10:=o) m L1 z hi rfl;obtain⟨e4,L4⟩:=partC (ns:=ns) (W:=W) (H:=H) (P:=P) (T:=T) (pl:=pl) (f:=f) (o10:=o) m L3 L1.rw_ z hi Qjz;exact⟨_,_,_,_,_,_,_,_,_,_,z,qiq _ _ _ _ _ (qvq (b:=_) e1 (qvq e2 (qvq e3 e4))),L4,a1⟩
end
section
variable {ns:List Int}{W H P:Int}{T:Int}{pl:List D}{it:E}
theorem ql4(m:Nat)(j:List (Int×D))(hl:j.length<=30)(hf:∀i p,j[i]?=some p->(i<24/\DF W H P p.2)\/p.2=.non)(hd:∀p∈j,1<=p.1/\p.1<=400)(hp:(j.map (·.1)).Pairwise (· < ·))
  (hs:src (RL (callD fns (m+7))) [some (scr ns),some (szD W H P),some (.int T),some (.lst pl),some (.loc 0),some (.loc 8),some (.lst []),none,none,none,none] (FC (szD W H P) T 0 (voD []) [] [] [] [lkD []]) it=some (.lst (.lst (j.map pD)),FC (szD W H P) T 0 (voD []) [] [] [] [lkD []])) :
  ∃F st',stepEx (RL (callD fns (m+7))) [some (scr ns),some (szD W H P),some (.int T),some (.lst pl),some (.loc 0),some (.loc 8),some (.lst []),none,none,none,none] (FC (szD W H P) T 0 (voD []) [] [] [] [lkD []]) (.forr (.tup [7,8]) it body)=some (.nx F,st'):=by
 obtain⟨F,st',h,_⟩:=qk9 (c:=callD fns (m+7)) (t:=.tup [7,8]) (it:=it) (body:=body) (s:=.lst (.lst (j.map pD))) (ds:=j.map pD)
  (λi F st'=>∃k d vs jo cs ro r0 rows gone o7 o8 o9 o10,F=[some (scr ns),some (szD W H P),some (.int T),some (.lst pl),some (.loc 0),some (.loc 8),some (.lst (rowD gone)),o7,o8,o9,o10]/\st'=FC (szD W H P) T d (voD vs) jo cs ro (lkD rows::r0)/\LI k i d vs jo cs ro r0 rows gone/\k<=24/\k<=i/\∀p∈j.drop i,d<p.1)
  hs rfl (λi F st' _=>rfl)
  ⟨0,0,[],[],[],[],[],[],[],none,none,none,none,rfl,rfl,⟨⟨⟨by simp,by simp,.nil,by simp,.nil⟩,by simp,⟨.nil,by simp,by simp,.nil,by simp⟩,by simp,by simp,by simp,by simp,.nil,by simp,by simp,by simp⟩,by simp,by simp,by simp,by simp⟩,by decide,by decide,λp a5=>by have:=hd p a5; omega⟩
  (λi F st' x hx hP=>by
   obtain⟨k,d,vs,jo,cs,ro,r0,rows,gone,o7,o8,o9,o10,rfl,rfl,L,hk,a9,a7⟩:=hP;rw[Qqf]at hx;obtain⟨p,J,rfl⟩:=Qqr.mp hx;have a6:=(Qqx.mp J).1;have Z:j.drop i=p::j.drop (i+1):=by
    rw[Qjh a6,(Qqx.mp J).2]
   have Y:=hd p (Qq1 J);obtain⟨k',a0,a4,a8,a1,a2,M,O,a3,U,h1,h2,h3,h4⟩:=qhf (ns:=ns) (T:=T) (pl:=pl) (f:=p.2) (day:=p.1) (o9:=o9) (o10:=o10) m L hk (by omega) ((hf i p J).imp (λz=>⟨by omega,z.2⟩) id) Y.1 Y.2 (a7 p (by rw[Z]; exact Qql ..));refine⟨_,_,h2,k',p.1,a0,a4,a8,a1,a2,M,O,some (.int p.1),some p.2,a3,U,rfl,rfl,h3,h1,by omega,λq hq=>?_⟩;have h5:((j.drop i).map (·.1)).Pairwise (· < ·):=hp.sublist ((List.drop_sublist i j).map _);rw[Z,Qqd,Qze]at h5
   exact h5.1 q.1 (Qqy.mpr ⟨q,hq,rfl⟩))
 exact⟨F,st',h⟩
theorem qlm(m:Nat)(z:1<=W)(j:W<=24)(O:1<=H)(M:H<=24)(p0:0<=P)(L:P<=12)(J:1<=T)(F:T<=400):callD fns (m+3) 29 [.loc 0,.int W,.int H,.int P,.int T] [.obj 642 []]=some (.non,FC (szD W H P) T 0 (voD []) [] [] [] []):=
 qzz (k:=m) 9 [] 3 (λq=>_/\_/\_/\_/\_/\_/\_/\_/\q) [.b true,.b true,.b true,.b true,.b true,.b true,.b true,.b true] ⟨Zp z,Zp j,Zp O,Zp M,Zp p0,Zp L,Zp J,Zp F,rfl⟩
theorem pl_nl{pl:List (Int×D)}(h:∀p∈pl,DF W H P p.2):noLocs (pl.map pD)=true:=by
 induction pl with
 |nil=>rfl
 |cons p r j=>
  show((true&&(M.noLoc p.2&&true))&&noLocs (r.map pD))=true;rw[(h p (Qql ..)).noLoc.1,j λq z=>h q (Qqh _ z)]
  rfl
end
theorem law_ok(m:Nat)(ns:List Int)(L:ns.length<=63):∃st',callD fns (m+8) 51 [scr ns] []=some (.bl true,st'):=by
 obtain⟨W,H,P,Y,w1,w2,h1,h2,p0,p1⟩:=qh5 L (m+5) [] 0;obtain⟨T,U,t1,t2⟩:=qhs L (m+5) [] 0;obtain⟨v,hv,v1,v2⟩:=dr L (m+6) [] 0 20 (many:=22) (by decide) (by decide) (by decide);obtain⟨pl,Z,F,z,J⟩:=qie L w1 w2 h1 h2 p0 p1 (m+2) [] 1 (many:=3+v) (by decide) (by decide) (by omega) (by omega);have gp:=qzb (st:=[]) (pl_nl (W:=W) (H:=H) (P:=P) λp j=>(z p j).1);have hi:=qlm (m+4) w1 w2 h1 h2 p0 p1 t1 t2;rcases List.eq_nil_or_concat pl with rfl|⟨ps,la,rfl⟩
 ·simp only[Qxg]at F; omega
 rw[List.concat_eq_append]at *;have a1:=z la (by simp);have hx:∀st,idxD st (.lst ((ps++[la]).map pD)) (.int (-1))=some (pD la):=λst=>by
  show atI ((ps++[la]).map pD) (-1)=_;rw[Qqp];exact qc5 _ _
 generalize hS:FC (szD W H P) T 0 (voD []) [] [] [] [lkD []]=S;have lt:∀k:Int,k<=5->decide (la.1+2+k*3<400)=true:=λk hk=>Zp (by omega);have l0:=lt 0 (by decide);have l1:=lt 1 (by decide);have l2:=lt 2 (by decide);have l3:=lt 3 (by decide);have l4:=lt 4 (by decide);have l5:=lt 5 (by decide);have x:=hx S;have gt:=qzb (st:=S) (ds:=([(la.1+2+0*3,D.non),(la.1+2+1*3,D.non),(la.1+2+2*3,D.non),(la.1+2+3*3,D.non),(la.1+2+4*3,D.non),(la.1+2+5*3,D.non)]:List (Int×D)).map pD) rfl
 have ga:=qzb (st:=S) (ds:=(ps++[la]).map pD++([(la.1+2+0*3,D.non),(la.1+2+1*3,D.non),(la.1+2+2*3,D.non),(la.1+2+3*3,D.non),(la.1+2+4*3,D.non),(la.1+2+5*3,D.non)]:List (Int×D)).map pD) (by
  have h:=pl_nl (W:=W) (H:=H) (P:=P) λp j=>(z p j).1;generalize (ps++[la]).map pD=xs at h
  induction xs with
  |nil=>rfl
  |cons y r ih=>
   have h:(M.noLoc y&&noLocs r)=true:=h;rw[Qqc]at h;show(M.noLoc y&&noLocs (r++_))=true;rw[h.1,ih h.2]
   rfl)
 have hb:decide (lim<((ps++[la]).map pD).length+(([(la.1+2+0*3,D.non),(la.1+2+1*3,D.non),(la.1+2+2*3,D.non),(la.1+2+3*3,D.non),(la.1+2+4*3,D.non),(la.1+2+5*3,D.non)]:List (Int×D)).map pD).length)=false:=Zr (by rw[Qqw]; simp only[Qqd,Qxx,Qqe,Qxg]; unfold lim; omega);have ev:=qzo (k:=m) (fns:=fns) (τ:=[some (scr ns),some (szD W H P),some (.int T),some (.lst ((ps++[la]).map pD)),some (.loc 0),some (.loc 8),some (.lst []),none,none,none,none]) (st:=S) (e:=.gc (.bin .Add (.var 3) (.gc (.comp (.var 0) (.rng1 (.lit (.int 6))) none (.tup [.bcall .min [.lit (.int 400),.bin .Add (.bin .Add (.idx (.idx (.var 1) (.neg (.lit (.int 1)))) (.lit (.int 0))) (.lit (.int 2))) (.bin .Mult (.var 0) (.lit (.int 3)))],.lit .non]) [none,some 3])))) (r:=(.lst ((ps++[la]).map pD++([(la.1+2+0*3,D.non),(la.1+2+1*3,D.non),(la.1+2+2*3,D.non),(la.1+2+3*3,D.non),(la.1+2+4*3,D.non),(la.1+2+5*3,D.non)]:List (Int×D)).map pD),S)) 0 [] 7 (λq=>_/\_/\_/\_/\_/\_/\_/\_/\_/\_/\_/\_/\_/\_/\_/\q) [.i (pD la),.k,.b true,.i (pD la),.k,.b true,.i (pD la),.k,.b true,.i (pD la),.k,.b true,.i (pD la),.k,.b true,.i (pD la),.k,.b true,.l (([(la.1+2+0*3,D.non),(la.1+2+1*3,D.non),(la.1+2+2*3,D.non),(la.1+2+3*3,D.non),(la.1+2+4*3,D.non),(la.1+2+5*3,D.non)]:List (Int×D)).map pD),.b false,.l ((ps++[la]).map pD++([(la.1+2+0*3,D.non),(la.1+2+1*3,D.non),(la.1+2+2*3,D.non),(la.1+2+3*3,D.non),(la.1+2+4*3,D.non),(la.1+2+5*3,D.non)]:List (Int×D)).map pD)] ⟨x,l0,x,l1,x,l2,x,l3,x,l4,x,l5,gt,hb,ga,rfl⟩;have hs:src (RL (callD fns (m+7))) [some (scr ns),some (szD W H P),some (.int T),some (.lst ((ps++[la]).map pD)),some (.loc 0),some (.loc 8),some (.lst []),none,none,none,none] S (.gc (.bin .Add (.var 3) (.gc (.comp (.var 0) (.rng1 (.lit (.int 6))) none (.tup [.bcall .min [.lit (.int 400),.bin .Add (.bin .Add (.idx (.idx (.var 1) (.neg (.lit (.int 1)))) (.lit (.int 0))) (.lit (.int 2))) (.bin .Mult (.var 0) (.lit (.int 3)))],.lit .non]) [none,some 3]))))=some (.lst (.lst (((ps++[la])++[(la.1+2+0*3,D.non),(la.1+2+1*3,D.non),(la.1+2+2*3,D.non),(la.1+2+3*3,D.non),(la.1+2+4*3,D.non),(la.1+2+5*3,D.non)]).map pD)),S):=by
  rw[Qqp (l₁:=ps++[la])];show((RL (callD fns (m+7))).ev _ _ _).bind _=_;rw[ev]
  rfl
 subst hS;have g0:=qzb (st:=FC (szD W H P) T 0 (voD []) [] [] [] [lkD []]) (ds:=[]) rfl
 obtain⟨O,st',a0⟩:=ql4 m _ (by simp only[Qqu,Qqe,Qxg]at F ⊢; omega) (λi p j=>by
  by_cases h:i<(ps++[la]).length
  ·rw[Qqt h]at j;exact .inl ⟨by omega,(z p (Qq1 j)).1⟩
  ·rw[Qza (by omega)]at j;have:=Qq1 j;simp only[Qqv,Qzv,or_false]at this;right;rcases this with rfl|rfl|rfl|rfl|rfl|rfl<;>rfl) (λp j=>by
  rcases Qqi.mp j with j|j
  ·have:=z p j;omega
  ·simp only[Qqv,Qzv,or_false]at j;rcases j with rfl|rfl|rfl|rfl|rfl|rfl<;>simp only<;>omega) (by
  rw[Qqp,Qzp];refine⟨J,by simp; omega,λa ha b hb=>?_⟩;have:a<=la.1:=by
   rw[Qqp,Qzp]at J;rw[Qqp]at ha;rcases Qqi.mp ha with h|h
   ·exact Int.le_of_lt (J.2.2 a h la.1 (by simp))
   ·simp at h; omega
  simp at hb
  omega) hs
 exact⟨st',qzz (k:=m) 9 [39,40,38,49,29] 8 (λq=>_/\_/\_/\_/\_/\_/\_/\_/\q) [.c (szD W H P,[]),.c (.int T,[]),.c (.int v,[]),.c (nw [] ((ps++[la]).map pD)),.l ((ps++[la]).map pD),.c (.non,FC (szD W H P) T 0 (voD []) [] [] [] []),.l [],.s (.nx O,st')] ⟨Y,U,hv,Z,gp,hi,g0,a0,rfl⟩⟩
end K28
end
namespace K28
open PySem PySem.Spec PyProof.Rows L2 MS
open M (D Cell Store Sl E S T Src Fn Out R)
theorem ar0{P:List Value->Prop}(h:P []):∀us:List Value,us.length=0->P us:=λus e=>by
 cases us with
 |nil=>exact h
 |cons a r=>cases e
theorem arS{n:Nat}{P:List Value->Prop}(h:∀a,∀us:List Value,us.length=n->P (a::us)):∀us:List Value,us.length=n+1->P us:=λus e=>by
 cases us with
 |nil=>cases e
 |cons a r=>exact h a r (Nat.succ.inj e)
theorem bs:∀r∈tab,Bd r:=by
 repeat' first|exact List.forall_mem_nil _|refine List.forall_mem_cons.mpr ⟨?_,?_⟩
 all_goals first|exact λ_ _ _ _ _ _=>arS λ_=>ar0 rfl|exact λ_ _ _ _ _ _=>arS λ_=>arS λ_=>ar0 rfl|exact λ_ _ _ _ _ _=>arS λ_=>arS λ_=>arS λ_=>ar0 rfl|exact λ_ _ _ _ _ _=>arS λ_=>arS λ_=>arS λ_=>arS λ_=>ar0 rfl|exact λ_ _ _ _ _ _=>arS λ_=>arS λ_=>arS λ_=>arS λ_=>arS λ_=>ar0 rfl
end K28
open PySem PySem.W PyProof.Rows
set_option maxRecDepth 100000 in
set_option maxHeartbeats 0 in
theorem PySem.Challenge.cw_dipright_k28_whole_age_never_turns_holds : PySem.Challenge.rw_dipright_k28_whole_age_never_turns.Holds := by
 w_on; o_law
 refine holds_open (XP:=XL (K28.vw PZW) []) (YP:=InK K28.KF) K28.left (InK.of (λ_=>by kernel_rfl)) InK.keeps (λs e=>xl_of s (Bool.and_eq_true_iff.mp e).1) XL.keeps (by rfl) (by rfl) (by rfl) (λs e=>recFacts_of (Bool.and_eq_true_iff.mp e).2) (by rfl) (by assumption) (by decide +kernel) ⟨rfl,rfl,rfl,rfl,rfl,by decide +kernel⟩ ?hw ?hc
 (case hw=>w_witness2)
 refine MS.walk_law (l:=RZW) (K:=K28.KH) (k:=2*20) (x:="_law_script") rfl rfl ⟨rfl,by decide,by decide⟩ (λw h Y=>Y) ?F
 case F=>
  intro w mg fa h KX G hmg
  k_fill
  refine MS.law_mk (t:=K28.tab) (glo:=K28.glo) (i:=51) (n:=19) KX G hmg rfl rfl rfl K28.bs (by decide +kernel) (K28.law_ok 12) ?_ ?_ ?_ ?_ ?_ (.mk ?_ ?_ ?_ ?_ ?_ ?_ ?_ ?_ ?_ ?_ ?_ ?_ ?_ ?_ ?_ ?_ ?_ ?_ ?_)
  all_goals repeat' first|exact List.forall_mem_nil _|refine List.forall_mem_cons.mpr ⟨?_,?_⟩|apply MS.RwK.fn|apply MS.RwK.me|apply MS.ClK.mk|apply MS.GlK.mk|apply MS.GdK.mk|exact .nil|apply MS.AtsK.cons|apply MS.EnK.cons|apply MS.VaK.tup
  all_goals try dsimp only
  all_goals first|exact .int|exact .str|exact .at .int|exact .at .str|k_is|rfl

