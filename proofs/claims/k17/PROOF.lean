import PyProof.Rows.All
import Wide.All
import OpenK.AllK
import Wide.FinOn
import Lean
import PyProof.TableCode
import PyProof.EqAt
import PyProof.EqKinds
import PyProof.TupleCall
import PyProof.NeKinds
import PyProof.ZipIter
import PyProof.StrLoop
import PyProof.StrWalks
import PyProof.StrCalls
import PyProof.StrCalls2
import PyProof.StrLawsIn
import PyProof.SliceStr2
import PyProof.StrBlock
import PyProof.Rows.StrFirst
import KE.KIntText
import PyProof.StrLawsChain
import PyProof.StrLawsTight
import PyProof.CallStr
import PyProof.Rows.FStr
import PySem.SetTable
import PyProof.TupleKey
import PyProof.SetKind
import PyProof.IsRules
import PyProof.Rows.SetFrom
import PyProof.WalksMore
import PyProof.TupleIter
import KE.KSortTup
import KE.KTryMore
import PySem.Challenge.RW_dipright_k17_claims_vest
set_option Elab.async false
set_option backward.eqns.nonrecursive false
set_option genInjectivity false
set_option genSizeOf false
set_option bootstrap.genMatcherCode false
set_option linter.all false
set_option maxRecDepth 100000
set_option maxHeartbeats 4000000
open PySem renaming wpAny_bind->Qq,Shared->Qz,Expr->Qx,wpAny_pure->Qj,World->Qk,Around->Qv,SetTable->Qy,bootBuiltins->Qa,wpAny_truthy_bool->Qb,compareOp->Qe,wpAny_mono->Qf,wpAny_field->Qg,NameKind->Qh,wpAny_seqItems->Qi,wpAny_callSpecial?_slot->Ql,sysModules->Qn,FuncData->Qo,wpAny_newObj_type->Qp,Params->Qr,wpAny_call_entry->Qs,CmpOp->Qt,DictEntry->Qu,wpAny_setField_rec->Q0,behindInMarks->Q1,binaryOp->Q2,wpAny_holding->Q3,call_meets->Q4,treeTable->Q5,importedModules->Q6,sizeLine_eq->Q8,wpAny_setState_of->Q9,Builtin->Zx,wpAny_rule->Zj,getItem->Zk,sliceBounds->Zv,wpAny_passesOwn->Zw,wpAny_loadPart'->Zy,codeAny_mono->Za,wpAny_Call_Name_kw->Zb,tupleKind_room_in1->Zc,codeAny->Ze,wpAny_pyIter_list->Zg,ofAClassStatement->Zh,Operator->Zl,letOwnedTupleGo->Zo,callerA->Zp,getMethod->Zs,wpAny_onRaise->Zt,setSearchFrom->Zu
open PyProof.Rows renaming wpS_bind->Qw,wpS_pure->Qc,SortSt->Qm,Keyed->Q7,wpS_forRange->Zq,pairsOf->Zz,seqObj->Zd,wpS_modify->Zf,AllBare->Zm,pendingOf->Zn,wpS_mono->Zr
open PySem.W renaming boot_heap->Qd,behindTheImports->Zi
section
universe u
theorem Z0{p:Prop}[Decidable p](h:p):decide p=true:=decide_eq_true h
theorem Z1{p:Prop}[Decidable p](h:¬p):decide p=false:=decide_eq_false h
theorem Z2{c:Prop}{h:Decidable c}(n:¬c){α:Sort u}{t e:α}:ite c t e=e:=if_neg n
theorem Z3{c:Prop}{h:Decidable c}(n:c){α:Sort u}{t e:α}:ite c t e=t:=if_pos n
end
open PySem.Challenge renaming pw_dipright_k17_claims_vest->PZW,rw_dipright_k17_claims_vest->RZW
open PySem.W renaming Frag->Qqq,keepIn->Qzl,nsIn->Qx4,mg_of->Qjz,methodCall_KW->Qjk,plainGet_of->Qjd,callWith_K->Qji,cellsFrom_some->Qky
open PySem.Heap renaming get?_push_of_some->Qqz,lt_size->Qqd,get?_push_size->Qql,size_push->Qxw,get?_update_other->Qx8,get?_update_self->Qjv
open List renaming length_map->Qqx,mem_map->Qqk,getElem?_eq_some_iff->Qqv,size_toArray->Qqw,map_cons->Qqy,getElem?_map->Qqa,mem_singleton->Qqb,mem_cons->Qqc,getElem?_eq_getElem->Qqg,length_cons->Qqh,mem_cons_of_mem->Qqn,length_append->Qqo,getElem?_set_ne->Qqp,mem_of_getElem?->Qqr,mem_append_right->Qqs,mem_append->Qqt,mem_cons_self->Qq0,map_append->Qq1,getElem?_append_left->Qq3,map_congr_left->Qq6,forall_mem_nil->Qq7,getElem?_set_self->Qq8,length_take->Qq9,find?_cons->Qzq,mem_filter->Qzz,nodup_cons->Qzx,lookup_cons->Qzj,map_map->Qzk,append_nil->Qzv,getElem?_append_right->Qzw,all_eq_true->Qza,not_mem_nil->Qzc,replicate_succ->Qzd,mem_append_left->Qzf,take_succ_eq_append_getElem->Qzg,getElem?_eq_none_iff->Qzn,length_singleton->Qzo,getElem?_eq_none->Qzp,length_filter_le->Qzr,pairwise_cons->Qzt,length_eq_zero_iff->Qz0,flatten_cons->Qz1,pairwise_map->Qz2,length_set->Qz3,filterMap_cons->Qz5,getElem_of_mem->Qz6,findSome?_cons->Qz7,getD_eq_getElem?_getD->Qxq,take_length->Qxz,any_cons->Qxj,getElem?_replicate->Qxk,mem_range->Qxv,map_nil->Qxy,filter_append->Qxa,length_replicate->Qxb,all_cons->Qxc,pairwise_append->Qxe,append_assoc->Qxh,nodup_append->Qxi,take_zero->Qxm,getElem?_range->Qxn,length_pos_iff->Qxo,filter_sublist->Qxp,flatMap_append->Qxr,foldl_cons->Qxs,pairwise_iff_getElem->Qxt,mem_filterMap->Qxu,getElem?_take_of_lt->Qx0,filterMap_map->Qx1,getElem?_take->Qx2,getLast_eq_getElem->Qx7,take_of_length_le->Qx9,any_eq_true->Qjx,getElem_mem->Qjj,take_append_drop->Qjw,forIn_cons->Qjy,mem_of_mem_take->Qjb,getLast_append_of_ne_nil->Qjc,drop_zero->Qje,take_succ->Qjf,map_id->Qjh,set_cons_zero->Qjl,any_eq_false->Qjo,ext_getElem?->Qj0,mem_of_find?_eq_some->Qj1,drop_eq_getElem_cons->Qj2,length_filterMap_le->Qj9,filter_cons->Qkq,pairwise_singleton->Qkx,getElem?_cons_succ->Qkj,of_mem_zip->Qkk,length_nil->Qkv,filter_nil->Qkw,mapM_cons->Qke
open Nat renaming le_refl->Qqj,lt_of_lt_of_le->Qq2,ne_of_lt->Qq4,le_trans->Qzh,lt_succ_self->Qzs,zero_le->Qzu,lt_or_ge->Qz8,lt_irrefl->Qz9,le_succ->Qxx,le_of_lt_succ->Qxd,le_of_lt->Qxf,zero_add->Qxl,succ_pos->Qx3,mod_lt->Qja,le_succ_of_le->Qjr,lt_succ_of_lt->Qjs,lt_trichotomy->Qju,ne_of_gt->Qj3,mul_comm->Qj4,zero_lt_succ->Qj5,le_add_right->Qj8,exists_eq_add_of_le->Qkz
open Bool renaming false_ne_true->Qqe,false_eq_true->Qqf,and_eq_true->Qqm,or_eq_true->Qzy,eq_iff_iff->Qzm,and_false->Qx5,not_true->Qjq,true_and->Qjn,not_eq_true->Qj6,false_and->Qkc,not_false->Qkd,and_true->Qkf,and_self->Qkg
open Option renaming map_eq_some_iff->Qqi,isSome_iff_exists->Qze,getD_some->Qxg,bind_eq_some_iff->Qx6,or_none->Qjg,isSome_map->Qjp
open Array renaming getElem?_toList->Qqu,getElem?_eq_getElem->Qq5,length_toList->Qzb,getElem?_eq_some_iff->Qzi,getD_eq_getD_getElem?->Qz4,perm_iff_toList_perm->Qjm,size_append->Qjt,getElem?_replicate->Qj7,getElem?_extract->Qka,getElem?_eq_none->Qkb
section
universe u v
theorem oBs{α:Type u}{j:Type v}(a:α)(f:α->Option j):(some a).bind f=f a:=rfl
theorem oMs{α:Type u}{j:Type v}(a:α)(f:α->j):(some a).map f=some (f a):=rfl
end
namespace L2
open PySem PySem.Spec PyProof.Rows
noncomputable def qqg(s:Stmt):Arguments:=match s with
 |.FunctionDef _ a _ _ _ _ _ _ _ _=>a
 |_=>{ posonlyargs:=[],args:=[],vararg:=none,kwonlyargs:=[],kw_defaults:=[],kwarg:=none,defaults:=[] }
end L2
namespace L2
open PySem PySem.Spec PyProof.Rows
noncomputable def qzt(s:Stmt):List Stmt:=match s with
 |.FunctionDef _ _ b _ _ _ _ _ _ _=>b
 |_=>[]
end L2
namespace L2
open PySem PySem.Spec PyProof.Rows
noncomputable def qzv(s:Stmt):Scope:=match s with
 |.FunctionDef _ _ _ _ _ _ sc _ _ _=>sc
 |_=>{ kind:=.function,names:=[],isGenerator:=false,isCoroutine:=false }
end L2
namespace K17
open PySem PySem.Spec PyProof.Rows
noncomputable def top(i:Nat):Stmt:=PZW.main.body.getD i (.Pass ⟨0,0,0,0⟩)
end K17
namespace K17
open PySem PySem.Spec PyProof.Rows
noncomputable def cb(s:Stmt)(j:Nat):Stmt:=match s with
 |.ClassDef _ _ _ b _ _ _ _ _ _ _=>b.getD j (.Pass ⟨0,0,0,0⟩)
 |_=>s
end K17
namespace HD
open PySem PySem.W PySem.Calls PyProof.Rows
noncomputable def lf:Life:=PySem.Life.mk [] [] [] 0 [] [] Bool.false #[] [] 0 Bool.false Bool.false Bool.false 0 [2000,10,10] Bool.false 0 Bool.true [] [] 0 Bool.false
noncomputable def sM:Str:=⟨#[60,109,111,100,117,108,101,62]⟩
noncomputable def sF:Str:=⟨#[47,99,108,97,105,109,47,99,117,116,46,112,121]⟩
noncomputable def sN:Str:=⟨#[95,95,109,97,105,110,95,95]⟩
noncomputable def bt(l:List Obj):BT:=(l.foldl (λ(p:BT×Nat) o=>(p.1.ins p.2 o,p.2+1)) (.nil,0)).1
noncomputable def Ta(P:Qr):BT:=bt ((Qd P).objs.toList++[Obj.mk (.type "tuple") none (.seq #[]) #[],Obj.mk .none none (.fields #[]) #[],
 Obj.mk (.type "code") none (.fields #[.str sM 182,.str sM 183,.str sF 184,.int 1 0,.int 0 0,.int 0 0,.int 0 0,.int 0 0,.ref 11,.bool false,.int 181 0,.ref 12,.none,.none,.none,.none,.int 185 0,.int 1 0,.str sF 186]) #[],
 Obj.mk (.type "frame") none .plain #[some (.ref 13),some (.ref 3),some (.ref 3),none,some (.str sN 164),none,some (.ref 0)]])
noncomputable def Sa(w:Qk)(os:OsState):SharedT:=⟨Ta w.params,15,lf,#[],⟨0,0,0,0⟩,187,os⟩
noncomputable abbrev an:Option Value:=some (.ref 6)
noncomputable abbrev p0:Pos:=⟨0,0,0,0⟩
noncomputable def ev(p:Program):Env:={ scope:=p.main.scope,locals:=mainNs,globals:=mainNs,cells:=[],code:=.ref 13,frame:=some 14 }
noncomputable def cE(p:Program):Code:=.body (Zi p) (ev p)
noncomputable def Lk(p q:Program)(loose:List Str)(Xt:Program->Qz->Bool)(ads:List Addr)(w:Qk)(s:Qz):=((staticsOk (Q6 p.main.body) (Qd w.params) s.heap&&namesBound p s.heap&&gensDone s&&laidKept (Qd w.params) s.heap),openSeen q loose (Q6 p.main.body) (Xt q) true s,ads.map s.heap.get?)
end HD
namespace HD
open PySem PySem.W PySem.Calls PyProof.Rows
theorem fin_of{p:Program}{w:Qk}{s:Qz}{env:Env}{c:Code}{q:Pos}:topRun Q5 p w 11 an 2 s (restOf [] env c q [topFrame p0])=some s:=by
 cases s
 rfl
noncomputable abbrev Fs(p:Program)(w:Qk)(s:Qz):Bool:=staticsOk (Q6 p.main.body) (Qd w.params) s.heap&&namesBound p s.heap&&gensDone s&&laidKept (Qd w.params) s.heap
theorem qmj{p:Program}{w:Qk}{N:Nat}{os:OsState}{s:Qz}(z:((Qd w.params).isNs mainGlobals&&(Array.mk []:Array GenState).size==0,(Qd w.params).objs.size,(Qd w.params).nsMap mainGlobals "__annotations__")=(true,11,an))
  (r:topRun Q5 p w 11 an N ⟨Qd w.params,#[],boot_drawn,boot_toks,os⟩ (topStub p)=some s) (l:Fs p w s=true):topFrom Q5 p w N ⟨Qd w.params,#[],boot_drawn,boot_toks,os⟩=some s:=by
 have J:=congrArg (·.1) z;have F:=congrArg (·.2.1) z;have j:=congrArg (·.2.2) z;dsimp only at J F j;simp only[topFrom,J,F,j,r,oBs];show(match Fs p w s with|true=>some s|false=>none)=_;rw[l]
end HD
namespace HD
open PySem PySem.W PySem.Calls PyProof.Rows
noncomputable def Rn(p:Program)(n:Nat)(w:Qk)(os:OsState):=segRunT Q5 p w 11 an 1 n (Sa w os) (piecesOf (Zi p) (ev p) (cE p) p0 [topFrame p0])
noncomputable def LA(p q:Program)(ads:List Addr)(w:Qk)(s:Qz):=(staticsOk (Q6 p.main.body) (Qd w.params) s.heap&&namesBound p s.heap&&gensDone s&&laidKept (Qd w.params) s.heap,seen ((recsOf q).map (·.name)) (ownsOf q) [] { s with gens:=#[] },ads.map s.heap.get?)
noncomputable def LB(p q:Program)(loose:List Str)(Xt:Program->Qz->Bool)(s:Qz):Bool:=s.heap.keysOk (looseW q loose) ((recsOf q).map (·.name)) ((litsOf q).map (·.1)) ((clssOf q (looseW q loose)).map (·.name))&&s.heap.accountedOkI (Q6 p.main.body)&&s.heap.isNs mainGlobals&&s.heap.isNs builtinsNs&&tablesOk q s.heap&&Xt q s&&s.gens.size==0
noncomputable def LD(q:Program)(loose:List Str)(s:Qz):=(s.heap.bltView,tabsOk q s,pinSeenD q (drecsOf q) s,clsSeenW q loose s)
noncomputable def LG(q:Program)(loose:List Str)(s:Qz):=(wideSeen q s,plainSeenD q loose s)
theorem lo3{p q:Program}{loose:List Str}{Xt:Program->Qz->Bool}{ads:List Addr}{K:Qr->Frag}{n N:Nat}{p1:Pos}
  (op:∀w:Qk,Option.map (λs:Qz=>(s.heap,s.gens,s.drawn,s.toks)) (fencedOpening Q5 p w N)=some (Qd w.params,#[],boot_drawn,boot_toks))
  (z:∀w:Qk,((Qd w.params).isNs mainGlobals&&(Array.mk []:Array GenState).size==0,(Qd w.params).objs.size,(Qd w.params).nsMap mainGlobals "__annotations__")=(true,11,an))
  (pre:∀w:Qk,(λos=>topGo Q5 p w 11 an 12 ⟨Qd w.params,#[],boot_drawn,boot_toks,os⟩ (topStub p))=λos=>some ((Sa w os).abs,⟨denote Q5 (cE p),cE p,p0,[topFrame p0]⟩))
  (blk:∀w:Qk,(λos=>segRun Q5 p w 11 an 1 1 (Sa w os).abs (blockOf (Zi p) (ev p) (cE p) p0 [topFrame p0]))=λos=>some (Flow.next,(Sa w os).abs,cE p,p0))
  (gA:∀w:Qk,(λos=>(Rn p n w os).map λr=>(r.1,r.2.2.1,r.2.2.2,LA p q ads w r.2.1.abs))=λ_=>some (Flow.next,cE p,p1,true,expectedOf q,(K w.params).map λp=>some p.2))
  (gB:∀w:Qk,(λos=>(Rn p n w os).map λr=>LB p q loose Xt r.2.1.abs)=λ_=>some true)
  (gC:∀w:Qk,(λos=>(Rn p n w os).map λr=>plainSeenE q (looseW q loose) r.2.1.abs)=λ_=>some (plainGoodE q (looseW q loose)))
  (gD:∀w:Qk,(λos=>(Rn p n w os).map λr=>LD q loose r.2.1.abs)=λ_=>some (bltViewBooted,true,pinGoodD (drecsOf q),clsGoodW q loose))
  (gE:∀w:Qk,(λos=>(Rn p n w os).map λr=>LG q loose r.2.1.abs)=λ_=>some (wideGood q,plainGoodD q loose))
  (le:Nat.ble (12+(1+(n+2))) N=true):LeftO p q loose (Xt q) (λs=>ads.map s.heap.get?) (λw=>(K w.params).map λp=>some p.2) N:=by
 intro w
 rcases Qqi.mp (op w) with⟨S,eS,J⟩
 rcases S with⟨H,g,d,t,os⟩
 have h1:H=Qd w.params:=congrArg (·.1) J;have h2:g=#[]:=congrArg (·.2.1) J;have h3:d=boot_drawn:=congrArg (·.2.2.1) J;have h4:t=boot_toks:=congrArg (·.2.2.2) J;subst h1 h2 h3 h4
 rcases Qqi.mp (congrFun (gA w) os) with⟨⟨f,L,c,O⟩,run,same⟩
 have F:∀{α:Type}{g:Flow×SharedT×Code×Pos->α}{v:α},(Rn p n w os).map g=some v->g (f,L,c,O)=v:=λe=>by rw[run]at e; exact Option.some.inj e
 have g1:f=Flow.next:=congrArg (·.1) same;have g2:c=cE p:=congrArg (·.2.1) same;have g3:O=p1:=congrArg (·.2.2.1) same;have Z:Fs p w L.abs=true:=congrArg (·.2.2.2.1) same;have l0:=congrArg (·.2.2.2.2.1) same;have U:=congrArg (·.2.2.2.2.2) same;have b:=F (congrFun (gB w) os);have c0:=F (congrFun (gC w) os);have d:=F (congrFun (gD w) os);have e:=F (congrFun (gE w) os);have Y:openSeen q loose (Q6 p.main.body) (Xt q) true L.abs=openGood q loose:=Prod.ext l0 (Prod.ext (congrArg (·.1) d) (Prod.ext b (Prod.ext (congrArg (·.2.1) d) (Prod.ext (congrArg (·.2.2.1) d) (Prod.ext c0 (Prod.ext (congrArg (·.2) e) (Prod.ext (congrArg (·.1) e) (congrArg (·.2.2.2) d))))))));subst g1 g2 g3;have j:=piece_app (rest:=[]) (segRun_of run) fin_of;rw[Qzv]at j;have all:=go_top (congrFun (pre w) os) (piece_block (congrFun (blk w) os) j);have more:=topRun_mono (N - (12+(1+(n+2)))) _ _ _ _ all;rw[Nat.add_sub_cancel' (Nat.le_of_ble_eq_true le)]at more;simp only[openEnds,eS,oBs,qmj (z w) more Z,oMs];exact congrArg some (Prod.ext Y U)
end HD
namespace K17
open PySem L2
noncomputable def c0:List Str:=["_law_in","_law_rect_here","_law_cell","_law_simple","_law_script","_law_k","_law_size_here","_law_plan","_law_names","_law_day","_law_fact","stake"]
noncomputable def c1:List Str:=[".0","_law_way","_law_draw","_law_vein","len","_law_who","_law_rect","work","give","fast","_law_vested","_law_name"]
noncomputable def c2:List Str:=["_law_last","_law_gone","_law_ground","vein","any","_law_since","max","_law_kept","_law_term_here","_law_held","_law_field","_law_row"]
noncomputable def c3:List Str:=["_law_when","_law_same","claim","append","standing","sorted","law","_law_size","_law_term","Field","range","enter"]
noncomputable def c4:List Str:=["good","ended","_law_j","_law_wide","_law_tall","_law_x","_law_y","_law_steps","_law_deep","tuple","_law_at","_law_outs"]
noncomputable def c5:List Str:=["_law_count","_law_first","_law_stride","_law_found","_law_place","__init__","self","wide","tall","deep","term","check_district"]
noncomputable def c6:List Str:=["extent","year","day","found","joints","staked","Claims","dug","debts","fact","check_day","sound"]
noncomputable def c7:List Str:=["BadFact","not sound for this district","Late","the field's day isn't earlier","answer","enter_vein","join","enter_join","enter_stake","dig","enter_dig","pay"]
noncomputable def c8:List Str:=["enter_pay","change","vest_all","other","novein","order","joined","outcrops","extend","who","spot","worth"]
noncomputable def c9:List Str:=["owe","owner","COIN","gatekeeper","mouth","over","debtor","creditor","tenths","pass_to","_wall","today"]
noncomputable def c10:List Str:=["size","veins","list","claims","name","NoVein","no vein is known by that day","get","named","ground","last","vested"]
noncomputable def c11:List Str:=["given","state","years","entries","twin","__name__","law_dipright_k17_claims_vest","_law_many","_law_turn","_law_rest","_law_step","_law_one"]
noncomputable def c12:List Str:=["_law_two","_law_due","isinstance","_law_like","all","int","bool","str","_law_sizes","min","DEPTHS","TERMS"]
noncomputable def c13:List Str:=["fits","LENGTHS","BadNumber","not the numbers of a district","DAYS","not a day","first_claim","ranks","title","field","heirs","cell"]
noncomputable def c14:List Str:=["standing_grounds","inside","dipright.field","covers","dipright.title","ground_of","ranked","grounds","heads","first","behind","has_one"]
noncomputable def c15:List Str:=["dip","columns_at","in_ground","OutOfGround","not a spot of the district","met","pairs","met_columns","column","dipright.reach","outcrop","pair"]
noncomputable def c16:List Str:=["sound_vein","ASKS","all_fit","numbers_agree","dipright.veins","MOVES","climbed","steps","x","y","step","reversed"]
noncomputable def c17:List Str:=["joint","enumerate","asked","values","known","bounds","value","kind","zip","is_cell","thing","good_steps"]
noncomputable def c18:List Str:=["good_outcrops","MOST_COLUMNS","set","COINS","sell","part","below","folk","side","line","floor","coins"]
noncomputable def c19:List Str:=["FOLK","SIDES","LINES","STEPS","bound","through","days","counted","dipright.claims","Claim","piece","fallen"]
noncomputable def c20:List Str:=["unvested","stands","book","row","names","NoClaim","no claim is known by that day","vest","noclaim","whole","pieces","parted"]
noncomputable def c21:List Str:=["nocut","insert","index","dipright.facts","rect","some","can_part","ahead","LEFT","TOP","LOW","RIGHT"]
noncomputable def c22:List Str:=["dipright.years","kept","DiprightError","dipright.ground","k","dipright.errors","ValueError","/claim/cut.py","__doc__","__package__","__loader__","__spec__"]
noncomputable def c23:List Str:=["__annotations__","__builtins__","__file__","__cached__","__main__","__module__","__firstlineno__","__static_attributes__","__weakref__","Claim.__init__","Claim.piece","Claim.twin"]
noncomputable def c24:List Str:=["Claim.state","__dict__","Claims.__init__","Claims.names","Claims.named","Claims.standing","Claims.stake","Claims.vest","Claims.vest_all","Claims.change","Claims.part","Claims.twin"]
noncomputable def c25:List Str:=["Field.__init__","Field.enter","Field.answer","Field.enter_vein","Field.enter_join","Field.enter_stake","Field.enter_dig","Field.enter_pay","Field.gatekeeper","Field.owe","Field.pass_to","Field.today"]
noncomputable def c26:List Str:=["Field.size","Field.term","Field.veins","Field.claims","Field.vein","Field.joined","Field.claim","Field.state","Field.years","Field.standing","Field.entries","Field.twin"]
noncomputable def Al:List (List Str):=[c0,c1,c2,c3,c4,c5,c6,c7,c8,c9,c10,c11,c12,c13,c14,c15,c16,c17,c18,c19,c20,c21,c22,c23,c24,c25,c26]
noncomputable def Af(i j:Nat):Str:=(Al.getD i []).getD j ⟨#[]⟩
noncomputable def b0:String:="dict"
noncomputable def b1:String:="__main__.__loader__#opaque"
noncomputable def b2:String:="tuple"
noncomputable def b3:String:="code"
noncomputable def b4:String:="function"
noncomputable def b5:String:="ValueError"
noncomputable def b6:String:="ValueError.__new__"
noncomputable def b7:String:="type"
noncomputable def b8:String:="Exception"
noncomputable def b9:String:="BaseException"
noncomputable def b10:String:="object"
noncomputable def b11:String:="ExceptionGroup.__weakref__"
noncomputable def b12:String:="getset_descriptor"
noncomputable def b13:String:="object.__new__"
noncomputable def b14:String:="function.__dict__"
noncomputable def b15:String:="function.__dict__#set"
lay_quick Af b0 b1 b2 b3 b4 b5 b6 b7 b8 b9 b10 b11 b12 b13 b14 b15
def Hy(a:Nat->Nat->Str)(i:Nat)(p:Prop):Nat->List Str->Prop
 |_,[]=>p
 |j,x::r=>x=a i j->Hy a i p (j+1) r
def Hz(a:Nat->Nat->Str)(p:Prop):Nat->List (List Str)->Prop
 |_,[]=>p
 |i,c::r=>Hy a i (Hz a p (i+1) r) 0 c
noncomputable def G(a:Nat->Nat->Str):Program:=by
 refine'(?f:(x:Program)->Hz a (PZW=x) 0 Al->Program) _ ?h
 (case f=>exact λx _=>x)
 (case h=>(repeat intro _); show PZW=_; delta PZW; conv=>lhs; simp only[*,Nat.reduceAdd])
noncomputable abbrev fnD(x y:Str)(s:Stmt):=FuncData.mk x y (qqg s) (.stmts (qzt s)) (qzv s)
noncomputable abbrev kh:=PyData.keyHash
noncomputable abbrev de(P:Qr)(x:Str)(k:Nat)(v:Value):=DictEntry.mk (kh P x) (.str x k) v
noncomputable abbrev oq(u:String)(x:Array Value):=Obj.mk (.type u) Option.none (.seq x) #[]
noncomputable abbrev zA(u:String)(a:Nat->Nat->Str)(i j v w k:Nat)(ln n:Int)(r p:Nat):=Obj.mk (.type u) Option.none (.fields #[.str (a i j) k,.str (a v w) (k+1),.str (a 22 7) (k+2),.int ln 0,.int n 0,.int 0 0,.int 0 0,.int 3 0,.ref r,.bool Bool.true,.int 181 0,.ref (r+1),.none,.ref (r+2),.ref (r+3),.ref (r+4),.int (.ofNat p) 0,.int ln 0,.str (a 22 7) (p+1)]) #[]
noncomputable abbrev zB(u:String)(a:Nat->Nat->Str)(i j v w k:Nat)(ln n:Int)(r p:Nat):=Obj.mk (.type u) Option.none (.fields #[.str (a i j) k,.str (a v w) (k+1),.str (a 22 7) (k+2),.int ln 0,.int n 0,.int 0 0,.int 0 0,.int 3 0,.ref r,.bool Bool.true,.int 181 0,.ref (r+1),.none,.none,.none,.ref (r+2),.int (.ofNat p) 0,.int ln 0,.str (a 22 7) (p+1)]) #[]
noncomputable abbrev zA2(u:String)(a:Nat->Nat->Str)(i j:Nat):=zA u a i j i j
noncomputable abbrev zB2(u:String)(a:Nat->Nat->Str)(i j:Nat):=zB u a i j i j
noncomputable abbrev zM(u:String)(a:Nat->Nat->Str)(i j v w:Nat)(s:Stmt)(x y k r:Nat):=Obj.mk (.type u) Option.none (.func (fnD (a i j) (a v w) s 3 [] .none .none .none (.str (a x y) k) Option.none (.ref r) .none 0)) #[]
noncomputable abbrev zF(u:String)(a:Nat->Nat->Str)(i j:Nat):=zM u a i j i j
noncomputable abbrev zR(P:Qr)(a:Nat->Nat->Str)(i j k r:Nat):=de P (a i j) k (.ref r)
noncomputable def KG(tp:Nat->Stmt)(a:Nat->Nat->Str)(u0 u1 u2 u3 u4 u5 u6 u7 u8 u9 u10 u11 u12 u13 u14 u15:String)(P:Qr):Qqq:=(nat_lit 3,Obj.mk (.type u0) Option.none (.dict #[de P (a 11 5) 165 (.str (a 11 6) 1082),de P (a 22 8) 166 .none,de P (a 22 9) 167 .none,de P (a 22 10) 168 (.builtin u1),de P (a 22 11) 169 .none,zR P a 23 0 170 6,zR P a 23 1 171 4,de P (a 23 2) 173 (.str (a 22 7) 172),de P (a 23 3) 174 .none,zR P a 9 10 193 21,zR P a 22 2 213 31,zR P a 13 2 229 44,zR P a 7 0 245 56,zR P a 7 2 261 68,zR P a 10 5 277 80,zR P a 20 5 293 92,zR P a 15 3 309 104,de P (a 21 8) 313 (.int 0 312),de P (a 21 9) 315 (.int 1 314),de P (a 21 11) 317 (.int 2 316),de P (a 21 10) 319 (.int 3 318),zR P a 14 1 327 113,zR P a 14 11 333 118,zR P a 21 6 342 125,zR P a 20 11 353 132,zR P a 15 2 361 139,zR P a 19 7 373 146,zR P a 19 5 381 153,zR P a 19 9 445 191,zR P a 6 6 558 273,zR P a 13 4 563 278,zR P a 19 0 566 279,zR P a 19 1 569 280,zR P a 19 2 572 281,zR P a 19 3 575 282,zR P a 18 3 578 283,de P (a 18 1) 580 (.int 16 579),zR P a 16 1 623 284,zR P a 17 5 630 299,zR P a 13 0 638 306,zR P a 16 2 644 311,zR P a 17 9 652 318,zR P a 17 11 660 325,zR P a 18 0 666 330,zR P a 16 0 674 337,zR P a 16 3 681 344,zR P a 6 11 689 351,zR P a 16 5 704 357,zR P a 16 6 716 364,zR P a 15 7 722 369,zR P a 15 1 728 374,zR P a 14 5 738 381,zR P a 15 10 746 388,zR P a 8 7 752 393,zR P a 14 3 760 400,zR P a 14 0 768 405,zR P a 14 6 781 412,zR P a 13 10 790 419,zR P a 13 6 797 426,zR P a 13 8 805 433,zR P a 9 1 814 440,zR P a 9 5 824 447,zR P a 13 1 829 448,zR P a 12 10 832 449,zR P a 12 11 835 450,de P (a 9 2) 837 (.int 10 836),zR P a 5 11 847 457,zR P a 6 10 854 464,zR P a 3 9 1081 642,zR P a 1 2 1099 653,zR P a 3 1 1105 658,zR P a 3 7 1117 665,zR P a 3 8 1126 672,zR P a 1 6 1139 679,zR P a 4 7 1145 684,zR P a 4 11 1161 691,zR P a 1 5 1170 698,zR P a 1 3 1179 705,zR P a 0 0 1187 712,zR P a 0 3 1193 717,zR P a 1 10 1199 722,zR P a 2 7 1212 729,zR P a 2 9 1218 734,zR P a 3 6 1231 741] 84) #[]) ::
(nat_lit 112,zA2 u3 a 14 1 320 24 2 107 325) ::
(nat_lit 113,zF u4 a 14 1 (tp 14) 22 3 310 112) ::
(nat_lit 117,zB2 u3 a 14 11 328 26 2 114 331) ::
(nat_lit 118,zF u4 a 14 11 (tp 15) 22 3 310 117) ::
(nat_lit 124,zA2 u3 a 21 6 334 28 3 119 340) ::
(nat_lit 125,zF u4 a 21 6 (tp 16) 22 3 310 124) ::
(nat_lit 131,zA2 u3 a 20 11 343 30 3 126 351) ::
(nat_lit 132,zF u4 a 20 11 (tp 17) 22 3 310 131) ::
(nat_lit 145,zA2 u3 a 19 7 364 43 2 140 371) ::
(nat_lit 146,zF u4 a 19 7 (tp 20) 22 0 362 145) ::
(nat_lit 152,zA2 u3 a 19 5 374 49 2 147 379) ::
(nat_lit 153,zF u4 a 19 5 (tp 21) 22 0 362 152) ::
(nat_lit 166,zA u3 a 5 5 23 9 396 54 5 161 404) ::
(nat_lit 167,zM u4 a 5 5 23 9 (cb (tp 23) 0) 19 8 382 166) ::
(nat_lit 173,zA u3 a 19 10 23 10 407 62 3 168 414) ::
(nat_lit 174,zM u4 a 19 10 23 10 (cb (tp 23) 1) 19 8 382 173) ::
(nat_lit 187,zA u3 a 11 1 24 0 424 70 2 182 429) ::
(nat_lit 188,zM u4 a 11 1 24 0 (cb (tp 23) 3) 19 8 382 187) ::
(nat_lit 190,Obj.mk (.type u0) Option.none (.dict #[de P (a 23 5) 391 (.str (a 19 8) 382),de P (a 23 6) 395 (.int 52 394),zR P a 5 5 406 167,zR P a 19 10 416 174,zR P a 11 4 423 181,zR P a 11 1 431 188,zR P a 23 7 438 189,zR P a 24 1 440 192,zR P a 23 8 442 193,de P (a 22 8) 443 .none] 4) #[]) ::
(nat_lit 191,Obj.mk (.type u7) Option.none (.cls (ClassData.mk (a 19 9) [.type u10] [.ref 191,.type u10] 190 (a 19 9) Bool.true [] [] Bool.false Option.none Bool.false)) #[Option.none,Option.none,Option.some (.str (a 19 9) 384),Option.some (.str (a 19 9) 392),Option.some (.builtin u13),Option.some (.bool Bool.true)]) ::
(nat_lit 208,zA u3 a 5 5 24 2 458 80 2 203 463) ::
(nat_lit 209,zM u4 a 5 5 24 2 (cb (tp 24) 0) 19 8 382 208) ::
(nat_lit 215,zA u3 a 20 4 24 3 466 85 1 210 470) ::
(nat_lit 216,zM u4 a 20 4 24 3 (cb (tp 24) 1) 19 8 382 215) ::
(nat_lit 222,zA u3 a 10 8 24 4 473 88 2 217 478) ::
(nat_lit 223,zM u4 a 10 8 24 4 (cb (tp 24) 2) 19 8 382 222) ::
(nat_lit 227,zB u3 a 3 4 24 5 481 93 2 224 484) ::
(nat_lit 228,zM u4 a 3 4 24 5 (cb (tp 24) 3) 19 8 382 227) ::
(nat_lit 234,zA u3 a 0 11 24 6 487 96 5 229 495) ::
(nat_lit 235,zM u4 a 0 11 24 6 (cb (tp 24) 4) 19 8 382 234) ::
(nat_lit 241,zA u3 a 20 7 24 7 498 100 4 236 506) ::
(nat_lit 242,zM u4 a 20 7 24 7 (cb (tp 24) 5) 19 8 382 241) ::
(nat_lit 248,zA u3 a 8 2 24 8 509 106 3 243 516) ::
(nat_lit 249,zM u4 a 8 2 24 8 (cb (tp 24) 6) 19 8 382 248) ::
(nat_lit 255,zA u3 a 8 1 24 9 519 110 3 250 527) ::
(nat_lit 256,zM u4 a 8 1 24 9 (cb (tp 24) 7) 19 8 382 255) ::
(nat_lit 262,zA u3 a 18 5 24 10 530 128 3 257 538) ::
(nat_lit 263,zM u4 a 18 5 24 10 (cb (tp 24) 8) 19 8 382 262) ::
(nat_lit 272,Obj.mk (.type u0) Option.none (.dict #[de P (a 23 5) 453 (.str (a 19 8) 382),de P (a 23 6) 457 (.int 78 456),zR P a 5 5 465 209,zR P a 20 4 472 216,zR P a 10 8 480 223,zR P a 3 4 486 228,zR P a 0 11 497 235,zR P a 20 7 508 242,zR P a 8 2 518 249,zR P a 8 1 529 256,zR P a 18 5 540 263,zR P a 11 4 547 270,zR P a 23 7 551 271,zR P a 24 1 553 274,zR P a 23 8 555 275,de P (a 22 8) 556 .none] 4) #[]) ::
(nat_lit 273,Obj.mk (.type u7) Option.none (.cls (ClassData.mk (a 6 6) [.type u10] [.ref 273,.type u10] 272 (a 6 6) Bool.true [] [] Bool.false Option.none Bool.false)) #[Option.none,Option.none,Option.some (.str (a 6 6) 446),Option.some (.str (a 6 6) 454),Option.some (.builtin u13),Option.some (.bool Bool.true)]) ::
(nat_lit 278,oq u2 #[.int 1 561,.int 400 562]) ::
(nat_lit 279,oq u2 #[.int 1 564,.int 40 565]) ::
(nat_lit 280,oq u2 #[.int 0 567,.int 1 568]) ::
(nat_lit 281,oq u2 #[.int 1 570,.int 23 571]) ::
(nat_lit 282,oq u2 #[.int 0 573,.int 4 574]) ::
(nat_lit 283,oq u2 #[.int 1 576,.int 1000000 577]) ::
(nat_lit 284,Obj.mk (.type u0) Option.none (.dict #[zR P a 7 6 581 285,zR P a 0 11 585 286,zR P a 1 7 591 287,zR P a 18 4 593 288,zR P a 18 5 596 289,zR P a 1 8 601 290,zR P a 7 9 603 291,zR P a 7 11 611 292] 8) #[]) ::
(nat_lit 285,oq u2 #[.str (a 6 2) 582,.str (a 6 2) 583,.str (a 18 6) 584]) ::
(nat_lit 286,oq u2 #[.str (a 18 7) 586,.str (a 16 8) 587,.str (a 16 9) 588,.str (a 16 8) 589,.str (a 16 9) 590]) ::
(nat_lit 287,oq u2 #[.str (a 6 2) 592]) ::
(nat_lit 288,oq u2 #[.str (a 6 2) 594,.str (a 18 7) 595]) ::
(nat_lit 289,oq u2 #[.str (a 6 2) 597,.str (a 18 8) 598,.str (a 18 9) 599,.str (a 18 7) 600]) ::
(nat_lit 290,oq u2 #[.str (a 6 2) 602]) ::
(nat_lit 291,oq u2 #[.str (a 18 7) 604,.str (a 16 8) 605,.str (a 16 9) 606,.str (a 16 8) 607,.str (a 16 9) 608,.str (a 18 10) 609,.str (a 18 11) 610]) ::
(nat_lit 292,oq u2 #[.str (a 18 7) 612,.str (a 18 7) 613,.str (a 18 11) 614]) ::
(nat_lit 298,zA2 u3 a 17 5 624 150 1 293 628) ::
(nat_lit 299,zF u4 a 17 5 (tp 34) 21 3 559 298) ::
(nat_lit 305,zA2 u3 a 13 0 631 152 2 300 636) ::
(nat_lit 306,zF u4 a 13 0 (tp 35) 21 3 559 305) ::
(nat_lit 310,zB2 u3 a 16 2 639 156 3 307 642) ::
(nat_lit 311,zF u4 a 16 2 (tp 36) 21 3 559 310) ::
(nat_lit 317,zA2 u3 a 17 9 645 161 2 312 650) ::
(nat_lit 318,zF u4 a 17 9 (tp 37) 21 3 559 317) ::
(nat_lit 324,zA2 u3 a 17 11 653 163 2 319 658) ::
(nat_lit 325,zF u4 a 17 11 (tp 38) 21 3 559 324) ::
(nat_lit 329,zB2 u3 a 18 0 661 165 2 326 664) ::
(nat_lit 330,zF u4 a 18 0 (tp 39) 21 3 559 329) ::
(nat_lit 336,zA2 u3 a 16 0 667 171 2 331 672) ::
(nat_lit 337,zF u4 a 16 0 (tp 40) 21 3 559 336) ::
(nat_lit 343,zA2 u3 a 16 3 675 173 1 338 679) ::
(nat_lit 344,zF u4 a 16 3 (tp 41) 21 3 559 343) ::
(nat_lit 350,zA2 u3 a 6 11 682 179 2 345 687) ::
(nat_lit 351,zF u4 a 6 11 (tp 42) 21 3 559 350) ::
(nat_lit 448,oq u2 #[.int 1 827,.int 24 828]) ::
(nat_lit 449,oq u2 #[.int 0 830,.int 12 831]) ::
(nat_lit 450,oq u2 #[.int 1 833,.int 400 834]) ::
(nat_lit 456,zA2 u3 a 5 11 838 253 4 451 845) ::
(nat_lit 457,zF u4 a 5 11 (tp 66) 14 2 825 456) ::
(nat_lit 463,zA2 u3 a 6 10 848 256 1 458 852) ::
(nat_lit 464,zF u4 a 6 10 (tp 67) 14 2 825 463) ::
(nat_lit 477,zA u3 a 5 5 25 0 867 261 5 472 875) ::
(nat_lit 478,zM u4 a 5 5 25 0 (cb (tp 68) 0) 14 2 825 477) ::
(nat_lit 484,zA u3 a 3 11 25 1 878 272 3 479 884) ::
(nat_lit 485,zM u4 a 3 11 25 1 (cb (tp 68) 1) 14 2 825 484) ::
(nat_lit 491,zA u3 a 7 4 25 2 887 281 2 486 892) ::
(nat_lit 492,zM u4 a 7 4 25 2 (cb (tp 68) 2) 14 2 825 491) ::
(nat_lit 498,zA u3 a 7 5 25 3 895 294 2 493 900) ::
(nat_lit 499,zM u4 a 7 5 25 3 (cb (tp 68) 3) 14 2 825 498) ::
(nat_lit 505,zA u3 a 7 7 25 4 903 299 2 500 910) ::
(nat_lit 506,zM u4 a 7 7 25 4 (cb (tp 68) 4) 14 2 825 505) ::
(nat_lit 512,zA u3 a 7 8 25 5 913 311 2 507 920) ::
(nat_lit 513,zM u4 a 7 8 25 5 (cb (tp 68) 5) 14 2 825 512) ::
(nat_lit 547,zA u3 a 9 9 25 10 961 341 2 542 966) ::
(nat_lit 548,zM u4 a 9 9 25 10 (cb (tp 68) 10) 14 2 825 547) ::
(nat_lit 603,zA u3 a 3 2 26 6 1020 369 2 598 1026) ::
(nat_lit 604,zM u4 a 3 2 26 6 (cb (tp 68) 18) 14 2 825 603) ::
(nat_lit 624,zA u3 a 3 4 26 9 1045 379 1 619 1049) ::
(nat_lit 625,zM u4 a 3 4 26 9 (cb (tp 68) 21) 14 2 825 624) ::
(nat_lit 641,Obj.mk (.type u0) Option.none (.dict #[de P (a 23 5) 862 (.str (a 14 2) 825),de P (a 23 6) 866 (.int 259 865),zR P a 5 5 877 478,zR P a 3 11 886 485,zR P a 7 4 894 492,zR P a 7 5 902 499,zR P a 7 7 912 506,zR P a 7 8 922 513,zR P a 7 10 933 520,zR P a 8 0 941 527,zR P a 9 3 950 534,zR P a 9 0 960 541,zR P a 9 9 968 548,zR P a 9 11 975 555,zR P a 10 0 982 562,zR P a 5 10 989 569,zR P a 10 1 996 576,zR P a 10 3 1003 583,zR P a 2 3 1011 590,zR P a 8 6 1019 597,zR P a 3 2 1028 604,zR P a 11 1 1036 611,zR P a 11 2 1044 618,zR P a 3 4 1051 625,zR P a 11 3 1058 632,zR P a 11 4 1065 639,zR P a 23 7 1074 640,zR P a 24 1 1076 643,zR P a 23 8 1078 644,de P (a 22 8) 1079 .none] 4) #[]) ::
(nat_lit 642,Obj.mk (.type u7) Option.none (.cls (ClassData.mk (a 3 9) [.type u10] [.ref 642,.type u10] 641 (a 3 9) Bool.true [] [] Bool.false Option.none Bool.false)) #[Option.none,Option.none,Option.some (.str (a 3 9) 855),Option.some (.str (a 3 9) 863),Option.some (.builtin u13),Option.some (.bool Bool.true)]) ::
(nat_lit 652,zA2 u3 a 1 2 1084 388 4 647 1097) ::
(nat_lit 653,zF u4 a 1 2 (tp 70) 11 6 1082 652) ::
(nat_lit 657,zB2 u3 a 3 1 1100 403 2 654 1103) ::
(nat_lit 658,zF u4 a 3 1 (tp 71) 11 6 1082 657) ::
(nat_lit 664,zA2 u3 a 3 7 1106 412 2 659 1115) ::
(nat_lit 665,zF u4 a 3 7 (tp 72) 11 6 1082 664) ::
(nat_lit 671,zA2 u3 a 3 8 1118 419 2 666 1124) ::
(nat_lit 672,zF u4 a 3 8 (tp 73) 11 6 1082 671) ::
(nat_lit 678,zA2 u3 a 1 6 1127 422 5 673 1137) ::
(nat_lit 679,zF u4 a 1 6 (tp 74) 11 6 1082 678) ::
(nat_lit 683,zB2 u3 a 4 7 1140 426 4 680 1143) ::
(nat_lit 684,zF u4 a 4 7 (tp 75) 11 6 1082 683) ::
(nat_lit 690,zA2 u3 a 4 11 1146 428 4 685 1159) ::
(nat_lit 691,zF u4 a 4 11 (tp 76) 11 6 1082 690) ::
(nat_lit 697,zA2 u3 a 1 5 1162 438 3 692 1168) ::
(nat_lit 698,zF u4 a 1 5 (tp 77) 11 6 1082 697) ::
(nat_lit 704,zA2 u3 a 1 3 1171 440 3 699 1177) ::
(nat_lit 705,zF u4 a 1 3 (tp 78) 11 6 1082 704) ::
(nat_lit 711,zA2 u3 a 0 0 1180 442 2 706 1185) ::
(nat_lit 712,zF u4 a 0 0 (tp 79) 11 6 1082 711) ::
(nat_lit 716,zB2 u3 a 0 3 1188 444 4 713 1191) ::
(nat_lit 717,zF u4 a 0 3 (tp 80) 11 6 1082 716) ::
(nat_lit 721,zB2 u3 a 1 10 1194 452 4 718 1197) ::
(nat_lit 722,zF u4 a 1 10 (tp 81) 11 6 1082 721) ::
(nat_lit 728,zA2 u3 a 2 7 1200 460 3 723 1210) ::
(nat_lit 729,zF u4 a 2 7 (tp 82) 11 6 1082 728) ::
(nat_lit 733,zB2 u3 a 2 9 1213 469 3 730 1216) ::
(nat_lit 734,zF u4 a 2 9 (tp 83) 11 6 1082 733) ::
(nat_lit 740,zA2 u3 a 3 6 1219 480 1 735 1229) ::
(nat_lit 741,zF u4 a 3 6 (tp 84) 11 6 1082 740)::[]
noncomputable def KF:Qr->Qqq:=KG top Af b0 b1 b2 b3 b4 b5 b6 b7 b8 b9 b10 b11 b12 b13 b14 b15
noncomputable def KH(P:Qr):Qqq:=by refine'(?f:(x:Qqq)->KF P=x->Qqq) _ ?h; (case f=>exact λx _=>x); (case h=>conv=>lhs; whnf)
end K17
namespace PySem.W.Fast
open PySem K17
noncomputable def tw11573204130310132958:Program:=G tw6641639021339450790
theorem te11573204130310132958:PZW=tw11573204130310132958:=Eq.trans (b:=G Af) (by kernel_rfl) (congrArg G te6641639021339450790)
noncomputable def qzr(i:Nat):Stmt:=tw11573204130310132958.main.body.getD i (.Pass ⟨0,0,0,0⟩)
theorem qqi:top=qzr:=funext λi=>congrArg (λp:Program=>p.main.body.getD i (.Pass ⟨0,0,0,0⟩)) te11573204130310132958
noncomputable def qqh:Qr->Frag:=KG qzr tw6641639021339450790 tw11138033516848078490 tw10111331280642867353 tw1608077534399087282 tw8087532141183617590 tw13078180111914994744 tw8903037479378340937 tw3745103150097599972 tw6261856767969283869 tw4295815008423035065 tw8008266575456893908 tw3027571532300318908 tw4769913554318862904 tw2804551830688807025 tw11192917649906730022 tw17327833728666610748 tw8923688806818430827
theorem te13123040355124191246:KF=qqh:=congr (congr (congr (congr (congr (congr (congr (congr (congr (congr (congr (congr (congr (congr (congr (congr (congr (congrArg KG qqi) te6641639021339450790) te11138033516848078490) te10111331280642867353) te1608077534399087282) te8087532141183617590) te13078180111914994744) te8903037479378340937) te3745103150097599972) te6261856767969283869) te4295815008423035065) te8008266575456893908) te3027571532300318908) te4769913554318862904) te2804551830688807025) te11192917649906730022) te17327833728666610748) te8923688806818430827
end PySem.W.Fast
namespace K17
open PySem PySem.W PySem.Calls PyProof.Rows HD
noncomputable abbrev ads:List Addr:=[3,112,113,117,118,124,125,131,132,145,146,152,153,166,167,173,174,187,188,190,191,208,209,215,216,222,223,227,228,234,235,241,242,248,249,255,256,262,263,272,273,278,279,280,281,282,283,284,285,286,287,288,289,290,291,292,298,299,305,306,310,311,317,318,324,325,329,330,336,337,343,344,350,351,448,449,450,456,457,463,464,477,478,484,485,491,492,498,499,505,506,512,513,547,548,603,604,624,625,641,642,652,653,657,658,664,665,671,672,678,679,683,684,690,691,697,698,704,705,711,712,716,717,721,722,728,729,733,734,740,741]
noncomputable abbrev loose:List Str:=["ASKS"]
noncomputable def vw(p:Program):Program:=view p [0,2,3,4,5,6,7,8,10,11,12,13,14,15,16,17,18,20,21,23,24,26,27,28,29,30,31,32,33,34,35,36,37,38,39,40,41,42,44,45,46,47,49,50,51,52,54,55,56,57,58,59,60,62,63,64,65,66,67,68,70,71,72,73,74,75,76,77,78,79,80,81,82,83,84]
noncomputable def Xt(q:Program)(s:Qz):Bool:=xlAt q [] s&&recOk (RowW.records (OpenRow.toRowW (OpenLaw.row RZW))) s
theorem pre:∀w:Qk,(λos=>topGo Q5 PZW w 11 an 12 ⟨Qd w.params,#[],boot_drawn,boot_toks,os⟩ (topStub PZW))=λos=>some ((Sa w os).abs,⟨denote Q5 (cE PZW),cE PZW,p0,[topFrame p0]⟩):=by
 rw[Fast.te15667345088766844465,Fast.te14364793385576792824,Fast.te11892475500146522536,Fast.te11573204130310132958];exact λw=>by kernel_rfl
theorem blk:∀w:Qk,(λos=>segRun Q5 PZW w 11 an 1 1 (Sa w os).abs (blockOf (Zi PZW) (ev PZW) (cE PZW) p0 [topFrame p0]))=λos=>some (Flow.next,(Sa w os).abs,cE PZW,p0):=by
 rw[Fast.te14374325043358763698,Fast.te14364793385576792824,Fast.te11573204130310132958];exact λw=>by kernel_rfl
noncomputable def GA(w:Qk):Prop:=(λos=>(Rn PZW 5186 w os).map λr=>(r.1,r.2.2.1,r.2.2.2,LA PZW (vw PZW) ads w r.2.1.abs))=λ_=>some (Flow.next,cE PZW,⟨480,0,491,15⟩,true,expectedOf (vw PZW),(KF w.params).map λp=>some p.2)
theorem gAf:∀w:Qk,GA (w.withFollow "special-get-raises" false):=by
 unfold GA Rn LA;rw[Fast.te10110043849684766642,Fast.te14364793385576792824,Fast.te5923862056798008813,Fast.te11573204130310132958,Fast.te13123040355124191246];exact λw=>by kernel_rfl
theorem gAt:∀w:Qk,GA (w.withFollow "special-get-raises" true):=by
 unfold GA Rn LA;rw[Fast.te10110043849684766642,Fast.te14364793385576792824,Fast.te5923862056798008813,Fast.te11573204130310132958,Fast.te13123040355124191246];exact λw=>by kernel_rfl
noncomputable def GB(w:Qk):Prop:=(λos=>(Rn PZW 5186 w os).map λr=>LB PZW (vw PZW) loose Xt r.2.1.abs)=λ_=>some true
theorem gBf:∀w:Qk,GB (w.withFollow "special-get-raises" false):=by
 unfold GB Rn LB;rw[Fast.te10110043849684766642,Fast.te14364793385576792824,Fast.te5923862056798008813,Fast.te11573204130310132958];exact λw=>by kernel_rfl
theorem gBt:∀w:Qk,GB (w.withFollow "special-get-raises" true):=by
 unfold GB Rn LB;rw[Fast.te10110043849684766642,Fast.te14364793385576792824,Fast.te5923862056798008813,Fast.te11573204130310132958];exact λw=>by kernel_rfl
noncomputable def GC(w:Qk):Prop:=(λos=>(Rn PZW 5186 w os).map λr=>plainSeenE (vw PZW) (looseW (vw PZW) loose) r.2.1.abs)=λ_=>some (plainGoodE (vw PZW) (looseW (vw PZW) loose))
theorem gCf:∀w:Qk,GC (w.withFollow "special-get-raises" false):=by
 unfold GC Rn ;rw[Fast.te10110043849684766642,Fast.te14364793385576792824,Fast.te11573204130310132958];exact λw=>by kernel_rfl
theorem gCt:∀w:Qk,GC (w.withFollow "special-get-raises" true):=by
 unfold GC Rn ;rw[Fast.te10110043849684766642,Fast.te14364793385576792824,Fast.te11573204130310132958];exact λw=>by kernel_rfl
noncomputable def GD(w:Qk):Prop:=(λos=>(Rn PZW 5186 w os).map λr=>LD (vw PZW) loose r.2.1.abs)=λ_=>some (bltViewBooted,true,pinGoodD (drecsOf (vw PZW)),clsGoodW (vw PZW) loose)
theorem gDf:∀w:Qk,GD (w.withFollow "special-get-raises" false):=by
 unfold GD Rn LD;rw[Fast.te10110043849684766642,Fast.te14364793385576792824,Fast.te11573204130310132958];exact λw=>by kernel_rfl
theorem gDt:∀w:Qk,GD (w.withFollow "special-get-raises" true):=by
 unfold GD Rn LD;rw[Fast.te10110043849684766642,Fast.te14364793385576792824,Fast.te11573204130310132958];exact λw=>by kernel_rfl
noncomputable def GE(w:Qk):Prop:=(λos=>(Rn PZW 5186 w os).map λr=>LG (vw PZW) loose r.2.1.abs)=λ_=>some (wideGood (vw PZW),plainGoodD (vw PZW) loose)
theorem gEf:∀w:Qk,GE (w.withFollow "special-get-raises" false):=by
 unfold GE Rn LG;rw[Fast.te10110043849684766642,Fast.te14364793385576792824,Fast.te11573204130310132958];exact λw=>by kernel_rfl
theorem gEt:∀w:Qk,GE (w.withFollow "special-get-raises" true):=by
 unfold GE Rn LG;rw[Fast.te10110043849684766642,Fast.te14364793385576792824,Fast.te11573204130310132958];exact λw=>by kernel_rfl
theorem left:LeftO PZW (vw PZW) loose (Xt (vw PZW)) (λs=>ads.map s.heap.get?) (λw=>(KF w.params).map λp=>some p.2) 10496:=
 lo3 (boot_open (by kernel_rfl) (by decide) (λs=>by kernel_rfl)) (λw=>by kernel_rfl) pre blk (byRow2 "special-get-raises" gAf gAt) (byRow2 "special-get-raises" gBf gBt) (byRow2 "special-get-raises" gCf gCt) (byRow2 "special-get-raises" gDf gDt) (byRow2 "special-get-raises" gEf gEt) (by decide)
end K17
section
namespace L2
open PySem PySem.Spec PyProof.Rows
abbrev Key:=Sum Int Str
noncomputable def qba:Key->Value->Bool
 |.inl k,v=>Value.isInt k v
 |.inr x,v=>Value.isStrOf x v
noncomputable def keyH(w:Qk):Key->Int
 |.inl k=>hashInt k
 |.inr x=>hashStr w x
theorem qzd:∀{k:Key}{v:Value},qba k v=true->(∃i t,k=Sum.inl i/\v=Value.int i t)\/(∃x t,k=Sum.inr x/\v=Value.str x t)
 |.inl i,v,h=>by
  obtain⟨t,e⟩:=Value.isInt_shape (k:=i) (v:=v) h;exact .inl ⟨i,t,rfl,e⟩
 |.inr x,v,h=>by
  obtain⟨t,e⟩:=Value.isStrOf_shape (x:=x) (v:=v) h;exact .inr ⟨x,t,rfl,e⟩
theorem qdd(i:Int)(t:Tok):qba (.inl i) (.int i t)=true:=by simp[qba,Value.isInt]
theorem qdc(x:Str)(t:Tok):qba (.inr x) (.str x t)=true:=by simp[qba,Value.isStrOf]
theorem key_ll(a b:Int):decide ((Sum.inl a:Key)=Sum.inl b)=(a==b):=by
 by_cases e:a=b
 ·subst e; simp
 ·have h:¬ (Sum.inl a:Key)=Sum.inl b:=λq=>e (Sum.inl.inj q);rw[Z1 h];exact(beq_eq_false_iff_ne.mpr e).symm
theorem key_rr(a b:Str):decide ((Sum.inr a:Key)=Sum.inr b)=decide (a=b):=by
 by_cases e:a=b
 ·subst e; simp
 ·have h:¬ (Sum.inr a:Key)=Sum.inr b:=λq=>e (Sum.inr.inj q);rw[Z1 h,Z1 e]
theorem key_lr(a:Int)(b:Str):decide ((Sum.inl a:Key)=Sum.inr b)=false:=Z1 (λq=>nomatch q)
theorem key_rl(a:Str)(b:Int):decide ((Sum.inr a:Key)=Sum.inl b)=false:=Z1 (λq=>nomatch q)
noncomputable def mixKind(prog:Program)(w:Qk):PySem.KeyKind prog w Key where
 is:=qba
 hash:=keyH w
 inj:=λv a b ha hb=>by
  rcases qzd ha with⟨i,t,rfl,rfl⟩|⟨x,t,rfl,rfl⟩
  ·rcases qzd hb with⟨j,u,rfl,e⟩|⟨y,u,rfl,e⟩
   ·injection e with e1 _; rw[e1]
   ·exact nomatch e
  ·rcases qzd hb with⟨j,u,rfl,e⟩|⟨y,u,rfl,e⟩
   ·exact nomatch e
   ·injection e with e1 _; rw[e1]
 byValue:=λk v h=>by
  rcases qzd h with⟨i,t,rfl,rfl⟩|⟨x,t,rfl,rfl⟩<;>rfl
 pyHash:=λhv h=>by
  rcases qzd hv with⟨i,t,rfl,rfl⟩|⟨x,t,rfl,rfl⟩
  ·exact wpAny_pyHash_int h
  ·exact wpAny_pyHash_str h
 eqBool:=λhu hv h=>by
  rcases qzd hu with⟨i,t,rfl,rfl⟩|⟨x,t,rfl,rfl⟩
  ·rcases qzd hv with⟨j,u,rfl,rfl⟩|⟨y,u,rfl,rfl⟩
   ·rw[key_ll]at h; exact wpAny_eqBool_int h
   ·rw[key_lr]at h; exact SeqAt.EqAt.int_str i t y u _ _ _ _ h
  ·rcases qzd hv with⟨j,u,rfl,rfl⟩|⟨y,u,rfl,rfl⟩
   ·rw[key_rl]at h; exact SeqAt.EqAt.str_int x t j u _ _ _ _ h
   ·rw[key_rr]at h; exact wpAny_eqBool_str h
 «strs»:=λk x t v h=>by
  rcases qzd h with⟨i,u,rfl,e⟩|⟨y,u,rfl,e⟩
  ·exact nomatch e
  ·injection e with e1 _;subst e1;cases v<;>rfl
theorem qyq(prog:Program)(w:Qk)(i:Int)(t:Tok):(mixKind prog w).is (.inl i) (.int i t)=true:=qdd i t
theorem qq7(prog:Program)(w:Qk)(x:Str)(t:Tok):(mixKind prog w).is (.inr x) (.str x t)=true:=qdc x t
end L2
namespace L2
open PySem PySem.Spec PyProof.Rows
inductive V where
 |non|bl (b:Bool)|int (i:Int)|str (x:Str)|byt (b:Array UInt8)|flt (b:UInt64)|ref (a:Addr)|ty (n:String)
 deriving DecidableEq
noncomputable def RelV:V->Value->Prop
 |.non,u=>u=Value.none
 |.bl b,u=>u=Value.bool b
 |.int i,u=>∃t,u=Value.int i t
 |.str x,u=>∃t,u=Value.str x t
 |.byt b,u=>∃t,u=Value.bytes b t
 |.flt b,u=>∃t,u=Value.float b t
 |.ref a,u=>u=Value.ref a
 |.ty n,u=>u=Value.type n
abbrev Vals:List V->List Value->Prop:=Paired RelV
theorem Vals.length{xs:List V}{us:List Value}(r:Vals xs us):xs.length=us.length:=Paired.length r
theorem Vals.get:∀{xs:List V}{us:List Value}{i:Nat}{x:V},Vals xs us->xs[i]?=some x->∃u,us[i]?=some u/\RelV x u
 |_,_,_,_,.nil,e=>by simp at e
 |_,_,0,_,.cons r _,e=>by simp at e; subst e; exact⟨_,rfl,r⟩
 |_,_,i+1,x,.cons _ t,e=>by
  obtain⟨u,h1,h2⟩:=Vals.get (i:=i) (x:=x) t (by simpa using e);exact⟨u,by simpa using h1,h2⟩
theorem Vals.append:∀{xs ys:List V}{us ws:List Value},Vals xs us->Vals ys ws->Vals (xs++ys) (us++ws)
 |_,_,_,_,.nil,s=>s
 |_,_,_,_,.cons r t,s=>.cons r (Vals.append t s)
theorem Vals.take:∀{xs:List V}{us:List Value}(n:Nat),Vals xs us->Vals (xs.take n) (us.take n)
 |_,_,0,_=>.nil
 |_,_,_+1,.nil=>.nil
 |_,_,n+1,.cons r t=>.cons r (Vals.take n t)
theorem Vals.drop:∀{xs:List V}{us:List Value}(n:Nat),Vals xs us->Vals (xs.drop n) (us.drop n)
 |_,_,0,r=>r
 |_,_,_+1,.nil=>.nil
 |_,_,n+1,.cons _ t=>Vals.drop n t
noncomputable def RelO:Option V->Option Value->Prop
 |some v,some u=>RelV v u
 |none,none=>True
 |_,_=>False
def KV{κ:Type}:List (κ×V)->List (κ×Value)->Prop:=Paired λ(p:κ×V) (q:κ×Value)=>p.1=q.1/\RelV p.2 q.2
noncomputable def kV:Key->V
 |.inl i=>.int i
 |.inr x=>.str x
inductive HO where
 /-- a list -/
 |lst (xs:List V)
 /-- a tuple (never changes) -/
 |tup (xs:List V)
 /-- a dict whose keys are ints and texts; one whose keys are tuples of ints and texts (the empty one is both) -/
 |dK (kvs:List (Key×V))|dT (kvs:List (List Key×V))
 /-- a set of ints: its members,its size -/
 |set (S:Int->Bool) (n:Nat)
 /-- an instance of the class at C,its dict at dx,its attributes -/
 |ins (C dx:Addr) (fs:List (Str×V))
 /-- the dict of the instance at x -/
 |own (x:Addr)
 /-- the dict of an exception -/
 |xd (fs:List (Str×V))
 /-- a bound method,f of x -/
 |met (f x:Addr)
 /-- a range object lo,lo+1,.. below hi -/
 |rng (lo hi:Int)
 /-- a thing that is known to the object (the script; a dict while a loop walks it): read,never written while it is so -/
 |frz (o:Obj) (u:HO)
 /-- a code object's table -/
 |tbl (ps:Array Value)
 /-- any other thing,by what is true of its one object (a def of one's own: SetO a S n:=HO.ext λh=>..) -/
 |ext (φ:Heap->Prop)
abbrev Hp:=Addr->Option HO
noncomputable def upd(H:Hp)(a:Addr)(o:HO):Hp:=λb=>if b=a then some o else H b
theorem qzx{H:Hp}{a:Addr}{o:HO}:upd H a o a=some o:=by unfold upd; rw[Z3 rfl]
theorem qzq{H:Hp}{a b:Addr}{o:HO}(h:b≠a):upd H a o b=H b:=by unfold upd; rw[Z2 h]
theorem qzo{H:Hp}{a b:Addr}{o u:HO}(h:H a=some o)(h':H b=some u)(d:o≠u):a≠b:=by
 intro e; subst e; rw[h]at h'; exact d (Option.some.inj h')
theorem qze{H:Hp}{a b:Addr}{o:HO}(h:H a=some o)(h':H b=none):a≠b:=by
 intro e; subst e; rw[h]at h'; cases h'
section
variable (P:Program)(w:Qk)
noncomputable def ObjOk(H:Hp)(h:Heap)(a:Addr):HO->Prop
 |.lst xs=>xs.length<=sizeLine/\∃(its:List Value) (n:Nat),Vals xs its/\h.get? a=some { cls:=.type "list",data:=.seq its.toArray n }
 |.tup xs=>xs.length<=sizeLine/\∃its:List Value,Vals xs its/\IsTup h a its.toArray
 |.dK kvs=>kvs.length<=sizeLine/\(a==Qn)=false/\∃vs,KV kvs vs/\h.DictOf (mixKind P w) a vs
 |.dT kvs=>kvs.length<=sizeLine/\(a==Qn)=false/\∃xs:List (List Key×Addr×Value),
   Paired (λ(p:List Key×V) (q:List Key×Addr×Value)=>p.1=q.1/\H q.2.1=some (.tup (p.1.map kV))/\RelV p.2 q.2.2) kvs xs/\
   ∃o es ep,h.get? a=some o/\o.ExactDict/\o.data=.dict es ep/\es.toList=xs.map (entryOfKey (tupleKind (mixKind P w)))/\(xs.map (·.1)).Nodup
 |.set S n=>h.SetOf (intKind P w) a S n
 |.ins C dx fs=>H dx=some (.own a)/\fs.length<=1000/\dx≠a/\h.get? a=some (PySem.W.instObj C dx)/\
   ∃mA,h.Ns1 dx mA/\(∀f,RelO (fs.lookup f) (mA f))/\PySem.Within mA (fs.map (·.1))
 |.own _=>∃o,h.get? a=some o
 |.xd fs=>∃mA,h.Ns1 a mA/\∀f,RelO (fs.lookup f) (mA f)
 |.rng lo hi=>∃t u v,h.get? a=some { cls:=.type "range",data:=.fields #[.int lo t,.int hi u,.int 1 v] }
 |.frz o u=>h.get? a=some o/\ObjOk H h a u
 |.tbl ps=>h.get? a=some { cls:=.none,data:=.fields ps }
 |.met f x=>h.get? a=some (PySem.W.methodObj (.ref f) (.ref x))
 |.ext φ=>φ h/\(∃o,h.get? a=some o)/\∀h1 h2:Heap,φ h1->(∀o,h1.get? a=some o->h2.get? a=some o)->φ h2
def HOk(H:Hp)(h:Heap):Prop:=∀a o,H a=some o->ObjOk P w H h a o
end
section
variable {P:Program}{w:Qk}{H H':Hp}{h h':Heap}{a:Addr}{o:HO}
theorem ObjOk.lt(x:ObjOk P w H h a o):a<h.objs.size:=by
 cases o with
 |lst xs=>obtain⟨_,_,_,_,e⟩:=x; exact Qqd e
 |tup xs=>obtain⟨_,_,_,p⟩:=x; exact p.lt
 |dK kvs=>obtain⟨_,_,_,_,o,_,_,e,_⟩:=x; exact Qqd e
 |dT kvs=>obtain⟨_,_,_,_,o,_,_,e,_⟩:=x; exact Qqd e
 |set S n=>obtain⟨o,_,_,_,e,_⟩:=x; exact Qqd e
 |ins C dx fs=>obtain⟨_,_,_,e,_⟩:=x; exact Qqd e
 |own y=>obtain⟨_,e⟩:=x; exact Qqd e
 |xd fs=>obtain⟨_,⟨_,_,_,e,_⟩,_⟩:=x; exact Qqd e
 |rng lo hi=>obtain⟨_,_,_,e⟩:=x; exact Qqd e
 |frz ob u=>obtain⟨e,_⟩:=x; exact Qqd e
 |tbl ps=>exact Qqd (show h.get? a=some _ from x)
 |met f y=>exact Qqd (show h.get? a=some _ from x)
 |ext j=>obtain⟨_,⟨_,e⟩,_⟩:=x; exact Qqd e
theorem Paired.mapP{α J:Type}{F G:α->J->Prop}:∀{z:List α}{j:List J},Paired F z j->(∀a b,F a b->G a b)->Paired G z j
 |_,_,.nil,_=>.nil
 |_,_,.cons r t,f=>.cons (f _ _ r) (Paired.mapP t f)
theorem ObjOk.stay(x:ObjOk P w H h a o)(k:∀b u,(b=a\/H b=some (.own a))->h.get? b=some u->h'.get? b=some u)
  (U:∀b,H b=some (.own a)->H' b=some (.own a)) (O:∀b xs,H b=some (.tup xs)->H' b=some (.tup xs)):ObjOk P w H' h' a o:=by
 induction o with
 |lst xs=>obtain⟨z,F,n,r,e⟩:=x; exact⟨z,F,n,r,k _ _ (.inl rfl) e⟩
 |tup xs=>obtain⟨z,F,r,ob,e,c⟩:=x; exact⟨z,F,r,ob,k _ _ (.inl rfl) e,c⟩
 |dK kvs=>obtain⟨z,y,vs,r,ob,es,j,e,c⟩:=x; exact⟨z,y,vs,r,ob,es,j,k _ _ (.inl rfl) e,c⟩
 |dT kvs=>
  obtain⟨z,y,xs,r,ob,es,j,e,c⟩:=x;exact⟨z,y,xs,Paired.mapP r λp q z=>⟨z.1,O _ _ z.2.1,z.2.2⟩,ob,es,j,k _ _ (.inl rfl) e,c⟩
 |set S n=>obtain⟨ob,es,j,t,e,c⟩:=x; exact⟨ob,es,j,t,k _ _ (.inl rfl) e,c⟩
 |ins C dx fs=>
  obtain⟨d,z,ne,e,mA,⟨J,es,j,Y,c⟩,r⟩:=x;exact⟨U _ d,z,ne,k _ _ (.inl rfl) e,mA,⟨J,es,j,k _ _ (.inr d) Y,c⟩,r⟩
 |own y=>obtain⟨ob,e⟩:=x; exact⟨ob,k _ _ (.inl rfl) e⟩
 |xd fs=>obtain⟨mA,⟨J,es,j,e,c⟩,r⟩:=x; exact⟨mA,⟨J,es,j,k _ _ (.inl rfl) e,c⟩,r⟩
 |rng lo hi=>obtain⟨t,u,v,e⟩:=x; exact⟨t,u,v,k _ _ (.inl rfl) e⟩
 |frz ob u L=>obtain⟨e,q⟩:=x; exact⟨k _ _ (.inl rfl) e,L q⟩
 |tbl ps=>
  have e:h.get? a=some { cls:=.none,data:=.fields ps }:=x;show h'.get? a=some { cls:=.none,data:=.fields ps };exact k a _ (.inl rfl) e
 |met f y=>
  have e:h.get? a=some (PySem.W.methodObj (.ref f) (.ref y)):=x;show h'.get? a=some (PySem.W.methodObj (.ref f) (.ref y));exact k a _ (.inl rfl) e
 |ext Z=>obtain⟨p,⟨o,e⟩,st⟩:=x; exact⟨st _ _ p λo q=>k _ _ (.inl rfl) q,⟨o,k _ _ (.inl rfl) e⟩,st⟩
theorem HOk.lt(x:HOk P w H h)(e:H a=some o):a<h.objs.size:=(x a o e).lt
theorem HOk.fresh(x:HOk P w H h)(e:h.objs.size<=a):H a=none:=by
 cases q:H a with
 |none=>rfl
 |some u=>exact absurd (Qq2 (x.lt q) e) (Qz9 _)
theorem HOk.kept(x:HOk P w H h)(k:∀b u,h.get? b=some u->h'.get? b=some u):HOk P w H h':=λa o e=>
 (x a o e).stay (λb u _ q=>k b u q) (λ_ q=>q) λ_ _ q=>q
theorem HOk.laid(x:HOk P w H h)(k:∀b u,h.get? b=some u->h'.get? b=some u)(z:h.objs.size<=a)(new:ObjOk P w (upd H a o) h' a o):HOk P w (upd H a o) h':=λb u e=>by
 have hn:=x.fresh z
 by_cases j:b=a
 ·subst j; rw[qzx]at e; cases e; exact new
 ·rw[qzq j]at e;exact(x b u e).stay (λc v _ q=>k c v q) (λc q=>by rw[qzq (qze q hn)]; exact q) λc xs q=>by rw[qzq (qze q hn)]; exact q
end
def Rd(H:Hp)(a:Addr)(u:HO):Prop:=H a=some u\/∃o,H a=some (.frz o u)
theorem Rd.ok{P:Program}{w:Qk}{H:Hp}{h:Heap}{a:Addr}{u:HO}(r:Rd H a u)(x:HOk P w H h):ObjOk P w H h a u:=by
 rcases r with r|⟨o,r⟩
 ·exact x a u r
 ·obtain⟨_,q⟩:=x a _ r;exact q
noncomputable def Mut:Option HO->Prop
 |some (.lst _)=>True
 |some (.dK _)=>True
 |some (.dT _)=>True
 |some (.set _ _)=>True
 |some (.ins _ _ _)=>True
 |some (.ext _)=>True
 |_=>False
section
variable {P:Program}{w:Qk}{H:Hp}{h h':Heap}{x e:Addr}{o':HO}
theorem HOk.write(ok:HOk P w H h)(L:Mut (H x))(he:e=x\/H e=some (.own x))(k:∀b u,b≠e->h.get? b=some u->h'.get? b=some u)(Y:∃u,h'.get? e=some u)
  (new:ObjOk P w (upd H x o') h' x o'):HOk P w (upd H x o') h':=λb u q=>by
 have F:∀c y,H c=some (.own y)->c≠x:=λc y r z=>by subst z; rw[r]at L; exact L
 have J:∀c xs,H c=some (.tup xs)->c≠x:=λc xs r z=>by subst z; rw[r]at L; exact L
 by_cases U:b=x
 ·subst U; rw[qzx]at q; cases q; exact new
 ·rw[qzq U]at q
  by_cases j:b=e
  ·have Z:H b=some (.own x):=by
    rcases he with z|z
    ·exact absurd (j.trans z) U
    ·rw[j]; exact z
   rw[q]at Z; cases Z;obtain⟨v,hv⟩:=Y;exact⟨v,by rw[j]; exact hv⟩
  ·refine(ok b u q).stay (λc v O r=>k c v ?_ r) (λc r=>by rw[qzq (F c b r)]; exact r) λc xs r=>by rw[qzq (J c xs r)]; exact r
   rcases O with rfl|O
   ·exact j
   ·rintro rfl;rcases he with z|z
    ·exact F c b O z
    ·rw[O]at z; cases z; exact U rfl
end
structure Un (fs ex:List Addr) (H H':Hp) (h h':Heap):Prop where
 keep:∀b o,h.get? b=some o->H b=none->b ∉ fs->b ∉ ex->h'.get? b=some o
 slot:∀b o,h.get? b=some o->H b=none->b∈fs->b ∉ ex->∃sl,h'.get? b=some { o with slots:=sl }
 free:∀b o,h.get? b=some o->H b=none->b ∉ ex->H' b=none
 there:∀b o,h.get? b=some o->b ∉ ex->∃o',h'.get? b=some o'
 tups:∀b xs,H b=some (.tup xs)->H' b=some (.tup xs)
 frzs:∀b o u,H b=some (.frz o u)->H' b=some (.frz o u)
 tbls:∀b ps,H b=some (.tbl ps)->∃more,H' b=some (.tbl (ps++more))
section
variable {fs fs' ex ex':List Addr}{H H1 H2:Hp}{h h1 h2 h':Heap}{a x e:Addr}{o:HO}
theorem Un.any(u:Un fs ex H H1 h h1){b:Addr}{ob:Obj}(q:h.get? b=some ob)(n:H b=none)(j:b ∉ ex):∃sl,h1.get? b=some { ob with slots:=sl }:=by
 by_cases z:b∈fs
 ·exact u.slot b ob q n z j
 ·exact⟨ob.slots,u.keep b ob q n z j⟩
theorem Un.kept(k:∀b u,h.get? b=some u->h'.get? b=some u):Un fs ex H H h h':=
 ⟨λb ob q _ _ _=>k b ob q,λb ob q _ _ _=>⟨ob.slots,k b ob q⟩,λ_ _ _ n _=>n,λb ob q _=>⟨ob,k b ob q⟩,λ_ _ q=>q,λ_ _ _ q=>q,λ_ ps q=>⟨#[],by rw[q]; simp⟩⟩
theorem Un.refl:Un fs ex H H h h:=Un.kept λ_ _ q=>q
theorem Un.laid(k:∀b u,h.get? b=some u->h'.get? b=some u)(z:h.objs.size<=a)(j:H a=none):Un fs ex H (upd H a o) h h' where
 keep:=λb u q _ _ _=>k b u q
 slot:=λb u q _ _ _=>⟨u.slots,k b u q⟩
 free:=λb u q n _=>by rw[qzq (Qq4 (Qq2 (Qqd q) z))]; exact n
 there:=λb u q _=>⟨u,k b u q⟩
 tups:=λb xs q=>by rw[qzq (qze q j)]; exact q
 frzs:=λb u xs q=>by rw[qzq (qze q j)]; exact q
 tbls:=λb ps q=>⟨#[],by rw[qzq (qze q j),q]; simp⟩
theorem Un.write(F:Mut (H x))(Y:e=x\/H e=some (.own x))(k:∀b u,b≠e->h.get? b=some u->h'.get? b=some u)(L:∃u,h'.get? e=some u):Un fs ex H (upd H x o) h h':=by
 have O:∀b,H b=none->b≠x:=λb n z=>by subst z; rw[n]at F; exact F
 have U:∀b,H b=none->b≠e:=λb n z=>by
  subst z;rcases Y with r|r
  ·exact O b n r
  ·rw[n]at r; cases r
 have J:∀b u,H b=some u->¬ Mut (some u)->b≠x:=λb u q nm z=>by subst z; rw[q]at F; exact nm F
 refine⟨λb u q n _ _=>k b u (U b n) q,λb u q n _ _=>⟨u.slots,k b u (U b n) q⟩,λb u q n _=>by rw[qzq (O b n)]; exact n,λb u q _=>?_,
  λb xs q=>by rw[qzq (J b _ q λz=>z)]; exact q,λb u xs q=>by rw[qzq (J b _ q λz=>z)]; exact q,λb ps q=>⟨#[],by rw[qzq (J b _ q λz=>z),q]; simp⟩⟩
 by_cases j:b=e
 ·subst j; exact L
 ·exact⟨u,k b u j q⟩
end
noncomputable def trk(h:Heap)(H:Hp):List Addr:=(List.range h.objs.size).filter λa=>(H a).isSome
noncomputable def hidT(h:Heap)(H:Hp):Heap:=PySem.W.hideAll h (trk h H)
theorem qdm(h:Heap)(H:Hp):(hidT h H).objs.size=h.objs.size:=PySem.W.hideAll_size _ _
theorem qgv{h:Heap}{H:Hp}{b:Addr}{o:Obj}(e:h.get? b=some o)(n:H b=none):(hidT h H).get? b=some o:=
 PySem.W.hideAll_get _ e λj=>by
  have q:(H b).isSome=true:=(Qzz.mp j).2;rw[n]at q; simp at q
theorem qlc{h:Heap}{H:Hp}{b:Addr}{o:Obj}(e:(hidT h H).get? b=some o):h.get? b=some o/\H b=none:=by
 have j:h.get? b=some o:=PySem.W.of_hideAll (trk h H) e;refine⟨j,?_⟩
 cases q:H b with
 |none=>rfl
 |some x=>
  have F:b∈trk h H:=Qzz.mpr ⟨Qxv.mpr (Qqd j),by simp[q]⟩;have z:(hidT h H).get? b=none:=PySem.W.hideAll_none (trk h H) F;rw[z]at e; cases e
end L2
namespace L2
open PySem PySem.Spec PyProof.Rows
structure Mod (K:Qqq) (mg:Str->Option Value) (base:Heap):Prop where
 kin:K.In base
 glob:base.Ns mainGlobals mg
 blt:∃mb,base.Ns builtinsNs mb/\∀x:Str,x ≠ "__name__"->mb x=Qa x
 nolimit:base.NoLimit
structure Cx where
 prog:Program
 w:Qk
 K:Qqq
 mg:Str->Option Value
 base:Heap
 A:Qv
 N:List Str
 s₀:Qz
 H₀:Hp
 env:Env
 outer:List Env
 stack:List Env
 ex:List Addr
 fn:Str->Bool
 calm:Bool
 pn:List (Addr×Obj)
 xe:Value->Qz->Prop
noncomputable def frs(l:List Env):List Addr:=l.filterMap (·.frame)
noncomputable abbrev Cx.fs(X:Cx):List Addr:=frs X.outer
def Vis(sc:Scope)(x:Str):Prop:=sc.names.lookup x=some .local\/sc.names.lookup x=some .cell\/sc.names.lookup x=some .free
def Loc(sc:Scope)(x:Str):Prop:=sc.names.lookup x=some .local\/sc.names.lookup x=some .cell
def Look(env:Env)(h:Heap)(m:Str->Option Value)(x:Str)(u:Value):Prop:=
 (env.kindOf x=some .local/\m x=some u)\/((env.kindOf x=some .cell\/env.kindOf x=some .free)/\∃c,env.cells.lookup x=some c/\h.IsCell c (some u))
structure Cx.Ok (X:Cx):Prop where
 mod:Mod X.K X.mg X.base
 kind:X.env.scope.kind=.function
 glob:X.env.globals=mainGlobals
 blt:X.env.builtins=builtinsNs
 above:X.s₀.heap.objs.size<=X.env.locals
 inj:∀x y c,X.env.cells.lookup x=some c->X.env.cells.lookup y=some c->x=y
 has:∀x,(X.env.kindOf x=some .cell\/X.env.kindOf x=some .free)->∃c,X.env.cells.lookup x=some c
 cab:∀x c,X.fn x=true->X.env.cells.lookup x=some c->X.s₀.heap.objs.size<=c
 hd:X.calm=true->X.A.handled=none
 frames:X.A.frames=some X.stack
 stk:X.stack=X.outer\/(X.stack=X.env::X.outer/\X.env.frame=some X.env.locals)
 exf:∀b∈X.ex,b≠X.env.locals/\∀x c,X.env.cells.lookup x=some c->c≠b
 bs:∀b o,X.base.get? b=some o->X.s₀.heap.get? b=some o/\X.H₀ b=none
 bsz:X.base.objs.size<=X.s₀.heap.objs.size
 noex:∀b o,X.base.get? b=some o->b ∉ X.ex
 exfs:∀b∈X.ex,b ∉ X.fs
 funs:X.s₀.heap.FunFrames X.base X.outer
 frf:∀b∈X.fs,X.H₀ b=none
structure Inv (X:Cx) (pins:List (Addr×Obj)) (σ:List (Option V)) (H:Hp) (s:Qz):Prop where
 ok:X.Ok
 os:s.os=X.s₀.os
 bare:Zm s.gens
 base:Un X.fs X.ex X.H₀ H X.s₀.heap s.heap
 loc:∃m,s.heap.Ns X.env.locals m/\∀(i:Nat) (x:Str) (v:V),X.N[i]?=some x->σ[i]?=some (some v)->Vis X.env.scope x->∃u,RelV v u/\Look X.env s.heap m x u
 cell:∀x c,X.env.cells.lookup x=some c->∃v,s.heap.IsCell c v
 free:H X.env.locals=none
 freeC:∀x c,X.env.cells.lookup x=some c->H c=none
 pin:∀p∈X.pn++pins,s.heap.get? p.1=some p.2/\H p.1=none/\p.1≠X.env.locals/\p.1 ∉ X.fs/\∀v,p.2.data≠.cell v
 hok:HOk X.prog X.w H s.heap
 len:σ.length=X.N.length
section
variable {X:Cx}{pins:List (Addr×Obj)}{σ:List (Option V)}{H H':Hp}{s:Qz}{h':Heap}
theorem Cx.Ok.nofr(ok:X.Ok){b:Addr}{o:Obj}(e:X.base.get? b=some o):b ∉ X.fs:=λj=>by
 have:=(ok.funs.mem j).1;rw[e]at this; cases this
theorem Inv.bs(I:Inv X pins σ H s):∀b o,X.base.get? b=some o->s.heap.get? b=some o/\H b=none:=λb o e=>
 ⟨I.base.keep b o (I.ok.bs b o e).1 (I.ok.bs b o e).2 (I.ok.nofr e) (I.ok.noex b o e),I.base.free b o (I.ok.bs b o e).1 (I.ok.bs b o e).2 (I.ok.noex b o e)⟩
theorem Inv.bk(I:Inv X pins σ H s):∀b o,X.base.get? b=some o->s.heap.get? b=some o:=λb o e=>(I.bs b o e).1
theorem Inv.mod(I:Inv X pins σ H s):Mod X.K X.mg X.base:=I.ok.mod
theorem Inv.kIn(I:Inv X pins σ H s):X.K.In s.heap:=I.ok.mod.kin.keeps I.bk
theorem Inv.lt(I:Inv X pins σ H s):X.env.locals<s.heap.objs.size:=let ⟨_,hn,_⟩:=I.loc; hn.lt
theorem Inv.sz(I:Inv X pins σ H s):X.s₀.heap.objs.size<=s.heap.objs.size:=Qzh I.ok.above (Qxf I.lt)
theorem Inv.nofs(I:Inv X pins σ H s){a:Addr}(h:s.heap.objs.size<=a):a ∉ X.fs:=λz=>by
 obtain⟨_,o,j,_⟩:=I.ok.funs.mem z;exact absurd (Qq2 (Qqd j) (Qzh I.sz h)) (Qz9 _)
theorem Inv.cne(I:Inv X pins σ H s):∀x c,X.env.cells.lookup x=some c->c≠X.env.locals:=λx c e z=>by
 obtain⟨v,o,J,hd⟩:=I.cell x c e;obtain⟨m,⟨o',es,L,j,F,_⟩,_⟩:=I.loc;rw[z,j]at J; cases J; rw[F]at hd; cases hd
theorem Inv.funs(I:Inv X pins σ H s):s.heap.FunFrames X.base X.outer:=by
 have all:∀(l:List Env),(∀b∈frs l,b∈X.fs)->X.s₀.heap.FunFrames X.base l->s.heap.FunFrames X.base l:=by
  intro l
  induction l with
  |nil=>intro _ _; trivial
  |cons env r O=>
   intro J Z;obtain⟨hk,⟨L,o,hf,hn,Y,hd⟩,U⟩:=Z;have F:L∈X.fs:=J L (by unfold frs; rw[Qz5,hf]; exact Qq0);obtain⟨sl,e⟩:=I.base.slot L o Y (I.ok.frf L F) F λz=>I.ok.exfs L z F;exact⟨hk,⟨L,_,hf,hn,e,hd⟩,O (λb j=>J b (by unfold frs; rw[Qz5,hf]; exact Qqn _ j)) U⟩
 exact all X.outer (λ_ j=>j) I.ok.funs
theorem Inv.stack(I:Inv X pins σ H s):s.heap.FunFrames X.base X.stack:=by
 rcases I.ok.stk with e|⟨e,hf⟩
 ·rw[e]; exact I.funs
 ·rw[e];obtain⟨m,hn,_⟩:=I.loc;refine .cons (by rw[I.ok.kind]; decide) hf hn ?_ I.funs;exact Heap.get?_none_of_le (Qzh I.ok.bsz I.ok.above)
theorem Inv.stkSub(I:Inv X pins σ H s):∀b∈frs X.stack,b∈X.env.locals::X.fs:=λb j=>by
 rcases I.ok.stk with e|⟨e,hf⟩
 ·rw[e]at j; exact Qqn _ j
 ·rw[e]at j;unfold frs at j;rw[Qz5,hf]at j;exact j
theorem Inv.stkFree(I:Inv X pins σ H s):∀b∈frs X.stack,H b=none:=λb j=>by
 rcases Qqc.mp (I.stkSub b j) with e|j
 ·rw[e]; exact I.free
 ·obtain⟨_,o,F,_⟩:=I.ok.funs.mem j;exact I.base.free b o F (I.ok.frf b j) λz=>I.ok.exfs b z j
theorem Inv.step{g':Array GenState}{t':Nat}{d':Drawn}{ch:List Addr}(I:Inv X pins σ H s)
  (J:∀b∈ch,(b∈X.ex\/X.s₀.heap.objs.size<=b)/\b≠X.env.locals/\(∀x c,X.env.cells.lookup x=some c->c≠b)/\∀p∈X.pn++pins,p.1≠b)
  (keep:∀b o,b≠X.env.locals->b ∉ X.fs->b ∉ ch->s.heap.get? b=some o->H b=none->h'.get? b=some o)
  (slot:∀b o,b≠X.env.locals->b∈X.fs->b ∉ ch->s.heap.get? b=some o->H b=none->∃sl,h'.get? b=some { o with slots:=sl }) (free:∀b o,b ∉ ch->s.heap.get? b=some o->H b=none->H' b=none)
  (there:∀b o,b ∉ ch->s.heap.get? b=some o->∃o',h'.get? b=some o')
  (tups:∀b xs,H b=some (.tup xs)->H' b=some (.tup xs)) (frzs:∀b o u,H b=some (.frz o u)->H' b=some (.frz o u)) (tbls:∀b ps,H b=some (.tbl ps)->∃more,H' b=some (.tbl (ps++more)))
  (ns:∀m,s.heap.Ns X.env.locals m->h'.Ns X.env.locals m) (hok:HOk X.prog X.w H' h') (hg:Zm g') :
  Inv X pins σ H' { s with heap:=h',gens:=g',drawn:=d',toks:=t' }:=by
 have a0:∀b o,X.s₀.heap.get? b=some o->b≠X.env.locals:=λb o e=>Qq4 (Qq2 (Qqd e) I.ok.above);have O:∀b o,X.s₀.heap.get? b=some o->b ∉ X.ex->b ∉ ch:=λb o e j Y=>by
  rcases (J b Y).1 with z|z
  ·exact j z
  ·exact absurd (Qq2 (Qqd e) z) (Qz9 _)
 have L:∀x c,X.env.cells.lookup x=some c->∀v,s.heap.IsCell c v->h'.IsCell c v:=λx c e v ⟨o,Z,hd⟩=>by
  have F:c ∉ ch:=λz=>(J c z).2.2.1 x c e rfl
  by_cases hc:c∈X.fs
  ·obtain⟨sl,q⟩:=slot c o (I.cne x c e) hc F Z (I.freeC x c e);exact⟨_,q,hd⟩
  ·exact⟨o,keep c o (I.cne x c e) hc F Z (I.freeC x c e),hd⟩
 refine⟨I.ok,I.os,hg,⟨λb o e n Y j=>?_,λb o e n Y j=>?_,λb o e n j=>?_,λb o e j=>?_,λb xs e=>tups b xs (I.base.tups b xs e),λb o xs e=>frzs b o xs (I.base.frzs b o xs e),λb ps e=>?_⟩,?_,λx c e=>?_,?_,λx c e=>?_,λp hp=>?_,hok,I.len⟩
 ·exact keep b o (a0 b o e) Y (O b o e j) (I.base.keep b o e n Y j) (I.base.free b o e n j)
 ·obtain⟨sl,U⟩:=I.base.slot b o e n Y j;obtain⟨a1,e2⟩:=slot b _ (a0 b o e) Y (O b o e j) U (I.base.free b o e n j);exact⟨a1,e2⟩
 ·obtain⟨o',U⟩:=I.base.there b o e j;exact free b o' (O b o e j) U (I.base.free b o e n j)
 ·obtain⟨o',U⟩:=I.base.there b o e j;exact there b o' (O b o e j) U
 ·obtain⟨m1,U⟩:=I.base.tbls b ps e;obtain⟨m2,e2⟩:=tbls b _ U;exact⟨m1++m2,by rw[e2,Array.append_assoc]⟩
 ·obtain⟨m,hn,hl⟩:=I.loc;refine⟨m,ns m hn,λi x v U e2 e3=>?_⟩;obtain⟨u,r,l⟩:=hl i x v U e2 e3;refine⟨u,r,?_⟩;rcases l with l|⟨k,c,e,z⟩
  ·exact .inl l
  ·exact .inr ⟨k,c,e,L x c e _ z⟩
 ·obtain⟨v,z⟩:=I.cell x c e;exact⟨v,L x c e v z⟩
 ·obtain⟨m,⟨o,_,_,Z,_⟩,_⟩:=I.loc;exact free _ o (λz=>(J _ z).2.1 rfl) Z I.free
 ·obtain⟨v,o,Z,hd⟩:=I.cell x c e;exact free c o (λz=>(J c z).2.2.1 x c e rfl) Z (I.freeC x c e)
 ·obtain⟨e,n,ne,nf,d⟩:=I.pin p hp;have F:p.1 ∉ ch:=λz=>(J p.1 z).2.2.2 p hp rfl;exact⟨keep p.1 p.2 ne nf F e n,free p.1 p.2 F e n,ne,nf,d⟩
theorem Inv.un{t':Nat}(I:Inv X pins σ H s)(u:Un X.fs [] H H' s.heap h')(hok:HOk X.prog X.w H' h'):Inv X pins σ H' { s with heap:=h',toks:=t' }:=by
 obtain⟨m,⟨o,es,Z,O,r⟩,_⟩:=id I.loc;obtain⟨sl,Y⟩:=u.any O I.free (by simp)
 exact I.step (g':=s.gens) (d':=s.drawn) (ch:=[]) (λ_ z=>nomatch z) (λb o _ F _ e n=>u.keep b o e n F (by simp)) (λb o _ F _ e n=>u.slot b o e n F (by simp)) (λb o _ e n=>u.free b o e n (by simp)) (λb o _ e=>u.there b o e (by simp)) u.tups u.frzs u.tbls (λm' U=>by
  obtain⟨o',J,L,j,r'⟩:=U;rw[O]at j; cases j
  exact⟨_,J,L,Y,r'⟩) hok I.bare
theorem Inv.call{g':Array GenState}{t':Nat}{d':Drawn}{ch:List Addr}(I:Inv X pins σ H s)(u:Un (frs X.stack) ch H H' s.heap h')(hok:HOk X.prog X.w H' h')(hg:Zm g')
  (J:∀b∈ch,(b∈X.ex\/X.s₀.heap.objs.size<=b)/\b≠X.env.locals/\(∀x c,X.env.cells.lookup x=some c->c≠b)/\∀p∈X.pn++pins,p.1≠b) :
  Inv X pins σ H' { s with heap:=h',gens:=g',drawn:=d',toks:=t' }:=by
 obtain⟨m,⟨o,es,ep,Y,r⟩,_⟩:=id I.loc;obtain⟨sl,L⟩:=u.any Y I.free λz=>(J _ z).2.1 rfl
 exact I.step (ch:=ch) J (λb o L hb j e n=>u.keep b o e n (λz=>(Qqc.mp (I.stkSub b z)).elim L hb) j) (λb o _ _ j e n=>u.any e n j) (λb o j e n=>u.free b o e n j) (λb o j e=>u.there b o e j) u.tups u.frzs u.tbls (λm' Z=>by
  obtain⟨o',O,U,F,r'⟩:=Z;rw[Y]at F; cases F
  exact⟨_,O,U,L,r'⟩) hok hg
theorem Inv.turned{t':Nat}{it:Addr}(I:Inv X pins σ H s)(k:∀b o,b≠it->s.heap.get? b=some o->h'.get? b=some o)(O:H it=none)(J:it≠X.env.locals)
  (h1:it∈X.ex\/X.s₀.heap.objs.size<=it) (h2:∀x c,X.env.cells.lookup x=some c->c≠it) (Z:∀p∈X.pn++pins,p.1≠it):Inv X pins σ H { s with heap:=h',toks:=t' }:=by
 have F:∀b u,H b=some u->b≠it:=λb u e z=>by rw[z,O]at e; cases e
 refine I.step (g':=s.gens) (d':=s.drawn) (ch:=[it]) (λb Y=>?_) (λb o _ _ j e _=>k b o (λz=>j (by simp[z])) e) (λb o _ _ j e _=>⟨o.slots,k b o (λz=>j (by simp[z])) e⟩) (λ_ _ _ _ n=>n)
  (λb o j e=>⟨o,k b o (λz=>j (by simp[z])) e⟩) (λ_ _ e=>e) (λ_ _ _ e=>e) (λb ps e=>⟨#[],by rw[e]; simp⟩) (λm U=>?_) (λb u e=>?_) I.bare
 ·have e:b=it:=by simpa using Y
  subst e;exact⟨h1,J,h2,Z⟩
 ·obtain⟨o,es,ep,L,r⟩:=U;exact⟨o,es,ep,k _ o (Ne.symm J) L,r⟩
 ·refine(I.hok b u e).stay (λc v j q=>k c v ?_ q) (λ_ q=>q) λ_ _ q=>q;rcases j with z|z
  ·rw[z]; exact F b u e
  ·exact F c _ z
theorem Inv.tok(I:Inv X pins σ H s)(t:Nat):Inv X pins σ H { s with toks:=t }:=I.un (h':=s.heap) (t':=t) Un.refl I.hok
theorem Inv.kept{t':Nat}(I:Inv X pins σ H s)(k:∀b u,s.heap.get? b=some u->h'.get? b=some u):Inv X pins σ H { s with heap:=h',toks:=t' }:=I.un (Un.kept k) (I.hok.kept k)
theorem Inv.laid{a:Addr}{o:HO}{t':Nat}(I:Inv X pins σ H s)(k:∀b u,s.heap.get? b=some u->h'.get? b=some u)(j:s.heap.objs.size<=a)(new:ObjOk X.prog X.w (upd H a o) h' a o):
  Inv X pins σ (upd H a o) { s with heap:=h',toks:=t' }:=I.un (Un.laid k j (I.hok.fresh j)) (I.hok.laid k j new)
theorem Inv.write{x e:Addr}{o:HO}{t':Nat}(I:Inv X pins σ H s)(z:Mut (H x))(F:e=x\/H e=some (.own x))(k:∀b u,b≠e->s.heap.get? b=some u->h'.get? b=some u)(j:∃u,h'.get? e=some u)
  (new:ObjOk X.prog X.w (upd H x o) h' x o):Inv X pins σ (upd H x o) { s with heap:=h',toks:=t' }:=I.un (Un.write z F k j) (I.hok.write z F k j new)
theorem Inv.pins_of{j:List (Addr×Obj)}(I:Inv X pins σ H s)(h:∀p∈j,s.heap.get? p.1=some p.2/\H p.1=none/\p.1≠X.env.locals/\p.1 ∉ X.fs/\∀v,p.2.data≠.cell v):Inv X j σ H s:=
 ⟨I.ok,I.os,I.bare,I.base,I.loc,I.cell,I.free,I.freeC,λp F=>(Qqt.mp F).elim (λz=>I.pin p (Qzf _ z)) (h p),I.hok,I.len⟩
theorem qak{N:List Str}(z:N.Nodup){i j:Nat}{x:Str}(a:N[i]?=some x)(b:N[j]?=some x):i=j:=by
 obtain⟨h1,J⟩:=Qqv.mp a;obtain⟨h2,F⟩:=Qqv.mp b;exact(List.getElem_inj z).mp (J.trans F.symm)
theorem qvp{M:Model}{A:Qv}{E:Value->Qz->Prop}{i:Nat}{x:Str}{v:V}{u:Value}{Q:Unit->Qz->Prop}(I:Inv X pins σ H s)(hN:X.N.Nodup)(hi:X.N[i]?=some x)(O:Loc X.env.scope x)(r:RelV v u)
  (h:∀s',Inv X pins (σ.set i (some v)) H s'->(∃a,Heap.SameBut a s.heap s'.heap/\(a=X.env.locals\/X.env.cells.lookup x=some a))->Q () s') (hf:X.fn x=true\/X.env.scope.names.lookup x=some .local):wpAny M A (storeName X.env x u) Q E s:=by
 obtain⟨m,hn,hl⟩:=id I.loc;have a4:(X.env.scope.kind==.class||(X.env.scope.kind==.module&&X.env.locals != X.env.globals))=false:=by rw[I.ok.kind]; rfl
 have a0:i<σ.length:=by rw[I.len]; exact(Qqv.mp hi).1
 have cne:=I.cne;have tracked:∀{a:Addr}{h':Heap},(∃o,s.heap.get? a=some o/\H a=none)->Heap.SameBut a s.heap h'->HOk X.prog X.w H h':=λ{a h'} ha F b ob e=>by
  obtain⟨_,_,U⟩:=ha;refine(I.hok b ob e).stay (λc w' L q=>(F.2 c ?_).trans q) (λ_ q=>q) λ_ _ q=>q;rintro rfl;rcases L with rfl|L
  ·rw[U]at e; cases e
  ·rw[U]at L; cases L
 rcases O with Z|Z
 ·refine wpAny_storeName_local Z hn (λh' a8 F=>?_) a4;obtain⟨oL,_,_,a7,_⟩:=id hn;refine h _ ⟨I.ok,I.os,I.bare,⟨λb o e n hb O=>?_,λb o e n hb O=>?_,I.base.free,λb o e O=>?_,I.base.tups,I.base.frzs,I.base.tbls⟩,⟨_,a8,λj y v' J Y e3=>?_⟩,λy c e=>?_,I.free,I.freeC,λp hp=>?_,tracked ⟨oL,a7,I.free⟩ F,by simpa using I.len⟩ ⟨_,F,.inl rfl⟩
  ·exact(F.2 b (Qq4 (Qq2 (Qqd e) I.ok.above))).trans (I.base.keep b o e n hb O)
  ·obtain⟨sl,J⟩:=I.base.slot b o e n hb O;exact⟨sl,(F.2 b (Qq4 (Qq2 (Qqd e) I.ok.above))).trans J⟩
  ·obtain⟨o',J⟩:=I.base.there b o e O;exact⟨o',(F.2 b (Qq4 (Qq2 (Qqd e) I.ok.above))).trans J⟩
  ·by_cases hj:j=i
   ·subst hj;rw[hi]at J; cases J;rw[Qq8 a0]at Y;cases Y;exact⟨u,r,.inl ⟨Z,by simp⟩⟩
   ·rw[Qqp (Ne.symm hj)]at Y;obtain⟨u',r',q⟩:=hl j y v' J Y e3;refine⟨u',r',?_⟩;rcases q with⟨k,e⟩|⟨k,c,e,z⟩
    ·refine .inl ⟨k,?_⟩;have:y≠x:=λe=>hj (qak hN J (e▸hi));simp[this,e]
    ·exact .inr ⟨k,c,e,z.sameBut F (cne y c e)⟩
  ·obtain⟨w',z⟩:=I.cell y c e;exact⟨w',z.sameBut F (cne y c e)⟩
  ·obtain⟨e,n,ne,nf,d⟩:=I.pin p hp;exact⟨(F.2 p.1 ne).trans e,n,ne,nf,d⟩
 ·have a1:X.fn x=true:=by
   rcases hf with z|z
   ·exact z
   ·rw[z]at Z; cases Z
  obtain⟨c,L⟩:=I.ok.has x (.inl Z);obtain⟨w',z⟩:=I.cell x c L;refine wpAny_storeName_cell I.ok.kind Z L z (λh' a6 F=>?_);obtain⟨oc,a3,a2⟩:=id z;refine h { s with heap:=h' } ⟨I.ok,I.os,I.bare,⟨λb o e n hb O=>?_,λb o e n hb O=>?_,I.base.free,λb o e O=>?_,I.base.tups,I.base.frzs,I.base.tbls⟩,⟨m,hn.sameBut F (Ne.symm (cne x c L)),λj y v' J Y e3=>?_⟩,λy c' e=>?_,I.free,I.freeC,λp hp=>?_,tracked ⟨oc,a3,I.freeC x c L⟩ F,by simpa using I.len⟩ ⟨c,F,.inr L⟩
  ·exact(F.2 b (Qq4 (Qq2 (Qqd e) (I.ok.cab x c a1 L)))).trans (I.base.keep b o e n hb O)
  ·obtain⟨sl,J⟩:=I.base.slot b o e n hb O;exact⟨sl,(F.2 b (Qq4 (Qq2 (Qqd e) (I.ok.cab x c a1 L)))).trans J⟩
  ·obtain⟨o',J⟩:=I.base.there b o e O;exact⟨o',(F.2 b (Qq4 (Qq2 (Qqd e) (I.ok.cab x c a1 L)))).trans J⟩
  ·by_cases hj:j=i
   ·subst hj;rw[hi]at J; cases J;rw[Qq8 a0]at Y;cases Y;exact⟨u,r,.inr ⟨.inl Z,c,L,a6⟩⟩
   ·rw[Qqp (Ne.symm hj)]at Y;obtain⟨u',r',q⟩:=hl j y v' J Y e3;refine⟨u',r',?_⟩;rcases q with q|⟨k,c',e,z'⟩
    ·exact .inl q
    ·refine .inr ⟨k,c',e,z'.sameBut F ?_⟩;rintro rfl;exact hj (qak hN J (I.ok.inj _ _ _ e L▸hi))
  ·by_cases a5:c'=c
   ·subst a5; exact⟨_,a6⟩
   ·obtain⟨w2,z2⟩:=I.cell y c' e;exact⟨w2,z2.sameBut F a5⟩
  ·obtain⟨e,n,ne,nf,d⟩:=I.pin p hp;refine⟨(F.2 p.1 ?_).trans e,n,ne,nf,d⟩;intro q;rw[q,a3]at e;have q':oc=p.2:=Option.some.inj e;exact d w' (by rw[<- q']; exact a2)
theorem qy0{M:Model}{A:Qv}{E:Value->Qz->Prop}{i:Nat}{x:Str}{v:V}{u:Value}{Q:Unit->Qz->Prop}(I:Inv X pins σ H s)(F:X.N.Nodup)(hi:X.N[i]?=some x)(j:Loc X.env.scope x)(r:RelV v u)
  (h:∀s',Inv X pins (σ.set i (some v)) H s'->Q () s') (z:X.fn x=true\/X.env.scope.names.lookup x=some .local):wpAny M A (storeName X.env x u) Q E s:=
 qvp I F hi j r (λs' J _=>h s' J) z
theorem Inv.call'{s':Qz}{ch:List Addr}(I:Inv X pins σ H s)(F:s'.os=s.os)(u:Un (frs X.stack) ch H H' s.heap s'.heap)(hok:HOk X.prog X.w H' s'.heap)(J:Zm s'.gens)
  (j:∀b∈ch,(b∈X.ex\/X.s₀.heap.objs.size<=b)/\b≠X.env.locals/\(∀x c,X.env.cells.lookup x=some c->c≠b)/\∀p∈X.pn++pins,p.1≠b):Inv X pins σ H' s':=by
 obtain⟨h',L,O,z,o'⟩:=s';have e:o'=s.os:=F;subst e;exact I.call (g':=L) (t':=z) (d':=O) u hok J j
end
abbrev XK:=Value->Option Addr->Hp->Prop
abbrev St:=List (Option V)
abbrev VK:=V->Hp->Prop
abbrev TE:=St->Hp->VK->Prop
abbrev TT:=St->Hp->(Bool->Hp->Prop)->Prop
abbrev TA:=St->Hp->(List V->Hp->Prop)->Prop
structure Ends where
 nx:St->Hp->Prop
 rt:VK
 bk:St->Hp->Prop:=λ_ _=>False
 ct:St->Hp->Prop:=λ_ _=>False
abbrev TS:=Ends->St->Hp->Prop
def EP(X:Cx)(pins:List (Addr×Obj))(σ:St)(Q:VK)(u:Value)(s':Qz):Prop:=∃v H',Inv X pins σ H' s'/\RelV v u/\Q v H'
def TP(X:Cx)(pins:List (Addr×Obj))(σ:St)(Q:Bool->Hp->Prop)(b:Bool)(s':Qz):Prop:=∃H',Inv X pins σ H' s'/\Q b H'
def AP(X:Cx)(pins:List (Addr×Obj))(σ:St)(Q:List V->Hp->Prop)(us:List Value)(s':Qz):Prop:=∃vs H',Inv X pins σ H' s'/\Vals vs us/\Q vs H'
def SP(X:Cx)(pins:List (Addr×Obj))(D:Ends)(f:Flow)(s':Qz):Prop:=
 match f with
 |.next=>∃σ' H',Inv X pins σ' H' s'/\D.nx σ' H'
 |.brk=>∃σ' H',Inv X pins σ' H' s'/\D.bk σ' H'
 |.cont=>∃σ' H',Inv X pins σ' H' s'/\D.ct σ' H'
 |.ret u=>∃v σ' H',Inv X pins σ' H' s'/\RelV v u/\D.rt v H'
def PE(X:Cx)(e:Qx)(t:TE):Prop:=
 ∀(pins:List (Addr×Obj)) (s:Qz) (σ:St) (H:Hp) (Q:VK),Inv X pins σ H s->t σ H Q->wpAny (model X.prog X.w) X.A (eval e X.env) (EP X pins σ Q) X.xe s
def PT(X:Cx)(e:Qx)(t:TT):Prop:=
 ∀(pins:List (Addr×Obj)) (s:Qz) (σ:St) (H:Hp) (Q:Bool->Hp->Prop),Inv X pins σ H s->t σ H Q->wpAny (model X.prog X.w) X.A (isTrue e X.env (eval e X.env)) (TP X pins σ Q) X.xe s
def PW(X:Cx)(e:Qx)(t:TT):Prop:=
 ∀(whole:Sem Value) (pins:List (Addr×Obj)) (s:Qz) (σ:St) (H:Hp) (Q:Bool->Hp->Prop),Inv X pins σ H s->t σ H Q->wpAny (model X.prog X.w) X.A (isTrue e X.env whole) (TP X pins σ Q) X.xe s
theorem PW.pt{X:Cx}{e:Qx}{t:TT}(h:PW X e t):PT X e t:=h _
def PA(X:Cx)(es:List Qx)(t:TA):Prop:=
 ∀(pos:Pos) (pins:List (Addr×Obj)) (s:Qz) (σ:St) (H:Hp) (Q:List V->Hp->Prop),Inv X pins σ H s->t σ H Q->wpAny (model X.prog X.w) X.A (spliced (backTo pos (starEach es X.env))) (AP X pins σ Q) X.xe s
def PS(X:Cx)(st:Stmt)(t:TS):Prop:=
 ∀(pins:List (Addr×Obj)) (s:Qz) (σ:St) (H:Hp) (D:Ends),Inv X pins σ H s->t D σ H->wpAny (model X.prog X.w) X.A (exec st X.env) (SP X pins D) X.xe s
def PSs(X:Cx)(st:List Stmt)(t:TS):Prop:=
 ∀(pins:List (Addr×Obj)) (s:Qz) (σ:St) (H:Hp) (D:Ends),Inv X pins σ H s->t D σ H->wpAny (model X.prog X.w) X.A (execs st X.env) (SP X pins D) X.xe s
theorem thn{α:Type}{t:Sem α}{Q j:α->Qz->Prop}{M:Model}{A:Qv}{E:Value->Qz->Prop}{s:Qz}(h:wpAny M A t Q E s)(z:∀a s,Q a s->j a s):wpAny M A t j E s:=Qf h z λ_ _ x=>x
end L2
namespace L2
open PySem PySem.Spec PyProof.Rows
section
variable {X:Cx}
theorem bin{a b:Qx}{O tb:TE}(ha:PE X a O)(hb:PE X b tb){j:List (Addr×Obj)}{s:Qz}{z:St}{H:Hp}{R:V->V->Hp->Prop}(I:Inv X j z H s)(h:O z H λx H1=>tb z H1 λy H2=>R x y H2)
  {α:Type}{Q:α->Qz->Prop}{f:Value->Value->Sem α}
  (hf:∀v u L x y H2,Inv X j z H2 L->RelV x v->RelV y u->R x y H2->wpAny (model X.prog X.w) X.A (f v u) Q X.xe L) :
  wpAny (model X.prog X.w) X.A (eval a X.env) (λv J=>wpAny (model X.prog X.w) X.A (eval b X.env) (λu F=>wpAny (model X.prog X.w) X.A (f v u) Q X.xe F) X.xe J) X.xe s:=by
 refine thn (ha j s z H _ I h) λv U ⟨x,H1,I1,Z,q1⟩=>?_;refine thn (hb j U z H1 _ I1 q1) λu L ⟨y,H2,I2,Y,q2⟩=>?_;exact hf v u L x y H2 I2 Z Y q2
noncomputable def tVar(i:Nat):TE:=λσ H Q=>∃v,σ[i]?=some (some v)/\Q v H
noncomputable def tC(v:V):TE:=λ_ H Q=>Q v H
theorem pe_var{i:Nat}{x:Str}{pos:Pos}(Z:X.N[i]?=some x)(O:Vis X.env.scope x)(hd:(x==("__debug__" : Str))=false:=by decide)(J:(x==("__classdict__" : Str))=false:=by decide):PE X (.Name x pos) (tVar i):=by
 intro pins s σ H Q I h;obtain⟨v,e,h⟩:=h;obtain⟨m,hn,Y⟩:=I.loc;obtain⟨u,r,l⟩:=Y i x v Z e O;have F:EP X pins σ Q u s:=⟨v,H,I,r,h⟩
 rcases l with⟨z,U⟩|⟨z,c,L,j⟩
 ·exact wpAny_Name (wpAny_loadName_local I.ok.kind z hn U F) hd
 ·rcases z with z|z
  ·exact wpAny_Name (wpAny_loadName_cell I.ok.kind z L j F) hd
  ·exact wpAny_Name (wpAny_loadName_free I.ok.kind z L j F J) hd
theorem pe_int{i j pos}:PE X (.Constant (.int i) j pos) (tC (.int i)):=λ_ _ _ H _ I h=>wpAny_Constant_int ⟨.int i,H,I.tok _,⟨_,rfl⟩,h⟩
theorem pe_bl{b j pos}:PE X (.Constant (.bool b) j pos) (tC (.bl b)):=λ_ _ _ H _ I h=>Constant_bool ⟨.bl b,H,I,rfl,h⟩
theorem pe_non{j pos}:PE X (.Constant .none j pos) (tC .non):=λ_ _ _ H _ I h=>Constant_none ⟨.non,H,I,rfl,h⟩
theorem pe_str{x j pos}:PE X (.Constant (.str x) j pos) (tC (.str x)):=λ_ _ _ H _ I h=>Calls.Constant_str ⟨.str x,H,I.tok _,⟨_,rfl⟩,h⟩
def Gl(X:Cx)(x:Str):Prop:=X.env.kindOf x=some .globalImplicit
theorem qyj{E:Value->Qz->Prop}{j:List (Addr×Obj)}{s:Qz}{z:St}{H:Hp}{x:Str}{u:Value}{pos:Pos}{Q:Value->Qz->Prop}(I:Inv X j z H s)(J:Gl X x)(F:X.mg x=some u)(h:Q u s)
  (hd:(x==("__debug__" : Str))=false:=by decide):wpAny (model X.prog X.w) X.A (eval (.Name x pos) X.env) Q E s:=
 Calls.Name_function_global I.ok.kind J (Calls.loadGlobal_global (by rw[I.ok.glob]; exact I.mod.glob.keeps I.bk) F h) hd
theorem qkl{E:Value->Qz->Prop}{j:List (Addr×Obj)}{s:Qz}{z:St}{H:Hp}{x:Str}{u:Value}{pos:Pos}{Q:Value->Qz->Prop}(I:Inv X j z H s)(O:Gl X x)(L:X.mg x=none)(F:Qa x=some u)(h:Q u s)
  (J:x ≠ "__name__":=by decide) (hd:(x==("__debug__" : Str))=false:=by decide):wpAny (model X.prog X.w) X.A (eval (.Name x pos) X.env) Q E s:=by
 obtain⟨U,h1,h2⟩:=I.mod.blt;exact Calls.Name_function_global I.ok.kind O (Calls.loadGlobal_builtin (by rw[I.ok.glob]; exact I.mod.glob.keeps I.bk) L (by rw[I.ok.blt]; exact h1.keeps I.bk) ((h2 x J).trans F) h) hd
theorem qw7{x:Str}{v:V}{u:Value}{pos:Pos}(z:Gl X x)(j:X.mg x=some u)(r:RelV v u)(hd:(x==("__debug__" : Str))=false:=by decide):PE X (.Name x pos) (tC v):=
 λ_ _ _ H _ I h=>qyj I z j ⟨v,H,I,r,h⟩ hd
theorem qjg{x:Str}{v:V}{u:Value}{pos:Pos}(J:Gl X x)(F:X.mg x=none)(j:Qa x=some u)(r:RelV v u)(z:x ≠ "__name__":=by decide)(hd:(x==("__debug__" : Str))=false:=by decide):PE X (.Name x pos) (tC v):=
 λ_ _ _ H _ I h=>qkl I J F j ⟨v,H,I,r,h⟩ z hd
variable {a b:Qx}{ta tb:TE}{pos:Pos}
def PC(X:Cx)(op:Qt)(a b:Qx)(t:TE):Prop:=
 ∀(pins:List (Addr×Obj)) (s:Qz) (σ:St) (H:Hp) (Q:VK),Inv X pins σ H s->t σ H Q->
  wpAny (model X.prog X.w) X.A (eval a X.env) (λv s₁=>wpAny (model X.prog X.w) X.A (eval b X.env) (λu s₂=>wpAny (model X.prog X.w) X.A (Qe op v u) (EP X pins σ Q) X.xe s₂) X.xe s₁) X.xe s
noncomputable def tB(t:TE):TT:=λσ H Q=>t σ H λx H1=>∃c,x=.bl c/\Q c H1
theorem qaq{op:Qt}{t:TE}(h:PC X op a b t)(z:Q1 op b=false):PE X (.Compare a [op] [b] pos) t:=λpins s σ H Q I j=>wpAny_Compare1 (h pins s σ H Q I j) z
theorem qy8{op:Qt}{t:TE}(h:PC X op a b t)(j:Q1 op b=false):PT X (.Compare a [op] [b] pos) (tB t):=by
 intro pins s σ H Q I J;refine wpAny_isTrue_Compare1 (thn (h pins s σ H _ I J) λv Y j=>thn j λu U h2=>thn h2 λc O ⟨x,H1,L,z,F⟩=>?_) j;obtain⟨d,rfl,q⟩:=F;cases z;exact Qb ⟨H1,L,q⟩
variable {tA tB':TT}{rest:List Qx}
noncomputable def tAnd(t u:TT):TT:=λσ H Q=>t σ H λc H1=>if c=true then u σ H1 Q else Q false H1
noncomputable def tOr(t u:TT):TT:=λσ H Q=>t σ H λc H1=>if c=true then Q true H1 else u σ H1 Q
noncomputable def tNot(t:TT):TT:=λσ H Q=>t σ H λc H1=>Q (!c) H1
theorem qio(j:PT X a tA):PW X (.BoolOp .And [a] pos) tA:=by
 intro z pins s σ H Q I h;refine isTrue_and (thn (j pins s σ H Q I h) λc F e=>?_)
 cases c with
 |true=>exact isTrue_and_nil e
 |false=>exact e
theorem pw_or1(j:PT X a tA):PW X (.BoolOp .Or [a] pos) tA:=by
 intro z pins s σ H Q I h;refine isTrue_or (thn (j pins s σ H Q I h) λc F e=>?_)
 cases c with
 |false=>exact isTrue_or_nil e
 |true=>exact e
theorem qhq(O:PT X a tA)(L:PW X (.BoolOp .And (b::rest) pos) tB'):PW X (.BoolOp .And (a::b::rest) pos) (tAnd tA tB'):=by
 intro F pins s σ H Q I h;refine isTrue_and (thn (O pins s σ H _ I h) λc J ⟨H1,z,j⟩=>?_)
 cases c with
 |true=>exact L F pins J σ H1 Q z j
 |false=>exact⟨H1,z,j⟩
theorem pw_or(O:PT X a tA)(L:PW X (.BoolOp .Or (b::rest) pos) tB'):PW X (.BoolOp .Or (a::b::rest) pos) (tOr tA tB'):=by
 intro F pins s σ H Q I h;refine isTrue_or (thn (O pins s σ H _ I h) λc J ⟨H1,z,j⟩=>?_)
 cases c with
 |true=>exact⟨H1,z,j⟩
 |false=>exact L F pins J σ H1 Q z j
theorem pt_not(j:PT X a tA):PT X (.UnaryOp .Not a pos) (tNot tA):=by
 intro pins s σ H Q I h;exact isTrue_not (j pins s σ H (λc H1=>Q (!c) H1) I h)
noncomputable def tAndV(ta tb:TE):TE:=λσ H Q=>ta σ H λx H1=>∃c,x=.bl c/\if c=true then tb σ H1 Q else Q (.bl false) H1
noncomputable def tOrV(ta tb:TE):TE:=λσ H Q=>ta σ H λx H1=>∃c,x=.bl c/\if c=true then Q (.bl true) H1 else tb σ H1 Q
noncomputable def tNotV(ta:TE):TE:=λσ H Q=>ta σ H λx H1=>∃c,x=.bl c/\Q (.bl (!c)) H1
theorem qhw{op}{t:TE}(h:PE X a t):PE X (.BoolOp op [a] pos) t:=λpins s σ H Q I j=>BoolOp_one (h pins s σ H Q I j)
theorem qhy(O:PE X a ta)(L:PE X (.BoolOp .And (b::rest) pos) tb):PE X (.BoolOp .And (a::b::rest) pos) (tAndV ta tb):=by
 intro pins s σ H Q I h;refine BoolOp_and (thn (O pins s σ H _ I h) λv F ⟨x,H1,z,J,j⟩=>?_);obtain⟨c,rfl,j⟩:=j;cases J;refine Qb ?_
 cases c with
 |true=>exact L pins F σ H1 Q z j
 |false=>exact⟨.bl false,H1,z,rfl,j⟩
theorem pe_or(O:PE X a ta)(L:PE X (.BoolOp .Or (b::rest) pos) tb):PE X (.BoolOp .Or (a::b::rest) pos) (tOrV ta tb):=by
 intro pins s σ H Q I h;refine BoolOp_or (thn (O pins s σ H _ I h) λv F ⟨x,H1,z,J,j⟩=>?_);obtain⟨c,rfl,j⟩:=j;cases J;refine Qb ?_
 cases c with
 |false=>exact L pins F σ H1 Q z j
 |true=>exact⟨.bl true,H1,z,rfl,j⟩
theorem pe_not(F:PE X a ta):PE X (.UnaryOp .Not a pos) (tNotV ta):=by
 intro pins s σ H Q I h;refine UnaryOp_ (thn (F pins s σ H _ I h) λv L ⟨x,H1,J,z,j⟩=>?_);obtain⟨c,rfl,j⟩:=j;cases z;exact not_of (Qb ⟨.bl (!c),H1,J,rfl,j⟩)
noncomputable def tIf(t:TT)(ta tb:TE):TE:=λσ H Q=>t σ H λc H1=>if c=true then ta σ H1 Q else tb σ H1 Q
theorem qft{c:Qx}(J:PT X c tA)(O:PE X a ta)(L:PE X b tb):PE X (.IfExp c a b pos) (tIf tA ta tb):=by
 intro pins s σ H Q I h;refine wpAny_IfExp (thn (J pins s σ H _ I h) λd j ⟨H1,F,z⟩=>?_)
 cases d with
 |true=>exact O pins j σ H1 Q F z
 |false=>exact L pins j σ H1 Q F z
end
end L2
namespace L2
open PySem PySem.Spec PyProof.Rows
def SqL(K:Qqq)(H:Hp)(a:Addr)(xs:List V):Prop:=
 Rd H a (.lst xs)\/
  ∃(o:Obj) (its:Array Value) (n:Nat),K.lookup a=some o/\o.cls=.type "list"/\o.dict=none/\o.data=.seq its n/\its.size<=sizeLine/\Vals xs its.toList
def SqT(K:Qqq)(H:Hp)(a:Addr)(xs:List V):Prop:=
 Rd H a (.tup xs)\/
  ∃(o:Obj) (its:Array Value) (n:Nat),K.lookup a=some o/\o.cls=.type "tuple"/\o.data=.seq its n/\its.size<=sizeLine/\Vals xs its.toList
noncomputable def absV:Value->Option V
 |.none=>some .non
 |.bool b=>some (.bl b)
 |.int i _=>some (.int i)
 |.str x _=>some (.str x)
 |.bytes b _=>some (.byt b)
 |.float b _=>some (.flt b)
 |.ref a=>some (.ref a)
 |.type n=>some (.ty n)
 |_=>none
theorem RelV.abs{x:V}{u:Value}(r:RelV x u):absV u=some x:=by
 cases x with
 |non=>cases r; rfl
 |bl _=>cases r; rfl
 |int _=>obtain⟨t,rfl⟩:=r; rfl
 |str _=>obtain⟨t,rfl⟩:=r; rfl
 |byt _=>obtain⟨t,rfl⟩:=r; rfl
 |flt _=>obtain⟨t,rfl⟩:=r; rfl
 |ref _=>cases r; rfl
 |ty _=>cases r; rfl
theorem RelV.inj{x y:V}{u:Value}(r:RelV x u)(q:RelV y u):x=y:=Option.some.inj (r.abs.symm.trans q.abs)
theorem Vals.inj:∀{xs ys:List V}{us:List Value},Vals xs us->Vals ys us->xs=ys
 |_,_,_,.nil,.nil=>rfl
 |_,_,_,.cons r t,.cons r' t'=>by rw[r.inj r',Vals.inj t t']
section
variable {X:Cx}{pins:List (Addr×Obj)}{σ:St}{H:Hp}{s:Qz}{a:Addr}{xs ys:List V}
theorem SqL.of{K:Qqq}(h:H a=some (.lst xs)):SqL K H a xs:=.inl (.inl h)
theorem SqT.of{K:Qqq}(h:H a=some (.tup xs)):SqT K H a xs:=.inl (.inl h)
theorem Inv.list(I:Inv X pins σ H s)(h:SqL X.K H a xs):∃j:List Value,Vals xs j/\PlainL s.heap a j.toArray/\xs.length<=sizeLine:=by
 rcases h with h|⟨o,j,n,J,L,hd,F,O,r⟩
 ·obtain⟨z,j,n,r,e⟩:=h.ok I.hok;exact⟨j,r,⟨_,n,e,rfl,rfl,rfl⟩,z⟩
 ·refine⟨j.toList,r,⟨o,n,I.kIn a o J,L,hd,by simpa using F⟩,?_⟩;have e:=r.length;simp only[Qzb]at e;omega
theorem Inv.tuple(I:Inv X pins σ H s)(h:SqT X.K H a xs):∃j:List Value,Vals xs j/\IsTup s.heap a j.toArray/\xs.length<=sizeLine:=by
 rcases h with h|⟨o,j,n,J,L,F,O,r⟩
 ·obtain⟨z,j,r,p⟩:=h.ok I.hok;exact⟨j,r,p,z⟩
 ·refine⟨j.toList,r,⟨o,I.kIn a o J,L,n,by simpa using F⟩,?_⟩;have e:=r.length;simp only[Qzb]at e;omega
theorem Inv.list_inj(I:Inv X pins σ H s)(h:SqL X.K H a xs)(h':SqL X.K H a ys):xs=ys:=by
 obtain⟨j,r,⟨o,n,e,_,_,d⟩,_⟩:=I.list h;obtain⟨its',r',⟨o',L,z,_,_,F⟩,_⟩:=I.list h';rw[e]at z; cases z;rw[d]at F;injection F with J _;have:j=its':=by simpa using congrArg Array.toList J
 subst this;exact r.inj r'
theorem Inv.tuple_inj(I:Inv X pins σ H s)(h:SqT X.K H a xs)(h':SqT X.K H a ys):xs=ys:=by
 obtain⟨j,r,⟨o,e,_,n,d⟩,_⟩:=I.tuple h;obtain⟨its',r',⟨o',z,_,L,F⟩,_⟩:=I.tuple h';rw[e]at z; cases z;rw[d]at F;injection F with J _;have:j=its':=by simpa using congrArg Array.toList J
 subst this;exact r.inj r'
end
noncomputable abbrev Cx.wish(X:Cx)(E:Value->Qz->Prop):Cx:={ X with xe:=E }
noncomputable abbrev Cx.nox(X:Cx):Cx:=X.wish λ_ _=>False
theorem Cx.Ok.wish{X:Cx}(ok:X.Ok)(E:Value->Qz->Prop):(X.wish E).Ok:=
 ⟨ok.mod,ok.kind,ok.glob,ok.blt,ok.above,ok.inj,ok.has,ok.cab,ok.hd,ok.frames,ok.stk,ok.exf,ok.bs,ok.bsz,ok.noex,ok.exfs,ok.funs,ok.frf⟩
theorem Cx.Ok.unwish{X:Cx}{E:Value->Qz->Prop}(ok:(X.wish E).Ok):X.Ok:=
 ⟨ok.mod,ok.kind,ok.glob,ok.blt,ok.above,ok.inj,ok.has,ok.cab,ok.hd,ok.frames,ok.stk,ok.exf,ok.bs,ok.bsz,ok.noex,ok.exfs,ok.funs,ok.frf⟩
section
variable {X:Cx}{pins:List (Addr×Obj)}{σ:St}{H:Hp}{s:Qz}{E:Value->Qz->Prop}
theorem Inv.wish(I:Inv X pins σ H s)(E:Value->Qz->Prop):Inv (X.wish E) pins σ H s:=⟨I.ok.wish E,I.os,I.bare,I.base,I.loc,I.cell,I.free,I.freeC,I.pin,I.hok,I.len⟩
theorem Inv.unwish(I:Inv (X.wish E) pins σ H s):Inv X pins σ H s:=⟨I.ok.unwish,I.os,I.bare,I.base,I.loc,I.cell,I.free,I.freeC,I.pin,I.hok,I.len⟩
theorem SP.unwish{D:Ends}{f:Flow}{s':Qz}(h:SP (X.wish E) pins D f s'):SP X pins D f s':=by
 cases f with
 |next=>obtain⟨j,H',I,q⟩:=h; exact⟨j,H',I.unwish,q⟩
 |brk=>obtain⟨j,H',I,q⟩:=h; exact⟨j,H',I.unwish,q⟩
 |cont=>obtain⟨j,H',I,q⟩:=h; exact⟨j,H',I.unwish,q⟩
 |ret u=>obtain⟨v,j,H',I,r,q⟩:=h; exact⟨v,j,H',I.unwish,r,q⟩
theorem PSs.nox{st:List Stmt}{t:TS}(h:PSs X.nox st t):PSs X st t:=λpins s σ H D I j=>
 Qf (h pins s σ H D (I.wish _) j) (λ_ _ q=>q.unwish) λ_ _ z=>False.elim z
end
section
variable {X:Cx}{st:Stmt}{rest:List Stmt}{t u:TS}{e:Qx}{te:TE}{pos:Pos}
noncomputable def tNext:TS:=λD σ H=>D.nx σ H
noncomputable def tSeq(t u:TS):TS:=λD σ H=>t { D with nx:=u D } σ H
theorem pss_nil:PSs X [] tNext:=λ_ _ σ H _ I h=>wpAny_execs_nil ⟨σ,H,I,h⟩
theorem qy9(J:PS X st t)(F:PSs X rest u):PSs X (st::rest) (tSeq t u):=by
 intro pins s σ H D I h;refine wpAny_execs_cons (thn (J pins s σ H { D with nx:=u D } I h) λf z q=>?_)
 cases f with
 |next=>
  obtain⟨j,H',L,q⟩:=q;exact F pins z j H' D L q
 |ret v=>exact q
 |brk=>exact q
 |cont=>exact q
theorem Inv.quiet{j:List (Addr×Obj)}{z:St}{H:Hp}{s:Qz}(I:Inv X j z H s):interactive X.env=false:=by simp[interactive,I.ok.kind]
theorem ps_doc{x j pos pos'}:PS X (.Expr (.Constant (.str x) j pos) pos') tNext:=λ_ s σ H _ I h=>wpAny_Expr (Calls.Constant_str (show SP X _ _ .next { s with toks:=s.toks+1 } from⟨σ,H,I.tok _,h⟩)) I.quiet
noncomputable def tDrop(te:TE):TS:=λD σ H=>te σ H λ_ H1=>D.nx σ H1
theorem qis(F:PE X e te)(z:swapsWith e none pos.line X.env=pure false):PS X (.Expr e pos) (tDrop te):=by
 intro pins s σ H D I h;exact wpAny_Expr_any (thn (F pins s σ H _ I h) λv L ⟨x,H1,J,O,j⟩=>⟨σ,H1,J,j⟩) I.quiet z
noncomputable def tRet(te:TE):TS:=λD σ H=>te σ H D.rt
theorem ps_ret(F:PE X e te):PS X (.Return (some e) pos) (tRet te):=by
 intro pins s σ H D I h;exact wpAny_Return_some (thn (F pins s σ H _ I h) λv L ⟨x,H1,J,j,z⟩=>⟨x,σ,H1,J,j,z⟩)
noncomputable def tIfS(c:TT)(t u:TS):TS:=λD σ H=>c σ H λb H1=>if b=true then t D σ H1 else u D σ H1
theorem ps_if{c:Qx}{a b:List Stmt}{j:TT}(L:PT X c j)(U:PSs X a t)(O:PSs X b u):PS X (.If c a b pos) (tIfS j t u):=by
 intro pins s σ H D I h;refine wpAny_If (thn (L pins s σ H _ I h) λd z ⟨H1,J,F⟩=>?_)
 cases d with
 |true=>exact U pins z σ H1 D J F
 |false=>exact O pins z σ H1 D J F
end
abbrev TG:=V->St->Hp->(St->Hp->Prop)->Prop
abbrev TGs:=List V->St->Hp->(St->Hp->Prop)->Prop
def PG(X:Cx)(target:Qx)(t:TG):Prop:=
 ∀(pins:List (Addr×Obj)) (s:Qz) (σ:St) (H:Hp) (v:V) (u:Value) (Q:St->Hp->Prop),Inv X pins σ H s->RelV v u->t v σ H Q->
  wpAny (model X.prog X.w) X.A (assign target X.env u) (λ_ s'=>∃σ' H',Inv X pins σ' H' s'/\Q σ' H') X.xe s
def PGs(X:Cx)(ts:List Qx)(t:TGs):Prop:=
 ∀(pins:List (Addr×Obj)) (s:Qz) (σ:St) (H:Hp) (vs:List V) (us:List Value) (Q:St->Hp->Prop),Inv X pins σ H s->Vals vs us->t vs σ H Q->
  wpAny (model X.prog X.w) X.A (assignInOrder ((assignEach ts X.env).map (·.2)) us) (λ_ s'=>∃σ' H',Inv X pins σ' H' s'/\Q σ' H') X.xe s
section
variable {X:Cx}{pos:Pos}
noncomputable def qyy(i:Nat):TG:=λv σ H Q=>Q (σ.set i (some v)) H
theorem qct{i:Nat}{x:Str}(F:X.N.Nodup)(hi:X.N[i]?=some x)(j:Loc X.env.scope x)(z:X.fn x=true\/X.env.scope.names.lookup x=some .local):PG X (.Name x pos) (qyy i):=by
 intro pins s σ H v u Q I r h;exact wpAny_assign_Name (qy0 I F hi j r (λs' J=>⟨_,H,J,h⟩) z)
noncomputable def gNil:TGs:=λvs σ H Q=>vs=[]/\Q σ H
noncomputable def gCons(t:TG)(u:TGs):TGs:=λvs σ H Q=>∃v r,vs=v::r/\t v σ H λσ' H'=>u r σ' H' Q
theorem qi4:PGs X [] gNil:=by
 intro pins s σ H vs j Q I r h;obtain⟨e,h⟩:=h;subst e;cases r;exact assignInOrder_nil ⟨σ,H,I,h⟩
theorem qfp{e:Qx}{es:List Qx}{t:TG}{u:TGs}(U:PG X e t)(O:PGs X es u)
  (L:(assignEach (e::es) X.env).map (·.2)=assign e X.env::(assignEach es X.env).map (·.2):=by rfl):PGs X (e::es) (gCons t u):=by
 intro pins s σ H vs us Q I r h;obtain⟨v,vr,Y,h⟩:=h;subst Y
 cases r with
 |cons r F=>
  rw[L];refine assignInOrder_cons (thn (U pins s σ H _ _ _ I r h) λ_ z ⟨j,H1,Z,J⟩=>?_);exact O pins z j H1 _ _ Q Z F J
noncomputable def gTup(K:Qqq)(n:Nat)(t:TGs):TG:=λv σ H Q=>∃a xs,v=.ref a/\SqT K H a xs/\xs.length=n/\t xs σ H Q
theorem pg_tup{es:List Qx}{k:Nat}{t:TGs}{n:Nat}(hc:X.calm=true)(h:PGs X es t)
  (Y:(assignEach es X.env).length=n:=by rfl) (z:(assignEach es X.env).findIdx? (·.1)=none:=by rfl):PG X (.Tuple es k pos) (gTup X.K n t):=by
 intro pins s σ H v u Q I r j;obtain⟨a,xs,e1,U,Z,j⟩:=j;subst e1;cases r;obtain⟨J,F,O,hz⟩:=I.tuple U;refine assign_Tuple_tuple (I.ok.hd hc) O (by simp[Y,<- Z,F.length]) z λh' L=>?_;have I1:Inv X pins σ H { s with heap:=h' }:=I.kept (t':=s.toks) λb o e=>L b o (Qq4 (Qqd e)) e;exact h pins _ σ H xs _ Q I1 (by simpa using F) j
noncomputable def tAsg(te:TE)(g:TG):TS:=λD σ H=>te σ H λx H1=>g x σ H1 D.nx
theorem ps_asg{j e:Qx}{z:TE}{g:TG}(Z:PE X e z)(Y:PG X j g)(U:swapsWithSole [j] e pos.line X.env=pure false:=by rfl)(O:swappedStores [j] e X.env=pure none:=by rfl)
  (h1:(assignEach [j] X.env).map (·.2)=[assign j X.env]:=by rfl):PS X (.Assign [j] e pos) (tAsg z g):=by
 intro pins s σ H D I h;refine wpAny_Assign_stores (thn (Z pins s σ H _ I h) λv F ⟨x,H1,I1,J,L⟩=>?_) U O;rw[h1];exact thn (Y pins F σ H1 x v _ I1 J L) λ_ s2 q=>q
theorem qhx{i:Nat}{x:Str}{e:Qx}{z:TE}{j:Pos}(Z:X.N.Nodup)(hi:X.N[i]?=some x)(L:Loc X.env.scope x)(Y:PE X e z)(O:swapsWith e (some (.Name x j)) pos.line X.env=pure false:=by rfl)(U:X.fn x=true\/X.env.scope.names.lookup x=some .local):
  PS X (.Assign [.Name x j] e pos) (tAsg z (qyy i)):=by
 intro pins s σ H D I h;refine wpAny_Assign_Name (thn (Y pins s σ H _ I h) λv s1 ⟨y,H1,I1,F,J⟩=>?_) O;exact qy0 I1 Z hi L F (λs2 I2=>⟨_,H1,I2,J⟩) U
end
section
variable {X:Cx}{pos:Pos}
end
structure It where
 go:Nat->Hp->Prop
 yld:Nat->Hp->V->Hp->Prop
 stop:Nat->Hp->Prop
def FpOk(X:Cx)(pins:List (Addr×Obj))(H:Hp)(b:Addr):Prop:=
 H b=none/\b≠X.env.locals/\b ∉ X.fs/\(b∈X.ex\/X.s₀.heap.objs.size<=b)/\(∀x c,X.env.cells.lookup x=some c->c≠b)/\∀p∈X.pn++pins,p.1≠b
theorem Inv.fpOk{X:Cx}{j:List (Addr×Obj)}{J:St}{H H':Hp}{s:Qz}{b:Addr}(I:Inv X j J H s)(F:s.heap.objs.size<=b)(O:H' b=none):FpOk X j H' b:=by
 refine⟨O,Qj3 (Qq2 I.lt F),I.nofs F,.inr (Qzh I.sz F),λx c e z=>?_,λp L z=>?_⟩
 ·obtain⟨v,q⟩:=I.cell x c e;exact absurd (Qq2 q.lt (by rw[z]; exact F)) (Qz9 _)
 ·exact absurd (Qq2 (Qqd (I.pin p L).1) (by rw[z]; exact F)) (Qz9 _)
structure Turn (P:Program) (w:Qk) (K:Qqq) (tg:Qx) (J:It) (fp:List Addr) (it:Addr) (tn:Nat->Heap->Prop):Prop where
 mem:it∈fp
 obj:∀i h,tn i h->∀b∈fp,∃o,h.get? b=some o/\∀v,o.data≠.cell v
 keep:∀i h h',tn i h->(∀b∈fp,∀o,h.get? b=some o->h'.get? b=some o)->tn i h'
 item:∀(X:Cx),X.prog=P->X.w=w->X.K=K->X.calm=true->∀(i:Nat) (pins:List (Addr×Obj)) (s:Qz) (σ:St) (H:Hp) (E:Value->Qz->Prop),Inv X pins σ H s->(∀b∈fp,FpOk X pins H b)->tn i s.heap->J.go i H->
  wpAny (model P w) X.A (pyNext (.ref it)) (λr s1=>∃u,r=some u/\
   wpAny (model P w) X.A (Zo tg (.ref it) u) (λ_ s2=>∃x H',Inv X pins σ H' s2/\RelV x u/\J.yld i H x H'/\tn (i+1) s2.heap/\∀b∈fp,H' b=none) E s1) E s
 done:∀(X:Cx),X.prog=P->X.w=w->X.K=K->X.calm=true->∀(i:Nat) (pins:List (Addr×Obj)) (s:Qz) (σ:St) (H:Hp) (E:Value->Qz->Prop),Inv X pins σ H s->(∀b∈fp,FpOk X pins H b)->tn i s.heap->J.stop i H->
  wpAny (model P w) X.A (pyNext (.ref it)) (λr s1=>r=none/\Inv X pins σ H s1) E s
 self:∀(A:Qv) (i:Nat) (s:Qz) (Q:Value->Qz->Prop) (E:Value->Qz->Prop),tn i s.heap->Q (.ref it) s->wpAny (model P w) A (pyIter (.ref it)) Q E s
abbrev TI:=St->Hp->(It->Hp->Prop)->Prop
def PIE(X:Cx)(pins:List (Addr×Obj))(σ:St)(tg:Qx)(R:It->Hp->Prop)(itv:Value)(s2:Qz):Prop:=
 ∃(it:Addr) (fp:List Addr) (tn:Nat->Heap->Prop) (J:It) (H':Hp),itv=.ref it/\Inv X pins σ H' s2/\Turn X.prog X.w X.K tg J fp it tn/\tn 0 s2.heap/\(∀b∈fp,FpOk X pins H' b)/\R J H'
def PI(X:Cx)(tg iter:Qx)(wi:TI):Prop:=
 ∀(pins:List (Addr×Obj)) (s:Qz) (σ:St) (H:Hp) (R:It->Hp->Prop),Inv X pins σ H s->wi σ H R->
  wpAny (model X.prog X.w) X.A (eval iter X.env) (λv s1=>wpAny (model X.prog X.w) X.A (pyIter v) (PIE X pins σ tg R) X.xe s1) X.xe s
theorem qgw{M:Model}{A:Qv}{E:Value->Qz->Prop}{s:Qz}{z:Qx}{it:Addr}{u:Value}{o:Obj}{n:String}{vs:Array Value}{Q:Unit->Qz->Prop}(F:s.heap.get? it=some o)(L:o.cls=.type n)(hd:o.data=.fields vs)
  (J:["enumerate","zip","dict_itemiterator","dict_reverseitemiterator","odict_iterator","itertools.zip_longest","itertools.pairwise"].contains n=false) (j:Q () s):wpAny M A (Zo z (.ref it) u) Q E s:=by
 unfold Zo
 cases z<;>first
  |exact Qj j
  |(cases u<;>first
    |exact Qj j
    |(refine Qq (wpAny_load F ?_)
      rw[L,hd];show wpAny M A (if (["enumerate","zip","dict_itemiterator","dict_reverseitemiterator","odict_iterator","itertools.zip_longest","itertools.pairwise"].contains n&&vs[0]?==some (rawInt _))=true then _ else _) Q E s;rw[Z2 (by intro h; rw[J,Qkc]at h; cases h)]
      exact Qj j))
noncomputable def Itl(K:Qqq)(a:Addr):It:=
 ⟨λi H=>∃xs x,SqL K H a xs/\xs[i]?=some x,λi H x H'=>H'=H/\∀xs,SqL K H a xs->xs[i]?=some x,λi H=>∃xs,SqL K H a xs/\xs.length<=i⟩
noncomputable def Itt(K:Qqq)(a:Addr):It:=
 ⟨λi H=>∃xs x,SqT K H a xs/\xs[i]?=some x,λi H x H'=>H'=H/\∀xs,SqT K H a xs->xs[i]?=some x,λi H=>∃xs,SqT K H a xs/\xs.length<=i⟩
noncomputable def Itr(lo:Int)(n:Nat):It:=⟨λi _=>i<n,λi H x H'=>H'=H/\x=.int (lo+i),λi _=>n<=i⟩
theorem qb1{P:Program}{w:Qk}{K:Qqq}{tg:Qx}(a it:Addr):Turn P w K tg (Itl K a) [it] it (λi h=>h.IsListIter it a i) where
 mem:=by simp
 obj:=λi h st b j=>by
  have e:b=it:=by simpa using j
  subst e;obtain⟨o,e,c,d⟩:=st;exact⟨o,e,λv z=>by rw[d]at z; cases z⟩
 keep:=λi h h' st k=>st.at λo e=>k it (by simp) o e
 item:=by
  intro X Z U hK hc i pins s σ H E I hf st Y;subst Z U hK;obtain⟨xs,x,F,O⟩:=Y;obtain⟨L,J,p,hz⟩:=I.list F;obtain⟨u,hu,ru⟩:=J.get O;obtain⟨f0,f1,f2,f3,f4,f5⟩:=hf it (by simp);refine wpAny_pyNext_list_item st p.isList (x:=u) (by simpa using hu) λh' st' sb=>?_;have I1:Inv X pins σ H { s with heap:=h' }:=I.turned (t':=s.toks) (λb o j e=>(sb.2 b j).trans e) f0 f1 f3 f4 f5;obtain⟨o,e,c,d⟩:=id st';exact⟨u,rfl,qgw (s:={ s with heap:=h' }) e c d (by decide) ⟨x,H,I1,ru,⟨rfl,λys hy=>by rw[I.list_inj hy F]; exact O⟩,st',λb j=>(hf b j).1⟩⟩
 done:=by
  intro X Z U hK hc i pins s σ H E I hf st Y;subst Z U hK;obtain⟨xs,F,O⟩:=Y;obtain⟨L,J,p,hz⟩:=I.list F;obtain⟨f0,f1,f2,f3,f4,f5⟩:=hf it (by simp);have hl:=J.length;exact wpAny_pyNext_list_end (I.ok.hd hc) st p.isList (by simp; omega) λh' eb=>⟨rfl,I.turned (t':=s.toks) (λb o j e=>eb b o j e) f0 f1 f3 f4 f5⟩
 self:=λ_ _ _ _ _ st h=>wpAny_pyIter_listiter st h
theorem qa0{P:Program}{w:Qk}{K:Qqq}{tg:Qx}(a it:Addr):Turn P w K tg (Itt K a) [it] it (λi h=>h.IsTupleIter it a i) where
 mem:=by simp
 obj:=λi h st b F=>by
  have e:b=it:=by simpa using F
  subst e;obtain⟨o,e,c,d⟩:=st;exact⟨o,e,λv z=>by rw[d]at z; cases z⟩
 keep:=λi h h' st k=>st.at λo e=>k it (by simp) o e
 item:=by
  intro X Z U hK hc i pins s σ H E I hf st Y;subst Z U hK;obtain⟨xs,x,J,O⟩:=Y;obtain⟨j,L,p,hz⟩:=I.tuple J;obtain⟨u,hu,ru⟩:=L.get O;obtain⟨f0,f1,f2,f3,f4,f5⟩:=hf it (by simp);refine wpAny_pyNext_tuple_item st (show s.heap.IsTuple a j.toArray from p) (x:=u) (by simpa using hu) λh' st' sb=>?_;have I1:Inv X pins σ H { s with heap:=h' }:=I.turned (t':=s.toks) (λb o F e=>(sb.2 b F).trans e) f0 f1 f3 f4 f5;obtain⟨o,e,c,d⟩:=id st';exact⟨u,rfl,qgw (s:={ s with heap:=h' }) e c d (by decide) ⟨x,H,I1,ru,⟨rfl,λys hy=>by rw[I.tuple_inj hy J]; exact O⟩,st',λb F=>(hf b F).1⟩⟩
 done:=by
  intro X Z U hK hc i pins s σ H E I hf st Y;subst Z U hK;obtain⟨xs,J,O⟩:=Y;obtain⟨j,L,p,hz⟩:=I.tuple J;obtain⟨f0,f1,f2,f3,f4,f5⟩:=hf it (by simp);have hl:=L.length;exact wpAny_pyNext_tuple_end (I.ok.hd hc) st (show s.heap.IsTuple a j.toArray from p) (by simp; omega) λh' eb=>⟨rfl,I.turned (t':=s.toks) (λb o F e=>eb b o F e) f0 f1 f3 f4 f5⟩
 self:=λ_ _ _ _ _ st h=>wpAny_pyIter_tupleiter st h
theorem qa1{P:Program}{w:Qk}{K:Qqq}{tg:Qx}(it:Addr)(lo:Int)(n:Nat):Turn P w K tg (Itr lo n) [it] it (λi h=>IsRangeIter h it (lo+(i:Nat)*1) ((n:Int) - (i:Nat)) 1) where
 mem:=by simp
 obj:=λi h st b j=>by
  have e:b=it:=by simpa using j
  subst e
  exact⟨_,st,λv z=>by
   have z':Data.fields _=Data.cell v:=z
   cases z'⟩
 keep:=λi h h' st k=>k it (by simp) _ st
 item:=by
  intro X O F U L i pins s σ H E I hf st J;subst O F U;obtain⟨f0,f1,f2,f3,Z,Y⟩:=hf it (by simp);have W:=Walks.range (prog:=X.prog) (w:=X.w) (I.ok.hd L) it lo 1 n;refine W.item i s _ _ J st λv h' tk hv st' kk=>?_;obtain⟨t,rfl⟩:=hv;have I1:Inv X pins σ H { s with heap:=h',toks:=tk }:=I.turned (λb o j e=>kk b o (by simpa using j) e) f0 f1 f3 Z Y;refine⟨_,rfl,qgw (s:={ s with heap:=h',toks:=tk }) (n:="range_iterator") st' rfl rfl (by decide) ⟨.int (lo+i),H,I1,⟨t,?_⟩,⟨rfl,rfl⟩,st',λb j=>(hf b j).1⟩⟩;rw[Int.mul_one]
 done:=by
  intro X O F U L i pins s σ H E I hf st J;subst O F U;obtain⟨f0,f1,f2,f3,Z,Y⟩:=hf it (by simp);exact wpAny_pyNext_range_end (I.ok.hd L) st (by have:n<=i:=J; omega) λh' eb=>⟨rfl,I.turned (t':=s.toks) (λb o j e=>eb b o j e) f0 f1 f3 Z Y⟩
 self:=λ_ _ _ _ _ st h=>wpAny_pyIter_rangeiter st h
end L2
namespace L2
open PySem PySem.Spec PyProof.Rows
section
variable {X:Cx}{tg:Qx}
theorem qy7{j:List (Addr×Obj)}{z:St}{H:Hp}{s:Qz}{R:It->Hp->Prop}{E:Value->Qz->Prop}{lo hi:Int}{t u v:Tok}{F:Nat}(I:Inv X j z H s)(Z:-(2 ^ 62)<=lo)(Y:lo<2 ^ 62)(U:-(2 ^ 62)<=hi)(O:hi<2 ^ 62)
  (q:R (Itr lo (hi - lo).toNat) H):wpAny (model X.prog X.w) X.A (pyIter (.ref s.heap.objs.size)) (PIE X j z tg R) E { s with heap:=s.heap.push { cls:=.type "range",data:=.fields #[.int lo t,.int hi u,.int 1 v] },toks:=F }:=by
 refine wpAny_pyIter_range (IsRange.new ..) (small_one Z Y U O) ?_;have J:Inv X j z H { s with heap:=s.heap.push { cls:=.type "range",data:=.fields #[.int lo t,.int hi u,.int 1 v] },toks:=F }:=I.kept λb o e=>Qqz _ e
 refine⟨(s.heap.push { cls:=.type "range",data:=.fields #[.int lo t,.int hi u,.int 1 v] }).objs.size,[(s.heap.push { cls:=.type "range",data:=.fields #[.int lo t,.int hi u,.int 1 v] }).objs.size],_,_,H,rfl,
  J.kept (t':=F) λb o e=>Qqz _ e,qa1 _ lo (hi - lo).toNat,?_,λb L=>?_,q⟩
 ·have e1:lo+((0:Nat):Int)*1=lo:=by simp
  have e2:(((hi - lo).toNat:Nat):Int) - ((0:Nat):Int)=Builtin.Range.rangeSize lo hi 1:=by rw[rangeSize_one]; split<;>omega
  show IsRangeIter _ _ (lo+((0:Nat):Int)*1) ((((hi - lo).toNat:Nat):Int) - ((0:Nat):Int)) 1;rw[e1,e2];exact Qql _ rfl
 ·have e:b=(s.heap.push { cls:=.type "range",data:=.fields #[.int lo t,.int hi u,.int 1 v] }).objs.size:=by simpa using L
  subst e;exact J.fpOk (Qqj _) (J.hok.fresh (Qqj _))
noncomputable def iRng1(ta:TA):TI:=λσ H R=>ta σ H λvs H1=>∃j:Int,vs=[.int j]/\-(2 ^ 62)<=j/\j<2 ^ 62/\R (Itr 0 j.toNat) H1
noncomputable def iRng2(ta:TA):TI:=λσ H R=>ta σ H λvs H1=>∃i j:Int,vs=[.int i,.int j]/\(-(2 ^ 62)<=i/\i<2 ^ 62/\-(2 ^ 62)<=j/\j<2 ^ 62)/\R (Itr i (j - i).toNat) H1
theorem qcs{a:Qx}{F:TA}{p pos:Pos}(Z:Gl X "range")(Y:X.mg "range" = none)(ha:PA X [a] F)(U:starEach [a] X.env=[(false,eval a X.env)]:=by rfl):PI X tg (.Call (.Name "range" p) [a] [] pos) (iRng1 F):=by
 intro pins s σ H R I h;refine Call_ (qkl I Z Y boot_range (PyProof.Rows.callWith_type1 (thn (ha pos pins s σ H _ I h) λus s1 ⟨vs,H1,I1,L,z⟩=>?_) U rfl));obtain⟨j,e,z,O,q⟩:=z;subst e
 cases L with
 |cons r J=>
  cases J;obtain⟨t,rfl⟩:=r;exact call_range_1 (qy7 I1 (by omega) (by omega) z O (by simpa using q))
theorem qcr{a b:Qx}{L:TA}{p pos:Pos}(hg:Gl X "range")(hm:X.mg "range" = none)(ha:PA X [a,b] L)(hs:starEach [a,b] X.env=[(false,eval a X.env),(false,eval b X.env)]:=by rfl)(z:starEach [b] X.env=[(false,eval b X.env)]:=by rfl):
  PI X tg (.Call (.Name "range" p) [a,b] [] pos) (iRng2 L):=by
 intro pins s σ H R I h;refine Call_ (qkl I hg hm boot_range (PyProof.Rows.callWith_type1 (thn (ha pos pins s σ H _ I h) λus s1 ⟨vs,H1,I1,O,J⟩=>?_) (by rw[hs,z]) (by rw[z]; rfl)));obtain⟨i,j,e,⟨J,Z,Y,U⟩,q⟩:=J;subst e
 cases O with
 |cons r F=>
  cases F with
  |cons r' F=>
   cases F;obtain⟨t,rfl⟩:=r;obtain⟨t',rfl⟩:=r';exact call_range_2 (qy7 I1 J Z Y U q)
noncomputable def tFor(wi:TI)(g:TG)(tb:TS):TS:=λD σ H=>wi σ H λJ H1=>∃W:Nat->Nat->St->Hp->Prop,(∃m,W 0 m σ H1)/\∀i m σ H,W i m σ H->
 (J.stop i H/\D.nx σ H)\/(J.go i H/\∃N:St->Hp->Prop,(∀σ' H',N σ' H'->∃m',m'<m/\W (i+1) m' σ' H')/\∀x H',J.yld i H x H'->g x σ H' λσ2 H2=>tb { D with nx:=N,ct:=N,bk:=D.nx } σ2 H2)
noncomputable def qv5(fp:List Addr)(h:Heap):List (Addr×Obj):=fp.filterMap λb=>(h.get? b).map λo=>(b,o)
theorem qqu{j:List Addr}{h:Heap}{b:Addr}{o:Obj}(z:b∈j)(e:h.get? b=some o):(b,o)∈qv5 j h:=Qxu.mpr ⟨b,z,by rw[e]; rfl⟩
theorem qc3{j:List Addr}{h:Heap}{p:Addr×Obj}(z:p∈qv5 j h):p.1∈j/\h.get? p.1=some p.2:=by
 obtain⟨b,F,e⟩:=Qxu.mp z
 cases q:h.get? b with
 |none=>rw[q]at e; cases e
 |some o=>
  rw[q]at e;have J:(b,o)=p:=Option.some.inj e;subst J;exact⟨F,q⟩
theorem Inv.pinned{j:List (Addr×Obj)}{J:St}{H:Hp}{s:Qz}{F:List Addr}(I:Inv X j J H s)(Z:∀b∈F,FpOk X j H b)(Y:∀b∈F,∃o,s.heap.get? b=some o/\∀v,o.data≠.cell v):Inv X (j++qv5 F s.heap) J H s:=
 I.pins_of λp U=>(Qqt.mp U).elim (λz=>I.pin p (Qqs _ z)) λz=>by
  obtain⟨L,e⟩:=qc3 z;obtain⟨f0,f1,f2,_⟩:=Z p.1 L;obtain⟨o,O,d⟩:=Y p.1 L;rw[e]at O; cases O;exact⟨e,f0,f1,f2,d⟩
theorem Inv.unpinned{j pl:List (Addr×Obj)}{z:St}{H:Hp}{s:Qz}(I:Inv X (j++pl) z H s):Inv X j z H s:=I.pins_of λp F=>I.pin p (Qqs _ (Qzf _ F))
theorem qhj{O:Qx}{body:List Stmt}{wi:TI}{g:TG}{tb:TS}{pos:Pos}(hp:PassesOwn (model X.prog X.w) X.A X.env X.xe)(hc:X.calm=true)(hi:PI X tg O wi)(hg:PG X tg g)(U:PSs X body tb)
  (hs:∀x,foldedSetIterable O X.env x=pure x):PS X (.For tg O body [] pos) (tFor wi g tb):=by
 intro pins s σ H D I h;refine wpAny_For (thn (hi pins s σ H _ I h) λv s1 h1=>thn h1 λa8 s2 h2=>?_) hs;obtain⟨it,fp,tn,J,H2,e,I2,T,a5,f2,W,⟨m0,w0⟩,a1⟩:=h2;subst e;have L:∀{H':Hp},(∀b∈fp,H' b=none)->∀b∈fp,FpOk X pins H' b:=λhn b U=>⟨hn b U,(f2 b U).2⟩
 refine codeAny_forLoop_any (λn s'=>∃i F H',Inv X pins F H' s'/\tn i s'.heap/\(∀b∈fp,H' b=none)/\W i n F H') ?_ m0 ⟨0,σ,H2,I2,a5,λb U=>(f2 b U).1,w0⟩;rintro n s3 ⟨i,z,H3,I3,a2,a3,w3⟩;rcases a1 i n z H3 w3 with⟨stop,qn⟩|⟨go,N,hN,step⟩
 ·refine Zw hp (thn (T.done X rfl rfl rfl hc i pins s3 z H3 X.xe I3 (L a3) a2 stop) λr s4 ⟨hr,I4⟩=>?_);subst hr;exact wpAny_execs_nil ⟨z,H3,I4,qn⟩
 ·refine Zw hp (thn (T.item X rfl rfl rfl hc i pins s3 z H3 X.xe I3 (L a3) a2 go) λr s4 ⟨u,hr,h4⟩=>?_);subst hr;refine Zw hp (thn h4 λ_ s5 ⟨x,H5,I5,r5,y5,a0,a6⟩=>?_);have a7:=I5.pinned (L a6) (T.obj _ _ a0);refine Zw hp (thn (hg _ s5 z H5 x u _ a7 r5 (step x H5 y5)) λ_ s6 ⟨a4,H6,I6,q6⟩=>?_);refine Zw hp (thn (U _ s6 a4 H6 _ I6 q6) λf s7 q7=>?_);have Y:∀{j:St}{H7:Hp},Inv X (pins++qv5 fp s5.heap) j H7 s7->N j H7->∃m,m<n/\∃i F H',Inv X pins F H' s7/\tn i s7.heap/\(∀b∈fp,H' b=none)/\W i m F H':=λ{j H7} Z n7=>by
   obtain⟨m',hm,w7⟩:=hN j H7 n7;refine⟨m',hm,i+1,j,H7,Z.unpinned,T.keep _ _ _ a0 λb U o e=>(Z.pin (b,o) (Qqs _ (Qqs _ (qqu U e)))).1,λb U=>?_,w7⟩;obtain⟨o,e,d⟩:=T.obj _ _ a0 b U;exact(Z.pin (b,o) (Qqs _ (Qqs _ (qqu U e)))).2.1
  cases f with
  |next=>obtain⟨j,H7,Z,n7⟩:=q7; exact Y Z n7
  |cont=>obtain⟨j,H7,Z,n7⟩:=q7; exact Y Z n7
  |brk=>obtain⟨j,H7,Z,q7⟩:=q7; exact⟨j,H7,Z.unpinned,q7⟩
  |ret v=>obtain⟨x7,j,H7,Z,r7,q7⟩:=q7; exact⟨x7,j,H7,Z.unpinned,r7,q7⟩
end
end L2
namespace L2
open PySem PySem.Spec PyProof.Rows
abbrev R2:=V->V->Hp->VK->Prop
def OpR(X:Cx)(f:Value->Value->Sem Value)(r:R2):Prop:=
 ∀(pins:List (Addr×Obj)) (s:Qz) (σ:St) (H:Hp) (x y:V) (v u:Value) (Q:VK),Inv X pins σ H s->RelV x v->RelV y u->r x y H Q->
  wpAny (model X.prog X.w) X.A (f v u) (EP X pins σ Q) X.xe s
def UnR(X:Cx)(f:Value->Sem Value)(r:V->Hp->VK->Prop):Prop:=
 ∀(pins:List (Addr×Obj)) (s:Qz) (σ:St) (H:Hp) (x:V) (v:Value) (Q:VK),Inv X pins σ H s->RelV x v->r x H Q->
  wpAny (model X.prog X.w) X.A (f v) (EP X pins σ Q) X.xe s
def qqc(X:Cx)(f:Value)(r:List V->Hp->VK->Prop):Prop:=
 ∀(pins:List (Addr×Obj)) (s:Qz) (σ:St) (H:Hp) (xs:List V) (us:List Value) (Q:VK),Inv X pins σ H s->Vals xs us->r xs H Q->
  wpAny (model X.prog X.w) X.A (call f us) (EP X pins σ Q) X.xe s
def TruR(X:Cx)(r:V->Hp->(Bool->Hp->Prop)->Prop):Prop:=
 ∀(pins:List (Addr×Obj)) (s:Qz) (σ:St) (H:Hp) (x:V) (v:Value) (Q:Bool->Hp->Prop),Inv X pins σ H s->RelV x v->r x H Q->
  wpAny (model X.prog X.w) X.A (truthy v) (TP X pins σ Q) X.xe s
noncomputable def tOp(r:R2)(ta tb:TE):TE:=λσ H Q=>ta σ H λx H1=>tb σ H1 λy H2=>r x y H2 Q
noncomputable def tUn(r:V->Hp->VK->Prop)(ta:TE):TE:=λσ H Q=>ta σ H λx H1=>r x H1 Q
noncomputable def rI(C:Int->Int->Prop)(g:Int->Int->V):R2:=λx y H Q=>∃i j,x=.int i/\y=.int j/\C i j/\Q (g i j) H
noncomputable def rI0(g:Int->Int->V):R2:=λx y H Q=>∃i j,x=.int i/\y=.int j/\Q (g i j) H
def rU(g:Int->V):V->Hp->VK->Prop:=λx H Q=>∃i,x=.int i/\Q (g i) H
section
variable {X:Cx}{a b c:Qx}{ta tb tc:TE}{pos:Pos}
theorem binT(ha:PE X a ta)(hb:PE X b tb){j:List (Addr×Obj)}{s:Qz}{z:St}{H:Hp}{R:V->V->Hp->Prop}(I:Inv X j z H s)
  (h:ta z H λx H1=>tb z H1 λy H2=>R x y H2){Q:Value->Qz->Prop}{f:Value->Value->Sem Value}
  (hf:∀v u L x y H2,Inv X j z H2 L->RelV x v->RelV y u->R x y H2->wpAny (model X.prog X.w) X.A (f v u) Q X.xe L) :
  wpAny (model X.prog X.w) X.A (eval a X.env) (λv J=>wpAny (model X.prog X.w) X.A (eval b X.env) (λu F=>wpAny (model X.prog X.w) X.A (f v u) Q X.xe F) X.xe J) X.xe s:=by
 refine thn (ha j s z H _ I h) λv O ⟨x,H1,I1,Y,q1⟩=>?_;refine thn (hb j O z H1 _ I1 q1) λu L ⟨y,H2,I2,U,Z⟩=>?_;exact hf v u L x y H2 I2 Y U Z
theorem pe_op{op:Zl}{r:R2}(J:OpR X (Q2 op) r)(O:PE X a ta)(L:PE X b tb):PE X (.BinOp a op b pos) (tOp r ta tb):=by
 intro pins s σ H Q I h;exact wpAny_BinOp (binT O L I h λv u j x y H2 U F z q=>J pins j σ H2 x y v u Q U F z q)
theorem pe_un{op:UnaryOp}{r:V->Hp->VK->Prop}(J:UnR X (unaryOp op) r)(L:PE X a ta):PE X (.UnaryOp op a pos) (tUn r ta):=by
 intro pins s σ H Q I h;exact UnaryOp_ (thn (L pins s σ H _ I h) λv j ⟨x,H1,O,z,F⟩=>J pins j σ H1 x v Q O z F)
theorem opI{f:Value->Value->Sem Value}{C:Int->Int->Prop}{g:Int->Int->Int}
  (z:∀(i j:Int) (t u:Tok) (s:Qz) (Q:Value->Qz->Prop) (E:Value->Qz->Prop),C i j->Q (.int (g i j) s.toks) { s with toks:=s.toks+1 }->wpAny (model X.prog X.w) X.A (f (.int i t) (.int j u)) Q E s) :
  OpR X f (rI C λi j=>.int (g i j)):=by
 intro pins s σ H x y v u Q I L J h;obtain⟨i,j,rfl,rfl,O,q⟩:=h;obtain⟨t,rfl⟩:=L;obtain⟨F,rfl⟩:=J;exact z i j t F s _ _ O ⟨.int (g i j),H,I.tok _,⟨_,rfl⟩,q⟩
theorem opI0{f:Value->Value->Sem Value}{g:Int->Int->Int}
  (z:∀(i j:Int) (t u:Tok) (s:Qz) (Q:Value->Qz->Prop) (E:Value->Qz->Prop),Q (.int (g i j) s.toks) { s with toks:=s.toks+1 }->wpAny (model X.prog X.w) X.A (f (.int i t) (.int j u)) Q E s) :
  OpR X f (rI0 λi j=>.int (g i j)):=by
 intro pins s σ H x y v u Q I L J h;obtain⟨i,j,rfl,rfl,q⟩:=h;obtain⟨t,rfl⟩:=L;obtain⟨F,rfl⟩:=J;exact z i j t F s _ _ ⟨.int (g i j),H,I.tok _,⟨_,rfl⟩,q⟩
theorem opB0{f:Value->Value->Sem Value}{g:Int->Int->Bool}
  (z:∀(i j:Int) (t u:Tok) (s:Qz) (Q:Value->Qz->Prop) (E:Value->Qz->Prop),Q (.bool (g i j)) s->wpAny (model X.prog X.w) X.A (f (.int i t) (.int j u)) Q E s) :
  OpR X f (rI0 λi j=>.bl (g i j)):=by
 intro pins s σ H x y v u Q I L J h;obtain⟨i,j,rfl,rfl,q⟩:=h;obtain⟨t,rfl⟩:=L;obtain⟨F,rfl⟩:=J;exact z i j t F s _ _ ⟨.bl (g i j),H,I,rfl,q⟩
def CPow(i j:Int):Prop:=0<=j/\j<=1000000/\i.natAbs<2 ^ 64
def CMul(i j:Int):Prop:=(-(2 ^ 64)<i/\i<2 ^ 64)\/(-(2 ^ 64)<j/\j<2 ^ 64)
theorem CMul.ok{i j:Int}(h:CMul i j):IntMulOk i j:=by
 rcases h with⟨h1,h2⟩|⟨h1,h2⟩
 ·exact .of_left (intBits_le_64 h1 h2)
 ·exact .of_right (intBits_le_64 h1 h2)
theorem op_add:OpR X (Q2 .Add) (rI0 λi j=>.int (i+j)):=opI0 λ_ _ _ _ _ _ _ q=>add_int q
theorem op_sub:OpR X (Q2 .Sub) (rI0 λi j=>.int (i - j)):=opI0 λ_ _ _ _ _ _ _ q=>sub_int q
theorem op_mul:OpR X (Q2 .Mult) (rI CMul λi j=>.int (i*j)):=opI λ_ _ _ _ _ _ _ z q=>mul_int q z.ok
theorem op_mod:OpR X (Q2 .Mod) (rI (λ_ j=>0<j) λi j=>.int (i % j)):=opI λi j _ _ _ _ _ z q=>by
 have h1:(0:Int)<j:=z;exact mod_int' (by omega) (by rw[Int.fmod_eq_emod_of_nonneg i (by omega)]; exact q)
theorem op_pow:OpR X (Q2 .Pow) (rI CPow λi j=>.int (i ^ j.toNat)):=opI λ_ _ _ _ _ _ _ z q=>pow_int_small z.1 z.2.1 z.2.2 q
theorem unI{f:Value->Sem Value}{g:Int->Int}
  (j:∀(i:Int) (t:Tok) (s:Qz) (Q:Value->Qz->Prop) (E:Value->Qz->Prop),Q (.int (g i) s.toks) { s with toks:=s.toks+1 }->wpAny (model X.prog X.w) X.A (f (.int i t)) Q E s) :
  UnR X f (rU λi=>.int (g i)):=by
 intro pins s σ H x v Q I z h;obtain⟨i,rfl,q⟩:=h;obtain⟨t,rfl⟩:=z;exact j i t s _ _ ⟨.int (g i),H,I.tok _,⟨_,rfl⟩,q⟩
theorem un_neg:UnR X (unaryOp .USub) (rU λi=>.int (-i)):=unI λ_ _ _ _ _ q=>neg_int q
end
noncomputable def scal:V->V->Bool
 |.non,.non=>true|.non,.int _=>true|.int _,.non=>true|.non,.bl _=>true|.bl _,.non=>true|.non,.str _=>true|.str _,.non=>true
 |.int _,.int _=>true|.bl _,.bl _=>true|.str _,.str _=>true|.byt _,.byt _=>true
 |.int _,.str _=>true|.str _,.int _=>true|.bl _,.str _=>true|.str _,.bl _=>true
 |_,_=>false
noncomputable def rNe:R2:=λx y H Q=>scal x y=true/\Q (.bl (!decide (x=y))) H
theorem qmb{i j:Int}:decide (V.int i=V.int j)=(i==j):=by
 rw[Qzm,decide_eq_true_eq,beq_iff_eq];exact⟨λz=>by cases z; rfl,λz=>by cases z; rfl⟩
theorem dec_bl{i j:Bool}:decide (V.bl i=V.bl j)=(i==j):=by
 rw[Qzm,decide_eq_true_eq,beq_iff_eq];exact⟨λz=>by cases z; rfl,λz=>by cases z; rfl⟩
theorem qma{i j:Str}:decide (V.str i=V.str j)=(i==j):=by
 rw[Qzm,decide_eq_true_eq,beq_iff_eq];exact⟨λz=>by cases z; rfl,λz=>by cases z; rfl⟩
theorem qmc{i j:Array UInt8}:decide (V.byt i=V.byt j)=(i.toList==j.toList):=by
 rw[Qzm,decide_eq_true_eq,beq_iff_eq];cases i;cases j;exact⟨λz=>by cases z; rfl,λz=>by cases z; rfl⟩
section
variable {X:Cx}{a b c:Qx}{ta tb tc:TE}{pos:Pos}
theorem qz1{j:List (Addr×Obj)}{z:St}{H:Hp}{s:Qz}{Q:VK}{k F:Bool}(I:Inv X j z H s)(q:Q (.bl k) H)(e:k=F):EP X j z Q (.bool F) s:=by
 subst e;exact⟨.bl k,H,I,rfl,q⟩
theorem op_ne:OpR X (Qe .NotEq) rNe:=by
 intro pins s σ H x y v u Q I L z h;obtain⟨J,q⟩:=h
 cases x with
 |non=>
  cases L
  cases y with
  |non=>cases z; exact PySem.EqNone.ne_none_none (qz1 I q (by simp))
  |bl j=>cases z; exact PySem.EqNone.ne_none_bool (qz1 I q (by simp))
  |int j=>obtain⟨F,rfl⟩:=z; exact PySem.EqNone.ne_none_int (qz1 I q (by simp))
  |str j=>obtain⟨F,rfl⟩:=z; exact PySem.EqNone.ne_none_str (qz1 I q (by simp))
  |_=>exact absurd (show false=true from J) Qqe
 |bl i=>
  cases L
  cases y with
  |non=>cases z; exact PySem.EqNone.ne_bool_none (qz1 I q (by simp))
  |bl j=>cases z; exact ne_bool (qz1 I q (congrArg not dec_bl))
  |str j=>obtain⟨F,rfl⟩:=z; exact PySem.EqMixed.ne_bool_str (qz1 I q (by simp))
  |_=>exact absurd (show false=true from J) Qqe
 |int i=>
  obtain⟨t,rfl⟩:=L
  cases y with
  |non=>cases z; exact PySem.EqNone.ne_int_none (qz1 I q (by simp))
  |int j=>obtain⟨F,rfl⟩:=z; exact ne_int (qz1 I q (congrArg not qmb))
  |str j=>obtain⟨F,rfl⟩:=z; exact PySem.EqMixed.ne_int_str (qz1 I q (by simp))
  |_=>exact absurd (show false=true from J) Qqe
 |str i=>
  obtain⟨t,rfl⟩:=L
  cases y with
  |non=>cases z; exact PySem.EqNone.ne_str_none (qz1 I q (by simp))
  |bl j=>cases z; exact PySem.EqMixed.ne_str_bool (qz1 I q (by simp))
  |int j=>obtain⟨F,rfl⟩:=z; exact PySem.EqMixed.ne_str_int (qz1 I q (by simp))
  |str j=>obtain⟨F,rfl⟩:=z; exact ne_str (qz1 I q (congrArg not qma))
  |_=>exact absurd (show false=true from J) Qqe
 |byt i=>
  obtain⟨t,rfl⟩:=L
  cases y with
  |byt j=>obtain⟨F,rfl⟩:=z; exact PySem.W.ne_bytes (qz1 I q (congrArg not qmc))
  |_=>exact absurd (show false=true from J) Qqe
 |_=>cases y<;>exact absurd (show false=true from J) Qqe
theorem op_lt:OpR X (Qe .Lt) (rI0 λi j=>.bl (decide (i<j))):=opB0 λ_ _ _ _ _ _ _ q=>lt_int q
theorem op_le:OpR X (Qe .LtE) (rI0 λi j=>.bl (decide (i<=j))):=opB0 λ_ _ _ _ _ _ _ q=>le_int q
theorem op_gt:OpR X (Qe .Gt) (rI0 λi j=>.bl (decide (j<i))):=opB0 λ_ _ _ _ _ _ _ q=>gt_int q
theorem op_ge:OpR X (Qe .GtE) (rI0 λi j=>.bl (decide (j<=i))):=opB0 λ_ _ _ _ _ _ _ q=>ge_int q
theorem op_isN:OpR X (Qe .Is) (λx y H Q=>y=.non/\Q (.bl (decide (x=.non))) H):=by
 intro pins s σ H x y v u Q I j z h;obtain⟨rfl,q⟩:=h;cases z;refine is_none_gen (qz1 I q ?_)
 cases x<;>first
  |(cases j; rfl)
  |(obtain⟨t,rfl⟩:=j; rfl)
theorem qlv:OpR X (Qe .IsNot) (λx y H Q=>y=.non/\Q (.bl (!decide (x=.non))) H):=by
 intro pins s σ H x y v u Q I j z h;obtain⟨rfl,q⟩:=h;cases z;refine isnot_none_gen (qz1 I q ?_)
 cases x<;>first
  |(cases j; rfl)
  |(obtain⟨t,rfl⟩:=j; rfl)
theorem qlz{op:Qt}{r:R2}(J:OpR X (Qe op) r)(U:PE X a ta)(O:PE X b tb)(L:Q1 op b=false):PE X (.Compare a [op] [b] pos) (tOp r ta tb):=by
 intro pins s σ H Q I h;exact wpAny_Compare1 (binT U O I h λv u j x y H2 Y F z q=>J pins j σ H2 x y v u Q Y F z q) L
noncomputable def tTest(t:TE):TT:=λσ H Q=>t σ H λx H'=>∃k,x=.bl k/\Q k H'
theorem qip{op:Qt}{r:R2}(ho:OpR X (Qe op) r)(ha:PE X a ta)(hb:PE X b tb)(hm:Q1 op b=false):PT X (.Compare a [op] [b] pos) (tTest (tOp r ta tb)):=by
 intro pins s σ H Q I h
 refine wpAny_isTrue_Compare1 (thn (ha pins s σ H _ I h) λv F ⟨x,H1,I1,O,Z⟩=>thn (hb pins F σ H1 _ I1 Z) λu j ⟨y,H2,I2,L,Y⟩=>
  thn (ho pins j σ H2 x y v u _ I2 O L Y) λc s3 ⟨z,H3,I3,J,k,e,U⟩=>?_) hm
 subst e;cases J;exact Qb ⟨H3,I3,U⟩
noncomputable def qg6(r r':R2)(ta tb tc:TE):TE:=λσ H Q=>ta σ H λx H1=>tb σ H1 λy H2=>r x y H2 λz H3=>∃k,z=.bl k/\
 (if k=true then tc σ H3 λw' H4=>r' y w' H4 Q else Q (.bl false) H3)
theorem qf1{op j:Qt}{r L:R2}(ho:OpR X (Qe op) r)(F:OpR X (Qe j) L)(ha:PE X a ta)(hb:PE X b tb)(hc:PE X c tc)
  (hm:lastMarks [op,j] [b,c]=false):PE X (.Compare a [op,j] [b,c] pos) (qg6 r L ta tb tc):=by
 intro pins s σ H Q I h
 refine Compare_chain (thn (ha pins s σ H _ I h) λv s1 ⟨x,H1,I1,r1,q1⟩=>chain_link (thn (hb pins s1 σ H1 _ I1 q1) λu s2 ⟨y,H2,I2,J,q2⟩=>
  thn (ho pins s2 σ H2 x y v u _ I2 r1 J q2) λd s3 ⟨z,Y,U,r3,k,e,O⟩=>?_)) hm
 subst e;cases r3;refine Qb ?_
 cases k with
 |false=>exact ite_ff ⟨.bl false,Y,U,rfl,O⟩
 |true=>exact ite_tt (chain_last (thn (hc pins s3 σ Y _ U O) λw' s4 ⟨Z,H4,I4,r4,q4⟩=>F pins s4 σ H4 y Z u w' Q I4 J r4 q4))
theorem qfi{op j:Qt}{r L:R2}(ho:OpR X (Qe op) r)(F:OpR X (Qe j) L)(ha:PE X a ta)(hb:PE X b tb)(hc:PE X c tc)
  (hm:lastMarks [op,j] [b,c]=false):PT X (.Compare a [op,j] [b,c] pos) (tTest (qg6 r L ta tb tc)):=by
 intro pins s σ H Q I h
 refine isTrue_chain (thn (ha pins s σ H _ I h) λv s1 ⟨x,H1,I1,r1,q1⟩=>test_link (thn (hb pins s1 σ H1 _ I1 q1) λu s2 ⟨y,H2,I2,J,q2⟩=>
  thn (ho pins s2 σ H2 x y v u _ I2 r1 J q2) λd s3 ⟨z,Y,U,r3,k,e,O⟩=>?_)) hm
 subst e;cases r3;refine Qb ?_
 cases k with
 |false=>
  obtain⟨k',e',q'⟩:=O;cases e';exact ite_ff ⟨Y,U,q'⟩
 |true=>
  refine ite_tt (test_last (thn (hc pins s3 σ Y _ U O) λw' s4 ⟨Z,H4,I4,r4,q4⟩=>thn (F pins s4 σ H4 y Z u w' _ I4 J r4 q4) λd' s5 ⟨z2,H5,I5,r5,k2,e2,q5⟩=>?_));subst e2;cases r5;exact Qb ⟨H5,I5,q5⟩
def TruV(K:Qqq)(x:V)(H:Hp)(k:Bool):Prop:=
 match x with
 |.non=>k=false
 |.bl b=>k=b
 |.int i=>k=(i != 0)
 |.str y=>y.length<=sizeLine/\k=((y.length:Int) != 0)
 |.byt y=>y.size<=sizeLine/\k=((y.size:Int) != 0)
 |.ref p=>(∃xs,SqL K H p xs/\k = !xs.isEmpty)\/(∃xs,SqT K H p xs/\k = !xs.isEmpty)\/∃kvs,H p=some (.dK kvs)/\k = !kvs.isEmpty
 |_=>False
theorem qbb{j:Type}{kvs:List (j×V)}{vs:List (j×Value)}(r:KV kvs vs):(!vs.isEmpty) = !kvs.isEmpty:=by
 cases r<;>rfl
theorem qkn{xs:List V}{j:List Value}(r:Vals xs j):(!j.toArray.isEmpty) = !xs.isEmpty:=by
 cases r<;>simp
theorem qay:(sizeLine:Nat)<2 ^ 63:=by rw[Q8]; decide
theorem tru_ok:TruR X (λx H Q=>∃k,TruV X.K x H k/\Q k H):=by
 intro pins s σ H x v Q I F h;obtain⟨k,e,q⟩:=h;have hl:=qay;have Z:sizeLine=16777216:=Q8
 cases x with
 |non=>
  cases F;have j:k=false:=e;subst j;exact truthy_none ⟨H,I,q⟩
 |bl b=>
  cases F;have j:k=b:=e;subst j;exact Qb ⟨H,I,q⟩
 |int i=>
  obtain⟨t,rfl⟩:=F;have j:k=(i != 0):=e;subst j;exact PySem.P.truthy_int ⟨H,I,q⟩
 |str y=>
  obtain⟨t,rfl⟩:=F;obtain⟨U,j⟩:y.length<=sizeLine/\k=((y.length:Int) != 0):=e;subst j;exact PySem.P.truthy_str (by omega) ⟨H,I.tok _,q⟩
 |byt y=>
  obtain⟨t,rfl⟩:=F;obtain⟨U,j⟩:y.size<=sizeLine/\k=((y.size:Int) != 0):=e;subst j;exact PySem.W.truthy_bytes (by omega) ⟨H,I.tok _,q⟩
 |ref p=>
  cases F;have j:(∃xs,SqL X.K H p xs/\k = !xs.isEmpty)\/(∃xs,SqT X.K H p xs/\k = !xs.isEmpty)\/∃kvs,H p=some (.dK kvs)/\k = !kvs.isEmpty:=e;rcases j with⟨xs,J,j⟩|⟨xs,J,j⟩|⟨kvs,J,j⟩
  ·subst j;obtain⟨L,r,pl,O⟩:=I.list J;have z:=r.length;exact wpAny_truthy_list pl.isList (by simp only[Qqw]; omega) ⟨H,I.tok _,by rw[qkn r]; exact q⟩
  ·subst j;obtain⟨L,r,pl,O⟩:=I.tuple J;have z:=r.length;exact truthy_tuple pl (by simp only[Qqw]; omega) ⟨H,I.tok _,by rw[qkn r]; exact q⟩
  ·subst j;obtain⟨O,Y,vs,r,m⟩:kvs.length<=sizeLine/\(p==Qn)=false/\∃vs,KV kvs vs/\s.heap.DictOf (mixKind X.prog X.w) p vs:=I.hok p _ J;have z:kvs.length=vs.length:=Paired.length r;exact wpAny_truthy_dict Y m (by omega) ⟨H,I.tok _,by rw[qbb r]; exact q⟩
 |_=>exact(show False from e).elim
theorem qqt(O:PE X a ta)(L:∀j,isTrue a X.env j=(do let v <- j; standAt a.pos; holding [v] (truthy v))):
  PT X a (λσ H Q=>ta σ H λx H'=>∃k,TruV X.K x H' k/\Q k H'):=by
 intro pins s σ H Q I h;exact isTrue_plain (thn (O pins s σ H _ I h) λv z ⟨x,H1,U,F,J⟩=>tru_ok pins z σ H1 x v Q U F J) (L _)
theorem vals1{x:V}{us:List Value}(r:Vals [x] us):∃u,us=[u]/\RelV x u:=by
 cases r with
 |cons z j=>cases j; exact⟨_,rfl,z⟩
theorem vals2{x y:V}{us:List Value}(r:Vals [x,y] us):∃u w',us=[u,w']/\RelV x u/\RelV y w':=by
 cases r with
 |cons J F=>
  cases F with
  |cons z j=>cases j; exact⟨_,_,rfl,J,z⟩
theorem qey(F:X.calm=true):qqc X (.builtin "max") (λxs H Q=>∃i j,xs=[.int i,.int j]/\Q (.int (if j > i then j else i)) H):=by
 intro pins s σ H xs L Q I r h;obtain⟨i,j,rfl,q⟩:=h;obtain⟨u,J,rfl,⟨t,rfl⟩,⟨O,rfl⟩⟩:=vals2 r;refine max_two_ints (I.ok.hd F) λh' tk k=>⟨_,H,I.kept k,?_,q⟩
 by_cases z:j > i
 ·rw[Z3 z,Z3 z]; exact⟨_,rfl⟩
 ·rw[Z2 z,Z2 z]; exact⟨_,rfl⟩
theorem qev(F:X.calm=true):qqc X (.builtin "min") (λxs H Q=>∃i j,xs=[.int i,.int j]/\Q (.int (if j<i then j else i)) H):=by
 intro pins s σ H xs L Q I r h;obtain⟨i,j,rfl,q⟩:=h;obtain⟨u,J,rfl,⟨t,rfl⟩,⟨O,rfl⟩⟩:=vals2 r;refine min_two_ints (I.ok.hd F) λh' tk k=>⟨_,H,I.kept k,?_,q⟩
 by_cases z:j<i
 ·rw[Z3 z,Z3 z]; exact⟨_,rfl⟩
 ·rw[Z2 z,Z2 z]; exact⟨_,rfl⟩
end
end L2
namespace L2
open PySem PySem.Spec PyProof.Rows
structure ObjM (h:Heap) (x dx C:Addr) (mA:Str->Option Value):Prop where
 obj:h.get? x=some (PySem.W.instObj C dx)
 ns:h.Ns1 dx mA
 ne:dx≠x
theorem qdq{h:Heap}{L:Addr}{J:Str->Option Value}(n:h.Ns1 L J):∃F,h.get? L=some F/\∀name,PySem.W.lookIn name F=some (J name):=by
 obtain⟨o,es,ep,U,hd,Z,_,Y⟩:=n;refine⟨o,U,λname=>?_⟩;have e:=Y name;unfold nsFind findBy at e;rw[<- Array.find?_toList]at e;unfold PySem.W.lookIn;rw[hd];dsimp only
 split
 ·rename_i y q;rw[q]at e;exact congrArg some e
 ·rename_i q;rw[q]at e;have a:es.toList.any (·.refKey)=false:=by
   rw[Qjo];intro y O;obtain⟨z,t,j⟩:=Z y (Array.mem_toList_iff.mp O);simp[DictEntry.refKey,j]
  have a':¬ es.toList.any (·.refKey)=true:=by rw[a]; exact Qqe
  rw[Z2 a'];exact congrArg some e
theorem ObjM.look{h:Heap}{x F C:Addr}{z:Str->Option Value}(I:ObjM h x F C z):∃j,PySem.W.InstAt h x (PySem.W.instObj C F) C (some j)/\∀name,PySem.W.lookIn name j=some (z name):=
 let ⟨j,J,L⟩:=qdq I.ns
 ⟨j,⟨I.obj,rfl,rfl,J⟩,L⟩
section
variable {prog:Program}{w:Qk}{A:Qv}{E:Value->Qz->Prop}{s:Qz}{K:Qqq}{x dx C f:Addr}{mA:Str->Option Value}{name:Str}{v:Value}
theorem qmx{expr:Bool}{Q:Value->Qz->Prop}(X:K.In s.heap)(I:ObjM s.heap x dx C mA)(O:PySem.W.plainGet K C name=true)(L:PySem.W.hasDictIn K C=true)
  (U:PySem.W.findIn K (.ref C) name=some none) (z:mA name=some v) (j:PySem.W.handedIn v=true) (h:Q v { s with toks:=s.toks+1 }) :
  wpAny (model prog w) A (getAttr (.ref x) name expr) Q E s:=by
 obtain⟨Y,J,F⟩:=I.look;exact PySem.W.get_value X J (Qjd O).1 (PySem.W.findObj_own L U rfl (by rw[F,z])) j h
theorem qgy{pl:Sem Bool}{Q:Value×List Value->Qz->Prop}(X:K.In s.heap)(I:ObjM s.heap x dx C mA)(j:PySem.W.plainGet K C name=true)
  (U:PySem.W.findIn K (.ref C) name=some (some (.ref f))) (L:PySem.W.isFn K (.ref f)=true) (F:mA name=none) (h:Q (.ref f,[.ref x]) s) :
  wpAny (model prog w) A (Zs (.ref x) name pl) Q E s:=by
 obtain⟨z,J,O⟩:=I.look;exact PySem.W.method_fn X J (Qjd j).1 (Qjd j).2 U (beq_iff_eq.mp L) (by show(PySem.W.lookIn name z).map (·.isSome)=some false; rw[O,F]; rfl) h
theorem qii{ns:List Str}{Q:Unit->Qz->Prop}(X:K.In s.heap)(I:ObjM s.heap x dx C mA)
  (hs:PySem.W.findIn K (.ref C) "__setattr__" = some (some (.builtin "object.__setattr__"))) (hp:PySem.W.plainOver K C=true) (ht:PySem.W.takerIn K C name=some none) (hh:PySem.W.hasDictIn K C=true)
  (Z:PySem.Within mA ns) (hsz:ns.length<=sizeLine)
  (h:∀h',ObjM h' x dx C (λy=>if y=name then some v else mA y)->Heap.SameBut dx s.heap h'->Q () { s with heap:=h',toks:=s.toks+2 }) :
  wpAny (model prog w) A (setAttr (.ref x) name v) Q E s:=by
 obtain⟨od,J,hl⟩:=I.look;refine PySem.W.set_plain X J hs (PySem.W.osa_open (s:={ s with toks:=s.toks+1 }) (r:=none) X J hp ht λb=>?_);obtain⟨cd,hc,O⟩:=PySem.W.any_some hh;have Y:s.heap.get? x=some ⟨.ref C,some dx,.plain,#[]⟩:=I.obj;refine Qq (Qj (Qq (Qq (wpAny_loadPart Y (Qq (PySem.W.Looks.here (s:={ s with toks:=s.toks+1 }) (PySem.W.looks_clsIn X hc) ?_))))));rw[O];refine Qj (a:=some dx) (Qq (Qj (Qq ?_)));refine wpAny_nsSet1 (s:={ s with toks:=s.toks+1 }) I.ns λh' z j=>?_;obtain⟨oD,a0,a1,F,L,U⟩:=z.count (PySem.Within.cons name v Z);refine Qq (wpAny_lookBehind F (by rw[L]; exact pastItsLine_dict (Qzh U (by rw[Qqh]; omega))) ?_);exact Qj (h _ ⟨(j.2 _ (Ne.symm I.ne)).trans I.obj,z,I.ne⟩ j)
theorem qf6{R:Result->Qz->Prop}{vs:List Value}{j:List (Str×Value)}(X:K.In s.heap)(z:PySem.W.makesIn K C=true)
  (hi:PySem.W.findIn K (.ref C) "__init__" = some (some (.ref f))) (F:PySem.W.typeIn K (.ref f)=some (.type "function"))
  (h:Ze (model prog w) (A.under (.builtin "type.__call__" ⟨.ref C::vs,j⟩)) (.call (.ref f) ⟨.ref (s.heap.objs.size+1)::vs,j⟩) (PySem.W.InitBack (s.heap.objs.size+1) R)
   { s with heap:=(s.heap.push PySem.W.emptyDict).push (PySem.W.instObj C s.heap.objs.size) }) :
  Ze (model prog w) A (.call (.ref C) ⟨vs,j⟩) R s:=by
 obtain⟨J,g,d,t,os⟩:=s;exact PySem.W.make_core (PySem.W.makes_of X z) (PySem.W.looks_findIn X hi) (λself=>PySem.W.bind_fn X self F) (.inl rfl) h
end
noncomputable def putF(f:Str)(v:V):List (Str×V)->List (Str×V)
 |[]=>[(f,v)]
 |(g,x)::r=>if g=f then(g,v)::r else(g,x)::putF f v r
theorem qjl(f g:Str)(v:V):∀fs:List (Str×V),(putF f v fs).lookup g=if g=f then some v else fs.lookup g
 |[]=>by
  show List.lookup g [(f,v)]=_
  by_cases h:g=f
  ·have j:(g==f)=true:=beq_iff_eq.mpr h;simp only[List.lookup,j,Z3 h]
  ·have j:(g==f)=false:=beq_eq_false_iff_ne.mpr h;simp only[List.lookup,j,Z2 h]
 |(k,x)::r=>by
  have F:=qjl f g v r;rw[show putF f v ((k,x)::r)=(if k=f then(k,v)::r else(k,x)::putF f v r) from rfl]
  by_cases z:k=f
  ·rw[Z3 z]
   by_cases h:g=k
   ·have j:(g==k)=true:=beq_iff_eq.mpr h;simp only[List.lookup,j,Z3 (h.trans z)]
   ·have j:(g==k)=false:=beq_eq_false_iff_ne.mpr h;simp only[List.lookup,j,Z2 (λe:g=f=>h (e.trans z.symm))]
  ·rw[Z2 z]
   by_cases h:g=k
   ·have j:(g==k)=true:=beq_iff_eq.mpr h;simp only[List.lookup,j,Z2 (λe:g=f=>z (h.symm.trans e))]
   ·have j:(g==k)=false:=beq_eq_false_iff_ne.mpr h;simp only[List.lookup,j];exact F
theorem qjn(f:Str)(v:V):∀fs:List (Str×V),f∈(putF f v fs).map (·.1)/\∀g,g∈fs.map (·.1)->g∈(putF f v fs).map (·.1)
 |[]=>⟨by simp[putF],λg h=>by simp at h⟩
 |(k,x)::r=>by
  obtain⟨F,z⟩:=qjn f v r;rw[show putF f v ((k,x)::r)=(if k=f then(k,v)::r else(k,x)::putF f v r) from rfl]
  by_cases j:k=f
  ·rw[Z3 j];subst j;exact⟨by simp,λg h=>by simpa using h⟩
  ·rw[Z2 j];refine⟨?_,λg h=>?_⟩
   ·rw[Qqy];exact Qqn _ F
   ·rw[Qqy]at h ⊢;rcases Qqc.mp h with e|e
    ·exact Qqc.mpr (.inl e)
    ·exact Qqn _ (z g e)
theorem qjm(f:Str)(v:V):∀fs:List (Str×V),(putF f v fs).length<=fs.length+1
 |[]=>by simp[putF]
 |(k,x)::r=>by
  have z:=qjm f v r;rw[show putF f v ((k,x)::r)=(if k=f then(k,v)::r else(k,x)::putF f v r) from rfl]
  by_cases j:k=f
  ·rw[Z3 j,Qqh,Qqh]; omega
  ·rw[Z2 j,Qqh,Qqh]; omega
theorem RelO.some_of{v:V}{o:Option Value}(r:RelO (some v) o):∃u,o=some u/\RelV v u:=by
 cases o with
 |none=>exact(show False from r).elim
 |some u=>exact⟨u,rfl,r⟩
theorem RelO.none_of{o:Option Value}(r:RelO none o):o=none:=by
 cases o with
 |none=>rfl
 |some u=>exact(show False from r).elim
theorem qdn{v:V}{u:Value}(r:RelV v u):PySem.W.handedIn u=true:=by
 cases v with
 |non=>cases (show u=Value.none from r); rfl
 |bl b=>cases (show u=Value.bool b from r); rfl
 |int i=>obtain⟨t,e⟩:=(show ∃t,u=Value.int i t from r); cases e; rfl
 |str x=>obtain⟨t,e⟩:=(show ∃t,u=Value.str x t from r); cases e; rfl
 |byt b=>obtain⟨t,e⟩:=(show ∃t,u=Value.bytes b t from r); cases e; rfl
 |flt b=>obtain⟨t,e⟩:=(show ∃t,u=Value.float b t from r); cases e; rfl
 |ref a=>cases (show u=Value.ref a from r); rfl
 |ty n=>cases (show u=Value.type n from r); rfl
section
variable {P:Program}{w:Qk}{H H':Hp}{h h':Heap}{a C dx:Addr}{fs fs':List (Str×V)}
theorem qqj(hok:HOk P w H h)(e:H a=some (.ins C dx fs)):∃mA,ObjM h a dx C mA/\(∀f,RelO (fs.lookup f) (mA f))/\PySem.Within mA (fs.map (·.1))/\fs.length<=1000/\H dx=some (.own a):=by
 obtain⟨d,z,ne,ob,mA,n,r,q⟩:=(show ObjOk P w H h a (.ins C dx fs) from hok a _ e)
 exact⟨mA,⟨ob,n,ne⟩,r,q,z,d⟩
end
structure Cls (K:Qqq) (C:Addr):Prop where
 pg:PySem.W.plainGet K C Str.empty=true
 hd:PySem.W.hasDictIn K C=true
 po:PySem.W.plainOver K C=true
 sa:PySem.W.findIn K (.ref C) "__setattr__" = some (some (.builtin "object.__setattr__"))
theorem Cls.get{K:Qqq}{C:Addr}(c:Cls K C)(f:Str):PySem.W.plainGet K C f=true:=c.pg
def NoAttr(K:Qqq)(C:Addr)(f:Str):Prop:=PySem.W.findIn K (.ref C) f=some none
theorem NoAttr.taker{K:Qqq}{C:Addr}{f:Str}(n:NoAttr K C f):PySem.W.takerIn K C f=some none:=by
 unfold PySem.W.takerIn;rw[show PySem.W.findIn K (.ref C) f=some none from n]
 rfl
structure Meth (K:Qqq) (C:Addr) (m:Str) (f:Addr):Prop where
 at_:PySem.W.findIn K (.ref C) m=some (some (.ref f))
 fn:PySem.W.isFn K (.ref f)=true
 kp:Qzl K (.ref f)=true
section
variable {X:Cx}{pins:List (Addr×Obj)}{σ:St}{H:Hp}{s:Qz}{a C dx:Addr}{fs:List (Str×V)}{f:Str}{v:V}{A:Qv}{E:Value->Qz->Prop}
theorem qbc{b:Bool}{Q:Value->Qz->Prop}(I:Inv X pins σ H s)(e:H a=some (.ins C dx fs))(c:Cls X.K C)(n:NoAttr X.K C f)(l:fs.lookup f=some v)
  (h:∀u s',Inv X pins σ H s'->RelV v u->Q u s'):wpAny (model X.prog X.w) A (getAttr (.ref a) f b) Q E s:=by
 obtain⟨mA,O,r,_,_,_⟩:=qqj I.hok e;obtain⟨u,z,j⟩:=RelO.some_of (v:=v) (o:=mA f) (by rw[<- l]; exact r f);exact qmx I.kIn O (c.get f) c.hd n z (qdn j) (h u _ (I.tok _) j)
theorem qxo{m:Str}{g:Addr}{pl:Sem Bool}{Q:Value×List Value->Qz->Prop}(I:Inv X pins σ H s)(e:H a=some (.ins C dx fs))(c:Cls X.K C)(k:Meth X.K C m g)(l:fs.lookup m=none)
  (h:Q (.ref g,[.ref a]) s):wpAny (model X.prog X.w) A (Zs (.ref a) m pl) Q E s:=by
 obtain⟨mA,O,r,_,_,_⟩:=qqj I.hok e;have hn:mA m=none:=RelO.none_of (by rw[<- l]; exact r m);exact qgy I.kIn O (c.get m) k.at_ k.fn hn h
theorem qa7{y:V}{u:Value}{Q:Unit->Qz->Prop}(I:Inv X pins σ H s)(e:H a=some (.ins C dx fs))(c:Cls X.K C)(n:NoAttr X.K C f)(hl:fs.length<1000)(U:RelV y u)
  (h:∀s',Inv X pins σ (upd H a (.ins C dx (putF f y fs))) s'->Q () s'):wpAny (model X.prog X.w) A (setAttr (.ref a) f u) Q E s:=by
 obtain⟨mA,O,r,F,_,J⟩:=qqj I.hok e;have Y:(fs.map (·.1)).length<=sizeLine:=by rw[Qqx,Q8]; omega
 refine qii I.kIn O c.sa c.po n.taker c.hd F Y λh' j L=>h _ ?_;have hd:∃o,h'.get? dx=some o:=let ⟨o,_,_,e',_⟩:=j.ns; ⟨o,e'⟩;refine I.write (x:=a) (e:=dx) (by rw[e]; exact True.intro) (.inr J) (λb q hb z=>(L.2 b hb).trans z) hd ?_;refine⟨by rw[qzq O.ne]; exact J,?_,O.ne,j.obj,_,j.ns,λg=>?_,λg Z=>?_⟩
 ·have:=qjm f y fs; omega
 ·show RelO ((putF f y fs).lookup g) (if g=f then some u else mA g);rw[qjl]
  by_cases q:g=f
  ·rw[Z3 q,Z3 q]; exact U
  ·rw[Z2 q,Z2 q]; exact r g
 ·by_cases q:g=f
  ·rw[q]; exact(qjn f y fs).1
  ·refine(qjn f y fs).2 g (F g λz=>Z ?_);show(if g=f then some u else mA g)=none;rw[Z2 q]; exact z
theorem Inv.made(I:Inv X pins σ H s):Inv X pins σ (upd (upd H s.heap.objs.size (.own (s.heap.objs.size+1))) (s.heap.objs.size+1) (.ins C s.heap.objs.size []))
  { s with heap:=(s.heap.push PySem.W.emptyDict).push (PySem.W.instObj C s.heap.objs.size) }:=by
 have j:(s.heap.push PySem.W.emptyDict).get? s.heap.objs.size=some PySem.W.emptyDict:=Qql s.heap rfl;have L:((s.heap.push PySem.W.emptyDict).push (PySem.W.instObj C s.heap.objs.size)).get? (s.heap.objs.size+1)=some (PySem.W.instObj C s.heap.objs.size):=by
  have:=Qql (s.heap.push PySem.W.emptyDict) (o:=PySem.W.instObj C s.heap.objs.size) rfl;rwa [Qxw]at this
 have J:(s.heap.push PySem.W.emptyDict).Ns s.heap.objs.size (λ_=>none):=⟨PySem.W.emptyDict,#[],_,j,rfl,(λe F=>absurd F (by simp)),λ_=>rfl⟩
 have O:=I.laid (a:=s.heap.objs.size) (o:=.own (s.heap.objs.size+1)) (h':=s.heap.push PySem.W.emptyDict) (t':=s.toks) (λb u q=>Qqz _ q) (Qqj _) ⟨_,j⟩;refine O.laid (a:=s.heap.objs.size+1) (o:=.ins C s.heap.objs.size []) (t':=s.toks) (λb u q=>Qqz _ q) (Nat.le_of_eq (Qxw _ _)) ?_;have ne:s.heap.objs.size≠s.heap.objs.size+1:=Qq4 (Qzs _);refine⟨by rw[qzq ne,qzx],Qzu _,ne,L,λ_=>none,(Heap.Ns1.of_empty J).at λo q=>Qqz _ q,λ_=>True.intro,λy z=>absurd rfl z⟩
theorem qmi{prog:Program}{w:Qk}{env:Env}{e:Qx}{f:Str}{pos:Pos}{s:Qz}{Q:Value->Qz->Prop}(z:attributeBase e f env (eval e env)=eval e env)
  (h:wpAny (model prog w) A (eval e env) (λo j=>wpAny (model prog w) A (getAttr o f true) Q E j) E s):wpAny (model prog w) A (eval (.Attribute e f pos) env) Q E s:=
 Attribute_any_ h (by rw[arm_eval_Attribute,z])
end
noncomputable def tFld(K:Qqq)(ta:TE)(f:Str):TE:=λσ H Q=>ta σ H λx H1=>∃a C dx fs v,x=.ref a/\H1 a=some (.ins C dx fs)/\Cls K C/\NoAttr K C f/\fs.lookup f=some v/\Q v H1
noncomputable def sFld(K:Qqq)(ta tv:TE)(f:Str):TS:=λD σ H=>tv σ H λy H1=>ta σ H1 λx H2=>∃a C dx fs,x=.ref a/\H2 a=some (.ins C dx fs)/\Cls K C/\NoAttr K C f/\fs.length<1000/\
 D.nx σ (upd H2 a (.ins C dx (putF f y fs)))
section
variable {X:Cx}{o e value:Qx}{f:Str}{pos pos' tpos:Pos}{ta tv:TE}
theorem pe_fld(F:PE X e ta)(J:attributeBase e f X.env (eval e X.env)=eval e X.env):PE X (.Attribute e f pos) (tFld X.K ta f):=by
 intro pins s σ H Q I h;refine qmi J (thn (F pins s σ H _ I h) λu s1 ⟨x,H1,U,j,a,C,dx,fs,v,ex,L,c,n,l,q⟩=>?_);subst ex;obtain rfl:u=Value.ref a:=j;exact qbc U L c n l λY Z O z=>⟨v,H1,O,z,q⟩
theorem ps_fld(U:PE X o ta)(L:PE X value tv)(O:swapsWith value (some (.Attribute o f pos')) pos.line X.env=pure false):PS X (.Assign [.Attribute o f pos'] value pos) (sFld X.K ta tv f):=by
 intro pins s σ H D I h;refine plainObj_wpAny_Assign_Attribute (thn (L pins s σ H _ I h) λu j ⟨y,H1,I1,z,q⟩=>thn (U pins j σ H1 _ I1 q) λov s2 ⟨x,H2,I2,F,a,C,dx,fs,ex,Y,c,n,l,J⟩=>?_) O;subst ex;obtain rfl:ov=Value.ref a:=F;exact qa7 I2 Y c n l z λs3 Z=>⟨σ,_,Z,J⟩
theorem qlf{pl:Sem Bool}{m:Str}{F:Pos}{j:List Qx}{z:List (Addr×Obj)}{s:Qz}{J:St}{H:Hp}{Q:Value->Qz->Prop}{O:TE}(he:PE X e O)(I:Inv X z J H s)
  (h:O J H λx H1=>∃a C dx fs g,x=.ref a/\H1 a=some (.ins C dx fs)/\Cls X.K C/\Meth X.K C m g/\fs.lookup m=none/\
   ∀L,Inv X z J H1 L->wpAny (model X.prog X.w) X.A (callWith pos (.ref g) [.ref a] (backTo pos (starEach j X.env)) (backToKw pos (keywordEach [] X.env))) Q X.xe L)
  (Z:eval (.Call (.Attribute e m F) j [] pos) X.env=(do
   let ov <- eval e X.env
   standAt F.atName
   let (f,first) <- holding [ov] (Zs ov m pl)
   callWith pos f first (backTo pos (starEach j X.env)) (backToKw pos (keywordEach [] X.env)))) :
  wpAny (model X.prog X.w) X.A (eval (.Call (.Attribute e m F) j [] pos) X.env) Q X.xe s:=by
 refine Qjk (pl:=pl) (thn (he z s J H _ I h) λu L ⟨x,H1,U,Y,a,C,dx,fs,g,ex,ea,c,k,l,q⟩=>?_) Z;subst ex;obtain rfl:u=Value.ref a:=Y;exact qxo U ea c k l (q L U)
end
section
variable {X:Cx}{pins:List (Addr×Obj)}{σ:St}{H:Hp}{s:Qz}{A:Qv}{E:Value->Qz->Prop}{Q:Value->Qz->Prop}{c:Value}{b:Bool}
end
end L2
namespace L2
open PySem PySem.Spec PyProof.Rows
structure Room (k:Nat) (A:Qv):Prop where
 hd:A.handled=none
 dp:A.depth+3*k+5<recursionLimit
 un:A.units+16*k+200<cLine
theorem Room.mono{j k:Nat}{A:Qv}(r:Room k A)(h:j<=k):Room j A:=⟨r.hd,by have:=r.dp; omega,by have:=r.un; omega⟩
theorem Room.deeper{k:Nat}{A:Qv}(r:Room (k+1) A)(env:Env):Room k (A.deeper env):=
 ⟨r.hd,by have:=r.dp; show A.depth+1+3*k+5<_; omega,by have:=r.un; show A.units+3+16*k+200<_; omega⟩
theorem qbw{A:Qv}{C:Addr}{us:List Value}{j:List (Str×Value)}:(A.under (.builtin "type.__call__" ⟨.ref C::us,j⟩)).depth=A.depth+1:=by
 first|rfl|simp[Around.under,Code.weight,Code.isCreation,Code.isGuard,Code.isCaller,Code.frames,Code.isFrame,guardIds]
theorem qbv{A:Qv}{C:Addr}{us:List Value}{j:List (Str×Value)}:(A.under (.builtin "type.__call__" ⟨.ref C::us,j⟩)).units=A.units+1:=by
 first|rfl|simp[Around.under,Code.cUnits,Code.frames,Code.isFrame]
theorem Room.make{k:Nat}{A:Qv}(r:Room (k+1) A)(C:Addr)(us:List Value)(j:List (Str×Value)):Room k (A.under (.builtin "type.__call__" ⟨.ref C::us,j⟩)):=
 ⟨r.hd,by have:=r.dp; rw[qbw]; omega,by have:=r.un; rw[qbv]; omega⟩
theorem Room.depth{k:Nat}{A:Qv}(r:Room k A):A.depth<recursionLimit:=by have:=r.dp; omega
theorem Room.units{k:Nat}{A:Qv}(r:Room k A):A.units+64<cLine:=by have:=r.un; omega
noncomputable def tNil:TA:=λ_ H Q=>Q [] H
noncomputable def qib(ta:TE)(tr:TA):TA:=λσ H Q=>ta σ H λx H1=>tr σ H1 λxs H2=>Q (x::xs) H2
section
variable {X:Cx}{e:Qx}{es:List Qx}{te:TE}{t:TA}{pos:Pos}
theorem pa_nil:PA X [] tNil:=λ_ _ _ _ H Q I h=>Calls.spliced_nil ⟨[],H,I,.nil,h⟩
theorem qqo(Y:PE X e te)(U:PA X es t)(O:starEach (e::es) X.env=(false,eval e X.env)::starEach es X.env:=by rfl):PA X (e::es) (qib te t):=by
 intro pos pins s σ H Q I h;rw[O];show wpAny _ _ (spliced ((false,eval e X.env)::backTo pos (starEach es X.env))) _ _ s;refine Calls.spliced_cons (thn (Y pins s σ H _ I h) λu j ⟨x,H1,I1,F,L⟩=>?_);exact thn (U pos pins j σ H1 _ I1 L) λus s2 ⟨xs,H2,Z,z,J⟩=>⟨x::xs,H2,Z,.cons F z,J⟩
noncomputable def tTup(t:TA):TE:=λσ H Q=>t σ H λxs H1=>xs.length<=sizeLine/\∀p,H1 p=none->Q (.ref p) (upd H1 p (.tup xs))
noncomputable def tLst(t:TA):TE:=λσ H Q=>t σ H λxs H1=>xs.length<=sizeLine/\∀p,H1 p=none->Q (.ref p) (upd H1 p (.lst xs))
theorem qhv{J}(h:PA X es t):PE X (.Tuple es J pos) (tTup t):=by
 intro pins s σ H Q I O;refine wpAny_Tuple_spliced (thn (h pos pins s σ H _ I O) λL j ⟨xs,H1,F,r,z,q⟩=>⟨by rw[<- r.length]; exact z,?_⟩);have hf:H1 j.heap.objs.size=none:=F.hok.fresh (Qqj _);refine⟨.ref j.heap.objs.size,upd H1 j.heap.objs.size (.tup xs),F.laid (t':=j.toks) (λb u e=>Qqz _ e) (Qqj _) ?_,rfl,q _ hf⟩;exact⟨z,L,r,⟨_,Qql _ rfl,rfl,_,rfl⟩⟩
theorem pe_lst(h:PA X es t):PE X (.List es pos) (tLst t):=by
 intro pins s σ H Q I L;refine wpAny_List_spliced (thn (h pos pins s σ H _ I L) λJ j ⟨xs,H1,F,r,z,q⟩=>⟨by rw[<- r.length]; exact z,?_⟩);have hf:H1 j.heap.objs.size=none:=F.hok.fresh (Qqj _);refine⟨.ref j.heap.objs.size,upd H1 j.heap.objs.size (.lst xs),F.laid (t':=j.toks) (λb u e=>Qqz _ e) (Qqj _) ?_,rfl,q _ hf⟩;exact⟨z,J,0,r,Qql _ rfl⟩
end
abbrev Sp:=List V->Hp->VK->XK->Prop
abbrev CXT:=List Env->Hp->Qz->XK->Value->Qz->Prop
structure Env0 (P:Program) (w:Qk) (K:Qqq) (mg:Str->Option Value) (base:Heap) (A:Qv) (outer:List Env) (s:Qz) (H:Hp):Prop where
 frames:A.frames=some outer
 mod:Mod K mg base
 bs:∀b o,base.get? b=some o->s.heap.get? b=some o/\H b=none
 bsz:base.objs.size<=s.heap.objs.size
 funs:s.heap.FunFrames base outer
 frf:∀b∈frs outer,H b=none
 hok:HOk P w H s.heap
 bare:Zm s.gens
def CE(outer:List Env)(P:Program)(w:Qk)(H:Hp)(s:Qz)(Q:VK)(u:Value)(s':Qz):Prop:=
 ∃v H',s'.os=s.os/\Zm s'.gens/\Un (frs outer) [] H H' s.heap s'.heap/\HOk P w H' s'.heap/\RelV v u/\Q v H'
def CR(CX:CXT)(outer:List Env)(P:Program)(w:Qk)(H:Hp)(s:Qz)(Q:VK)(E:XK)(r:Result)(s':Qz):Prop:=
 match r with
 |.ok (.ret u)=>CE outer P w H s Q u s'
 |.ok _=>False
 |.error e=>CX outer H s E e s'
structure FnOk (P:Program) (w:Qk) (K:Qqq) (mg:Str->Option Value) (base:Heap) (CX:CXT) (k:Nat) (f:Addr) (fd:Qo) (ps:List Str) (sp:Sp):Prop where
 len:∀vs H Q E,sp vs H Q E->vs.length=ps.length
 run:∀(A:Qv) (outer:List Env) (s:Qz) (H:Hp) (args:Args) (us:List Value) (vs:List V) (Q:VK) (E:XK),Room k A->Env0 P w K mg base A outer s H->BindsTo s fd args (ps.zip us)->Vals vs us->sp vs H Q E->
  Ze (model P w) A (.call (.ref f) args) (CR CX outer P w H s Q E) s
theorem FnOk.imp{P:Program}{w:Qk}{K:Qqq}{mg:Str->Option Value}{base:Heap}{CX:CXT}{k:Nat}{f:Addr}{z:Qo}{ps:List Str}{sp sp':Sp}(F:FnOk P w K mg base CX k f z ps sp)
  (h:∀vs H Q E,sp' vs H Q E->sp vs H Q E):FnOk P w K mg base CX k f z ps sp':=
 ⟨λvs H Q E q=>F.len vs H Q E (h _ _ _ _ q),λA outer s H j J vs Q E U Y Z L O=>F.run A outer s H j J vs Q E U Y Z L (h _ _ _ _ O)⟩
theorem Env0.make{P:Program}{w:Qk}{K:Qqq}{mg:Str->Option Value}{base:Heap}{A:Qv}{outer:List Env}{s:Qz}{H:Hp}(e:Env0 P w K mg base A outer s H)(C:Addr)(us:List Value)(j:List (Str×Value)):
  Env0 P w K mg base (A.under (.builtin "type.__call__" ⟨.ref C::us,j⟩)) outer s H:=⟨by first|exact e.frames|(simpa[Around.under,Code.envs,Code.isFrame,pushEnvs] using e.frames),e.mod,e.bs,e.bsz,e.funs,e.frf,e.hok,e.bare⟩
section
variable {X:Cx}{pins:List (Addr×Obj)}{σ:St}{H:Hp}{s s':Qz}
theorem Inv.env0(I:Inv X pins σ H s):Env0 X.prog X.w X.K X.mg X.base X.A X.stack s H:=
 ⟨I.ok.frames,I.ok.mod,I.bs,Qzh I.ok.bsz I.sz,I.stack,I.stkFree,I.hok,I.bare⟩
theorem Inv.after{Q:VK}{u:Value}(I:Inv X pins σ H s)(h:CE X.stack X.prog X.w H s Q u s'):EP X pins σ Q u s':=by
 obtain⟨v,H',os,bare,un,hok,r,q⟩:=h;obtain⟨F,g,d,t,j⟩:=s';obtain rfl:j=s.os:=os;exact⟨v,H',I.call (h':=F) (g':=g) (d':=d) (t':=t) (ch:=[]) un hok bare (λb z=>absurd z (by simp)),r,q⟩
end
noncomputable def tCall(sp:Sp)(dvs:List V)(E:XK)(t:TA):TE:=λσ H Q=>t σ H λvs H1=>sp (vs++dvs) H1 Q E
noncomputable def qiy(C:Addr)(m:Str)(sp:Sp)(dvs:List V)(E:XK)(ta:TE)(t:TA):TE:=λσ H Q=>ta σ H λx H1=>∃a dx fs,x=.ref a/\H1 a=some (.ins C dx fs)/\fs.lookup m=none/\
 t σ H1 λvs H2=>sp (x::(vs++dvs)) H2 Q E
noncomputable def tMake(C:Addr)(sp:Sp)(dvs:List V)(E:XK)(t:TA):TE:=λσ H Q=>t σ H λvs H1=>∀x dx,H1 x=none->H1 dx=none->dx≠x->
 sp (.ref x::(vs++dvs)) (upd (upd H1 dx (.own x)) x (.ins C dx [])) (λv H2=>v=.non/\Q (.ref x) H2) E
def Binds(K:Qqq)(fd:Qo)(ps:List Str)(ds:List Value):Prop:=
 ∀(s:Qz) (us:List Value),K.In s.heap->(us++ds).length=ps.length->BindsTo s fd ⟨us,[]⟩ (ps.zip (us++ds))
theorem Binds.all{K:Qqq}{F:Qo}{ps:List Str}(h:∀j:List Value,j.length=ps.length->bindArgs F ⟨j,[]⟩=pure (ps.zip j)):Binds K F ps []:=λs j _ z=>by
 rw[Qzv]at z ⊢;exact .of_eq (h j z)
def qj7(CX:CXT)(X:Cx)(E:XK):Prop:=∀(pins:List (Addr×Obj)) (σ:St) (H:Hp) (s:Qz) (e:Value) (s':Qz),Inv X pins σ H s->CX X.stack H s E e s'->X.xe e s'
section
variable {X:Cx}{CX:CXT}{k:Nat}{f C:Addr}{fd:Qo}{ps:List Str}{sp:Sp}{dvs:List V}{ds:List Value}{E:XK}{x m:Str}{p pos apos:Pos}{e o:Qx}{es:List Qx}{ta:TE}{t:TA}
theorem qci{j:List (Addr×Obj)}{J:St}{H:Hp}{s:Qz}{Q:VK}{us:List Value}{vs:List V}(F:FnOk X.prog X.w X.K X.mg X.base CX k f fd ps sp)(U:Room k X.A)(Z:Binds X.K fd ps ds)(hd:Vals dvs ds)(O:qj7 CX X E)
  (I:Inv X j J H s) (r:Vals vs us) (h:sp (vs++dvs) H Q E):wpAny (model X.prog X.w) X.A (call (.ref f) us) (EP X j J Q) X.xe s:=by
 have L:Vals (vs++dvs) (us++ds):=r.append hd;have Y:(us++ds).length=ps.length:=by rw[<- L.length]; exact F.len _ _ _ _ h
 refine wpAny_call (Za (F.run X.A X.stack s H ⟨us,[]⟩ (us++ds) (vs++dvs) Q E U I.env0 (Z s us I.kIn Y) L h) λr s' z=>?_)
 cases r with
 |error e=>exact O j J H s e s' I z
 |ok fl=>
  cases fl with
  |ret u=>exact I.after z
  |next=>exact False.elim z
  |brk=>exact False.elim z
  |cont=>exact False.elim z
theorem qlq(F:FnOk X.prog X.w X.K X.mg X.base CX k f fd ps sp)(O:Room k X.A)(Z:Gl X x)(U:X.mg x=some (.ref f))(Y:Qzl X.K (.ref f)=true)(hb:Binds X.K fd ps ds)(hd:Vals dvs ds)(L:qj7 CX X E)
  (ha:PA X (e::es) t) (z:(x==("__debug__" : Str))=false:=by decide) (he:starEach (e::es) X.env=(false,eval e X.env)::starEach es X.env:=by rfl) (j:(backTo pos (starEach es X.env)).any (·.1)=false:=by rfl) :
  PE X (.Call (.Name x p) (e::es) [] pos) (tCall sp dvs E t):=by
 intro pins s σ H Q I h;refine Zb (qyj I Z U ?_ z);refine Qji (h₀:=X.base) I.ok.mod.kin Y (thn (ha pos pins s σ H _ I h) λus s1 ⟨vs,H1,J,r,q⟩=>⟨J.kIn,?_⟩) he j;exact qci F O hb hd L J r q
theorem qi5{pl:Sem Bool}(he:PE X o ta)(c:Cls X.K C)(J:Meth X.K C m f)(F:FnOk X.prog X.w X.K X.mg X.base CX k f fd ps sp)(hr:Room k X.A)(hb:Binds X.K fd ps ds)(hd:Vals dvs ds)(hx:qj7 CX X E)(ha:PA X (e::es) t)
  (j:starEach (e::es) X.env=(false,eval e X.env)::starEach es X.env:=by rfl) (z:(backTo pos (starEach es X.env)).any (·.1)=false:=by rfl)
  (ht:eval (.Call (.Attribute o m apos) (e::es) [] pos) X.env=(do
   let ov <- eval o X.env
   standAt apos.atName
   let (f,first) <- holding [ov] (Zs ov m pl)
   callWith pos f first (backTo pos (starEach (e::es) X.env)) (backToKw pos (keywordEach [] X.env))):=by rfl) :
  PE X (.Call (.Attribute o m apos) (e::es) [] pos) (qiy C m sp dvs E ta t):=by
 intro pins s σ H Q I h;refine Qjk (pl:=pl) (thn (he pins s σ H _ I h) λu Y ⟨x,H1,O,Z,a,dx,fs,ex,ea,l,q⟩=>?_) ht;subst ex;obtain rfl:u=Value.ref a:=Z;refine qxo O ea c J l ?_;refine Qji (first:=[.ref a]) (h₀:=X.base) I.ok.mod.kin J.kp (thn (ha pos pins Y σ H1 _ O q) λU s2 ⟨vs,H2,L,r,q2⟩=>⟨L.kIn,?_⟩) j z;exact qci (us:=.ref a::U) (vs:=.ref a::vs) F hr hb hd hx L (.cons rfl r) q2
theorem qfs{pl:Sem Bool}(Y:PE X o ta)(c:Cls X.K C)(z:Meth X.K C m f)(F:FnOk X.prog X.w X.K X.mg X.base CX k f fd ps sp)(U:Room k X.A)(Z:Binds X.K fd ps ds)(hd:Vals dvs ds)(L:qj7 CX X E)
  (O:eval (.Call (.Attribute o m apos) [] [] pos) X.env=(do
   let ov <- eval o X.env
   standAt apos.atName
   let (f,first) <- holding [ov] (Zs ov m pl)
   callWith pos f first (backTo pos (starEach [] X.env)) (backToKw pos (keywordEach [] X.env))):=by rfl) :
  PE X (.Call (.Attribute o m apos) [] [] pos) (qiy C m sp dvs E ta tNil):=by
 intro pins s σ H Q I h;refine Qjk (pl:=pl) (thn (Y pins s σ H _ I h) λu s1 ⟨x,H1,j,J,a,dx,fs,ex,ea,l,q⟩=>?_) O;subst ex;obtain rfl:u=Value.ref a:=J;refine qxo j ea c z l ?_;exact PySem.W.callWith_K0 (first:=[.ref a]) j.kIn z.kp (qci (us:=[.ref a]) (vs:=[.ref a]) F U Z hd L j (.cons rfl .nil) q)
structure Mk (K:Qqq) (C f:Addr):Prop where
 makes:PySem.W.makesIn K C=true
 init:PySem.W.findIn K (.ref C) "__init__" = some (some (.ref f))
 fn:PySem.W.isFn K (.ref f)=true
 kp:Qzl K (.ref C)=true
theorem qfg{j:List (Addr×Obj)}{L:St}{H:Hp}{s:Qz}{Q:VK}{us:List Value}{vs:List V}(M:Mk X.K C f)(F:FnOk X.prog X.w X.K X.mg X.base CX k f fd ps sp)(hr:Room (k+1) X.A)(hb:Binds X.K fd ps ds)(hd:Vals dvs ds)
  (hx:qj7 CX X E) (I:Inv X j L H s) (r:Vals vs us)
  (h:∀x dx,H x=none->H dx=none->dx≠x->sp (.ref x::(vs++dvs)) (upd (upd H dx (.own x)) x (.ins C dx [])) (λv H2=>v=.non/\Q (.ref x) H2) E) :
  wpAny (model X.prog X.w) X.A (call (.ref C) us) (EP X j L Q) X.xe s:=by
 have U:=h (s.heap.objs.size+1) s.heap.objs.size (I.hok.fresh (Qxx _)) (I.hok.fresh (Qqj _)) (Qq4 (Qzs _));have J:=Inv.made (C:=C) I;have O:Vals (V.ref (s.heap.objs.size+1)::(vs++dvs)) (Value.ref (s.heap.objs.size+1)::(us++ds)):=.cons rfl (r.append hd);have hl:(Value.ref (s.heap.objs.size+1)::us++ds).length=ps.length:=by
  have e:=O.length;rw[F.len _ _ _ _ U]at e;exact e.symm
 refine wpAny_call (qf6 (f:=f) I.kIn M.makes M.init (beq_iff_eq.mp M.fn) (Za (F.run _ X.stack _ _ ⟨Value.ref (s.heap.objs.size+1)::us,[]⟩ (Value.ref (s.heap.objs.size+1)::(us++ds)) _ _ E (hr.make C us [])
  (J.env0.make C us []) (hb _ (Value.ref (s.heap.objs.size+1)::us) J.kIn hl) O U) λr s' z=>?_))
 cases r with
 |error e=>exact hx j L _ _ e s' J z
 |ok fl=>
  cases fl with
  |ret u=>
   obtain⟨v,H',I3,Y,ev,Z⟩:=J.after z;subst ev;exact⟨Y,⟨V.ref (s.heap.objs.size+1),H',I3,rfl,Z⟩⟩
  |next=>exact False.elim z
  |brk=>exact False.elim z
  |cont=>exact False.elim z
theorem qi6(M:Mk X.K C f)(F:FnOk X.prog X.w X.K X.mg X.base CX k f fd ps sp)(O:Room (k+1) X.A)(Y:Gl X x)(U:X.mg x=some (.ref C))(hb:Binds X.K fd ps ds)(hd:Vals dvs ds)(L:qj7 CX X E)
  (ha:PA X (e::es) t) (z:(x==("__debug__" : Str))=false:=by decide) (Z:starEach (e::es) X.env=(false,eval e X.env)::starEach es X.env:=by rfl) (j:(backTo pos (starEach es X.env)).any (·.1)=false:=by rfl) :
  PE X (.Call (.Name x p) (e::es) [] pos) (tMake C sp dvs E t):=by
 intro pins s σ H Q I h;refine Zb (qyj I Y U ?_ z);refine Qji (h₀:=X.base) I.ok.mod.kin M.kp (thn (ha pos pins s σ H _ I h) λus s1 ⟨vs,H1,J,r,q⟩=>⟨J.kIn,?_⟩) Z j;exact qfg M F O hb hd L J r q
end
section
variable {X:Cx}{CX:CXT}{k:Nat}{f C:Addr}{fd:Qo}{ps ks:List Str}{sp:Sp}{E:XK}{x m:Str}{p pos apos kpos:Pos}{e o:Qx}{es:List Qx}{kws:List Keyword}{te ta:TE}{t tk:TA}{nm:Option Str}
variable {g:List Value->List Value->List Value}{gV:List V->List V->List V}
end
structure FnScope (N P:List Str) (sc:Scope):Prop where
 kind:sc.kind=.function
 co:sc.isCoroutine=false
 gen:sc.isGenerator=false
 nd:N.Nodup
 pre:N.take P.length=P
 par:∀x∈P,sc.names.lookup x=some .local\/sc.names.lookup x=some .cell
 nofree:∀y∈sc.names,y.2≠.free
theorem qwt{j:Str->Option Qh}{x:Str}:∀{binds:List (Str×Value)}{m:Str->Option Value},(∀v,(x,v) ∉ binds)->bindL j binds m x=m x
 |[],_,_=>rfl
 |(n,v)::r,m,h=>by
  unfold bindL;rw[qwt λw z=>h w (Qqn _ z)]
  split
  ·have:x≠n:=by rintro rfl; exact h v Qq0
   simp[this]
  ·rfl
theorem qw0{j:Str->Option Qh}{x:Str}:∀{binds:List (Str×Value)}{m:Str->Option Value},(∀v,(x,v) ∉ binds)->bindC j binds m x=m x
 |[],_,_=>rfl
 |(n,v)::r,m,h=>by
  unfold bindC;rw[qw0 λw z=>h w (Qqn _ z)]
  split
  ·rfl
  ·have:x≠n:=by rintro rfl; exact h v Qq0
   simp[this]
theorem qwu{j:Str->Option Qh}{x:Str}{v:Value}:∀{P:List Str}{vs:List Value}{i:Nat}{m:Str->Option Value},P.Nodup->P[i]?=some x->vs[i]?=some v->j x=some .local->
  bindL j (P.zip vs) m x=some v
 |[],_,_,_,_,h,_,_=>by simp at h
 |_::_,[],_,_,_,_,h,_=>by simp at h
 |p::P,w::vs,0,m,nd,h1,h2,z=>by
  simp at h1 h2; subst h1; subst h2;show bindL j ((p,w)::P.zip vs) m p=_;unfold bindL;rw[qwt λv F=>(Qzx.mp nd).1 (Qkk F).1,Z3 z];simp
 |p::P,w::vs,i+1,m,nd,h1,h2,z=>by
  show bindL j ((p,w)::P.zip vs) m x=_;unfold bindL;exact qwu (i:=i) (Qzx.mp nd).2 (by simpa using h1) (by simpa using h2) z
theorem qw1{j:Str->Option Qh}{x:Str}{v:Value}:∀{P:List Str}{vs:List Value}{i:Nat}{m:Str->Option Value},P.Nodup->P[i]?=some x->vs[i]?=some v->j x≠some .local->
  bindC j (P.zip vs) m x=some v
 |[],_,_,_,_,h,_,_=>by simp at h
 |_::_,[],_,_,_,_,h,_=>by simp at h
 |p::P,w::vs,0,m,nd,h1,h2,z=>by
  simp at h1 h2; subst h1; subst h2;show bindC j ((p,w)::P.zip vs) m p=_;unfold bindC;rw[qw0 λv F=>(Qzx.mp nd).1 (Qkk F).1,Z2 z];simp
 |p::P,w::vs,i+1,m,nd,h1,h2,z=>by
  show bindC j ((p,w)::P.zip vs) m x=_;unfold bindC;exact qw1 (i:=i) (Qzx.mp nd).2 (by simpa using h1) (by simpa using h2) z
noncomputable def start(N:List Str)(vs:List V):St:=vs.map some++List.replicate (N.length - vs.length) none
noncomputable def cxOf(CX:CXT)(P:Program)(w:Qk)(K:Qqq)(mg:Str->Option Value)(base:Heap)(N:List Str)(qual:Str)(scope:Scope)(f:Addr)(cd:Value)(A:Qv)(outer:List Env)(s:Qz)(H:Hp)(E:XK):Cx where
 prog:=P
 w:=w
 K:=K
 mg:=mg
 base:=base
 A:=A.deeper (envOfC qual scope s.heap.objs.size f cd)
 N:=N
 s₀:=s
 H₀:=H
 env:=envOfC qual scope s.heap.objs.size f cd
 outer:=outer
 stack:=envOfC qual scope s.heap.objs.size f cd::outer
 ex:=[]
 calm:=true
 fn:=λ_=>true
 pn:=[]
 xe:=λe s'=>wpAny (model P w) (A.deeper (envOfC qual scope s.heap.objs.size f cd)) (leaving (envOfC qual scope s.heap.objs.size f cd) e) (λ_ s''=>CX outer H s E e s'') (λe' s''=>CX outer H s E e' s'') s'
theorem qar{sc:Scope}{n:Nat}{x:Str}(h:sc.names.lookup x=some .cell):∃c,(cellsFrom n sc.names []).lookup x=some c:=by
 have q:=Qky sc.names n [] (.inl h);exact Qze.mp q
theorem qdh{CX:CXT}{P:Program}{w:Qk}{K:Qqq}{mg:Str->Option Value}{base:Heap}{N ps:List Str}{F:Str}{j:Scope}{f:Addr}{Z:Value}{A:Qv}{outer:List Env}{s s1:Qz}{H:Hp}{E:XK}{us:List Value}{vs:List V}
  (S:FnScope N ps j) (hd:A.handled=none) (J:Env0 P w K mg base A outer s H) (hl:vs.length=ps.length) (r:Vals vs us)
  (x:InCallC s s.heap.objs.size (bindL (envOfC F j s.heap.objs.size f Z).kindOf (ps.zip us) λ_=>none) (cellsFrom (s.heap.objs.size+1) j.names []) (bindC (envOfC F j s.heap.objs.size f Z).kindOf (ps.zip us) λ_=>none) s1) :
  Inv (cxOf CX P w K mg base N F j f Z A outer s H E) [] (start N vs) H s1:=by
 have a0:ps.length<=N.length:=by have:=congrArg List.length S.pre; rw[Qq9]at this; omega
 obtain⟨h1,tk,rfl,hk⟩:=x.done;have L:∀b:Addr,b ∉ (cxOf CX P w K mg base N F j f Z A outer s H E).ex:=λb z=>absurd (show b∈([]:List Addr) from z) (by simp)
 refine⟨⟨J.mod,S.kind,rfl,rfl,Qqj _,λy z c h1 h2=>?_,λy O=>?_,λy c _ h=>?_,λ_=>hd,Around.frames_deeper J.frames,.inr ⟨rfl,rfl⟩,λb z=>absurd z (L b),J.bs,J.bsz,λb _ _=>L b,λb z=>absurd z (L b),J.funs,J.frf⟩,
  rfl,J.bare,Un.kept hk,⟨_,x.toInCall.ns,λi y v h1 h2 h3=>?_⟩,λy c h=>⟨_,x.cell y c h⟩,J.hok.fresh (Qqj _),λy c h=>?_,λp Y=>absurd (show p∈([]:List (Addr×Obj)) from Y) (by simp),J.hok.kept hk,?_⟩
 ·exact name_of_addr x.apart (PySem.mem_of_lookup h1) (PySem.mem_of_lookup h2)
 ·have O:j.names.lookup y=some .cell\/j.names.lookup y=some .free:=O;rcases O with O|O
  ·exact qar O
  ·exact absurd rfl (S.nofree _ (PySem.mem_of_lookup O))
 ·exact Qxf (x.above y c (PySem.mem_of_lookup h))
 ·have hi:i<vs.length:=by
   unfold start at h2
   by_cases hi:i<vs.length
   ·exact hi
   ·rw[Qzw (by simpa using hi)]at h2;rw[Qxk]at h2
    split at h2<;>cases h2
  have ha:vs[i]?=some v:=by
   unfold start at h2;rw[Qq3 (by simpa using hi),Qqa]at h2
   cases e:vs[i]? with
   |none=>rw[e]at h2; cases h2
   |some a=>rw[e]at h2; cases h2; rfl
  obtain⟨u,hu,rv⟩:=r.get ha;have Y:ps[i]?=some y:=by
   rw[<- S.pre,Qx0 (by omega)]; exact h1
  have U:ps.Nodup:=by rw[<- S.pre]; exact S.nd.sublist (List.take_sublist _ _)
  refine⟨u,rv,?_⟩;rcases S.par y (Qqr Y) with k|k
  ·exact .inl ⟨k,qwu U Y hu k⟩
  ·obtain⟨c,e⟩:=qar (n:=s.heap.objs.size+1) k;refine .inr ⟨.inl k,c,e,?_⟩;have q:=x.cell y c e;rw[qw1 U Y hu (by show j.names.lookup y≠_; rw[k]; decide)]at q;exact q
 ·exact J.hok.fresh (Qxf (x.above y c (PySem.mem_of_lookup h)))
 ·unfold start;show _=N.length;rw[Qqo,Qqx,Qxb];omega
theorem fn_of{CX:CXT}{P:Program}{w:Qk}{K:Qqq}{mg:Str->Option Value}{base:Heap}{k:Nat}{f:Addr}{name z:Str}{L:Arguments}{body:List Stmt}{j:Scope}{dV kV doc pm F ct oc:Value}{an od:Option Addr}
  {a2:Array (Option Value)}{N ps:List Str}{sp:Sp}(lk:K.lookup f=some ⟨oc,od,.func (PySem.W.fnOf name z L body j dV kV doc pm an F ct),a2⟩) (a3:PySem.W.codeIn K F z=true) (S:FnScope N ps j)
  (len:∀vs H Q E,sp vs H Q E->vs.length=ps.length)
  (Y:∀(A:Qv) (outer:List Env) (s:Qz) (H:Hp) (vs:List V) (Q:VK) (E:XK),Room k (A.deeper (envOfC z j s.heap.objs.size f F))->sp vs H Q E->
   ∃t,PSs (cxOf CX P w K mg base N z j f F A outer s H E) body t/\t { nx:=λ_ H'=>Q .non H',rt:=Q } (start N vs) H) :
  FnOk P w K mg base CX (k+1) f (PySem.W.fnOf name z L body j dV kV doc pm an F ct) ps sp:=by
 refine⟨len,λA outer s H a4 us vs Q E hr e0 hb r a0=>?_⟩;have hl:=len _ _ _ _ a0;have KX:K.In s.heap:=e0.mod.kin.keeps λb o e=>(e0.bs b o e).1;have lim:s.heap.NoLimit:=e0.mod.nolimit.keeps λb o e=>(e0.bs b o e).1;have U:∀y∈ps.zip us,j.names.lookup y.1=some .local\/(j.names.lookup y.1=some .cell/\((cellsFrom (s.heap.objs.size+1) j.names []).lookup y.1).isSome=true):=λ⟨n,v⟩ hy=>by
  rcases S.par n (Qkk hy).1 with q|q
  ·exact .inl q
  ·exact .inr ⟨q,Qky _ _ _ (.inl q)⟩
 refine codeAny_call_function hr.depth (KX _ _ lk) rfl S.co S.gen rfl (PySem.W.codeRec_of KX a3) (hb _ _ _ _ ?_);refine wpAny_newFunctionEnv_cells S.kind U λenv he s1 x=>?_;subst he;refine⟨lim.keeps x.toInCall.keep,codeAny_func ?_⟩;obtain⟨t,ht,hq⟩:=Y A outer s H vs Q E (hr.deeper _) a0;have I:Inv (cxOf CX P w K mg base N z j f F A outer s H E) [] (start N vs) H s1:=qdh S hr.hd e0 hl r x;refine Qf (ht [] s1 (start N vs) H _ I hq) (λfl s' Z=>?_) λe s' Z=>Z;have a1:∀{O:St}{H':Hp}{v:V}{u:Value},Inv (cxOf CX P w K mg base N z j f F A outer s H E) [] O H' s'->RelV v u->Q v H'->CE outer P w H s Q u s':=
  λ{O H' v u} J rv q=>⟨v,H',J.os,J.bare,J.base,J.hok,rv,q⟩
 cases fl with
 |ret u=>
  obtain⟨v,O,H',J,rv,q⟩:=Z;exact a1 J rv q
 |next=>
  obtain⟨O,H',J,q⟩:=Z;exact a1 (v:=V.non) (u:=Value.none) J rfl q
 |brk=>
  obtain⟨_,_,_,q⟩:=Z;exact False.elim q
 |cont=>
  obtain⟨_,_,_,q⟩:=Z;exact False.elim q
end L2
namespace L2
open PySem PySem.Spec PyProof.Rows
section
variable {X:Cx}{x:Str}{p pos:Pos}{e:Qx}{es:List Qx}{t:TA}{id T:String}{r:List V->Hp->VK->Prop}
noncomputable def tCB(r:List V->Hp->VK->Prop)(t:TA):TE:=λσ H Q=>t σ H λvs H1=>r vs H1 Q
theorem qz3(hc:qqc X (.builtin id) r)(hg:Gl X x)(Z:X.mg x=none)(U:Qa x=some (.builtin id))(ha:PA X (e::es) t)(Y:x ≠ "__name__":=by decide)(z:(x==("__debug__" : Str))=false:=by decide)
  (he:starEach (e::es) X.env=(false,eval e X.env)::starEach es X.env:=by rfl) (j:(backTo pos (starEach es X.env)).any (·.1)=false:=by rfl):PE X (.Call (.Name x p) (e::es) [] pos) (tCB r t):=by
 intro pins s σ H Q I h;refine Zb (qkl I hg Z U ?_ Y z);exact PyProof.Rows.callWith_builtin1 (thn (ha pos pins s σ H _ I h) λF J ⟨vs,H1,I1,L,O⟩=>hc pins J σ H1 vs F Q I1 L O) he j
theorem qjf(hc:qqc X (.type T) r)(hg:Gl X x)(Z:X.mg x=none)(U:Qa x=some (.type T))(ha:PA X (e::es) t)(Y:x ≠ "__name__":=by decide)(z:(x==("__debug__" : Str))=false:=by decide)
  (he:starEach (e::es) X.env=(false,eval e X.env)::starEach es X.env:=by rfl) (j:(backTo pos (starEach es X.env)).any (·.1)=false:=by rfl):PE X (.Call (.Name x p) (e::es) [] pos) (tCB r t):=by
 intro pins s σ H Q I h;refine Zb (qkl I hg Z U ?_ Y z);exact PyProof.Rows.callWith_type1 (thn (ha pos pins s σ H _ I h) λF J ⟨vs,H1,I1,L,O⟩=>hc pins J σ H1 vs F Q I1 L O) he j
end
end L2
namespace HT
open PySem PyProof.Rows
section
open PySem.SeqAt
open PySem.AutoSeq1 (wpAny_loadPart')
open PySem.MeetsSeq PySem.MeetsSeq2 PySem.MeetsSeq3
end
section
variable {prog:Program}{w:Qk}{A:Qv}{E:Value->Qz->Prop}{s:Qz}
theorem cat_tup{t b:Addr}{vs ws:List Value}{Q:Value->Qz->Prop}(ht:IsTup s.heap t vs.toArray)(hb:IsTup s.heap b ws.toArray)(hv:vs≠[])
  (h1:ws=[]->Q (.ref t) s) (h2:ws≠[]->Q (.ref s.heap.objs.size) { s with heap:=s.heap.push { cls:=.type "tuple",data:=.seq (vs++ws).toArray } })
  (hsz:vs.length+ws.length<=sizeLine):wpAny (model prog w) A (Q2 .Add (.ref t) (.ref b)) Q E s:=by
 obtain⟨⟨cls,dd,data,sl⟩,U,hc,n,hd⟩:=id ht;obtain⟨⟨a0,L,Y,z⟩,j,J,Z,F⟩:=id hb;simp only at hc hd J F;subst hc hd J F;have e:vs.toArray++ws.toArray=(vs++ws).toArray:=by simp
 by_cases O:ws=[]
 ·exact concat_meets ⟨_,U,rfl⟩ ⟨_,j,rfl⟩ noFill_tuple_add seq_tuple_add PySem.F.slot_tuple_add PySem.F.entry_tuple_add (PySem.F.args_tuple_add_2 _ _)
   (tuple_addW1 t b vs.toArray ws.toArray n Z dd L sl z (by simpa using hv) (by simp[O])) ⟨U,j,h1 O⟩
 ·refine concat_meets ⟨_,U,rfl⟩ ⟨_,j,rfl⟩ noFill_tuple_add seq_tuple_add PySem.F.slot_tuple_add PySem.F.entry_tuple_add (PySem.F.args_tuple_add_2 _ _)
   (tuple_addW2 t b vs.toArray ws.toArray n Z dd L sl z (by simpa using hv) (by simpa using O) (by rw[Qqw,Qqw]; exact hsz)) ⟨U,j,?_⟩
  rw[e];exact h2 O
noncomputable def sIx(n d:Nat):Option Int->Nat
 |none=>d
 |some v=>if v<0 then(v+(n:Int)).toNat else min v.toNat n
theorem sIx_le(n d:Nat)(hd:d<=n)(o:Option Int):sIx n d o<=n:=by
 cases o with
 |none=>exact hd
 |some v=>
  show(if v<0 then(v+(n:Int)).toNat else min v.toNat n)<=n
  by_cases j:v<0
  ·rw[Z3 j]; omega
  ·rw[Z2 j]; exact Nat.min_le_right _ _
theorem qeq(v:Int)(n d:Nat):(if v<0 then max (v+(n:Int)) 0 else min v (n:Int))=((sIx n d (some v):Nat):Int):=by
 show(if v<0 then max (v+(n:Int)) 0 else min v (n:Int))=(((if v<0 then(v+(n:Int)).toNat else min v.toNat n):Nat):Int)
 by_cases j:v<0
 ·simp only[Z3 j]; omega
 ·simp only[Z2 j]; omega
theorem qbo(lo hi:Option Int)(n:Nat):Builtin.Slice.sliceAdjust lo hi 1 (n:Int)=(((sIx n 0 lo:Nat):Int),((sIx n n hi:Nat):Int)):=by
 have h1:¬ ((1:Int)<0):=by omega
 unfold Builtin.Slice.sliceAdjust;simp only[h1,if_false];refine Prod.ext ?_ ?_
 ·cases lo with
  |none=>rfl
  |some v=>exact qeq v n 0
 ·cases hi with
  |none=>rfl
  |some v=>exact qeq v n n
theorem qbz(i j:Nat):Builtin.Slice.slicePlaces (i:Int) (j:Int) 1=j - i:=by
 unfold Builtin.Slice.slicePlaces;have h1:(1:Int) > 0:=by omega
 simp only[h1,if_true,Int.ediv_one]
 split<;>omega
theorem qkb{v:Value}{o:Option Int}{Q:Option Int->Qz->Prop}(p:IsPart v o)(h:Q o s):wpAny (model prog w) A (Builtin.Slice.slicePartIndex v) Q E s:=by
 cases p with
 |none=>exact slicePart_none h
 |int i t=>exact slicePart_int h
theorem sliceApplied_gen{sl:Addr}{vl F:Value}{lo hi:Option Int}{n:Nat}{Q:Int×Int×Nat->Qz->Prop}(L:s.heap.IsSliceOf sl vl F .none)(pl:IsPart vl lo)(J:IsPart F hi)
  (h:Q (((sIx n 0 lo:Nat):Int),1,sIx n n hi - sIx n 0 lo) s):wpAny (model prog w) A (Builtin.Slice.sliceApplied (.ref sl) (pure (n:Int))) Q E s:=by
 obtain⟨os,j,O,z⟩:=id L;unfold Builtin.Slice.sliceApplied Builtin.Slice.sliceFields;refine Qq (Qq (Qg j z (x:=vl) rfl (Qq (Qg j z (x:=F) rfl (Qq (Qg j z (x:=.none) rfl (Qj ?_)))))));refine Qq (slicePart_none ?_);show wpAny _ _ (if ((1:Int)==0)=true then _ else _) _ _ s;rw[Z2 (by decide)];refine Qq (qkb pl (Qq (qkb J (Qq (Qj ?_)))));show wpAny _ _ (match Builtin.Slice.sliceAdjust lo hi 1 (n:Int) with|(lo,hi)=>pure (lo,(1:Int),Builtin.Slice.slicePlaces lo hi 1)) _ _ s;rw[qbo lo hi n];show wpAny _ _ (pure (((sIx n 0 lo:Nat):Int),(1:Int),Builtin.Slice.slicePlaces ((sIx n 0 lo:Nat):Int) ((sIx n n hi:Nat):Int) 1)) _ _ s;rw[qbz];exact Qj h
theorem qfo(xs:Array Value)(i k:Nat):((List.range k).filterMap λ(m:Nat)=>xs[((i:Int)+(m:Int)*1).toNat]?).toArray=((xs.toList.drop i).take k).toArray:=by
 have e:(λ(m:Nat)=>xs[((i:Int)+(m:Int)*1).toNat]?)=λm=>xs[i+m]?:=by
  funext m
  have:((i:Int)+(m:Int)*1).toNat=i+m:=by omega
  rw[this]
 rw[e];have:=pick_run xs i k;rw[Qx1]at this;have j:((λx=>xs[x]?)∘λx=>i+x)=λm=>xs[i+m]?:=rfl;rw[j]at this;rw[this]
theorem getItem_tuple_cut{t sl:Addr}{items:Array Value}{vl U:Value}{lo hi:Option Int}{Q:Value->Qz->Prop}(z:IsTup s.heap t items)(Y:s.heap.IsSliceOf sl vl U .none)(pl:IsPart vl lo)(Z:IsPart U hi)
  (hw:¬ (sIx items.size 0 lo=0/\sIx items.size items.size hi=items.size))
  (h:Q (.ref s.heap.objs.size) { s with heap:=s.heap.push { cls:=.type "tuple",data:=.seq ((items.toList.drop (sIx items.size 0 lo)).take (sIx items.size items.size hi - sIx items.size 0 lo)).toArray } })
  (hsz:items.size<=sizeLine):wpAny (model prog w) A (Zk (.ref t) (.ref sl)) Q E s:=by
 have j:sizeOk (.seq ((items.toList.drop (sIx items.size 0 lo)).take (sIx items.size items.size hi - sIx items.size 0 lo)).toArray):=by
  show((items.toList.drop (sIx items.size 0 lo)).take (sIx items.size items.size hi - sIx items.size 0 lo)).toArray.size<=sizeLine;rw[Qqw,Qq9,List.length_drop,Qzb];omega
 have hj:sIx items.size items.size hi<=items.size:=sIx_le _ _ (Qqj _) hi;obtain⟨os,F,L,a0⟩:=id Y;have O:s.TypeIs (.ref sl) "slice":=⟨os,F,L⟩
 unfold Zk
 try with_reducible refine Q3 ?_
 first|refine Qq (Qj ?_)|skip
 refine Qq (wpAny_sequenceKey z.typeIs (by decide) ?_)
 refine Qq (Ql (name:=Str.ofString "__getitem__") z.typeIs PyProof.Rows.slot_tuple_getitem
  (Qs PyProof.Rows.slot_tuple_getitem z.typeIs entry_tuple_getitem ?_ (args_tuple_getitem _ _)))
 show wpAny _ _ (Builtin.Tuple.tupleItemsOf (.ref t) >>= _) _ _ s;refine Qq (tupleItemsOf_ z ?_);refine Qq (wpAny_typeOf O ?_);rw[Z3 (by decide)];refine Qq (sliceApplied_gen Y pl Z ?_);have J:¬ ((((sIx items.size 0 lo:Nat):Int)==0&&(1:Int)==1&&(sIx items.size items.size hi - sIx items.size 0 lo)==items.size)=true):=by
  intro q;rw[Qqm,Qqm]at q;have q1:((sIx items.size 0 lo:Nat):Int)=0:=eq_of_beq q.1.1;have q2:sIx items.size items.size hi - sIx items.size 0 lo=items.size:=eq_of_beq q.2;exact hw ⟨by omega,by omega⟩
 show wpAny _ _ (if (((sIx items.size 0 lo:Nat):Int)==0&&(1:Int)==1&&(sIx items.size items.size hi - sIx items.size 0 lo)==items.size)=true then _ else _) _ _ s;rw[Z2 J,qfo]
 first
  |exact Qq (m:=Builtin.Tuple.tupleExact _) (Qp (Qj ⟨_,rfl,Qj h⟩) j)
  |exact Qq (m:=Builtin.Tuple.tupleExact _) (Qp (Qq (Qj (Qj ⟨_,rfl,Qj h⟩))) j)
  |exact Qq (Qq (m:=Builtin.Tuple.tupleExact _) (Qp (Qj (Qj ⟨_,rfl,Qj h⟩)) j))
  |exact Qq (Qq (m:=Builtin.Tuple.tupleExact _) (Qp (Qj ⟨_,rfl,Qj h⟩) j))
end
end HT
namespace L2
open PySem PySem.Spec PyProof.Rows
abbrev TO:=St->Hp->(Option Int->Hp->Prop)->Prop
def PO(X:Cx)(e:Option Qx)(t:TO):Prop:=
 ∀(pins:List (Addr×Obj)) (s:Qz) (σ:St) (H:Hp) (Q:Option Int->Hp->Prop),Inv X pins σ H s->t σ H Q->
  wpAny (model X.prog X.w) X.A (evalPart e X.env) (λu s'=>∃o H',Inv X pins σ H' s'/\IsPart u o/\Q o H') X.xe s
noncomputable def qiw:TO:=λ_ H Q=>Q none H
noncomputable def tPart(t:TE):TO:=λσ H Q=>t σ H λx H1=>∃i,x=.int i/\Q (some i) H1
theorem intsAre_of{ns:List Int}:∀{us:List Value},Vals (ns.map V.int) us->IntsAre us ns:=by
 induction ns with
 |nil=>intro us r; rw[Qxy]at r; cases r; exact .nil
 |cons n ns F=>
  intro us r;rw[Qqy]at r
  cases r with
  |cons z j=>
   obtain⟨t,e⟩:=z;subst e;exact .cons n t (F j)
section
variable {X:Cx}{e:Qx}{te:TE}{lo hi:Option Qx}{tl th:TO}{pos p2:Pos}
theorem qi2:PO X none qiw:=by
 intro pins s σ H Q I h;rw[evalPart_none];exact Qj ⟨none,H,I,.none,h⟩
theorem qi1(h:PE X e te):PO X (some e) (tPart te):=by
 intro pins s σ H Q I F;rw[evalPart_some];refine thn (h pins s σ H _ I F) λu L ⟨x,H1,J,j,z⟩=>?_;obtain⟨i,rfl,q⟩:=z;obtain⟨t,rfl⟩:=j;exact⟨some i,H1,J,.int i t,q⟩
def SlR(X:Cx)(r:V->Option Int->Option Int->Hp->VK->Prop):Prop:=
 ∀(pins:List (Addr×Obj)) (s:Qz) (σ:St) (H:Hp) (x:V) (v vl vu:Value) (lo hi:Option Int) (sl:Addr) (Q:VK),Inv X pins σ H s->RelV x v->s.heap.IsSliceOf sl vl vu .none->IsPart vl lo->IsPart vu hi->r x lo hi H Q->
  ∃T id,typeLookup (.type T) "__getitem__" = pure (some (.builtin id))/\s.TypeIs v T/\wpAny (model X.prog X.w) X.A (Zk v (.ref sl)) (EP X pins σ Q) X.xe s
noncomputable def tSl(r:V->Option Int->Option Int->Hp->VK->Prop)(te:TE)(tl th:TO):TE:=λσ H Q=>te σ H λx H1=>tl σ H1 λl H2=>th σ H2 λu H3=>r x l u H3 Q
theorem qfr{r:V->Option Int->Option Int->Hp->VK->Prop}(hr:SlR X r)(he:PE X e te)(hl:PO X lo tl)(hu:PO X hi th):PE X (.Subscript e (.Slice lo hi none p2) pos) (tSl r te tl th):=by
 intro pins s σ H Q I h;refine Subscript_ (thn (he pins s σ H _ I h) λv L ⟨x,H1,I1,O,Z⟩=>?_);refine wpAny_Slice (thn (hl pins L σ H1 _ I1 Z) λvl J ⟨l,H2,I2,pl,Y⟩=>thn (hu pins J σ H2 _ I2 Y) λz j ⟨u,F,I3,pu,U⟩=>?_);rw[evalPart_none];refine Qj ?_;have I4:Inv X pins σ F { j with heap:=j.heap.push { cls:=.type "slice",data:=.fields #[vl,z,.none] } }:=I3.kept (t':=j.toks) λb ob q=>Qqz _ q;obtain⟨T,id,hT,ht,hg⟩:=hr pins { j with heap:=j.heap.push { cls:=.type "slice",data:=.fields #[vl,z,.none] } } σ F x v vl z l u j.heap.objs.size Q I4 O (Heap.IsSliceOf.new ..) pl pu U;show wpAny (model X.prog X.w) X.A (subscriptTail e (.Slice lo hi none p2) v (.ref j.heap.objs.size)) (EP X pins σ Q) X.xe { j with heap:=j.heap.push { cls:=.type "slice",data:=.fields #[vl,z,.none] } };exact tail_any (ops:=[.ref j.heap.objs.size,v]) ht hT hg (by with_unfolding_all rfl)
noncomputable def cutV(xs:List V)(lo hi:Option Int):List V:=(xs.drop (HT.sIx xs.length 0 lo)).take (HT.sIx xs.length xs.length hi - HT.sIx xs.length 0 lo)
theorem qj5(xs:List V)(lo hi:Option Int):(cutV xs lo hi).length<=xs.length:=by
 unfold cutV;rw[Qq9,List.length_drop];omega
def rSlT(K:Qqq):V->Option Int->Option Int->Hp->VK->Prop:=λx lo hi H Q=>∃a xs,x=.ref a/\SqT K H a xs/\
 ¬ (HT.sIx xs.length 0 lo=0/\HT.sIx xs.length xs.length hi=xs.length)/\∀p,H p=none->Q (.ref p) (upd H p (.tup (cutV xs lo hi)))
theorem sl_tup:SlR X (rSlT X.K):=by
 intro pins s σ H x v vl vu lo hi sl Q I L Z pl O h;obtain⟨a,xs,rfl,U,Y,q⟩:=h;cases L;obtain⟨z,r,J,F⟩:=I.tuple U;have j:z.toArray.size=xs.length:=by rw[Qqw]; exact r.length.symm
 refine⟨"tuple",_,PyProof.Rows.slot_tuple_getitem.lookup,J.typeIs,?_⟩;refine HT.getItem_tuple_cut J Z pl O (by rw[j]; exact Y) ?_ (by rw[j]; exact F);rw[j];refine⟨.ref s.heap.objs.size,_,I.laid (t':=s.toks) (o:=.tup (cutV xs lo hi)) (λb ob q=>Qqz _ q) (Qqj _) ?_,rfl,q _ (I.hok.fresh (Qqj _))⟩;exact⟨Qzh (qj5 xs lo hi) F,_,(r.drop (HT.sIx xs.length 0 lo)).take (HT.sIx xs.length xs.length hi - HT.sIx xs.length 0 lo),IsTup.new _ _⟩
noncomputable def rCatT(K:Qqq):R2:=λx y H Q=>∃a b xs ys,x=.ref a/\y=.ref b/\SqT K H a xs/\SqT K H b ys/\xs≠[]/\xs.length+ys.length<=sizeLine/\
 (ys=[]->Q (.ref a) H)/\(ys≠[]->∀p,H p=none->Q (.ref p) (upd H p (.tup (xs++ys))))
theorem Vals.nil_iff{xs:List V}{us:List Value}(r:Vals xs us):us=[]↔xs=[]:=by
 cases r with
 |nil=>simp
 |cons _ _=>simp
theorem qlw:OpR X (Q2 .Add) (rCatT X.K):=by
 intro pins s σ H x y v u Q I U O h;obtain⟨a,b,xs,ys,rfl,rfl,ha,hb,hx,L,Z,Y⟩:=h;cases U;cases O;obtain⟨a0,F,p1,_⟩:=I.tuple ha;obtain⟨J,j,p2,_⟩:=I.tuple hb;refine HT.cat_tup p1 p2 (λz=>hx (F.nil_iff.mp z)) (λz=>⟨.ref a,H,I,rfl,Z (j.nil_iff.mp z)⟩) (λz=>?_) (by rw[<- F.length,<- j.length]; exact L);refine⟨.ref s.heap.objs.size,_,I.laid (t':=s.toks) (o:=.tup (xs++ys)) (λb ob q=>Qqz _ q) (Qqj _) ?_,rfl,Y (λw=>z (j.nil_iff.mpr w)) _ (I.hok.fresh (Qqj _))⟩;exact⟨by rw[Qqo]; exact L,_,F.append j,IsTup.new _ _⟩
end
end L2
namespace L2
open PySem PySem.Spec PyProof.Rows
noncomputable def ixN(n:Nat)(i:Int):Option Nat:=if 0<=i then(if i<n then some i.toNat else none) else if -(n:Int)<=i then some (i+n).toNat else none
noncomputable def atI{α:Type}(xs:List α)(i:Int):Option α:=(ixN xs.length i).bind λj=>xs[j]?
theorem ql3{n:Nat}{i:Int}{j:Nat}(h:ixN n i=some j):seqIndex? i n=some j/\j<n/\-(n:Int)<=i/\i<n:=by
 unfold ixN at h
 by_cases z:0<=i
 ·rw[Z3 z]at h
  by_cases h1:i<n
  ·rw[Z3 h1]at h;have e:i.toNat=j:=Option.some.inj h;exact⟨by rw[seqIndex_of z h1,e],by omega,by omega,h1⟩
  ·rw[Z2 h1]at h; cases h
 ·rw[Z2 z]at h
  by_cases h1:-(n:Int)<=i
  ·rw[Z3 h1]at h;have e:(i+n).toNat=j:=Option.some.inj h;exact⟨by rw[seqIndex_neg (by omega) h1,e],by omega,h1,by omega⟩
  ·rw[Z2 h1]at h; cases h
theorem qer{α:Type}{xs:List α}{i:Int}{v:α}(h:atI xs i=some v):∃j,seqIndex? i xs.length=some j/\xs[j]?=some v/\j<xs.length/\-(xs.length:Int)<=i/\i<xs.length:=by
 unfold atI at h
 cases e:ixN xs.length i with
 |none=>rw[e]at h; cases h
 |some j=>
  rw[e]at h;obtain⟨h1,h2,F,z⟩:=ql3 e;exact⟨j,h1,h,h2,F,z⟩
def qe0(b:Qx):Prop:=∀o i,subscripted b false o i=operate [o,i] (Zk o i)
def IxR(X:Cx)(r:R2):Prop:=
 ∀(value slice:Qx) (pins:List (Addr×Obj)) (s:Qz) (σ:St) (H:Hp) (x y:V) (v u:Value) (Q:VK),Inv X pins σ H s->RelV x v->RelV y u->r x y H Q->
  subscripted slice false v u=operate [v,u] (Zk v u)->wpAny (model X.prog X.w) X.A (subscriptTail value slice v u) (EP X pins σ Q) X.xe s
def MtR(X:Cx)(id:String)(r:V->List V->Hp->VK->Prop):Prop:=
 ∀(pins:List (Addr×Obj)) (s:Qz) (σ:St) (H:Hp) (x:V) (xs:List V) (v:Value) (us:List Value) (Q:VK),Inv X pins σ H s->RelV x v->Vals xs us->r x xs H Q->
  wpAny (model X.prog X.w) X.A (call (.builtin id) (v::us)) (EP X pins σ Q) X.xe s
section
variable {X:Cx}{a b:Qx}{ta tb:TE}{pos:Pos}
theorem pe_ix{r:R2}(L:IxR X r)(U:PE X a ta)(O:PE X b tb)(J:qe0 b):PE X (.Subscript a b pos) (tOp r ta tb):=by
 intro pins s σ H Q I h;exact Subscript_ (binT U O I h λv u j x y H2 Y F z q=>L a b pins j σ H2 x y v u Q Y F z q (J _ _))
noncomputable def rIxL(K:Qqq):R2:=λx y H Q=>∃p xs i v,x=.ref p/\y=.int i/\SqL K H p xs/\atI xs i=some v/\Q v H
noncomputable def rIxT(K:Qqq):R2:=λx y H Q=>∃p xs i v,x=.ref p/\y=.int i/\SqT K H p xs/\atI xs i=some v/\Q v H
theorem ql2:IxR X (rIxL X.K):=by
 intro value J pins s σ H x y v u Q I rx ry h Y;obtain⟨p,xs,i,z,rfl,rfl,hq,he,q⟩:=h;cases rx;obtain⟨t,rfl⟩:=ry;obtain⟨O,r,pl,hz⟩:=I.list hq;obtain⟨j,h1,h2,h3,h4,h5⟩:=qer he;obtain⟨w,ew,L⟩:=r.get h2;have hl:=r.length;have hn:=qay;have F:EP X pins σ Q w s:=⟨z,H,I,L,q⟩
 by_cases Z:0<=i
 ·have U:i.toNat=j:=by
   rw[seqIndex_of Z h5]at h1;exact Option.some.inj h1
  exact item_listR pl.isList Z (by omega) (by rw[U]; simpa using ew) F Y
 ·have U:(i+(O.toArray.size:Int)).toNat=j:=by
   rw[seqIndex_neg (by omega) h4]at h1;rw[Qqw,<- hl];exact Option.some.inj h1
  exact subscriptTail_builtinR (x:=w) pl.isList.typeIs slot_list_getitem.lookup
   (wpAny_getItem_list_neg (Q:=λr s'=>r=w/\EP X pins σ Q r s') pl.isList (by omega) (by rw[Qqw]<;>omega) (by omega) (by rw[U]; simpa using ew) ⟨rfl,F⟩) Y
theorem ix_tup:IxR X (rIxT X.K):=by
 intro value F pins s σ H x y v u Q I U O h Z;obtain⟨p,xs,i,z,rfl,rfl,hq,he,q⟩:=h;cases U;obtain⟨t,rfl⟩:=O;obtain⟨Y,r,pl,hz⟩:=I.tuple hq;obtain⟨j,h1,h2,h3,h4,h5⟩:=qer he;obtain⟨w,ew,J⟩:=r.get h2;have hl:=r.length;have hn:=qay;have L:EP X pins σ Q w s:=⟨z,H,I,J,q⟩
 exact subscriptTail_builtinR (x:=w) pl.typeIs slot_tuple_getitem.lookup
  (getItem_tuple (j:=j) (Q:=λr s'=>r=w/\EP X pins σ Q r s') pl (by omega) (by omega) (by rw[Qqw,<- hl]; exact h1) (by simpa using ew) ⟨rfl,L⟩) Z
theorem qvu(lo hi:Option Int)(n:Nat):(Zv lo hi none n).1=((HT.sIx n 0 lo:Nat):Int)/\(Zv lo hi none n).2.1=((HT.sIx n n hi:Nat):Int)/\(Zv lo hi none n).2.2=1:=by
 refine⟨?_,?_,rfl⟩
 ·cases lo with
  |none=>simp[Zv,HT.sIx]
  |some i=>
   simp only[Zv,HT.sIx,Option.getD_none,show(1:Int) > 0 by decide,if_true]
   by_cases h:i<0
   ·simp only[h,if_true]<;>omega
   ·simp only[h,if_false]<;>omega
 ·cases hi with
  |none=>simp[Zv,HT.sIx]
  |some i=>
   simp only[Zv,HT.sIx,Option.getD_none,show(1:Int) > 0 by decide,if_true]
   by_cases h:i<0
   ·simp only[h,if_true]<;>omega
   ·simp only[h,if_false]<;>omega
theorem qk7(j:List Value)(lo hi:Option Int):slicePick j.toArray lo hi none=((j.drop (HT.sIx j.length 0 lo)).take (HT.sIx j.length j.length hi - HT.sIx j.length 0 lo)).toArray:=by
 obtain⟨h1,h2,z⟩:=qvu lo hi j.toArray.size;unfold slicePick;rw[h1,h2,z];simp only[sliceRange_one,pick_run,Qqw]<;>rfl
def rSlL(K:Qqq):V->Option Int->Option Int->Hp->VK->Prop:=λx lo hi H Q=>∃a xs,x=.ref a/\SqL K H a xs/\∀p,H p=none->Q (.ref p) (upd H p (.lst (cutV xs lo hi)))
theorem qie:SlR X (rSlL X.K):=by
 intro pins s σ H x v vl Z lo hi sl Q I F Y pl J h;obtain⟨a,xs,rfl,U,q⟩:=h;cases F;obtain⟨L,r,z,O⟩:=I.list U;have j:=r.length;refine⟨"list",_,slot_list_getitem.lookup,z.isList.typeIs,?_⟩;refine wpAny_getItem_list_slice z.isList Y pl J .none (by simp) ?_ (by rw[Qqw]<;>omega);rw[qk7,<- j];refine⟨.ref s.heap.objs.size,_,I.laid (t':=s.toks) (o:=.lst (cutV xs lo hi)) (λb ob q=>Qqz _ q) (Qqj _) ?_,rfl,q _ (I.hok.fresh (Qqj _))⟩;exact⟨Qzh (qj5 xs lo hi) O,_,0,(r.drop (HT.sIx xs.length 0 lo)).take (HT.sIx xs.length xs.length hi - HT.sIx xs.length 0 lo),Qql _ rfl⟩
theorem qx3:qqc X (.builtin "len") (λxs H Q=>∃p ys,xs=[.ref p]/\(SqL X.K H p ys\/SqT X.K H p ys)/\Q (.int ys.length) H):=by
 intro pins s σ H xs O Q I r h;obtain⟨p,ys,rfl,z,q⟩:=h;obtain⟨u,rfl,J⟩:=vals1 r;cases J;have hn:=qay;rcases z with z|z
 ·obtain⟨F,r',pl,L⟩:=I.list z;have j:=r'.length;exact Calls.call_len_list pl.isList (by simp only[Qqw]<;>omega) ⟨.int ys.length,H,I.tok _,⟨s.toks+1,by rw[Qqw,j]⟩,q⟩
 ·obtain⟨F,r',pl,L⟩:=I.tuple z;have j:=r'.length;exact len_tuple pl (by simp only[Qqw]<;>omega) ⟨.int ys.length,H,I.tok _,⟨s.toks+1,by rw[Qqw,j]⟩,q⟩
theorem qx2:qqc X (.type "list") (λxs H Q=>∃p ys,xs=[.ref p]/\(SqL X.K H p ys\/SqT X.K H p ys)/\∀l,H l=none->Q (.ref l) (upd H l (.lst ys))):=by
 intro pins s σ H xs us Q I r h;obtain⟨p,ys,rfl,J,q⟩:=h;obtain⟨u,rfl,Z⟩:=vals1 r;cases Z;have O:∀(j:List Value),Vals ys j->ys.length<=sizeLine->∀(h':Heap) (z:Nat),(∀b o',s.heap.get? b=some o'->h'.get? b=some o')->
   h'.get? s.heap.objs.size=some { cls:=.type "list",dict:=none,data:=.seq j.toArray z,slots:=#[] }->EP X pins σ Q (.ref s.heap.objs.size) { s with heap:=h' }:=λj r' F h' z kp e=>
  ⟨.ref s.heap.objs.size,_,I.laid (t':=s.toks) kp (Qqj _) (show ObjOk X.prog X.w _ h' _ (.lst ys) from⟨F,j,z,r',e⟩),rfl,q _ (I.hok.fresh (Qqj _))⟩
 rcases J with J|J
 ·obtain⟨j,r',pl,F⟩:=I.list J;have L:=r'.length;obtain⟨o,U,Y,n,hd⟩:=pl.isList;exact call_list_seq p (.inl rfl) U Y hd (λh' z kp e=>O j r' F h' z kp e) (by simp only[Qqw]<;>omega)
 ·obtain⟨j,r',pl,F⟩:=I.tuple J;have L:=r'.length;obtain⟨o,U,Y,n,hd⟩:=pl;exact call_list_seq p (.inr rfl) U Y hd (λh' z kp e=>O j r' F h' z kp e) (by simp only[Qqw]<;>omega)
theorem qxg:qqc X (.type "tuple") (λxs H Q=>∃p ys,xs=[.ref p]/\((SqL X.K H p ys/\∀l,H l=none->Q (.ref l) (upd H l (.tup ys)))\/(SqT X.K H p ys/\Q (.ref p) H))):=by
 intro pins s σ H xs Y Q I r h;obtain⟨p,ys,rfl,h⟩:=h;obtain⟨u,rfl,O⟩:=vals1 r;cases O;rcases h with⟨z,q⟩|⟨z,q⟩
 ·obtain⟨j,r',pl,F⟩:=I.list z;have J:=r'.length;refine call_tuple_list pl.isList (λh' kp=>?_) (by simp only[Qqw]<;>omega);have L:Inv X pins σ H { s with heap:=h' }:=I.kept (t':=s.toks) kp;have U:Inv X pins σ (upd H h'.objs.size (.tup ys)) { s with heap:=h'.push { cls:=.type "tuple",data:=.seq j.toArray } }:=
   L.laid (t':=s.toks) (λb o e=>Qqz _ e) (Qqj _) (show ObjOk X.prog X.w _ _ _ (.tup ys) from⟨F,j,r',IsTup.new _ _⟩)
  exact⟨.ref h'.objs.size,_,U,rfl,q _ (L.hok.fresh (Qqj _))⟩
 ·obtain⟨j,r',pl,F⟩:=I.tuple z;exact call_tuple_same pl ⟨.ref p,H,I,rfl,q⟩
def tyV(K:Qqq)(T:String)(x:V)(H:Hp):Prop:=match x with
 |.str _=>T = "str"
 |.int _=>T = "int"
 |.ref p=>(T = "list"/\∃xs,SqL K H p xs)\/(T = "tuple"/\∃o,K.lookup p=some o/\o.cls=.type "tuple"/\o.dict=none)\/
   (T = "dict"/\((∃kvs,H p=some (.dK kvs))\/∃kvs,H p=some (.dT kvs)))\/(T = "set"/\∃S n,H p=some (.set S n))
 |_=>False
theorem tyV_is{F:List (Addr×Obj)}{L:St}{H:Hp}{s:Qz}{T:String}{x:V}{v:Value}(I:Inv X F L H s)(r:RelV x v)(ty:tyV X.K T x H):
  s.TypeIs v T/\∀a,v=.ref a->∃ob,s.heap.get? a=some ob/\ob.dict=none:=by
 cases x with
 |str z=>
  obtain⟨t,rfl⟩:=r;cases (show T = "str" from ty);exact⟨typeIs_str s z t,λ_ e=>nomatch e⟩
 |int i=>
  obtain⟨t,rfl⟩:=r;cases (show T = "int" from ty);exact⟨typeIs_int s i t,λ_ e=>nomatch e⟩
 |ref p=>
  cases r;rcases ty with⟨rfl,xs,U⟩|⟨rfl,o,j,Y,hd⟩|⟨rfl,j⟩|⟨rfl,S,n,j⟩
  ·obtain⟨O,_,pl,_⟩:=I.list U;refine⟨pl.isList.typeIs,λa e=>?_⟩;cases e;obtain⟨o,n,e,c,hd,_⟩:=pl;exact⟨o,e,hd⟩
  ·refine⟨⟨o,I.kIn p o j,Y⟩,λa e=>?_⟩;cases e;exact⟨o,I.kIn _ o j,hd⟩
  ·have z:∃o,s.heap.get? p=some o/\o.ExactDict:=by
    rcases j with⟨kvs,j⟩|⟨kvs,j⟩
    ·obtain⟨_,_,_,_,o,_,_,e,ex,_⟩:=I.hok p _ j;exact⟨o,e,ex⟩
    ·obtain⟨_,_,_,_,o,_,_,e,ex,_⟩:=I.hok p _ j;exact⟨o,e,ex⟩
   obtain⟨o,e,ex⟩:=z;refine⟨⟨o,e,ex.1⟩,λa J=>?_⟩;cases J;exact⟨o,e,ex.2.1⟩
  ·obtain⟨o,_,_,_,e,ex,_⟩:=I.hok p _ j;refine⟨⟨o,e,ex.1⟩,λa J=>?_⟩;cases J;exact⟨o,e,ex.2.1⟩
 |_=>exact False.elim ty
noncomputable def tBM(K:Qqq)(T:String)(r:V->List V->Hp->VK->Prop)(to:TE)(t:TA):TE:=λσ H Q=>to σ H λx H1=>tyV K T x H1/\t σ H1 λxs H2=>r x xs H2 Q
variable {o e:Qx}{es:List Qx}{to:TE}{t:TA}{name:Str}{apos cpos:Pos}{T id:String}{r:V->List V->Hp->VK->Prop}
theorem pe_bm(pa:PlainAttrs T)(slot:Slot T name id)(L:typeOf (.builtin id)=pure (.type "method_descriptor"))(hm:MtR X id r)(ho:PE X o to)(ha:PA X (e::es) t)
  (F:attributeBase o name X.env (eval o X.env)=eval o X.env:=by rfl)
  (J:((backTo cpos (starEach (e::es) X.env)).all (λx=>!x.1)&&(backToKw cpos (keywordEach [] X.env)).all (λx=>x.1.isSome)
   && decide ((e::es).length+([]:List Keyword).length+(if ([]:List Keyword).isEmpty then 0 else 1)<30))=true:=by rfl)
  (z:(apos.endLine==cpos.line)=true:=by rfl) (hs:starEach (e::es) X.env=(false,eval e X.env)::starEach es X.env:=by rfl) (j:(backTo cpos (starEach es X.env)).any (·.1)=false:=by rfl) :
  PE X (.Call (.Attribute o name apos) (e::es) [] cpos) (tBM X.K T r to t):=by
 intro pins s σ H Q I h;refine wpAny_Call_method_late F J z rfl (thn (ho pins s σ H _ I h) λv s1 ⟨x,H1,Y,O,ty,q1⟩=>?_);obtain⟨h1,h2⟩:=tyV_is Y O ty;refine⟨T,id,pa,slot,L,h1,h2,?_⟩;have U:=ha cpos pins s1 σ H1 _ Y q1;rw[hs]at U ⊢;refine Calls.callWith_builtin (by show(false||(backTo cpos (starEach es X.env)).any (·.1))=false; rw[j]<;>rfl) (Calls.evalArgs_plain ?_);exact thn U λZ s2 ⟨vs,H2,I2,r2,q2⟩=>hm pins s2 σ H2 x vs v Z Q I2 O r2 q2
end
end L2
namespace L2
open PySem PySem.Spec PyProof.Rows
def MtM(X:Cx)(id:String)(r:V->List V->Hp->VK->Prop):Prop:=
 ∀(pins:List (Addr×Obj)) (s:Qz) (σ:St) (H:Hp) (x:V) (xs:List V) (v:Value) (us:List Value) (Q:VK),Inv X pins σ H s->RelV x v->Vals xs us->r x xs H Q->
  wpAny (model X.prog X.w) X.A (call (.builtin id) (v::us)) (EP X pins σ Q) X.xe s
theorem Vals.one:∀{x:V}{us:List Value},Vals [x] us->∃u,us=[u]/\RelV x u
 |_,_,.cons r .nil=>⟨_,rfl,r⟩
theorem Vals.rep{xs:List V}{us:List Value}(h:Vals xs us):∀k:Nat,Vals (List.replicate k xs).flatten (List.replicate k us).flatten
 |0=>.nil
 |k+1=>by
  rw[Qzd,Qzd,Qz1,Qz1];exact Vals.append h (Vals.rep h k)
theorem foldl_rep(its:List Value):∀(k:Nat) (j:List Value),
  List.foldl (λz x2=>z++x2) j.toArray (List.replicate k its.toArray)=(j++(List.replicate k its).flatten).toArray
 |0,j=>by simp
 |k+1,j=>by
  have e:j.toArray++its.toArray=(j++its).toArray:=by simp
  have F:(j++its)++(List.replicate k its).flatten=j++(List.replicate (k+1) its).flatten:=by
   rw[Qzd,Qz1,Qxh]
  rw[<- F,<- foldl_rep its k (j++its),<- e,Qzd,Qxs]
section
variable {X:Cx}{pins:List (Addr×Obj)}{σ:St}{H:Hp}{s:Qz}{l b:Addr}{xs ys zs:List V}
theorem Inv.lset{j its':List Value}{n:Nat}{f:Array Value->Array Value}{t':Nat}(I:Inv X pins σ H s)(O:H l=some (.lst xs))
  (e:s.heap.get? l=some { cls:=.type "list",data:=.seq j.toArray n }) (J:f j.toArray=its'.toArray) (z:Vals ys its') (hz:ys.length<=sizeLine) :
  Inv X pins σ (upd H l (.lst ys)) { s with heap:=s.heap.update l (Obj.mapSeq f),toks:=t' }:=by
 have q:=PySem.IsL.update e f;rw[J]at q;refine I.write (x:=l) (e:=l) (by rw[O]; exact trivial) (.inl rfl) (λU u L F=>(Qx8 s.heap (Obj.mapSeq f) (Ne.symm L)).trans F) ⟨_,q⟩ ?_;exact⟨hz,its',_,z,q⟩
theorem Inv.lnew{j:List Value}{t':Nat}(I:Inv X pins σ H s)(z:Vals ys j)(hz:ys.length<=sizeLine):
  Inv X pins σ (upd H s.heap.objs.size (.lst ys)) { s with heap:=s.heap.push { cls:=.type "list",data:=.seq j.toArray },toks:=t' }:=
 I.laid (λ_ _ q=>Qqz _ q) (Qqj _) ⟨hz,j,0,z,Qql _ rfl⟩
theorem Inv.fresh(I:Inv X pins σ H s):H s.heap.objs.size=none:=I.hok.fresh (Qqj _)
theorem Inv.lstM(I:Inv X pins σ H s)(F:H l=some (.lst xs)):xs.length<=sizeLine/\∃(j:List Value) (n:Nat),Vals xs j/\xs.length=j.length/\s.heap.get? l=some { cls:=.type "list",data:=.seq j.toArray n }:=by
 obtain⟨z,j,n,r,e⟩:=I.hok l _ F;exact⟨z,j,n,r,r.length,e⟩
theorem qvj{n:Nat}(h:n<=sizeLine):Builtin.List.listTooLong n=false:=by
 unfold Builtin.List.listTooLong;exact Z1 (by omega)
end
section
variable {X:Cx}
def qin:V->List V->Hp->VK->Prop:=λx vs H Q=>∃l xs y,x=.ref l/\vs=[y]/\H l=some (.lst xs)/\xs.length<sizeLine/\Q .non (upd H l (.lst (xs++[y])))
theorem qc8:MtM X "list.append" qin:=by
 intro pins s σ H x vs v Y Q I L O h;obtain⟨l,xs,y,rfl,rfl,J,Z,q⟩:=h;cases L;obtain⟨u,rfl,U⟩:=O.one;obtain⟨z,j,n,r,hl,e⟩:=I.lstM J;refine Q4 F.slot_list_append ⟨_,e,rfl⟩ F.entry_list_append (F.args_list_append_2 _ _) (PySem.list_append l j.toArray n u (by rw[Qqw]; omega)) ⟨e,?_⟩;refine⟨.non,_,I.lset (its':=j++[u]) J e (by simp) (r.append (.cons U .nil)) ?_,rfl,q⟩;rw[Qqo,Qzo];omega
noncomputable def rRep:R2:=λx y H Q=>∃l k xs,x=.ref l/\y=.int k/\H l=some (.lst xs)/\-(2 ^ 63)<=k/\k<2 ^ 63/\xs.length*k.toNat<=sizeLine/\
 ∀p,H p=none->Q (.ref p) (upd H p (.lst (List.replicate k.toNat xs).flatten))
theorem len_rep{α:Type}(xs:List α)(k:Nat):(List.replicate k xs).flatten.length=k*xs.length:=by
 induction k with
 |zero=>simp
 |succ k j=>rw[Qzd,Qz1,Qqo,j,Nat.succ_mul,Nat.add_comm]
theorem op_rep:OpR X (Q2 .Mult) rRep:=by
 intro pins s σ H x y v u Q I rx ry h;obtain⟨l,k,xs,rfl,rfl,hH,h1,h2,hz,q⟩:=h;cases rx;obtain⟨t,rfl⟩:=ry;obtain⟨z,j,n,r,hl,e⟩:=I.lstM hH;have O:j.toArray.size*k.toNat<=sizeLine:=by rw[Qqw,<- hl]; exact hz
 have Z:¬ j.toArray.size*k.toNat > (2 ^ 63 - 1) / 8:=by
  have:(sizeLine:Nat)<=(2 ^ 63 - 1) / 8:=by decide
  omega
 have Y:¬ (!Builtin.List.listFitsIndex k)=true:=by
  rw[fitsIndex_both h1 h2];exact Qqe
 have J:¬ Builtin.List.listTooLong (j.toArray.size*k.toNat)=true:=by
  rw[qvj O];exact Qqe
 have L:List.foldl (λx1 x2=>x1++x2) #[] (List.replicate (if j.toArray.isEmpty=true then 0 else k.toNat) j.toArray)=(List.replicate k.toNat j).flatten.toArray:=by
  have f0:∀m:Nat,List.foldl (λx1 x2=>x1++x2) #[] (List.replicate m j.toArray)=(List.replicate m j).flatten.toArray:=λm=>by
   have:=foldl_rep j m [];rw[List.nil_append]at this;exact this
  rw[f0]
  cases j with
  |nil=>simp
  |cons a r'=>rw[Z2 (by simp)]
 refine wpAny_binaryOp_repeat_ref (T:="list") (U:="int") (by decide) ⟨_,e,rfl⟩ (λs'=>typeIs_int s' k t) noFill_list_mul F.fills_int_mul F.slot_int_rmul repeat_list F.slot_int_index.lookup
  (Q4 F.slot_int_rmul (typeIs_int s k t) F.entry_int_rmul (F.args_int_rmul_2 _ _) (int___rmul___int_list k t l j.toArray n)
   ⟨e,rfl,⟨_,e,rfl⟩,Q4 F.slot_list_mul ⟨_,e,rfl⟩ F.entry_list_mul (F.args_list_mul_2 _ _) (AutoListH.list___mul___list_int_3 l j.toArray n k t Y Z J) ⟨e,?_⟩⟩)
 rw[L];exact⟨.ref _,_,I.lnew (t':=s.toks) (r.rep k.toNat) (by rw[len_rep,Qj4]; exact hz),rfl,q _ I.fresh⟩
end
section
variable {prog:Program}{w:Qk}{A:Qv}{E:Value->Qz->Prop}{s:Qz}
end
section
variable {X:Cx}
end
end L2
namespace Att
open PySem PySem.W PySem.Calls PyProof.Rows
theorem qju{P:Qr}{h:Heap}:∀(ns:List Int) (vs:List Value),WellAll P h vs (ns.map WData.int)->IntsAre vs ns:=by
 intro ns
 induction ns with
 |nil=>
  intro vs w;rw[Qxy]at w;cases w;exact .nil
 |cons n ns j=>
  intro vs w;rw[Qqy]at w
  cases w with
  |cons a b=>
   cases a;exact .cons _ _ (j _ b)
theorem qcf{l:OpenLaw}{n:Nat}(hn:l.most=some n){P:Qr}{h:Heap}{args:List WData}{j:List Value}
  (z:l.row.toRowW.claim.pre args=true) (U:WellAll P h j args) :
  ∃a vs ns,j=[Value.ref a]/\args=[WData.list (ns.map WData.int)]/\h.get? a=some { cls:=.type "list",data:=.seq vs.toArray }/\IntsAre vs ns/\ns.length<=n:=by
 have Y:WShape.hasAll [] args [.list .int]=true:=(pre_splitW z).1;have Z:l.pre.holds [] { args:=args }=true:=(pre_splitW z).2;obtain⟨d,r,rfl,h1,h2⟩:=hasAllW_cons Y;obtain rfl:=hasAllW_nil h2;obtain⟨xs,rfl,h3⟩:=hasW_list h1;obtain⟨ns,rfl⟩:=items_int h3;have F:ns.length<=n:=by
  unfold OpenLaw.pre at Z;have O:(WTm.not (.lt (.lit (.int (n:Int))) (.len (.arg 0)))).holds [] { args:=[.list (ns.map .int)] }=true:=by
   have O:=(holds_andW Z).1;rw[hn]at O;exact O
  have L:=condW_of O (w_not (w_lt w_lit (w_len_list (w_arg rfl))));rw[Qqx]at L;refine Nat.le_of_not_lt λq=>?_;have q':(n:Int)<((ns.length:Nat):Int):=by omega
  first
   |(rw[Z0 q']at L; exact absurd L (by decide))
   |(simp at L; omega)
 cases U with
 |cons w1 w2=>
  cases w2
  cases w1 with
  |list ho J=>exact⟨_,_,ns,rfl,rfl,ho,qju ns _ J,F⟩
theorem qcp(l:OpenLaw)(args:List WData):l.row.toRowW.claim.post args (.bool true) args=true:=
 postW_of (r:=l.row.toRowW) (X:=(true==true))
  (show WShape.has [] (.bool true) .bool=true by first|rfl|decide|simp[WShape.has,WShape.arms,WShape.armsAll])
  (show(WTm.eq .res (.lit (.bool true))).value [] { args:=args,res:=some (.bool true),after:=args }=some (.bool (true==true)) from w_eq_bool (w_res rfl) w_lit) rfl
theorem attach_call{l:OpenLaw}{n:Nat}{q:Program}{loose:List Str}{XP:(Str->Option Value)->Heap->Prop}{YP:Qk->Heap->Prop}{d:DefRec}
  (hn:l.most=some n) (a2:d.params.defaults=[])
  (call:∀(w:Qk) (s₀ j:Qz) (mg Z:Str->Option Value) (fa:Addr) (o:Obj) (U O doc:Value) (a:Addr) (vs:List Value) (ns:List Int),
   Ground q loose [] XP w s₀ mg Z j.heap->YP w j.heap->
   j.heap.get? fa=some o->o.data=.func (docDef d.name d.params d.body d.scope U O doc)->j.heap.CodeRec O d.name->mg d.name=some (.ref fa)->
   j.heap.get? a=some { cls:=.type "list",data:=.seq vs.toArray }->IntsAre vs ns->ns.length<=n->j.gens=#[]->
   Ze (model l.prog w) Zp (.call (.ref fa) ⟨[.ref a],[]⟩) (λr s'=>r=.ok (.ret (.bool true))/\OldK j.heap s'.heap/\s'.os=j.os/\Zm s'.gens) j) :
  WalkO q loose XP YP l.row.toRowW d [] (λf vs=>PySem.call f vs):=by
 intro w s₀ j mg Z G Y fa o U O doc dV kV ho hd a3 hD a1 hg a6 a4 as F a5 a7 a0 a8;obtain rfl:dV=.none:=Dflts.none hD a2;obtain rfl:kV=.none:=Dflts.noKw hD;obtain⟨a,vs,ns,rfl,rfl,J,z,L⟩:=qcf hn F a0;refine enter_call (Za (call w s₀ j mg Z fa o U O doc a vs ns G Y ho (fd_plain hd) a3 a1 J z L hg) λr s' hq=>?_);obtain⟨rfl,h2,h3,h4⟩:=hq;exact⟨.inl ⟨.bool true,.bool true,[],rfl,λ_=>rfl,.bool true,qcp l _,λ_=>⟨List.Pairwise.nil,λ_ hm=>(nomatch hm)⟩⟩,h2,h3,h4⟩
section
variable {prog:Program}{w:Qk}{A:Qv}{E:Value->Qz->Prop}{s:Qz}{K:Frag}
end
end Att
namespace L2
open PySem PySem.Spec PyProof.Rows
theorem qjw:∀{vs:List Value}{ns:List Int},IntsAre vs ns->Vals (ns.map V.int) vs
 |_,_,.nil=>.nil
 |_,_,.cons n t h=>.cons ⟨t,rfl⟩ (qjw h)
def Only(H:Hp):Prop:=∀b,H b=none\/∃o xs,H b=some (.frz o (.lst xs))
theorem qf9{P:Program}{w:Qk}{K:Qqq}{mg mb:Str->Option Value}{CX:CXT}{k:Nat}{fa a:Addr}{fd:Qo}{x:Str}{sp:Sp}{s₁:Qz}{vs:List Value}{ns:List Int}
  (KX:K.In s₁.heap) (a1:s₁.heap.Ns mainGlobals mg) (J:s₁.heap.Ns builtinsNs mb) (a6:∀x:Str,x ≠ "__name__"->mb x=Qa x) (a2:s₁.heap.NoLimit) (hg:s₁.gens=#[])
  (ha:s₁.heap.get? a=some { cls:=.type "list",data:=.seq vs.toArray }) (hi:IntsAre vs ns) (hl:ns.length<=sizeLine) (hr:Room k Zp)
  (F:∀base:Heap,K.In base->base.Ns mainGlobals mg->FnOk P w K mg base CX k fa fd [x] sp) (U:∀(s:Qz) (u:Value),BindsTo s fd ⟨[u],[]⟩ [(x,u)])
  (a5:∀H:Hp,Only H->SqL K H a (ns.map V.int)->sp [.ref a] H (λv _=>v=.bl true) λ_ _ _=>False)
  (a7:∀H e s',CX [] H s₁ (λ_ _ _=>False) e s'->False) :
  Ze (model P w) Zp (.call (.ref fa) ⟨[.ref a],[]⟩) (λr s'=>r=.ok (.ret (.bool true))/\OldK s₁.heap s'.heap/\s'.os=s₁.os/\Zm s'.gens) s₁:=by
 have rv:=qjw hi;have Z:=hi.length;have O:∀H:Hp,Only H->SqL K H a (ns.map V.int)->HOk P w H s₁.heap->(∀b,H b≠none->b=a)->(H a≠none->K.lookup a=none)->
   Ze (model P w) Zp (.call (.ref fa) ⟨[.ref a],[]⟩) (λr s'=>r=.ok (.ret (.bool true))/\OldK s₁.heap s'.heap/\s'.os=s₁.os/\Zm s'.gens) s₁:=by
  intro H hO hS hok hA hK;have j:∀{b:Addr}{o:Obj},s₁.heap.get? b=some o->H b=none->(hidT s₁.heap H).get? b=some o:=λe n=>qgv e n;have a4:∀{b:Addr}{o:Obj}{es:Array Qu}{ep:Nat},s₁.heap.get? b=some o->o.data=.dict es ep->H b=none:=λ{b o es ep} e d=>by
   cases q:H b with
   |none=>rfl
   |some u=>
    have e':b=a:=hA b (by rw[q]; simp);subst e';rw[ha]at e; cases e;have d':Data.seq vs.toArray _=Data.dict es ep:=d;cases d'
  have L:∀{b:Addr}{m:Str->Option Value},s₁.heap.Ns b m->(hidT s₁.heap H).Ns b m:=λ{b m} ⟨o,es,ep,e,d,r⟩=>⟨o,es,ep,j e (a4 e d),d,r⟩
  have a3:K.In (hidT s₁.heap H):=λb o e=>j (KX b o e) (by
   cases q:H b with
   |none=>rfl
   |some u=>
    have e':b=a:=hA b (by rw[q]; simp);subst e'
    rw[hK (by rw[q]; simp)]at e; cases e)
  have hM:Mod K mg (hidT s₁.heap H):=⟨a3,L a1,⟨mb,L J,a6⟩,let ⟨mc,h1,h2⟩:=a2; ⟨mc,L h1,h2⟩⟩
  have e0:Env0 P w K mg (hidT s₁.heap H) Zp [] s₁ H:=⟨rfl,hM,λb o e=>qlc e,Nat.le_of_eq (qdm _ _),trivial,λb J=>absurd (show b∈([]:List Addr) from J) (by simp),hok,.of_eq hg⟩
  refine Za ((F _ a3 (L a1)).run Zp [] s₁ H ⟨[.ref a],[]⟩ [.ref a] [.ref a] _ _ hr e0 (U s₁ (.ref a)) (.cons rfl .nil) (a5 H hO hS)) λr s' h=>?_
  cases r with
  |error e=>exact(a7 H e s' h).elim
  |ok fl=>
   cases fl with
   |next=>exact False.elim h
   |brk=>exact False.elim h
   |cont=>exact False.elim h
   |ret u=>
    obtain⟨v,H',os,bare,un,a0,r',q⟩:=h;have q':v=.bl true:=q;subst q';obtain rfl:u=Value.bool true:=r';refine⟨rfl,OldK.of_keep λb o e=>?_,os,bare⟩
    cases q:H b with
    |none=>exact un.keep b o e q (by intro z; exact absurd (show b∈([]:List Addr) from z) (by simp)) (by simp)
    |some u=>
     rcases hO b with z|⟨ob,xs,z⟩
     ·rw[q]at z; cases z
     ·have z2:=un.frzs b ob _ z;obtain⟨e1,_⟩:=hok b _ z;obtain⟨e2,_⟩:=a0 b _ z2;rw[e]at e1; cases e1;exact e2
 cases hk:K.lookup a with
 |some o=>
  have e:=KX a o hk;rw[ha]at e;cases e;refine O (λ_=>none) (λ_=>.inl rfl) (.inr ⟨_,vs.toArray,_,hk,rfl,rfl,rfl,by rw[Qqw,Z]; exact hl,by simpa using rv⟩) (λb u z=>by have Y:(none:Option HO)=some u:=z; cases Y) (λb z=>absurd rfl z) λz=>absurd rfl z
 |none=>
  refine O (λb=>if b=a then some (.frz { cls:=.type "list",data:=.seq vs.toArray } (.lst (ns.map V.int))) else none) (λb=>?_) (.inl (.inr ⟨{ cls:=.type "list",data:=.seq vs.toArray },Z3 rfl⟩)) (λb u z=>?_) (λb z=>?_) λ_=>hk
  ·by_cases J:b=a
   ·exact .inr ⟨_,_,Z3 J⟩
   ·exact .inl (Z2 J)
  ·by_cases J:b=a
   ·have Y:=(Z3 J).symm.trans z;cases Y;subst J;exact⟨ha,by rw[Qqx]; exact hl,vs,_,rv,ha⟩
   ·have Y:=(Z2 J).symm.trans z;cases Y
  ·by_cases J:b=a
   ·exact J
   ·exact absurd (Z2 J) z
end L2
namespace L2
open PySem PySem.Spec PyProof.Rows
theorem walk_of{l:PySem.W.OpenLaw}{n k:Nat}{q:Program}{loose:List Str}{XP:(Str->Option Value)->Heap->Prop}{YP:Qk->Heap->Prop}{d:DefRec}{K:Qr->Qqq}{CX:Qk->CXT}{sp:Qk->Sp}{x:Str}
  (hn:l.most=some n) (U:n<=sizeLine) (a0:d.params.defaults=[]) (hr:Room k Zp)
  (hY:∀(w:Qk) (h:Heap),YP w h->(K w.params).In h)
  (F:∀(w:Qk) (mg:Str->Option Value) (fa:Addr) (h:Heap),(K w.params).In h->h.Ns mainGlobals mg->mg d.name=some (.ref fa)->
   ∃fd:Qo,(∀(s:Qz) (u:Value),BindsTo s fd ⟨[u],[]⟩ [(x,u)])/\
    ∀base:Heap,(K w.params).In base->base.Ns mainGlobals mg->FnOk l.prog w (K w.params) mg base (CX w) k fa fd [x] (sp w))
  (O:∀(w:Qk) (H:Hp) (a:Addr) (ns:List Int),ns.length<=n->Only H->SqL (K w.params) H a (ns.map V.int)->sp w [.ref a] H (λv _=>v=.bl true) λ_ _ _=>False)
  (a1:∀(w:Qk) (H:Hp) (s:Qz) (e:Value) (s':Qz),CX w [] H s (λ_ _ _=>False) e s'->False) :
  PySem.W.WalkO q loose XP YP l.row.toRowW d [] (λf vs=>PySem.call f vs):=by
 refine Att.attach_call hn a0 λw s₀ J mg mb fa o pm cd doc a vs ns G Y ho hd a2 Z L z j hg=>?_;have KX:=hY w _ Y;obtain⟨fd,hb,hF⟩:=F w mg fa _ KX G.T.g Z;exact qf9 KX G.T.g G.T.b G.T.builtins G.T.nolimit hg L z (Qzh j U) hr hF hb (λH hO hS=>O w H a ns j hO hS) λH e s'=>a1 w H J e s'
end L2
namespace L2
open PySem PySem.Spec PyProof.Rows
noncomputable abbrev CX0:CXT:=λ_ _ _ _ _ _=>False
noncomputable abbrev E0:XK:=λ_ _ _=>False
theorem qf2{X:Cx}:qj7 CX0 X E0:=λ_ _ _ _ _ _ _ h=>h.elim
structure Fun (K:Qqq) (x qual:Str) (st:Stmt) (f:Addr) (fd:Qo):Prop where
 ex:∃(oc:Value) (od:Option Addr) (kV doc pm:Value) (an:Option Addr) (cdv ct:Value) (osl:Array (Option Value)),
  fd=PySem.W.fnOf x qual (qqg st) (qzt st) (qzv st) .none kV doc pm an cdv ct/\K.lookup f=some ⟨oc,od,.func fd,osl⟩/\PySem.W.codeIn K cdv qual=true
 kp:Qzl K (.ref f)=true
section
variable {P:Program}{w:Qk}{K:Qqq}{mg:Str->Option Value}{base:Heap}
theorem Fun.ok{x j:Str}{st:Stmt}{f:Addr}{U:Qo}{N ps:List Str}{k:Nat}{sp:Sp}(F:Fun K x j st f U)(S:FnScope N ps (qzv st))(len:∀vs H Q E,sp vs H Q E->vs.length=ps.length)
  (J:∀(z:Value) (A:Qv) (outer:List Env) (s:Qz) (H:Hp) (vs:List V) (Q:VK) (E:XK),Room k (A.deeper (envOfC j (qzv st) s.heap.objs.size f z))->sp vs H Q E->
   ∃t,PSs (cxOf CX0 P w K mg base N j (qzv st) f z A outer s H E).nox (qzt st) t/\t { nx:=λ_ H'=>Q .non H',rt:=Q } (start N vs) H):FnOk P w K mg base CX0 (k+1) f U ps sp:=by
 obtain⟨oc,od,kV,doc,pm,an,z,ct,Y,rfl,lk,O⟩:=F.ex;refine fn_of lk O S len λA outer s H vs Q E Z L=>?_;obtain⟨t,h,q⟩:=J z A outer s H vs Q E Z L;exact⟨t,h.nox,q⟩
theorem Fun.binds{x j:Str}{st:Stmt}{f:Addr}{L:Qo}{ps:List Str}(F:Fun K x j st f L)
  (h:∀(kV doc J:Value) (an:Option Addr) (z ct:Value) (us:List Value),us.length=ps.length->bindArgs (PySem.W.fnOf x j (qqg st) (qzt st) (qzv st) .none kV doc J an z ct) ⟨us,[]⟩=pure (ps.zip us)):Binds K L ps []:=by
 obtain⟨Z,Y,kV,doc,J,an,z,ct,O,rfl,lk,U⟩:=F.ex;exact .all (h kV doc J an z ct)
theorem qwf{x j:Str}{st:Stmt}{f:Addr}{O:Value}{L an:Option Addr}{F:Array (Option Value)}{kV doc J z ct:Value}(l:K.lookup f=some ⟨O,L,.func (PySem.W.fnOf x j (qqg st) (qzt st) (qzv st) .none kV doc J an z ct),F⟩)
  (c:PySem.W.codeIn K z j=true) (k:Qzl K (.ref f)=true):Fun K x j st f (PySem.W.fnOf x j (qqg st) (qzt st) (qzv st) .none kV doc J an z ct):=⟨⟨O,L,kV,doc,J,an,z,ct,F,rfl,l,c⟩,k⟩
end
theorem qcc{n:Nat}(h:n<=1000):n<sizeLine:=Nat.lt_of_le_of_lt h (by decide)
section
variable {X:Cx}
end
def Same(H H':Hp):Prop:=∀b o,H b=some o->H' b=some o
end L2
end
section
namespace L2
open PySem PySem.Spec PyProof.Rows
section
variable {κ:Type} [DecidableEq κ]
noncomputable def valV(kvs:List (κ×V))(k:κ):Option V:=(kvs.find? λkv=>decide (kv.1=k)).map (·.2)
noncomputable def putK(kvs:List (κ×V))(k:κ)(v:V):List (κ×V):=
 if (kvs.any λkv=>decide (kv.1=k))=true then kvs.map (λkv=>if kv.1=k then(kv.1,v) else kv) else kvs++[(k,v)]
theorem qx6{p:κ×V}{r:List (κ×V)}{k:κ}(e:p.1=k):valV (p::r) k=some p.2:=by simp[valV,Qzq,e]
theorem qx7{p:κ×V}{r:List (κ×V)}{k:κ}(e:¬ p.1=k):valV (p::r) k=valV r k:=by simp[valV,Qzq,e]
theorem qyi(k:κ):∀kvs:List (κ×V),(kvs.any λj=>decide (j.1=k))=(valV kvs k).isSome
 |[]=>rfl
 |p::r=>by
  rw[Qxj]
  by_cases e:p.1=k
  ·simp only[qx6 e,Z0 e,Bool.true_or,Option.isSome_some]
  ·rw[qx7 e,Z1 e,Bool.false_or]; exact qyi k r
theorem qq8(kvs:List (κ×V))(k:κ)(v:V):(putK kvs k v).length<=kvs.length+1:=by
 unfold putK
 split
 ·rw[Qqx]; omega
 ·rw[Qqo,Qqh,Qkv]; omega
theorem RelO.isSome_eq{o:Option V}{u:Option Value}(r:RelO o u):o.isSome=u.isSome:=by
 cases o with
 |none=>cases u with
  |none=>rfl
  |some _=>exact(show False from r).elim
 |some _=>cases u with
  |none=>exact(show False from r).elim
  |some _=>rfl
theorem KV.val{kvs:List (κ×V)}{vs:List (κ×Value)}(r:KV kvs vs)(k:κ):RelO (valV kvs k) (valueAt vs k):=by
 unfold KV at r
 induction r with
 |nil=>exact True.intro
 |@cons p q ps j h t J=>
  obtain⟨h1,h2⟩:=h
  by_cases e:p.1=k
  ·have F:q.1=k:=h1.symm.trans e;have b:valueAt (q::j) k=some q.2:=by simp[valueAt,Qzq,F]
   rw[qx6 e,b]; exact h2
  ·have F:¬ q.1=k:=λz=>e (h1.trans z);have b:valueAt (q::j) k=valueAt j k:=by simp[valueAt,Qzq,F]
   rw[qx7 e,b]; exact J
theorem KV.any{kvs:List (κ×V)}{vs:List (κ×Value)}(r:KV kvs vs)(k:κ):(kvs.any λj=>decide (j.1=k))=vs.any λj=>decide (j.1=k):=by
 unfold KV at r
 induction r with
 |nil=>rfl
 |cons h t z=>rw[Qxj,Qxj,z,h.1]
theorem KV.repl{kvs:List (κ×V)}{vs:List (κ×Value)}(r:KV kvs vs)(k:κ){y:V}{u:Value}(F:RelV y u):
  KV (kvs.map λj=>if j.1=k then(j.1,y) else j) (vs.map λj=>if j.1=k then(j.1,u) else j):=by
 unfold KV at r ⊢
 induction r with
 |nil=>exact .nil
 |@cons p q ps L h t J=>
  rw[Qqy,Qqy];refine .cons ?_ J;obtain⟨h1,h2⟩:=h
  by_cases e:p.1=k
  ·rw[Z3 e,Z3 (h1.symm.trans e)]; exact⟨h1,F⟩
  ·rw[Z2 e,Z2 (λz=>e (h1.trans z))]; exact⟨h1,h2⟩
theorem KV.put{kvs:List (κ×V)}{vs:List (κ×Value)}(r:KV kvs vs)(k:κ){y:V}{u:Value}(j:RelV y u):KV (putK kvs k y) (stored vs k u):=by
 unfold putK stored;rw[r.any k]
 by_cases e:(vs.any λz=>decide (z.1=k))=true
 ·rw[Z3 e,Z3 e]; exact r.repl k j
 ·rw[Z2 e,Z2 e]; exact Paired.snoc r ⟨rfl,j⟩
theorem KV.keys{kvs:List (κ×V)}{vs:List (κ×Value)}(r:KV kvs vs):kvs.map (·.1)=vs.map (·.1):=by
 unfold KV at r
 induction r with
 |nil=>rfl
 |cons h t j=>rw[Qqy,Qqy,j,h.1]
theorem KV.length{kvs:List (κ×V)}{vs:List (κ×Value)}(r:KV kvs vs):kvs.length=vs.length:=Paired.length r
end
theorem qva{P:Program}{w:Qk}{k:Key}{u:Value}(r:RelV (kV k) u):(mixKind P w).is k u=true:=by
 cases k with
 |inl i=>obtain⟨t,e⟩:=(show ∃t,u=Value.int i t from r); subst e; exact qyq P w i t
 |inr x=>obtain⟨t,e⟩:=(show ∃t,u=Value.str x t from r); subst e; exact qq7 P w x t
theorem qwa{P:Program}{w:Qk}:∀{ks:List Key}{us:List Value},Vals (ks.map kV) us->ItemsAre (mixKind P w) ks us
 |[],_,r=>by rw[Qxy]at r; cases r; exact .nil
 |k::ks,_,r=>by
  rw[Qqy]at r
  cases r with
  |cons h t=>exact .cons (qva h) (qwa t)
abbrev KT(H:Hp):List (List Key×V)->List (List Key×Addr×Value)->Prop:=Paired λp q=>p.1=q.1/\H q.2.1=some (.tup (p.1.map kV))/\RelV p.2 q.2.2
theorem KT.val{H:Hp}{kvs:List (List Key×V)}{xs:List (List Key×Addr×Value)}(r:KT H kvs xs)(k:List Key):RelO (valV kvs k) ((atKey xs k).map (·.2)):=by
 induction r with
 |nil=>exact True.intro
 |@cons p q ps j h t J=>
  obtain⟨h1,_,h2⟩:=h
  by_cases e:p.1=k
  ·have F:q.1=k:=h1.symm.trans e;have b:atKey (q::j) k=some q.2:=by simp[atKey,Qzq,F]
   rw[qx6 e,b]; exact h2
  ·have F:¬ q.1=k:=λz=>e (h1.trans z);have b:atKey (q::j) k=atKey j k:=by simp[atKey,Qzq,F]
   rw[qx7 e,b]; exact J
theorem KT.repl{H:Hp}{kvs:List (List Key×V)}{xs:List (List Key×Addr×Value)}(r:KT H kvs xs)(k:List Key){y:V}{u:Value}(F:RelV y u):
  KT H (kvs.map λj=>if j.1=k then(j.1,y) else j) (xs.map (putAt k u)):=by
 induction r with
 |nil=>exact .nil
 |@cons p q ps O h t J=>
  rw[Qqy,Qqy];refine .cons ?_ J;obtain⟨h1,h2,L⟩:=h;unfold putAt
  by_cases e:p.1=k
  ·rw[Z3 e,Z3 (h1.symm.trans e)]; exact⟨h1,h2,F⟩
  ·rw[Z2 e,Z2 (λz=>e (h1.trans z))]; exact⟨h1,h2,L⟩
theorem KT.put{H:Hp}{kvs:List (List Key×V)}{xs:List (List Key×Addr×Value)}(r:KT H kvs xs)(k:List Key){b:Addr}{y:V}{u:Value}(F:H b=some (.tup (k.map kV)))(j:RelV y u):
  KT H (putK kvs k y) (storedH xs k b u):=by
 have e:(kvs.any λz=>decide (z.1=k))=(atKey xs k).isSome:=by
  rw[qyi,(r.val k).isSome_eq,Qjp]
 unfold putK storedH;rw[e]
 by_cases q:(atKey xs k).isSome=true
 ·rw[Z3 q,Z3 q]; exact r.repl k j
 ·rw[Z2 q,Z2 q]; exact Paired.snoc r ⟨rfl,F,j⟩
theorem KT.keeps{H H':Hp}{kvs:List (List Key×V)}{xs:List (List Key×Addr×Value)}(r:KT H kvs xs)(j:∀b ys,H b=some (.tup ys)->H' b=some (.tup ys)):KT H' kvs xs:=
 Paired.mapP r λ_ _ z=>⟨z.1,j _ _ z.2.1,z.2.2⟩
section
variable {P:Program}{w:Qk}{H:Hp}{h:Heap}{a:Addr}
theorem rd_of{u:HO}(ok:HOk P w H h)(e:Rd H a u):ObjOk P w H h a u:=e.ok ok
theorem qbg{kvs:List (Key×V)}(ok:HOk P w H h)(e:Rd H a (.dK kvs)):kvs.length<=sizeLine/\(a==Qn)=false/\∃vs,KV kvs vs/\h.DictOf (mixKind P w) a vs:=
 show ObjOk P w H h a (.dK kvs) from rd_of ok e
theorem dk_of{kvs:List (Key×V)}(ok:HOk P w H h)(e:H a=some (.dK kvs)):kvs.length<=sizeLine/\(a==Qn)=false/\∃vs,KV kvs vs/\h.DictOf (mixKind P w) a vs:=qbg ok (.inl e)
theorem qxy{ks:List Key}(ok:HOk P w H h)(e:H a=some (.tup (ks.map kV))):(tupleKind (mixKind P w)).is h ks a:=by
 obtain⟨_,j,r,o,h1,h2,n,z⟩:=(show ObjOk P w H h a (.tup (ks.map kV)) from ok a _ e)
 exact⟨o,j.toArray,n,h1,h2,z,by simpa using qwa r⟩
theorem qd3{kvs:List (List Key×V)}(ok:HOk P w H h)(e:Rd H a (.dT kvs)):kvs.length<=sizeLine/\(a==Qn)=false/\
  ∃xs,KT H kvs xs/\h.DictOfH (tupleKind (mixKind P w)) a xs:=by
 obtain⟨z,y,xs,r,o,es,Y,h1,h2,U,O,L⟩:=(show ObjOk P w H h a (.dT kvs) from rd_of ok e)
 refine⟨z,y,xs,r,o,es,Y,h1,h2,U,O,λx j=>?_,L⟩;have all:∀{l:List (List Key×V)}{m:List (List Key×Addr×Value)},KT H l m->∀x∈m,(tupleKind (mixKind P w)).is h x.1 x.2.1:=by
  intro l m q
  induction q with
  |nil=>intro x j; exact nomatch j
  |@cons p q ps Z F t J=>
   intro x j;rcases Qqc.mp j with e|j
   ·subst e;exact qxy ok (by rw[<- F.1]; exact F.2.1)
   ·exact J x j
 exact all r x j
theorem dt_of{kvs:List (List Key×V)}(ok:HOk P w H h)(e:H a=some (.dT kvs)):kvs.length<=sizeLine/\(a==Qn)=false/\
  ∃xs,KT H kvs xs/\h.DictOfH (tupleKind (mixKind P w)) a xs:=qd3 ok (.inl e)
end
def DGet(H:Hp)(a:Addr)(y:V)(r:Option V):Prop:=
 (∃kvs k,Rd H a (.dK kvs)/\y=kV k/\r=valV kvs k)\/∃kvs k b,Rd H a (.dT kvs)/\y=.ref b/\H b=some (.tup (k.map kV))/\r=valV kvs k
def DPut(H:Hp)(a:Addr)(y v:V)(H':Hp):Prop:=
 (∃kvs k,H a=some (.dK kvs)/\y=kV k/\kvs.length<sizeLine/\H'=upd H a (.dK (putK kvs k v)))\/
 ∃kvs k b,H a=some (.dT kvs)/\y=.ref b/\H b=some (.tup (k.map kV))/\kvs.length<sizeLine/\H'=upd H a (.dT (putK kvs k v))
theorem DPut.k{H:Hp}{a:Addr}{kvs:List (Key×V)}{k:Key}{v:V}(e:H a=some (.dK kvs))(j:kvs.length<sizeLine):DPut H a (kV k) v (upd H a (.dK (putK kvs k v))):=.inl ⟨kvs,k,e,rfl,j,rfl⟩
section
variable {X:Cx}{pins:List (Addr×Obj)}{σ:St}{H:Hp}{s:Qz}{a:Addr}{y v:V}{u r:Value}{o:Option V}{A:Qv}{E:Value->Qz->Prop}
theorem Inv.big(I:Inv X pins σ H s):Qn<s.heap.objs.size:=by
 have h:mainGlobals<s.heap.objs.size:=(I.mod.glob.keeps I.bk).lt;exact Nat.lt_trans (by decide) h
theorem qd8{Q:Value->Qz->Prop}(hu:A.units+1<cLine)(I:Inv X pins σ H s)(g:DGet H a y (some v))(Z:RelV y u)(h:∀J s',Inv X pins σ H s'->RelV v J->Q J s'):
  wpAny (model X.prog X.w) A (Zk (.ref a) u) Q E s:=by
 rcases g with⟨kvs,k,e,U,l⟩|⟨kvs,k,b,e,U,eb,l⟩
 ·subst U;obtain⟨z,hd,vs,F,Y⟩:=qbg I.hok e;obtain⟨J,L,j⟩:=RelO.some_of (v:=v) (o:=valueAt vs k) (by rw[l]; exact F.val k);exact wpAny_getItem_of (qva Z) Y.mapOf L (h J _ (I.tok _) j)
 ·subst U;cases (show u=Value.ref b from Z);obtain⟨z,hd,xs,F,Y⟩:=qd3 I.hok e;obtain⟨J,L,j⟩:=RelO.some_of (v:=v) (o:=(atKey xs k).map (·.2)) (by rw[l]; exact F.val k);obtain⟨p,hp,O⟩:=Qqi.mp L;refine wpAny_getItem_heap (Zc hu) (qxy I.hok eb) Y hp ?_;rw[O];exact h J _ (I.tok _) j
theorem d_in{Q:Value->Qz->Prop}(O:A.units+1<cLine)(I:Inv X pins σ H s)(g:DGet H a y o)(L:RelV y u)(h:∀s',Inv X pins σ H s'->Q (.bool o.isSome) s'):
  wpAny (model X.prog X.w) A (Qe .In u (.ref a)) Q E s:=by
 rcases g with⟨kvs,k,e,F,l⟩|⟨kvs,k,b,e,F,U,l⟩
 ·subst F;obtain⟨z,hd,vs,j,J⟩:=qbg I.hok e;refine wpAny_in_of (qva L) hd J.mapOf ?_;rw[<- (j.val k).isSome_eq,<- l];exact h _ (I.tok _)
 ·subst F;cases (show u=Value.ref b from L);obtain⟨z,hd,xs,j,J⟩:=qd3 I.hok e;refine wpAny_in_heap (Zc O) (qxy I.hok U) hd J ?_;have q:=(j.val k).isSome_eq;rw[Qjp]at q;rw[<- q,<- l];exact h _ (I.tok _)
theorem qmd{Q:Value->Qz->Prop}(O:A.units+1<cLine)(I:Inv X pins σ H s)(g:DGet H a y o)(L:RelV y u)(h:∀s',Inv X pins σ H s'->Q (.bool (!o.isSome)) s'):
  wpAny (model X.prog X.w) A (Qe .NotIn u (.ref a)) Q E s:=by
 rcases g with⟨kvs,k,e,F,l⟩|⟨kvs,k,b,e,F,U,l⟩
 ·subst F;obtain⟨z,hd,vs,j,J⟩:=qbg I.hok e;refine wpAny_notIn_of (qva L) hd J.mapOf ?_;rw[<- (j.val k).isSome_eq,<- l];exact h _ (I.tok _)
 ·subst F;cases (show u=Value.ref b from L);obtain⟨z,hd,xs,j,J⟩:=qd3 I.hok e;refine wpAny_notIn_heap (Zc O) (qxy I.hok U) hd J ?_;have q:=(j.val k).isSome_eq;rw[Qjp]at q;rw[<- q,<- l];exact h _ (I.tok _)
theorem qyd{h':Heap}{t':Nat}{ob:HO}(I:Inv X pins σ H s)(j:Mut (H a))(F:Heap.SameBut a s.heap h')(J:∃q,h'.get? a=some q)(new:ObjOk X.prog X.w (upd H a ob) h' a ob):
  Inv X pins σ (upd H a ob) { s with heap:=h',toks:=t' }:=
 I.write (x:=a) (e:=a) j (.inl rfl) (λb q L z=>(F.2 b L).trans z) J new
theorem dk_new{P:Program}{w:Qk}{H':Hp}{h':Heap}{kvs:List (Key×V)}{vs:List (Key×Value)}(z:kvs.length<=sizeLine)(hd:(a==Qn)=false)(j:KV kvs vs)(F:h'.DictOf (mixKind P w) a vs):
  ObjOk P w H' h' a (.dK kvs):=⟨z,hd,vs,j,F⟩
theorem qd7{H':Hp}{Q:Unit->Qz->Prop}(hu:A.units+1<cLine)(I:Inv X pins σ H s)(g:DPut H a y v H')(ry:RelV y u)(rv:RelV v r)(h:∀s',Inv X pins σ H' s'->Q () s'):
  wpAny (model X.prog X.w) A (setItem (.ref a) u r) Q E s:=by
 rcases g with⟨kvs,k,e,Y,l,Z⟩|⟨kvs,k,b,e,Y,eb,l,Z⟩
 ·subst Y Z;obtain⟨z,hd,vs,j,dd⟩:=dk_of I.hok e;have L:vs.length<=sizeLine:=by rw[<- j.length]; exact z
  have U:(putK kvs k v).length<=sizeLine:=by have:=qq8 kvs k v; omega
  refine wpAny_setItem_pairs (hsz:=L) (qva ry) dd λh' F O=>h _ ?_;have he:∃q,h'.get? a=some q:=let ⟨q,_,_,J,_⟩:=F; ⟨q,J⟩;exact qyd I (by rw[e]; exact True.intro) O he (dk_new U hd (j.put k rv) F)
 ·subst Y Z;cases (show u=Value.ref b from ry);obtain⟨z,hd,xs,j,dd⟩:=dt_of I.hok e;have L:xs.length<=sizeLine:=by rw[<- Paired.length j]; exact z
  have U:(putK kvs k v).length<=sizeLine:=by have:=qq8 kvs k v; omega
  refine wpAny_setItem_heap (hsz:=L) (Zc hu) (qxy I.hok eb) dd λh' F O=>h _ ?_;obtain⟨q,es,ep,J,h2,h3,h4,_,h5⟩:=F;refine qyd I (by rw[e]; exact True.intro) O ⟨q,J⟩ ⟨U,hd,_,(j.put k eb rv).keeps λc ys ec=>?_,q,es,ep,J,h2,h3,h4,h5⟩;rw[qzq (qzo ec e (λz=>nomatch z))];exact ec
end
section
variable {X:Cx}{pins:List (Addr×Obj)}{σ:St}{H:Hp}{s:Qz}{a:Addr}{kvs:List (Key×V)}{k:Key}{u:Value}{A:Qv}{E:Value->Qz->Prop}
end
def NoSl(i:Qx):Prop:=∀ov iv,subscripted i false ov iv=operate [ov,iv] (Zk ov iv)
theorem qck{prog:Program}{w:Qk}{A:Qv}{E:Value->Qz->Prop}{s:Qz}{env:Env}{z j:Qx}{pos:Pos}{T id:String}{Q:Value->Qz->Prop}
  (hl:typeLookup (.type T) "__getitem__" = pure (some (.builtin id))) (Z:NoSl j)
  (h:wpAny (model prog w) A (eval z env) (λo L=>wpAny (model prog w) A (eval j env) (λi s₂=>s₂.TypeIs o T/\wpAny (model prog w) A (Zk o i) Q E s₂) E L) E s) :
  wpAny (model prog w) A (eval (.Subscript z j pos) env) Q E s:=by
 refine Subscript_ (Qf h (λo L Y=>Qf Y (λi s₂ F=>?_) λ_ _ x=>x) λ_ _ x=>x);obtain⟨hT,F⟩:=F;unfold subscriptTail;refine Qq ?_;rw[getitemInPython_of_ne hT.not_modules];refine Qq (wpAny_specialOf hT hl ?_);have O:wpAny (model prog w) A (subscripted j false o i) (λr J=>wpAny (model prog w) A (letTemporaryGo z o r >>= λ_=>pure r) Q E J) E s₂:=by
  rw[Z o i];exact wpAny_operating (Qf F (λr J U=>Qq (wpAny_letTemporaryGo (Qj U))) λ_ _ x=>x)
 first
  |exact Qj (Qq O)
  |exact Qq (Qj (Qq O))
  |exact Qq O
theorem qyc{X:Cx}{j:List (Addr×Obj)}{F:St}{H:Hp}{s:Qz}{a:Addr}{y:V}{o:Option V}(I:Inv X j F H s)(g:DGet H a y o):s.TypeIs (.ref a) "dict":=by
 rcases g with⟨kvs,k,e,_,_⟩|⟨kvs,k,b,e,_,_,_⟩
 ·obtain⟨_,_,vs,_,z⟩:=qbg I.hok e;exact z.typeIs
 ·obtain⟨_,_,xs,_,z⟩:=qd3 I.hok e;exact z.typeIs
noncomputable def tDGet(td ty:TE):TE:=λσ H Q=>td σ H λx H1=>ty σ H1 λy H2=>∃a v,x=.ref a/\DGet H2 a y (some v)/\Q v H2
noncomputable def tDIn(ty td:TE):TE:=λσ H Q=>ty σ H λy H1=>td σ H1 λx H2=>∃a o,x=.ref a/\DGet H2 a y o/\Q (.bl o.isSome) H2
noncomputable def qcx(ty td:TE):TE:=λσ H Q=>ty σ H λy H1=>td σ H1 λx H2=>∃a o,x=.ref a/\DGet H2 a y o/\Q (.bl (!o.isSome)) H2
noncomputable def sDPut(td ty tv:TE):TS:=λD σ H=>tv σ H λv H1=>td σ H1 λx H2=>ty σ H2 λy H3=>∃a H4,x=.ref a/\DPut H3 a y v H4/\D.nx σ H4
section
variable {X:Cx}{o i e value:Qx}{pos pos' tpos:Pos}{td ty tv:TE}
theorem qi9(Y:X.A.units+1<cLine)(ho:PE X o td)(hi:PE X i ty)(Z:NoSl i):PE X (.Subscript o i pos) (tDGet td ty):=by
 intro pins s σ H Q I h;refine qck PySem.F.slot_dict_getitem.lookup Z (thn (ho pins s σ H _ I h) λu F ⟨x,H1,I1,L,U⟩=>thn (hi pins F σ H1 _ I1 U) λiv s2 ⟨y,H2,z,J,a,v,ex,g,O⟩=>?_);subst ex;obtain rfl:u=Value.ref a:=L;exact⟨qyc z g,qd8 Y z g J λw' s3 I3 j=>⟨v,H2,I3,j,O⟩⟩
theorem pc_din(O:X.A.units+1<cLine)(hi:PE X i ty)(U:PE X o td):PC X .In i o (tDIn ty td):=by
 intro pins s σ H Q I h;refine thn (hi pins s σ H _ I h) λiv j ⟨y,H1,I1,z,L⟩=>thn (U pins j σ H1 _ I1 L) λu s2 ⟨x,H2,Z,F,a,ov,ex,g,J⟩=>?_;subst ex;obtain rfl:u=Value.ref a:=F;exact d_in O Z g z λs3 Y=>⟨.bl ov.isSome,H2,Y,rfl,J⟩
theorem qc0(O:X.A.units+1<cLine)(hi:PE X i ty)(U:PE X o td):PC X .NotIn i o (qcx ty td):=by
 intro pins s σ H Q I h;refine thn (hi pins s σ H _ I h) λiv j ⟨y,H1,I1,z,L⟩=>thn (U pins j σ H1 _ I1 L) λu s2 ⟨x,H2,Z,F,a,ov,ex,g,J⟩=>?_;subst ex;obtain rfl:u=Value.ref a:=F;exact qmd O Z g z λs3 Y=>⟨.bl (!ov.isSome),H2,Y,rfl,J⟩
theorem qit(hu:X.A.units+1<cLine)(ho:PE X o td)(hi:PE X i ty)(Z:PE X value tv)(hs:swapsWith value (some (.Subscript o i pos')) pos.line X.env=pure false):
  PS X (.Assign [.Subscript o i pos'] value pos) (sDPut td ty tv):=by
 intro pins s σ H D I h;refine wpAny_Assign_Subscript (thn (Z pins s σ H _ I h) λr z ⟨v,H1,I1,L,Y⟩=>thn (ho pins z σ H1 _ I1 Y) λu j ⟨x,H2,I2,J,U⟩=>thn (hi pins j σ H2 _ I2 U) λiv s3 ⟨y,H3,I3,F,a,H4,ex,g,O⟩=>?_) hs;subst ex;obtain rfl:u=Value.ref a:=J;exact qd7 hu I3 g F L λs4 I4=>⟨σ,H4,I4,O⟩
end
theorem qam{P:Program}{w:Qk}{H:Hp}(h:Heap)(j:Qn<h.objs.size):ObjOk P w H (h.push { cls:=.type "dict",data:=.dict #[] }) h.objs.size (.dK []):=
 ⟨Qzu _,beq_eq_false_iff_ne.mpr (Ne.symm (Qq4 j)),[],.nil,Heap.DictOf.new h⟩
noncomputable def tDNewK:TE:=λ_ H Q=>∀p,H p=none->Q (.ref p) (upd H p (.dK []))
section
variable {X:Cx}{pos:Pos}
theorem pe_dnewK:PE X (.Dict [] [] pos) tDNewK:=λpins s σ H Q I h=>
 wpAny_Dict_empty ⟨.ref s.heap.objs.size,_,I.laid (a:=s.heap.objs.size) (o:=.dK []) (t':=s.toks) (λ_ _ q=>Qqz _ q) (Qqj _) (qam s.heap I.big),rfl,h _ (I.hok.fresh (Qqj _))⟩
end
noncomputable def qyu:List (TE×TE)->St->Hp->(List (V×V)->Hp->Prop)->Prop
 |[],_,H,Q=>Q [] H
 |(tk,tv)::r,σ,H,Q=>tk σ H λx H1=>tv σ H1 λy H2=>qyu r σ H2 λps H3=>Q ((x,y)::ps) H3
abbrev VV:List (V×V)->List (Value×Value)->Prop:=Paired λp q=>RelV p.1 q.1/\RelV p.2 q.2
def PPs(X:Cx)(pos:Pos)(keys:List (Option Qx))(values:List Qx)(trs:List (TE×TE)):Prop:=
 ∀(pins:List (Addr×Obj)) (s:Qz) (σ:St) (H:Hp) (Q:List (V×V)->Hp->Prop),Inv X pins σ H s->qyu trs σ H Q->
  wpAny (model X.prog X.w) X.A (evalPairs (pairTrees keys values X.env pos)) (λvs s'=>∃ps H',Inv X pins σ H' s'/\VV ps vs/\Q ps H') X.xe s
theorem qi0{X:Cx}{pos:Pos}:PPs X pos [] [] []:=λpins s σ H Q I h=>pairTrees_nil_walk ⟨[],H,I,.nil,h⟩
theorem qfm{X:Cx}{pos:Pos}{k v:Qx}{ks:List (Option Qx)}{vs:List Qx}{J F:TE}{j:List (TE×TE)}(hk:PE X k J)(hv:PE X v F)(hr:PPs X pos ks vs j):
  PPs X pos (some k::ks) (v::vs) ((J,F)::j):=λpins s σ H Q I h=>
 pairTrees_cons_walk (thn (hk pins s σ H _ I h) λu O ⟨x,H1,I1,Y,q1⟩=>thn (hv pins O σ H1 _ I1 q1) λw2 L ⟨y,H2,I2,U,q2⟩=>
  thn (hr pins L σ H2 _ I2 q2) λws s3 ⟨ps,H3,I3,z,Z⟩=>⟨(x,y)::ps,H3,I3,.cons ⟨Y,U⟩ z,Z⟩)
noncomputable def qkh(kvs more:List (Key×V)):List (Key×V):=more.foldl (λacc kv=>putK acc kv.1 kv.2) kvs
theorem KV.merge:∀{more:List (Key×V)}{j:List (Key×Value)}{kvs:List (Key×V)}{vs:List (Key×Value)},KV more j->KV kvs vs->KV (qkh kvs more) (merged vs j):=by
 intro more j kvs vs r;unfold KV at r
 induction r generalizing kvs vs with
 |nil=>intro q; exact q
 |@cons p q ps F h t z=>
  intro r0;have e:KV (putK kvs p.1 p.2) (stored vs q.1 q.2):=by
   have:=r0.put p.1 h.2;rw[<- h.1]; exact this
  exact z e
theorem qxw:∀(more kvs:List (Key×V)),(qkh kvs more).length<=kvs.length+more.length
 |[],kvs=>by show kvs.length<=kvs.length+0; omega
 |p::r,kvs=>by
  have h1:=qxw r (putK kvs p.1 p.2);have h2:=qq8 kvs p.1 p.2;show(qkh (putK kvs p.1 p.2) r).length<=_;rw[Qqh]; omega
theorem qks{P:Program}{w:Qk}:∀{kvs:List (Key×V)}{z:List (Value×Value)},VV (kvs.map λF=>(kV F.1,F.2)) z->∃j,Carries (mixKind P w) z j/\KV kvs j
 |[],_,r=>by rw[Qxy]at r; cases r; exact⟨[],True.intro,.nil⟩
 |p::kvs,_,r=>by
  rw[Qqy]at r
  cases r with
  |@cons a b J bs h t=>
   obtain⟨j,c,q⟩:=qks (P:=P) (w:=w) t;obtain⟨b1,b2⟩:=b;exact⟨(p.1,b2)::j,⟨qva h.1,rfl,c⟩,.cons ⟨rfl,h.2⟩ q⟩
noncomputable def tDisp(trs:List (TE×TE)):TE:=λσ H Q=>∀p,H p=none->qyu trs σ (upd H p (.dK [])) λps H2=>H2 p=some (.dK [])/\∃kvs:List (Key×V),ps=kvs.map (λkv=>(kV kv.1,kv.2))/\kvs.length<=15/\Q (.ref p) (upd H2 p (.dK (qkh [] kvs)))
theorem qi8{X:Cx}{pos:Pos}{keys:List (Option Qx)}{j:List Qx}{F:List (TE×TE)}(h:PPs X pos keys j F)(J:keys.all (·.isSome)=true)(hl:keys.length=j.length)(h0:keys≠[])
  (U:keys.length<=15):PE X (.Dict keys j pos) (tDisp F):=by
 intro pins s σ H Q I q;have hn:=I.hok.fresh (Qqj s.heap.objs.size);have I1:=I.laid (a:=s.heap.objs.size) (o:=.dK []) (h':=s.heap.push { cls:=.type "dict",data:=.dict #[] }) (t':=s.toks) (λ_ _ q=>Qqz _ q) (Qqj _) (qam s.heap I.big);refine wpAny_Dict_walk (knd:=mixKind X.prog X.w) J hl h0 U (thn (h pins _ σ _ _ I1 (q _ hn)) λws s2 ⟨ps,H2,Y,O,e,kvs,ep,lk,q2⟩=>?_);subst ep;obtain⟨rs,c,rk⟩:=qks (P:=X.prog) (w:=X.w) O;obtain⟨z,hd,Z,r0,dd⟩:=dk_of Y.hok e;cases r0;refine⟨rs,c,dd,λh' L hs=>⟨.ref s.heap.objs.size,_,?_,rfl,q2⟩⟩;have hz:(qkh [] kvs).length<=sizeLine:=by
  have h1:=qxw kvs [];rw[Qkv]at h1;rw[Q8]; omega
 have he:∃q,h'.get? s.heap.objs.size=some q:=let ⟨q,_,_,hq,_⟩:=L; ⟨q,hq⟩;exact qyd Y (by rw[e]; exact True.intro) hs he (dk_new hz hd (rk.merge .nil) L)
section
variable {X:Cx}{pins:List (Addr×Obj)}{σ:St}{H:Hp}{s:Qz}{a:Addr}{y d:V}{u r:Value}{o:Option V}{A:Qv}{E:Value->Qz->Prop}
end
section
variable {X:Cx}{o e f:Qx}{apos cpos:Pos}{td ty tx:TE}
end
section
variable {X:Cx}{pins:List (Addr×Obj)}{σ:St}{H:Hp}{s:Qz}{a:Addr}{kvs:List (Key×V)}{A:Qv}{E:Value->Qz->Prop}
end
section
variable {X:Cx}{pins:List (Addr×Obj)}{σ:St}{H:Hp}{s:Qz}{a:Addr}{y:V}{u:Value}{A:Qv}{E:Value->Qz->Prop}
end
end L2
end
section
open PySem PyProof.Rows
namespace TS
section
variable {M:Model}{A:Qv}{E:Value->Qz->Prop}{s:Qz}{κ:KeyKind}{k0:SortKind}
def LtR(M:Model)(A:Qv)(E:Value->Qz->Prop)(s:Qz)(κ:KeyKind)(k0:SortKind):Prop:=
 ∀(x y:Q7) a b,κ.keyOf x.1=some a->κ.keyOf y.1=some b->∀(Q:Option Bool->Qm->Prop) st,kindOf st=k0->Q (some (κ.blt a b)) st->wpS M A E s (lt' x y) Q st
theorem keyAt{j:Array Q7}(h:KeysOf κ j){i:Nat}(hi:i<j.size):∃x,j[i]?=some x/\κ.keyOf x.1=some (KK κ j i):=by
 have e:=getElem?_pos j i hi;have ⟨a,z⟩:=h j[i] (by simp);refine⟨j[i],e,?_⟩;unfold KK;rw[e];simp only[z,Qxg]
def Seg(κ:KeyKind)(xs:Array Q7)(lo hi:Nat):Prop:=∀i j,lo<=i->i<=j->j<hi->κ.kle (KK κ xs i) (KK κ xs j)
end
end TS
end
section
open PySem PyProof.Rows
namespace TS
section
variable {R:Q7->Q7->Prop}{o p q all t:List Q7}
end
section
variable {κ:KeyKind}
noncomputable def ky(κ:KeyKind)(x:Q7):κ.α:=(κ.keyOf x.1).getD κ.dflt
theorem qe1{xs:Array Q7}{i:Nat}(h:i<xs.size):KK κ xs i=ky κ xs[i]:=by
 unfold KK ky;rw[getElem?_pos xs i h]
theorem has_key{xs:Array Q7}(h:KeysOf κ xs){i:Nat}(hi:i<xs.size):κ.keyOf xs[i].1=some (ky κ xs[i]):=by
 obtain⟨x,e,g⟩:=keyAt h hi;rw[getElem?_pos xs i hi]at e;cases e;rw[g,<- qe1 hi]
theorem qlh{a b:κ.α}(h:κ.blt a b=true):κ.kle a b:=KeyOrd.kle_of_klt h
end
section
variable {M:Model}{A:Qv}{E:Value->Qz->Prop}{s:Qz}
theorem el{xs:Array Q7}{i:Nat}{st:Qm}{Q:Q7->Qm->Prop}(h:i<xs.size)(q:Q xs[i] st):wpS M A E s (elem' xs i) Q st:=by
 rw[elem'_eq,getElem?_pos xs i h];exact Qc q
variable {σ α:Type}{c:Prop} [Decidable c]{p q:StateT σ Sem α}{Q:α->σ->Prop}{st:σ}
theorem qxi(j:c)(h:wpS M A E s p Q st):wpS M A E s (if c then p else q) Q st:=by rw[Z3 j]; exact h
theorem qjk(j:¬ c)(h:wpS M A E s q Q st):wpS M A E s (if c then p else q) Q st:=by rw[Z2 j]; exact h
theorem qhu{j α:Type}{P:j->Prop}{t:j}{m:StateT j Sem α}{Q:α->j->Prop}(z:P t)(h:∀t,P t->wpS M A E s m Q t):wpS M A E s m Q t:=h t z
theorem qyg(h:c->wpS M A E s p Q st)(h':¬ c->wpS M A E s q Q st):wpS M A E s (if c then p else q) Q st:=by
 split
 ·next g=>exact h g
 ·next g=>exact h' g
end
end TS
end
section
open PySem PyProof.Rows
namespace TS
section
variable {M:Model}{A:Qv}{E:Value->Qz->Prop}{s:Qz}{κ:KeyKind}{k0:SortKind}
structure Rl (lo:Nat) (s t:Qm):Prop where
 kind:kindOf t=kindOf s
 pend:Zn t=Zn s
 fail:failedOf t=failedOf s
 perm:(arrOf t).Perm (arrOf s)
 same:∀j,j<lo->(arrOf t)[j]?=(arrOf s)[j]?
theorem Rl.refl(lo:Nat)(st:Qm):Rl lo st st:=⟨rfl,rfl,rfl,Array.Perm.refl _,λ_ _=>rfl⟩
theorem Rl.size{lo:Nat}{s t:Qm}(h:Rl lo s t):(arrOf t).size=(arrOf s).size:=h.perm.size_eq
theorem Rl.keys{lo:Nat}{s t:Qm}(h:Rl lo s t)(k:KeysOf κ (arrOf s)):KeysOf κ (arrOf t):=λp j=>k p ((Qjm.mp h.perm).mem_iff.mp j)
theorem Rl.rev{lo i j:Nat}{s t:Qm}(h:Rl lo s t)(J:lo<=i)(F:j<=(arrOf t).size):Rl lo s (setArr t (mirror (arrOf t) i j ((j - i) / 2))):=
 ⟨h.kind,h.pend,h.fail,(mirror_perm _ _ _ _).trans h.perm,λk z=>(by
  show(mirror (arrOf t) i j ((j - i) / 2))[k]?=_
  rw[getElem?_mirror_all F,Z2 (by omega)]; exact h.same k z)⟩
theorem Rl.bub{lo k d:Nat}{s t:Qm}(h:Rl lo s t)(L:lo<=k - d)(F:d<=k)(J:k<(arrOf t).size):Rl lo s (setArr t (bubble (arrOf t) k d)):=
 ⟨h.kind,h.pend,h.fail,(bubble_perm _ _ _).trans h.perm,λj z=>(by
  show(bubble (arrOf t) k d)[j]?=_
  rw[getElem?_bubble J d F,Z2 (by omega),Z2 (by omega)]; exact h.same j z)⟩
theorem qby(L:LtR M A E s κ k0){st:Qm}{i j:Nat}{Q:Option Bool->Qm->Prop}(J:kindOf st=k0)(F:KeysOf κ (arrOf st))(hi:i<(arrOf st).size)(z:j<(arrOf st).size)
  (h:Q (some (κ.blt (KK κ (arrOf st) i) (KK κ (arrOf st) j))) st):wpS M A E s (ltAt' i j) Q st:=by
 rw[qe1 hi,qe1 z]at h;unfold ltAt';exact Qw (wpS_get (Qw (el hi (Qw (el z (L _ _ _ _ (has_key F hi) (has_key F z) _ _ J h))))))
def Dsg(κ:KeyKind)(xs:Array Q7)(lo hi:Nat):Prop:=∀i j,lo<=i->i<=j->j<hi->κ.kle (KK κ xs j) (KK κ xs i)
theorem Seg.one(xs:Array Q7)(lo:Nat):Seg κ xs lo (lo+1):=λi j h1 h2 z=>by
 have:i=j:=by omega
 subst this;exact KeyOrd.kle_refl _
theorem Seg.more{xs:Array Q7}{lo n:Nat}(h:Seg κ xs lo (lo+n))(J:0<n)(q:κ.kle (KK κ xs (lo+n - 1)) (KK κ xs (lo+n))):Seg κ xs lo (lo+(n+1)):=λi j h1 h2 F=>by
 by_cases c:j<lo+n
 ·exact h i j h1 h2 c
 ·have e:j=lo+n:=by omega
  subst e
  by_cases z:i=lo+n
  ·subst z; exact KeyOrd.kle_refl _
  ·exact KeyOrd.kle_trans (h i (lo+n - 1) h1 (by omega) (by omega)) q
theorem Dsg.more{xs:Array Q7}{lo n:Nat}(h:Dsg κ xs lo (lo+n))(J:0<n)(q:κ.kle (KK κ xs (lo+n)) (KK κ xs (lo+n - 1))):Dsg κ xs lo (lo+(n+1)):=λi j h1 h2 F=>by
 by_cases c:j<lo+n
 ·exact h i j h1 h2 c
 ·have e:j=lo+n:=by omega
  subst e
  by_cases z:i=lo+n
  ·subst z; exact KeyOrd.kle_refl _
  ·exact KeyOrd.kle_trans q (h i (lo+n - 1) h1 (by omega) (by omega))
theorem Dsg.flip{xs:Array Q7}{lo n:Nat}(h:Dsg κ xs lo (lo+n))(hz:lo+n<=xs.size):Seg κ (mirror xs lo (lo+n) ((lo+n - lo) / 2)) lo (lo+n):=λi j h1 h2 z=>by
 rw[KK_mirror hz,KK_mirror hz,Z3 (by omega),Z3 (by omega)];exact h _ _ (by omega) (by omega) (by omega)
theorem Dsg.like{xs ys:Array Q7}{lo hi:Nat}(h:Dsg κ xs lo hi)(e:∀k,KK κ ys k=KK κ xs k):Dsg κ ys lo hi:=λi j h1 h2 z=>by
 rw[e,e]; exact h i j h1 h2 z
theorem cnt_ok(L:LtR M A E s κ k0){st:Qm}{lo nrem:Nat}{Q:Option Nat->Qm->Prop}(hk:kindOf st=k0)(ho:KeysOf κ (arrOf st))(hz:lo+nrem<=(arrOf st).size)(h1:1<=nrem)
  (h:∀m st',Rl lo st st'->1<=m->m<=nrem->Seg κ (arrOf st') lo (lo+m)->Q (some m) st'):wpS M A E s (countRun' lo nrem) Q st:=by
 unfold countRun'
 refine Qw (Zr (Zq (I:=λx c st'=>st'=st/\c=(none,x)/\Seg κ (arrOf st) lo (lo+x))
  (Q:=λc st'=>st'=st/\∃n,c=(none,n)/\1<=n/\n<=nrem/\Seg κ (arrOf st) lo (lo+n)/\(n=nrem\/κ.blt (KK κ (arrOf st) (lo+n)) (KK κ (arrOf st) (lo+n - 1))=true)) ?_ ?_ ⟨rfl,rfl,Seg.one _ _⟩) ?_)
 ·rintro x c st' a0 a1 ⟨rfl,rfl,F⟩;refine Qw (qby L (i:=lo+x) (j:=lo+x - 1) hk ho (by omega) (by omega) ?_);cases e:κ.blt (KK κ (arrOf st') (lo+x)) (KK κ (arrOf st') (lo+x - 1))
  ·exact Qc ⟨rfl,rfl,F.more a0 e⟩
  ·exact Qc ⟨rfl,x,rfl,a0,Qxf a1,F,.inr e⟩
 ·rintro c st' ⟨rfl,rfl,F⟩;have e:max 1 nrem=nrem:=by omega
  rw[e]at F ⊢;exact⟨rfl,nrem,rfl,h1,Qqj _,F,.inl rfl⟩
 ·rintro c st' ⟨rfl,n,rfl,n1,n2,F,a2⟩
  by_cases e1:n=nrem
  ·exact qxi (by simpa using e1) (Qc (h n _ (Rl.refl _ _) n1 n2 F))
  refine qjk (by simpa using e1) ?_;have lt:=a2.resolve_left e1;have hn:n+1<=nrem:=by omega
  refine'(λ(T:∀J,Rl lo st' J/\Dsg κ (arrOf J) lo (lo+(n+1))->wpS M A E s _ Q J)=>qyg (λc=>?_) λc=>?_) λJ ⟨R1,D1⟩=>?_
  rotate_left
  ·refine Qw (qby L (i:=lo) (j:=lo+n - 1) hk ho (by omega) (by omega) ?_);cases e:κ.blt (KK κ (arrOf st') lo) (KK κ (arrOf st') (lo+n - 1))
   case true=>exact Qc (h n _ (Rl.refl _ _) n1 n2 F)
   have Z:lo+n<=(arrOf st').size:=by omega
   have all:∀k,lo<=k->k<lo+n->KK κ (arrOf st') k=KK κ (arrOf st') (lo+n - 1):=λk k1 k2=>
    KeyOrd.kle_antisymm (F k (lo+n - 1) k1 (by omega) (by omega)) (KeyOrd.kle_trans (show κ.kle _ _ from e) (F lo k (Qqj _) k1 k2))
   refine Qw (Zf ?_);have R1:=(Rl.refl lo st').rev (i:=lo) (j:=lo+n) (Qqj _) Z;have D0:Dsg κ (arrOf st') lo (lo+n):=λi j i1 i2 i3=>by
    rw[all i i1 (by omega),all j (by omega) i3]; exact KeyOrd.kle_refl _
   have D1:=(D0.more (by omega) (qlh lt)).like (KK_mirror_equal Z all);exact T _ ⟨R1,D1⟩
  ·have R1:=Rl.refl lo st';have D0:Dsg κ (arrOf st') lo (lo+n):=λi j i1 i2 i3=>by
    have:i=j:=by omega
    subst this; exact KeyOrd.kle_refl _
   have D1:=D0.more (by omega) (qlh lt);exact T _ ⟨R1,D1⟩
  ·refine Qw (wpS_lift (Zj ⟨rfl,?_⟩));have U:∀(t:Qm) (x k:Nat),lo+x - (0+1)<=k->k<lo+x->KK κ (arrOf t) k=KK κ (arrOf t) (lo+x - 1):=λt x k k1 k2=>by
    have:k=lo+x - 1:=by omega
    rw[this]
   refine Qw (Zr (Zq (a:=n+1) (b:=nrem) (I:=λx c t=>∃z,c=(none,x,z)/\Rl lo st' t/\Dsg κ (arrOf t) lo (lo+x)/\z+1<=x/\∀k,lo+x - (z+1)<=k->k<lo+x->KK κ (arrOf t) k=KK κ (arrOf t) (lo+x - 1))
    (Q:=λc t=>∃x z,c=(none,x,z)/\n+1<=x/\x<=nrem/\Rl lo st' t/\Dsg κ (arrOf t) lo (lo+x)/\z+1<=x/\∀k,lo+x - (z+1)<=k->k<lo+x->KK κ (arrOf t) k=KK κ (arrOf t) (lo+x - 1)) ?_ ?_ ⟨0,rfl,R1,D1,by omega,U _ _⟩) ?_)
   ·rintro x c t x1 x2 ⟨z,rfl,R,D,Y,O⟩;have kt:=R.kind.trans hk;have kk:=R.keys ho;have sz:=R.size;have w1:lo+x<(arrOf t).size:=by omega
    refine Qw (qby L (i:=lo+x) (j:=lo+x - 1) kt kk (by omega) (by omega) ?_);cases e:κ.blt (KK κ (arrOf t) (lo+x)) (KK κ (arrOf t) (lo+x - 1))
    ·refine Qw (qby L (i:=lo+x - 1) (j:=lo+x) kt kk (by omega) (by omega) ?_);cases e':κ.blt (KK κ (arrOf t) (lo+x - 1)) (KK κ (arrOf t) (lo+x))
     ·have eq:KK κ (arrOf t) (lo+x)=KK κ (arrOf t) (lo+x - 1):=KeyOrd.kle_antisymm e' e;have n5:z+1+1<=x+1:=by omega
      refine Qc ⟨z+1,rfl,R,D.more (by omega) e',n5,λk k1 k2=>?_⟩;rw[show lo+(x+1) - 1=lo+x by omega]
      by_cases c:k=lo+x
      ·rw[c]
      ·rw[eq]; exact O k (by omega) (by omega)
     ·exact Qc ⟨x,z,rfl,x1,Qxf x2,R,D,Y,O⟩
    ·have D':=D.more (by omega) (qlh e);have n5:0+1<=x+1:=by omega
     have w2:lo+x<=(arrOf t).size:=by omega
     refine qxi rfl (qyg (λc=>?_) λc=>?_)
     ·refine Qw (Zf ?_);refine Qc (a:=ForInStep.yield (none,x+1,0)) ?_;exact⟨0,rfl,R.rev (i:=lo+x - (z+1)) (j:=lo+x) (by omega) w2,D'.like (KK_mirror_equal w2 O),n5,U _ _⟩
     ·refine Qc (a:=ForInStep.yield (none,x+1,0)) ?_;exact⟨0,rfl,R,D',n5,U _ _⟩
   ·rintro c t ⟨z,rfl,R,D,Y,O⟩;have e:max (n+1) nrem=nrem:=by omega
    rw[e]at D Y O;rw[e];exact⟨nrem,z,rfl,hn,Qqj _,R,D,Y,O⟩
   ·rintro c t ⟨x,z,rfl,x1,x2,R,D,Y,O⟩;have w2:lo+x<=(arrOf t).size:=by rw[R.size]; omega
    refine'(λ(T:∀t,Rl lo st' t/\Dsg κ (arrOf t) lo (lo+x)->wpS M A E s _ Q t)=>qyg (λc=>Qw (Zf (T _ ⟨R.rev (i:=lo+x - (z+1)) (j:=lo+x) (by omega) w2,D.like (KK_mirror_equal w2 O)⟩))) λc=>T t ⟨R,D⟩) λt ⟨R,D⟩=>?_
    have w3:lo+x<=(arrOf t).size:=by rw[R.size]; omega
    refine Qw (Zf (qhu (P:=λt=>Rl lo st' t/\Seg κ (arrOf t) lo (lo+x)) ⟨R.rev (i:=lo) (j:=lo+x) (Qqj _) w3,D.flip w3⟩ λt2 ⟨R2,S2⟩=>?_));have kt:=R2.kind.trans hk;have kk:=R2.keys ho;have sz:=R2.size
    refine Qw (Zr (Zq (a:=x) (b:=nrem) (I:=λy c t=>t=t2/\c=(none,y)/\Seg κ (arrOf t2) lo (lo+y))
     (Q:=λc t=>t=t2/\∃y,c=(none,y)/\1<=y/\y<=nrem/\Seg κ (arrOf t2) lo (lo+y)) ?_ ?_ ⟨rfl,rfl,S2⟩) ?_)
    ·rintro y c t y1 y2 ⟨rfl,rfl,F⟩;refine Qw (qby L (i:=lo+y) (j:=lo+y - 1) kt kk (by omega) (by omega) ?_);cases e:κ.blt (KK κ (arrOf t) (lo+y)) (KK κ (arrOf t) (lo+y - 1))
     ·exact Qc ⟨rfl,rfl,F.more (by omega) e⟩
     ·exact Qc ⟨rfl,y,rfl,by omega,Qxf y2,F⟩
    ·rintro c t ⟨rfl,rfl,F⟩;have e:max x nrem=nrem:=by omega
     rw[e]at F;rw[e];exact⟨rfl,nrem,rfl,h1,Qqj _,F⟩
    ·rintro c t ⟨rfl,y,rfl,y1,y2,F⟩;exact Qc (h y _ R2 y1 y2 F)
end
end TS
end
section
open PySem PyProof.Rows
namespace TS
section
variable {M:Model}{A:Qv}{E:Value->Qz->Prop}{s:Qz}{κ:KeyKind}{k0:SortKind}
theorem bin_ok(L:LtR M A E s κ k0){st:Qm}{lo n ok:Nat}{Q:Bool->Qm->Prop}(hk:kindOf st=k0)(ho:KeysOf κ (arrOf st))(hz:lo+n<=(arrOf st).size)(h1:ok<=n)(sg:Seg κ (arrOf st) lo (lo+ok))
  (h:∀st',Rl lo st st'->Seg κ (arrOf st') lo (lo+n)->Q true st'):wpS M A E s (binarySort' lo n ok) Q st:=by
 unfold binarySort';refine Qw (Zr (Zq (I:=λk c t=>c=(none,())/\Rl lo st t/\Seg κ (arrOf t) lo (lo+min k n)) (Q:=λc t=>c=(none,())/\Rl lo st t/\Seg κ (arrOf t) lo (lo+n)) ?_ ?_ ⟨rfl,Rl.refl _ _,?_⟩) ?_)
 ·rintro k c t k1 k2 ⟨rfl,R,S⟩;rw[Nat.min_eq_left (Qxf k2)]at S;have kt:=R.kind.trans hk;have kk:=R.keys ho;have sz:=R.size;have w1:lo+k<(arrOf t).size:=by omega
  refine Qw (Zr (Zq (I:=λx c z=>z=t/\∃l r,c=(none,l,r)/\l<=r/\r<=k/\r - l<=k - x/\(∀i,i<l->κ.kle (KK κ (arrOf t) (lo+i)) (KK κ (arrOf t) (lo+k)))/\(∀i,r<=i->i<k->κ.klt (KK κ (arrOf t) (lo+k)) (KK κ (arrOf t) (lo+i))))
   (Q:=λc z=>z=t/\∃l,c=(none,l,l)/\l<=k/\(∀i,i<l->κ.kle (KK κ (arrOf t) (lo+i)) (KK κ (arrOf t) (lo+k)))/\(∀i,l<=i->i<k->κ.klt (KK κ (arrOf t) (lo+k)) (KK κ (arrOf t) (lo+i)))) ?_ ?_
   ⟨rfl,0,k,rfl,Qzu _,Qqj _,Qqj _,λi hi=>absurd hi (Nat.not_lt_zero i),λi F J=>absurd J (Nat.not_lt.mpr F)⟩) ?_)
  ·rintro x c z _ x2 ⟨rfl,l,r,rfl,a1,Y,a3,U,O⟩
   by_cases g:l >= r
   ·have:l=r:=by omega
    subst this;exact qxi g (Qc ⟨rfl,l,rfl,Y,U,O⟩)
   ·refine qjk g (Qw (qby L (i:=lo+k) (j:=lo+(l+r) / 2) kt kk w1 (by omega) ?_));cases e:κ.blt (KK κ (arrOf z) (lo+k)) (KK κ (arrOf z) (lo+(l+r) / 2))
    ·have n1:(l+r) / 2+1<=r:=by omega
     have n2:r - ((l+r) / 2+1)<=k - (x+1):=by omega
     have Z:∀i,i<(l+r) / 2+1->κ.kle (KK κ (arrOf z) (lo+i)) (KK κ (arrOf z) (lo+k)):=λi F=>KeyOrd.kle_trans (S (lo+i) (lo+(l+r) / 2) (by omega) (by omega) (by omega)) (show κ.kle _ _ from e);exact qjk (by decide) (Qc ⟨rfl,_,r,rfl,n1,Y,n2,Z,O⟩)
    ·have n1:l<=(l+r) / 2:=by omega
     have n2:(l+r) / 2 - l<=k - (x+1):=by omega
     have n3:(l+r) / 2<=k:=by omega
     have Z:∀i,(l+r) / 2<=i->i<k->κ.klt (KK κ (arrOf z) (lo+k)) (KK κ (arrOf z) (lo+i)):=λi F J=>KeyOrd.klt_of_klt_of_kle (show κ.klt _ _ from e) (S (lo+(l+r) / 2) (lo+i) (by omega) (by omega) (by omega));exact qxi rfl (Qc ⟨rfl,l,_,rfl,n1,n3,n2,U,Z⟩)
  ·rintro c z ⟨rfl,l,r,rfl,a1,Y,a3,U,O⟩;have:l=r:=by omega
   subst this;exact⟨rfl,l,rfl,Y,U,O⟩
  ·rintro c z ⟨rfl,l,rfl,Y,U,O⟩;refine Qw (Zf ?_);refine Qc (a:=ForInStep.yield (none,())) ⟨rfl,R.bub (k:=lo+k) (d:=lo+k - (lo+l)) (by omega) (by omega) w1,?_⟩;rw[show min (k+1) n=k+1 by omega];clear hz h1 k1 k2 h sg ho kk kt hk;intro i j F J i3;show κ.kle (KK κ (bubble (arrOf z) (lo+k) (lo+k - (lo+l))) i) (KK κ (bubble (arrOf z) (lo+k) (lo+k - (lo+l))) j);rw[KK_bubble w1 (by omega),KK_bubble w1 (by omega),show lo+k - (lo+k - (lo+l))=lo+l by omega];obtain⟨u,rfl⟩:=Qkz F;obtain⟨v,rfl⟩:=Qkz (Qzh F J);clear sz w1 F
   by_cases c1:lo+u=lo+l
   ·rw[Z3 c1]
    by_cases c2:lo+v=lo+l
    ·rw[Z3 c2]; exact KeyOrd.kle_refl _
    ·rw[Z2 c2,Z3 (by omega)];have:=O (v - 1) (by omega) (by omega);rw[show lo+v - 1=lo+(v - 1) by omega];exact KeyOrd.kle_of_klt this
   ·rw[Z2 c1]
    by_cases c2:lo+v=lo+l
    ·rw[Z3 c2,Z2 (by omega)];exact U u (by omega)
    ·rw[Z2 c2]
     by_cases c3:lo+l<lo+u/\lo+u<=lo+k
     ·rw[Z3 c3,Z3 (by omega)];exact S _ _ (by omega) (by omega) (by omega)
     ·rw[Z2 c3]
      by_cases c4:lo+l<lo+v/\lo+v<=lo+k
      ·rw[Z3 c4];exact S _ _ (by omega) (by omega) (by omega)
      ·rw[Z2 c4];exact S _ _ (by omega) (by omega) (by omega)
 ·rintro c t ⟨rfl,R,S⟩;refine⟨rfl,R,?_⟩;rwa [show min (max (max ok 1) n) n=n by omega]at S
 ·intro i j F J i3
  by_cases c:ok=0
  ·have:i=j:=by omega
   subst this; exact KeyOrd.kle_refl _
  ·exact sg i j F J (by omega)
 ·rintro c t ⟨rfl,R,S⟩;exact Qc (h t R S)
end
end TS
end
section
open PySem PyProof.Rows
namespace TS
section
variable {M:Model}{A:Qv}{E:Value->Qz->Prop}{s:Qz}{κ:KeyKind}{k0:SortKind}
theorem srt_ok(L:LtR M A E s κ k0){st:Qm}{Q:Unit->Qm->Prop}(hk:kindOf st=k0)(ho:KeysOf κ (arrOf st))(hf:failedOf st=none)(hp:Zn st=#[])(h1:1<=(arrOf st).size)(O:(arrOf st).size<64)
  (h:∀t,(arrOf t).Perm (arrOf st)->failedOf t=none->Seg κ (arrOf t) 0 (arrOf st).size->Q () t):wpS M A E s sortRuns' Q st:=by
 have J:minRun' (arrOf st).size (arrOf st).size 0=(arrOf st).size:=by
  obtain⟨f,e⟩:∃f,(arrOf st).size=f+1:=⟨(arrOf st).size - 1,by omega⟩
  generalize (arrOf st).size=n at e O;subst e;rw[minRun'_succ,Z3 O]
 let Z:Qm->Prop:=λt=>(arrOf t).Perm (arrOf st)/\failedOf t=none/\(Zn t).size=1/\Seg κ (arrOf t) 0 (arrOf st).size
 have U:∀{t:Qm}{n:Nat},n=(arrOf st).size->Rl 0 st t->Seg κ (arrOf t) 0 (0+n)->Z (SortSt.mk' (kindOf t) (arrOf t) ((Zn t).push (0,n,0)) (gallopOf t) (failedOf t)):=λ{t n} e R S=>
  ⟨R.perm,R.fail.trans hf,by show((Zn t).push _).size=1; rw[R.pend,hp]; rfl,by rw[Qxl,e]at S; exact S⟩
 unfold sortRuns';refine Qw (wpS_get ?_);refine Qw (Zr (Zq (a:=0) (b:=(arrOf st).size) (I:=λx c t=>(x=0/\c=(none,0)/\t=st)\/(1<=x/\c=(none,(arrOf st).size)/\Z t)) (Q:=λc t=>c=(none,(arrOf st).size)/\Z t) ?_ ?_ (.inl ⟨rfl,rfl,rfl⟩)) ?_)
 ·rintro x c t _ x2 (⟨rfl,rfl,rfl⟩|⟨_,rfl,D⟩)
  ·refine qjk (by show ¬ 0 >= (arrOf t).size; omega) ?_;refine Qw (cnt_ok L (lo:=0) (nrem:=(arrOf t).size - 0) hk ho (by omega) (by omega) λm t1 z m1 m2 Y=>?_);have b1:∀{t2:Qm},Rl 0 t t2->(Zn t2).back?=none:=λR=>by rw[R.pend,hp]; rfl
   refine qyg (λc=>?_) λc=>?_
   ·refine Qw (wpS_lift (Zj ⟨rfl,?_⟩));have e0:min ((arrOf t).size - 0) (minRun' (arrOf t).size (arrOf t).size 0)=(arrOf t).size:=by rw[J]; omega
    refine Qw (bin_ok L (lo:=0) (n:=min ((arrOf t).size - 0) (minRun' (arrOf t).size (arrOf t).size 0)) (ok:=m) (z.kind.trans hk) (z.keys ho) (by rw[z.size]; omega) (by omega) Y λt2 R2 S2=>qjk (by decide) ?_);have R:Rl 0 t t2:=⟨R2.kind.trans z.kind,R2.pend.trans z.pend,R2.fail.trans z.fail,R2.perm.trans z.perm,λj hj=>absurd hj (Nat.not_lt_zero _)⟩
    refine Qw (wpS_get ?_)
    split
    ·rename_i e; have:=b1 R; rw[e]at this; cases this
    ·exact Qw (Zf (Qc (.inr ⟨by omega,congrArg (Prod.mk none) ((Qxl _).trans e0),U e0 R S2⟩)))
   ·have hm:m=(arrOf t).size:=by
     have c:¬ m<minRun' (arrOf t).size (arrOf t).size 0:=c;rw[J]at c;omega
    rw[hm]at Y;rw[hm];refine Qw (wpS_get ?_)
    split
    ·rename_i e; have:=b1 z; rw[e]at this; cases this
    ·exact Qw (Zf (Qc (.inr ⟨by omega,congrArg (Prod.mk none) (Qxl _),U rfl z Y⟩)))
  ·exact qxi (Qqj _) (Qc ⟨rfl,D⟩)
 ·rintro c t (⟨hx,_⟩|⟨_,rfl,D⟩)
  ·omega
  ·exact⟨rfl,D⟩
 ·rintro c t ⟨rfl,D⟩;refine Qw (Zr (Zq (a:=0) (b:=(arrOf st).size) (I:=λ_ c F=>F=t/\c=(none,())) (Q:=λc F=>F=t/\c=(none,())) ?_ (λ_ _ q=>q) ⟨rfl,rfl⟩) ?_)
  ·rintro x c F _ _ ⟨rfl,rfl⟩;exact Qw (wpS_get (qxi (by rw[D.2.2.1]; exact Qqj 1) (Qc ⟨rfl,rfl⟩)))
  ·rintro c F ⟨rfl,rfl⟩;exact Qc (h _ D.1 D.2.1 D.2.2.2)
end
end TS
end
section
open PySem PyProof.Rows PySem.W
namespace TS
noncomputable def pk(h:Heap):Value->Option (Int×Int)
 |.ref a=>(h.get? a).bind λo=>match o.data with
  |.seq its _=>match its.toList with
   |[.int x _,.int y _]=>some (x,y)
   |_=>none
  |_=>none
 |_=>none
noncomputable def plt(a b:Int×Int):Bool:=decide (a.1<b.1)||(decide (a.1=b.1)&&decide (a.2<b.2))
theorem plt_iff{a b:Int×Int}:plt a b=true↔a.1<b.1\/(a.1=b.1/\a.2<b.2):=by
 unfold plt;simp only[Qzy,Qqm,decide_eq_true_eq]
noncomputable def pO:KeyOrd where
 α:=Int×Int
 blt:=plt
 irrefl a:=by
  cases h:plt a a
  ·rfl
  ·rw[plt_iff]at h; omega
 trans a b c h g:=by
  rw[plt_iff]at *; omega
 negTrans a b c h:=by
  rw[plt_iff]at *;rw[plt_iff]; omega
 total a b h g:=by
  have h':¬ plt a b=true:=by rw[h]; decide
  have g':¬ plt b a=true:=by rw[g]; decide
  rw[plt_iff]at h' g';exact Prod.ext (by omega) (by omega)
noncomputable def pK(h:Heap):KeyKind:={ pO with keyOf:=pk h,dflt:=(0,0) }
theorem pk_el{h:Heap}{v:Value}{k:Int×Int}(e:pk h v=some k):∃a o j n t u,v=.ref a/\h.get? a=some o/\o.data=.seq j n/\j.toList=[.int k.1 t,.int k.2 u]:=by
 unfold pk at e
 split at e
 ·rename_i a;obtain⟨o,F,e⟩:=Qx6.mp e
  split at e
  ·rename_i j n hd
   split at e
   ·rename_i x t y u z;cases e;exact⟨a,o,j,n,t,u,rfl,F,hd,z⟩
   ·cases e
  ·cases e
 ·cases e
theorem pk_mk{h:Heap}{a:Addr}{o:Obj}{j:Array Value}{n:Nat}{x y:Int}{t u:Tok}(e:h.get? a=some o)(d:o.data=.seq j n)(l:j.toList=[.int x t,.int y u]):pk h (.ref a)=some (x,y):=by
 unfold pk;simp only[e,oBs,d,l]
section
variable {prog:Program}{w:Qk}{A:Qv}{E:Value->Qz->Prop}{s:Qz}
theorem qlg{x y:Value}{a b:Int×Int}(U:pk s.heap x=some a)(O:pk s.heap y=some b){Q:Bool->Qz->Prop}(h:Q (plt a b) s):wpAny (model prog w) A (keyLt' (tuples' true) x y) Q E s:=by
 obtain⟨p,o,F,n,t,u,rfl,Z,d1,L⟩:=pk_el U;obtain⟨p',o',j,n',t',u',rfl,Y,d2,J⟩:=pk_el O;refine kat_lt Z d1 Y d2 ?_;rw[L,J];refine kat_cons (wpAny_eqBool_int (kat_go (λc=>kat_yes ?_) λc=>kat_no (oneLt_int ?_)))
 ·have c1:a.1=b.1:=by simpa using c
  refine kat_cons (wpAny_eqBool_int (kat_go (λc=>kat_yes (kat_nil ?_)) λc=>kat_no (kat_one _ _ (lt_int (show Q _ s from ?_)))))
  ·have c2:a.2=b.2:=by simpa using c
   have z:F.size=j.size:=by rw[<- Qzb,<- Qzb,L,J]; rfl
   have e:plt a b=decide (F.size<j.size):=by
    rw[z,Z1 (Qz9 _)];unfold plt;rw[Z1 (by omega),Z1 (show ¬ a.2<b.2 by omega)];simp
   rw[<- e];exact h
  ·have e:plt a b=decide (a.2<b.2):=by
    unfold plt;rw[Z1 (show ¬ a.1<b.1 by omega),Z0 c1];simp
   rw[<- e];exact h
 ·have c1:a.1≠b.1:=by simpa using c
  have e:plt a b=decide (a.1<b.1):=by
   unfold plt;rw[Z1 c1];simp
  rw[<- e];exact h
theorem qf7:LtR (model prog w) A E s (pK s.heap) (tuples' true):=by
 intro x y a b z j Q st F h;rw[lt'_eq];refine Qw (wpS_get ?_);rw[F];refine Qw (wpS_lift (wpAny_attempt (qlg (a:=a) (b:=b) z j ⟨rfl,?_⟩)));exact Qc h
end
end TS
end
section
open PySem PyProof.Rows PySem.W
namespace TS
def Pr(h:Heap)(v:Value):Prop:=∃a o its n x y t u,v=.ref a/\h.get? a=some o/\o.cls=.type "tuple"/\o.data=.seq its n/\its.toList=[.int x t,.int y u]
theorem Pr.key{h:Heap}{v:Value}(p:Pr h v):∃k,pk h v=some k:=by
 obtain⟨a,o,j,n,x,y,t,u,rfl,e,_,d,l⟩:=p;exact⟨_,pk_mk e d l⟩
theorem Pr.to{h h':Heap}{v:Value}(p:Pr h v)(k:∀b o,h.get? b=some o->o.cls=.type "tuple"->h'.get? b=some o):Pr h' v/\pk h' v=pk h v:=by
 obtain⟨a,o,j,n,x,y,t,u,rfl,e,c,d,l⟩:=p;exact⟨⟨a,o,j,n,x,y,t,u,rfl,k a o e c,c,d,l⟩,by rw[pk_mk (k a o e c) d l,pk_mk e d l]⟩
theorem qb3{h:Heap}:∀(vs:List Value),(∀v∈vs,Pr h v)->∃fs,KatTups h vs fs/\fs.length=vs.length/\∀f∈fs,∃x t,f=Value.int x t
 |[],_=>⟨[],KatTups.nil,rfl,λf hf=>nomatch hf⟩
 |v::vs,p=>by
  obtain⟨fs,k,e,g⟩:=qb3 vs λv z=>p v (Qqn _ z);obtain⟨a,o,j,n,x,y,t,u,rfl,F,c,d,l⟩:=p v Qq0;have J:j[0]?=some (.int x t):=by rw[<- Qqu,l]; rfl
  refine⟨.int x t::fs,KatTups.cons F c d J k,by rw[Qqh,e]; rfl,λf hf=>?_⟩;rcases Qqc.mp hf with rfl|hf
  ·exact⟨x,t,rfl⟩
  ·exact g f hf
def Up(h:Heap)(vs:List Value):Prop:=vs.Pairwise λa b=>pO.kle ((pk h a).getD (0,0)) ((pk h b).getD (0,0))
theorem Up.like{h h':Heap}{vs:List Value}(u:Up h vs)(e:∀v∈vs,pk h' v=pk h v):Up h' vs:=by
 refine List.Pairwise.imp_of_mem (λ{a b} z j q=>?_) u;rw[e a z,e b j]; exact q
theorem qbq{h:Heap}{vs:List Value}(p:∀v∈vs,Pr h v):KeysOf (pK h) (Zz vs):=λq j=>by
 rw[pairsOf_toList]at j;exact(p _ (mem_zip_self j).2).key
theorem out_of{h:Heap}{vs:List Value}{xs:Array Q7}(J:xs.Perm (Zz vs))(L:Seg (pK h) xs 0 (Zz vs).size):(xs.map (·.2)).toList.Perm vs/\Up h (xs.map (·.2)).toList:=by
 have q:xs.toList.Perm (vs.zip vs):=by rw[<- pairsOf_toList]; exact Qjm.mp J
 have e:(xs.map (·.2)).toList=xs.toList.map (·.1):=by
  rw[Array.toList_map];exact Qq6 λp J=>(mem_zip_self (q.mem_iff.mp J)).1.symm
 rw[e];constructor
 ·have:=q.map Prod.fst;rwa [List.map_fst_zip (Qqj _)]at this
 ·unfold Up;rw[Qz2,Qxt];intro i j hi O U;have F:j<xs.size:=by rw[<- Qzb]; exact O
  have z:=L i j (Qzu _) (by omega) (by rw[<- J.size_eq]; exact F);rw[qe1 (by omega),qe1 F]at z;simp only[Array.getElem_toList];exact z
section
variable {prog:Program}{w:Qk}{A:Qv}{E:Value->Qz->Prop}{s:Qz}
theorem qa5{a:Addr}{vs:List Value}{n:Nat}{P:PySem.Fin->Qz->Prop}(Y:s.heap.get? a=some (Zd "list" vs.toArray n))(pr:∀v∈vs,Pr s.heap v)(hz:vs.length<=sizeLine)(a0:vs.length<64)
  (h:∀out:Array Value,out.toList.Perm vs->Up s.heap out.toList->P (.done (.ret .none)) { s with heap:=sortedHeap s.heap a vs out }):wpAny (model prog w) A (Zx.«list.sort» ⟨[.ref a],[]⟩) P E s:=by
 rw[list_sort_plain];have ha:=Qqd Y;obtain⟨e1,U⟩:∃e,(s.heap.update a (Obj.mapSeq λ_=>#[])).get? a=some (Zd "list" #[] e):=⟨_,get?_update_seq Y _⟩
 refine Qq (listItems_at Y rfl (Qq (listUpdate_at Y rfl (Qq (seqEpoch_at U rfl (Qq (wpAny_newTuple (Qq (wpAny_newList (Q3 ?_))))))))));generalize hH:((s.heap.update a (Obj.mapSeq λ_=>#[])).push (Zd "tuple" vs.toArray 0)).push (Zd "list" #[] 0)=z;have hS:∀b o,s.heap.get? b=some o->b≠a->z.get? b=some o:=λb o e ne=>by
  rw[<- hH];exact Qqz _ (Qqz _ (by rw[Heap.get?_update_ne _ _ _ _ ne]; exact e))
 have F:z.get? a=some (Zd "list" #[] e1):=by
  rw[<- hH];exact Qqz _ (Qqz _ U)
 have hk:∀b o,s.heap.get? b=some o->o.cls=.type "tuple"->z.get? b=some o:=λb o e c=>hS b o e λx=>by
  subst x;rw[Y]at e;cases e;have c:Value.type "list" = Value.type "tuple":=c;injection c with c;exact absurd c (by decide)
 have a4:∀out:Array Value,out.toList.Perm vs->Up z out.toList->P (.done (.ret .none)) { s with heap:=z.update a (Obj.mapSeq λ_=>out) }:=λout o1 o2=>by
  rw[<- hH];exact h out o1 (o2.like λv O=>((pr v (o1.mem_iff.mp O)).to hk).2.symm)
 have L:∀v∈vs,Pr z v:=λv O=>((pr v O).to hk).1;have ps:vs.toArray.zip vs.toArray=Zz vs:=rfl;rw[ps];have J:∀st:Qm,failedOf st=none->(arrOf st).Perm (Zz vs)->Seg (pK z) (arrOf st) 0 (Zz vs).size->((arrOf st).map (·.2)).size<=sizeLine/\P (.done (.ret .none)) { s with heap:=z.update a (Obj.mapSeq λ_=>(arrOf st).map (·.2)) }:=λst _ Z q3=>by
  have o:=out_of Z q3;exact⟨by rw[Array.size_map,Z.size_eq,pairsOf_size]; exact hz,a4 _ o.1 o.2⟩
 have vz:vs.toArray.size=vs.length:=by simp
 by_cases h2:vs.toArray.size<2
 ·simp only[Z3 h2];refine Qq (Qj ?_);rw[StateT.run_pure];refine Qq (Qj ?_)
  have T:=J (SortSt.mk' general' (Zz vs) #[] 7 none) rfl (Array.Perm.refl _) (λi j _ h1 h3=>by
   have:i=j:=by rw[pairsOf_size]at h3; omega
   subst this; exact KeyOrd.kle_refl _)
  refine Qq (seqEpoch_at F rfl (Qq (listUpdate_at F rfl ?_ (hsz2:=Qjr T.1))));simp only[bne_self_eq_false,Qqf,if_false];exact Qj T.2
 ·simp only[Z2 h2];obtain⟨fs,k1,k2,k3⟩:=qb3 vs L
  refine Qq (kat_kind (s:={ s with heap:=z }) (T:=.type "int") k1 (by omega) (λv O=>by
   obtain⟨x,t,rfl⟩:=k3 v O
   exact Looks.now) (by decide) ?_)
  have e0:tuples' (Value.type "int" != Value.type "tuple")=tuples' true:=rfl;rw[e0]
  refine Qq (Qf (srt_ok (qf7 (s:={ s with heap:=z })) (st:=SortSt.mk' (tuples' true) (Zz vs) #[] 7 none) (Q:=λ_ t=>failedOf t=none/\(arrOf t).Perm (Zz vs)/\Seg (pK z) (arrOf t) 0 (Zz vs).size)
   rfl (qbq L) rfl rfl (by show 1<=(Zz vs).size; rw[pairsOf_size]; omega) (by show(Zz vs).size<64; rw[pairsOf_size]; exact a0) λt a1 a2 a3=>⟨a2,a1,a3⟩) ?_ λ_ _ e=>e)
  rintro⟨⟨⟩,st⟩ s' ⟨rfl,q1,Z,q3⟩;have T:=J st q1 Z q3;refine Qq (seqEpoch_at F rfl (Qq (listUpdate_at F rfl ?_ (hsz2:=Qjr T.1))));dsimp only;rw[q1];simp only[bne_self_eq_false,Qqf,if_false];exact Qj T.2
theorem sorted_pairs{l:Addr}{vs:List Value}{Q:Value->Qz->Prop}(hl:s.heap.IsList l vs.toArray)(O:∀v∈vs,Pr s.heap v)(hz:vs.length<=sizeLine)(L:vs.length<64)
  (h:∀out:Array Value,out.toList.Perm vs->Up s.heap out.toList->Q (.ref (s.heap.objs.size+1)) { s with heap:=sortedAll s.heap vs out }):wpAny (model prog w) A (call (.builtin "sorted") [.ref l]) Q E s:=by
 refine Calls.call_function_entry kind_sorted plain_sorted entry_sorted (args_sorted1 _) (show wpAny _ _ (Zx.«sorted» _) _ _ _ from ?_);unfold Zx.«sorted»;refine Qq (m:=checkCount "sorted" 1 1 _) (Qj (Qq (collect_list hl (Qq (wpAny_newList ?_)))));have F:((s.heap.push (Zd "list" #[] 0)).update s.heap.objs.size (Obj.mapSeq (·++vs.toArray))).objs.size=s.heap.objs.size+1:=by rw[Heap.size_update,size_push']
 generalize Y:(s.heap.push (Zd "list" #[] 0)).update s.heap.objs.size (Obj.mapSeq (·++vs.toArray))=h1 at F;have hk:∀b o,s.heap.get? b=some o->h1.get? b=some o:=λb o e=>by
  rw[<- Y,Heap.get?_update_ne _ _ _ _ (Qq4 (Qqd e))];exact Qqz _ e
 have z:∀b o,s.heap.get? b=some o->(h1.push (Zd "list" vs.toArray 0)).get? b=some o:=λb o e=>Qqz _ (hk b o e);have j:(h1.push (Zd "list" vs.toArray 0)).get? (s.heap.objs.size+1)=some (Zd "list" vs.toArray 0):=by
  rw[<- F]; exact Qql _ rfl
 show wpAny _ _ _ _ _ { s with heap:=h1.push (Zd "list" vs.toArray 0) };rw[F];refine Qq (Q3 (Qs slot_list_sort ⟨_,j,rfl⟩ entry_list_sort (qa5 (s:={ s with heap:=h1.push (Zd "list" vs.toArray 0) }) j (λv J=>((O v J).to λb o e _=>z b o e).1) hz L λout U Z=>⟨_,rfl,?_⟩) (args_list_sort _)));refine Qj ⟨_,rfl,?_⟩;have g:=h out U (Z.like λv J=>((O v (U.mem_iff.mp J)).to λb o e _=>z b o e).2.symm);unfold sortedAll at g;rw[Y]at g;exact g
end
end TS
end
section
namespace M
open PySem (Str Operator CmpOp)
inductive D where
 |non|bl (b:Bool)|int (i:Int)|str (s:Str)|tup (ds:List D)|lst (ds:List D)|loc (l:Nat)
 deriving Inhabited
inductive Cell where
 |lst (w:Bool) (ds:List D)
 |dic (w:Bool) (kvs:List (D×D))
 |obj (C:Nat) (fs:List (Str×D))
 deriving Inhabited
abbrev Store:=List Cell
abbrev Sl:=List (Option D)
noncomputable def lim:Nat:=16777216
inductive Ty where
 |non|bl|int|str|tup|lst
 deriving DecidableEq
noncomputable def Ty.name:Ty->String
 |.non=>"NoneType"
 |.bl=>"bool"
 |.int=>"int"
 |.str=>"str"
 |.tup=>"tuple"
 |.lst=>"list"
inductive B where
 |len|min|max|tuple|list|all|sorted|any
inductive Mt where
 |append|extend
inductive T where
 |var (i:Nat)
 |tup (is:List Nat)
noncomputable def T.slots:T->List Nat
 |.var i=>[i]
 |.tup is=>is
inductive E where
 |var (i:Nat)
 |lit (d:D)
 |glo (x:Str) (d:D)
 |bin (op:Zl) (a b:E)
 |neg (a:E)
 |not (a:E)
 |cmp (op:Qt) (a b:E)
 |cmp2 (op op':Qt) (a b c:E)
 |and (a b:E)
 |or (a b:E)
 |ite (c a b:E)
 |tup (es:List E)
 |lst (es:List E)
 |idx (a b:E)
 |sli (a:E) (lo hi:Option E)
 |call (f:Nat) (es:List E)
 |bcall (f:B) (es:List E)
 |isi (a:E) (ts:List Ty) (many:Bool)
 |meth (a:E) (m:Mt) (es:List E)
 |gc (a:E)
 |rng1 (a:E)
 |rng2 (a b:E)
 |zip (a b:E)
 |dic (es:List E)
 |didx (a b:E)
 |din (neg:Bool) (a b:E)
 |gidx (x:Str) (ks:List Str) (ds:List D) (b:E)
 |gin (neg:Bool) (x:Str) (ks:List Str) (b:E)
 |lenset (a:E)
 |comp (t:T) (it:E) (test:Option E) (elt:E) (src:List (Option Nat))
 |attr (C:Nat) (a:E) (f:Str)
 |mcall (C f:Nat) (m:Str) (a:E) (es:List E)
 |new (C f:Nat) (es:List E)
inductive S where
 |set (t:T) (e:E)
 |dset (a i e:E)
 |setA (C:Nat) (a:E) (f:Str) (e:E)
 |ford (t:T) (a:E) (body:List S)
 |bad
 |expr (e:E)
 |ret (e:E)
 |ite (c:E) (a b:List S)
 |forr (t:T) (it:E) (body:List S)
structure Fn where
 np:Nat
 nl:Nat
 body:List S
mutual
noncomputable def eqT:D->D->Bool
 |.non,.non=>true
 |.bl a,.bl b=>a==b
 |.bl a,.int j=>(if a then 1 else 0)==j
 |.int i,.bl b=>i==(if b then 1 else 0)
 |.int i,.int j=>i==j
 |.str a,.str b=>a==b
 |.tup a,.tup b=>eqTs a b
 |_,_=>false
noncomputable def eqTs:List D->List D->Bool
 |[],[]=>true
 |a::as,b::bs=>eqT a b&&eqTs as bs
 |_,_=>false
end
mutual
/-- no place of the store within,at most n deep -/
noncomputable def flat:Nat->D->Bool
 |_,.loc _=>false
 |_,.lst _=>false
 |0,.tup _=>false
 |n+1,.tup ds=>flats n ds
 |_,_=>true
noncomputable def flats:Nat->List D->Bool
 |_,[]=>true
 |n,d::ds=>flat n d&&flats n ds
end
noncomputable def mulOk(i j:Int):Bool:=(decide (-(2 ^ 64)<i)&&decide (i<2 ^ 64))||(decide (-(2 ^ 64)<j)&&decide (j<2 ^ 64))
noncomputable def listAt(st:Store)(l:Nat):Option (List D):=match st[l]? with|some (.lst _ ds)=>some ds|_=>none
noncomputable def wlistAt(st:Store)(l:Nat):Option (List D):=match st[l]? with|some (.lst true ds)=>some ds|_=>none
noncomputable def seqAt(st:Store):D->Option (List D)
 |.loc l=>listAt st l
 |.lst ds=>some ds
 |_=>none
mutual
/-- no place of the store within -/
noncomputable def noLoc:D->Bool
 |.loc _=>false
 |.tup ds=>noLocs ds
 |.lst ds=>noLocs ds
 |_=>true
noncomputable def noLocs:List D->Bool
 |[]=>true
 |d::ds=>noLoc d&&noLocs ds
end
mutual
/-- every place of the store within is one of the first n -/
noncomputable def lt(n:Nat):D->Bool
 |.loc l=>Nat.blt l n
 |.tup ds=>lts n ds
 |.lst ds=>lts n ds
 |_=>true
noncomputable def lts(n:Nat):List D->Bool
 |[]=>true
 |d::ds=>lt n d&&lts n ds
end
noncomputable def ltC(n:Nat):Cell->Bool
 |.lst _ ds=>lts n ds
 |.dic _ kvs=>kvs.all λp=>lt n p.2
 |.obj _ fs=>fs.all λp=>lt n p.2
noncomputable def gcX(n:Nat)(p:D×Store):D×Store:=
 if noLoc p.1 then(p.1,p.2.take n) else match p.1 with
  |.loc l=>if n<=l then(match p.2[l]? with
   |some (.lst true ds)=>if noLocs ds then(.lst ds,p.2.take n) else p
   |_=>p) else p
  |_=>p
open Classical in
noncomputable def gcD(st:Store)(p:D×Store):D×Store:=
 if (p.2.take st.length).all (ltC st.length)=true then gcX st.length p else if p.2.take st.length=st then gcX st.length p else p
noncomputable def dicAt(st:Store)(l:Nat):Option (List (D×D)):=match st[l]? with|some (.dic _ kvs)=>some kvs|_=>none
noncomputable def wdicAt(st:Store)(l:Nat):Option (List (D×D)):=match st[l]? with|some (.dic true kvs)=>some kvs|_=>none
noncomputable def objAt(st:Store)(C:Nat):D->Option (List (Str×D))
 |.loc l=>match st[l]? with|some (.obj C' fs)=>if C'=C then some fs else none|_=>none
 |_=>none
noncomputable def putA(f:Str)(v:D):List (Str×D)->List (Str×D)
 |[]=>[(f,v)]
 |(g,x)::r=>if g=f then(g,v)::r else(g,x)::putA f v r
noncomputable def keysOf(kvs:List (D×D)):List D:=kvs.map (·.1)
noncomputable def dkeys(st:Store):D->Option (List D)
 |.loc l=>(dicAt st l).map keysOf
 |_=>none
noncomputable def isKey:D->Bool
 |.int _=>true
 |.str _=>true
 |_=>false
noncomputable def dget(kvs:List (D×D))(k:D):Option D:=(kvs.find? λp=>eqT p.1 k).map (·.2)
noncomputable def dput(kvs:List (D×D))(k v:D):List (D×D):=if kvs.any λp=>eqT p.1 k then kvs.map (λp=>if eqT p.1 k then(p.1,v) else p) else kvs++[(k,v)]
noncomputable def pairUp:List D->Option (List (D×D))
 |[]=>some []
 |k::v::r=>if isKey k then(pairUp r).map ((k,v)::·) else none
 |_=>none
noncomputable def dall(kvs:List (D×D)):List (D×D):=kvs.foldl (λacc p=>dput acc p.1 p.2) []
noncomputable def alloc(st:Store)(c:Cell):D×Store:=(.loc st.length,st++[c])
noncomputable def binop(st:Store):Zl->D->D->Option (D×Store)
 |.Add,.int i,.int j=>some (.int (i+j),st)
 |.Add,.tup a,.tup b=>if a.isEmpty||decide (lim<a.length+b.length) then none else some (.tup (a++b),st)
 |.Add,a,b=>(seqAt st a).bind λx=>(seqAt st b).bind λy=>if lim<x.length+y.length then none else some (alloc st (.lst true (x++y)))
 |.Sub,.int i,.int j=>some (.int (i - j),st)
 |.Mult,.int i,.int j=>if mulOk i j then some (.int (i*j),st) else none
 |.Mult,.tup a,.int k=>if decide (k < -(2 ^ 62))||decide (2 ^ 62<=k)||decide (lim<a.length*k.toNat) then none else some (.tup (List.replicate k.toNat a).flatten,st)
 |.Mult,.loc l,.int k=>(wlistAt st l).bind λa=>if decide (k < -(2 ^ 62))||decide (2 ^ 62<=k)||decide (lim<a.length*k.toNat) then none else some (alloc st (.lst true (List.replicate k.toNat a).flatten))
 |.FloorDiv,.int i,.int j=>if 0<j/\j<2 ^ 64 then some (.int (i / j),st) else none
 |.Mod,.int i,.int j=>if 0<j then some (.int (i % j),st) else none
 |.Pow,.int i,.int j=>if 0<=j/\j<=1000/\i.natAbs<2 ^ 64 then some (.int (i ^ j.toNat),st) else none
 |_,_,_=>none
noncomputable def addK(S:List (List Int))(k:List Int):List (List Int):=if k∈S then S else S++[k]
noncomputable def distinct(ks:List (List Int)):List (List Int):=ks.foldl addK []
noncomputable def keyD:D->Option (List Int)
 |.tup ds=>ds.mapM λd=>match d with|.int i=>some i|_=>none
 |_=>none
noncomputable def qvy:D->Option D
 |.tup ds=>(ds.mapM keyD).bind λks=>if ds.length<=16 then some (.int (distinct ks).length) else none
 |_=>none
noncomputable def ixN(n:Nat)(i:Int):Option Nat:=if 0<=i then(if i<n then some i.toNat else none) else if -(n:Int)<=i then some (i+n).toNat else none
noncomputable def atI{α:Type}(xs:List α)(i:Int):Option α:=(ixN xs.length i).bind λj=>xs[j]?
noncomputable def idxD(st:Store):D->D->Option D
 |.tup ds,.int i=>atI ds i
 |d,.int i=>(seqAt st d).bind λds=>atI ds i
 |_,_=>none
noncomputable def cutIx(n d:Nat):Option Int->Nat
 |none=>d
 |some v=>if v<0 then(v+(n:Int)).toNat else min v.toNat n
noncomputable def cut{α:Type}(xs:List α)(lo hi:Option Int):List α:=(xs.drop (cutIx xs.length 0 lo)).take (cutIx xs.length xs.length hi - cutIx xs.length 0 lo)
noncomputable def sliD(st:Store):D->Option Int->Option Int->Option (D×Store)
 |.tup ds,lo,hi=>some (.tup (cut ds lo hi),st)
 |d,lo,hi=>(seqAt st d).map λds=>alloc st (.lst true (cut ds lo hi))
noncomputable def inD(st:Store)(x:D):D->Option Bool
 |.tup ds=>if flat 9 x&&flats 9 ds then some (ds.any λy=>eqT y x) else none
 |d=>(seqAt st d).bind λds=>if flat 9 x&&flats 9 ds then some (ds.any λy=>eqT y x) else none
noncomputable def eqD(st:Store)(x y:D):Option Bool:=match seqAt st x,seqAt st y with
 |some a,some b=>if flats 9 a&&flats 9 b then some (eqTs a b) else none
 |_,_=>if flat 9 x&&flat 9 y then some (eqT x y) else none
noncomputable def isNon:D->Bool
 |.non=>true
 |_=>false
noncomputable def cmpD(st:Store):Qt->D->D->Option Bool
 |.Lt,.int i,.int j=>some (decide (i<j))
 |.LtE,.int i,.int j=>some (decide (i<=j))
 |.Gt,.int i,.int j=>some (decide (j<i))
 |.GtE,.int i,.int j=>some (decide (j<=i))
 |.Eq,x,y=>eqD st x y
 |.NotEq,.int i,.int j=>some (!(i==j))
 |.Is,x,.non=>some (isNon x)
 |.IsNot,x,.non=>some (!isNon x)
 |.In,x,y=>inD st x y
 |.NotIn,x,y=>(inD st x y).map (!·)
 |_,_,_=>none
noncomputable def tyName(st:Store):D->Option Ty
 |.non=>some .non
 |.bl _=>some .bl
 |.int _=>some .int
 |.str _=>some .str
 |.tup _=>some .tup
 |d=>(seqAt st d).map λ_=>.lst
noncomputable def tyIs(t n:Ty):Bool:=t==n||(t==.int&&n==.bl)
noncomputable def truth(st:Store):D->Option Bool
 |.non=>some false
 |.bl b=>some b
 |.int i=>some (i != 0)
 |.tup ds=>some (!ds.isEmpty)
 |d=>(seqAt st d).map λds=>!ds.isEmpty
noncomputable def insInt(x:Int):List Int->List Int
 |[]=>[x]
 |y::r=>if x<=y then x::y::r else y::insInt x r
noncomputable def sortInt:List Int->List Int
 |[]=>[]
 |x::r=>insInt x (sortInt r)
noncomputable def asInts:List D->Option (List Int)
 |[]=>some []
 |.int i::r=>(asInts r).map (i::·)
 |_=>none
noncomputable def asBools:List D->Option (List Bool)
 |[]=>some []
 |.bl i::r=>(asBools r).map (i::·)
 |_=>none
noncomputable def bLen(st:Store):List D->Option (D×Store)
 |[.tup ds]=>some (.int ds.length,st)
 |[d]=>(seqAt st d).map λds=>(.int ds.length,st)
 |_=>none
noncomputable def bMin(st:Store):List D->Option (D×Store)
 |[.int i,.int j]=>some (.int (if j<i then j else i),st)
 |_=>none
noncomputable def bMax(st:Store):List D->Option (D×Store)
 |[.int i,.int j]=>some (.int (if j > i then j else i),st)
 |_=>none
noncomputable def bTuple(st:Store):List D->Option (D×Store)
 |[.tup ds]=>some (.tup ds,st)
 |[d]=>(seqAt st d).map λds=>(.tup ds,st)
 |_=>none
noncomputable def bList(st:Store):List D->Option (D×Store)
 |[.tup ds]=>some (alloc st (.lst true ds))
 |[d]=>((seqAt st d).or (dkeys st d)).map λds=>alloc st (.lst true ds)
 |_=>none
noncomputable def bAll(st:Store):List D->Option (D×Store)
 |[d]=>(seqAt st d).bind λds=>(asBools ds).map λbs=>(.bl (bs.all id),st)
 |_=>none
noncomputable def bAny(st:Store):List D->Option (D×Store)
 |[d]=>(seqAt st d).bind λds=>(asBools ds).map λbs=>(.bl (bs.any id),st)
 |_=>none
noncomputable def asPairs:List D->Option (List (Int×Int))
 |[]=>some []
 |.tup [.int x,.int y]::r=>(asPairs r).map ((x,y)::·)
 |_=>none
noncomputable def leP(a b:Int×Int):Bool:=decide (a.1<b.1)||(decide (a.1=b.1)&&decide (a.2<=b.2))
noncomputable def insP(x:Int×Int):List (Int×Int)->List (Int×Int)
 |[]=>[x]
 |y::r=>if leP x y then x::y::r else y::insP x r
noncomputable def sortP:List (Int×Int)->List (Int×Int)
 |[]=>[]
 |x::r=>insP x (sortP r)
noncomputable def pI(p:Int×Int):D:=.tup [.int p.1,.int p.2]
noncomputable def bSorted(st:Store):List D->Option (D×Store)
 |[d]=>((seqAt st d).bind λds=>(if 64<=ds.length then none else asInts ds).map λns=>alloc st (.lst true ((sortInt ns).map .int))).or ((seqAt st d).bind λds=>(if 64<=ds.length then none else asPairs ds).map λps=>alloc st (.lst true ((sortP ps).map pI)))
 |_=>none
noncomputable def bfun(st:Store):B->List D->Option (D×Store)
 |.len=>bLen st
 |.min=>bMin st
 |.max=>bMax st
 |.tuple=>bTuple st
 |.list=>bList st
 |.all=>bAll st
 |.sorted=>bSorted st
 |.any=>bAny st
noncomputable def mAppend(st:Store):D->List D->Option (D×Store)
 |.loc l,[d]=>(wlistAt st l).bind λds=>if ds.length<lim then some (.non,st.set l (.lst true (ds++[d]))) else none
 |_,_=>none
noncomputable def mExtend(st:Store):D->List D->Option (D×Store)
 |.loc l,[d]=>(wlistAt st l).bind λds=>(match d with|.tup es=>some es|d=>seqAt st d).bind λes=>if ds.length+es.length<=lim then some (.non,st.set l (.lst true (ds++es))) else none
 |_,_=>none
noncomputable def mfun(st:Store):Mt->D->List D->Option (D×Store)
 |.append=>mAppend st
 |.extend=>mExtend st
noncomputable def Mt.ofList(_:Mt):Bool:=true
noncomputable def mty(st:Store)(m:Mt):D->Bool
 |.str _=>!m.ofList
 |d=>m.ofList&&(seqAt st d).isSome
inductive Out where
 |nx (τ:Sl)
 |rt (d:D)
 |bk (τ:Sl)
 |ct (τ:Sl)
structure R where
 ev:Sl->Store->E->Option (D×Store)
 tst:Sl->Store->E->Option (Bool×Store)
 ex:Sl->Store->List S->Option (Out×Store)
 call:Nat->List D->Store->Option (D×Store)
noncomputable def evs(f:Store->E->Option (D×Store)):List E->Store->Option (List D×Store)
 |[],st=>some ([],st)
 |e::es,st=>(f st e).bind λp=>(evs f es p.2).bind λq=>some (p.1::q.1,q.2)
noncomputable def setIs:List Nat->List D->Sl->Option Sl
 |[],[],τ=>some τ
 |i::is,d::ds,τ=>if i<τ.length then setIs is ds (τ.set i (some d)) else none
 |_,_,_=>none
noncomputable def setT:T->D->Sl->Option Sl
 |.var i,d,τ=>if i<τ.length then some (τ.set i (some d)) else none
 |.tup is,.tup ds,τ=>setIs is ds τ
 |_,_,_=>none
inductive Src where
 |tup (ds:List D)
 |lst (d:D)
 |rng (lo:Int) (n:Nat)
 |zip (a b:D)
noncomputable def rowAt(st:Store):D->Option (List D)
 |.tup ds=>some ds
 |d=>seqAt st d
noncomputable def pairAt(xs ys:List D)(i:Nat):Option D:=match xs[i]?,ys[i]? with
 |some x,some y=>some (.tup [x,y])
 |_,_=>none
noncomputable def Src.at(st:Store)(i:Nat):Src->Option (Option D)
 |.tup ds=>some ds[i]?
 |.lst d=>(seqAt st d).map λds=>ds[i]?
 |.rng lo n=>some (if i<n then some (.int (lo+i)) else none)
 |.zip a b=>(rowAt st a).bind λxs=>(rowAt st b).map λys=>pairAt xs ys i
noncomputable def Src.size(st:Store):Src->Nat
 |.tup ds=>ds.length
 |.lst d=>((seqAt st d).getD []).length
 |.rng _ n=>n
 |.zip a b=>min ((rowAt st a).getD []).length ((rowAt st b).getD []).length
noncomputable def big(i:Int):Bool:=decide (i < -(2 ^ 62))||decide (2 ^ 62<=i)
noncomputable def src(r:R)(τ:Sl)(st:Store):E->Option (Src×Store)
 |.rng1 a=>(r.ev τ st a).bind λp=>match p.1 with
  |.int n=>if big n then none else some (.rng 0 n.toNat,p.2)
  |_=>none
 |.rng2 a b=>(r.ev τ st a).bind λp=>(r.ev τ p.2 b).bind λq=>match p.1,q.1 with
  |.int i,.int j=>if big i||big j then none else some (.rng i (j - i).toNat,q.2)
  |_,_=>none
 |.zip a b=>(r.ev τ st a).bind λp=>(r.ev τ p.2 b).bind λq=>(rowAt q.2 p.1).bind λ_=>(rowAt q.2 q.1).map λ_=>(.zip p.1 q.1,q.2)
 |e=>(r.ev τ st e).bind λp=>match p.1 with
  |.tup ds=>some (.tup ds,p.2)
  |d=>(seqAt p.2 d).map λ_=>(.lst d,p.2)
noncomputable def loop(it:Src)(f:Sl->Store->D->Option (Out×Store)):Nat->Nat->Sl->Store->Option (Out×Store)
 |0,_,_,_=>none
 |k+1,i,τ,st=>(it.at st i).bind λo=>match o with
  |none=>some (.nx τ,st)
  |some d=>(f τ st d).bind λp=>match p.1 with
   |.nx τ'=>loop it f k (i+1) τ' p.2
   |.ct τ'=>loop it f k (i+1) τ' p.2
   |.bk τ'=>some (.nx τ',p.2)
   |.rt v=>some (.rt v,p.2)
noncomputable def turnC(r:R)(t:T)(test:Option E)(elt:E)(τ:Sl)(st:Store)(d:D):Option (Option D×Sl×Store):=
 (setT t d τ).bind λτ'=>match test with
  |none=>(r.ev τ' st elt).map λp=>(some p.1,τ',p.2)
  |some c=>(r.tst τ' st c).bind λb=>if b.1 then(r.ev τ' b.2 elt).map λp=>(some p.1,τ',p.2) else some (none,τ',b.2)
noncomputable def loopC(it:Src)(f:Sl->Store->D->Option (Option D×Sl×Store)):Nat->Nat->List D->Sl->Store->Option (List D×Store)
 |0,_,_,_,_=>none
 |k+1,i,acc,τ,st=>(it.at st i).bind λo=>match o with
  |none=>if lim<acc.length then none else some (acc,st)
  |some d=>if lim<=acc.length then none else(f τ st d).bind λp=>loopC it f k (i+1) (match p.1 with|some x=>acc++[x]|none=>acc) p.2.1 p.2.2
noncomputable def inner(src:List (Option Nat))(τ:Sl):Sl:=src.map λo=>o.bind λi=>(τ[i]?).bind id
noncomputable def part(r:R)(τ:Sl)(st:Store):Option E->Option (Option Int×Store)
 |none=>some (none,st)
 |some e=>(r.ev τ st e).bind λp=>match p.1 with
  |.int i=>some (some i,p.2)
  |_=>none
noncomputable def dinR(r:R)(τ:Sl)(st:Store)(neg:Bool)(a b:E):Option (D×Store):=
 (r.ev τ st a).bind λp=>(r.ev τ p.2 b).bind λq=>match q.1 with
  |.loc l=>(dicAt q.2 l).bind λkvs=>if isKey p.1 then some (.bl ((dget kvs p.1).isSome != neg),q.2) else none
  |_=>none
noncomputable def ginR(r:R)(τ:Sl)(st:Store)(neg:Bool)(ks:List Str)(b:E):Option (D×Store):=
 (r.ev τ st b).bind λp=>match p.1 with
  |.str z=>some (.bl (ks.contains z != neg),p.2)
  |_=>none
noncomputable def stepEv(r:R)(τ:Sl)(st:Store):E->Option (D×Store)
 |.var i=>match τ[i]? with
  |some (some d)=>some (d,st)
  |_=>none
 |.lit d=>some (d,st)
 |.glo _ d=>some (d,st)
 |.bin op a b=>(r.ev τ st a).bind λp=>(r.ev τ p.2 b).bind λq=>binop q.2 op p.1 q.1
 |.neg a=>(r.ev τ st a).bind λp=>match p.1 with
  |.int i=>some (.int (-i),p.2)
  |_=>none
 |.not a=>(r.ev τ st a).bind λp=>match p.1 with
  |.bl b=>some (.bl (!b),p.2)
  |_=>none
 |.cmp op a b=>(r.ev τ st a).bind λp=>(r.ev τ p.2 b).bind λq=>(cmpD q.2 op p.1 q.1).map λk=>(.bl k,q.2)
 |.cmp2 op op' a b c=>(r.ev τ st a).bind λp=>(r.ev τ p.2 b).bind λq=>(cmpD q.2 op p.1 q.1).bind λk=>
   if k then(r.ev τ q.2 c).bind λu=>(cmpD u.2 op' q.1 u.1).map λk'=>(.bl k',u.2) else some (.bl false,q.2)
 |.and a b=>(r.ev τ st a).bind λp=>match p.1 with
  |.bl true=>r.ev τ p.2 b
  |.bl false=>some (.bl false,p.2)
  |_=>none
 |.or a b=>(r.ev τ st a).bind λp=>match p.1 with
  |.bl false=>r.ev τ p.2 b
  |.bl true=>some (.bl true,p.2)
  |_=>none
 |.ite c a b=>(r.tst τ st c).bind λp=>if p.1 then r.ev τ p.2 a else r.ev τ p.2 b
 |.tup es=>(evs (r.ev τ) es st).bind λp=>if lim<p.1.length then none else some (.tup p.1,p.2)
 |.lst es=>(evs (r.ev τ) es st).bind λp=>if lim<p.1.length then none else some (alloc p.2 (.lst true p.1))
 |.idx a b=>(r.ev τ st a).bind λp=>(r.ev τ p.2 b).bind λq=>(idxD q.2 p.1 q.1).map λd=>(d,q.2)
 |.sli a lo hi=>(r.ev τ st a).bind λp=>(part r τ p.2 lo).bind λl=>(part r τ l.2 hi).bind λh=>sliD h.2 p.1 l.1 h.1
 |.call f es=>(evs (r.ev τ) es st).bind λp=>r.call f p.1 p.2
 |.bcall f es=>(evs (r.ev τ) es st).bind λp=>bfun p.2 f p.1
 |.isi a ts _=>(r.ev τ st a).bind λp=>(tyName p.2 p.1).map λn=>(.bl (ts.any λt=>tyIs t n),p.2)
 |.meth a m es=>(r.ev τ st a).bind λp=>if mty p.2 m p.1 then(evs (r.ev τ) es p.2).bind λq=>mfun q.2 m p.1 q.1 else none
 |.gc a=>(r.ev τ st a).map λp=>gcD st p
 |.rng1 _=>none
 |.rng2 _ _=>none
 |.zip _ _=>none
 |.dic es=>(evs (r.ev τ) es (st++[.dic true []])).bind λp=>match wdicAt p.2 st.length with
  |some []=>(pairUp p.1).bind λkvs=>if kvs.length<=15 then some (.loc st.length,p.2.set st.length (.dic true (dall kvs))) else none
  |_=>none
 |.didx a b=>(r.ev τ st a).bind λp=>(r.ev τ p.2 b).bind λq=>match p.1 with
  |.loc l=>(dicAt q.2 l).bind λkvs=>if isKey q.1 then(dget kvs q.1).map λd=>(d,q.2) else none
  |_=>none
 |.din neg a b=>dinR r τ st neg a b
 |.gidx _ ks ds b=>(r.ev τ st b).bind λp=>match p.1 with
  |.str z=>((ks.zip ds).find? λq=>q.1==z).map λq=>(q.2,p.2)
  |_=>none
 |.gin neg _ ks b=>ginR r τ st neg ks b
 |.lenset a=>(r.ev τ st a).bind λp=>(qvy p.1).map λd=>(d,p.2)
 |.comp t it test elt sr=>(src r τ st it).bind λp=>
   (loopC p.1 (turnC r t test elt) (p.1.size p.2+1) 0 [] (inner sr τ) p.2).map λq=>alloc q.2 (.lst true q.1)
 |.attr C a f=>(r.ev τ st a).bind λp=>(objAt p.2 C p.1).bind λfs=>(fs.lookup f).map λd=>(d,p.2)
 |.mcall C f m a es=>(r.ev τ st a).bind λp=>(objAt p.2 C p.1).bind λfs=>if (fs.lookup m).isSome then none else(evs (r.ev τ) es p.2).bind λq=>r.call f (p.1::q.1) q.2
 |.new C f es=>(evs (r.ev τ) es st).bind λp=>(r.call f (.loc p.2.length::p.1) (p.2++[.obj C []])).bind λq=>if isNon q.1 then some (.loc p.2.length,q.2) else none
noncomputable def stepTst(r:R)(τ:Sl)(st:Store):E->Option (Bool×Store)
 |.not a=>(r.tst τ st a).map λp=>(!p.1,p.2)
 |.and a b=>(r.tst τ st a).bind λp=>if p.1 then r.tst τ p.2 b else some (false,p.2)
 |.or a b=>(r.tst τ st a).bind λp=>if p.1 then some (true,p.2) else r.tst τ p.2 b
 |.ite _ _ _=>none
 |.din neg a b=>(dinR r τ st neg a b).bind λp=>(truth p.2 p.1).map λk=>(k,p.2)
 |.gin neg _ ks b=>(ginR r τ st neg ks b).bind λp=>(truth p.2 p.1).map λk=>(k,p.2)
 |.cmp op a b=>(r.ev τ st a).bind λp=>(r.ev τ p.2 b).bind λq=>(cmpD q.2 op p.1 q.1).map λk=>(k,q.2)
 |.cmp2 op op' a b c=>(r.ev τ st a).bind λp=>(r.ev τ p.2 b).bind λq=>(cmpD q.2 op p.1 q.1).bind λk=>
   if k then(r.ev τ q.2 c).bind λu=>(cmpD u.2 op' q.1 u.1).map λk'=>(k',u.2) else some (false,q.2)
 |e=>(r.ev τ st e).bind λp=>(truth p.2 p.1).map λk=>(k,p.2)
noncomputable def stepEx(r:R)(τ:Sl)(st:Store):S->Option (Out×Store)
 |.set t e=>(r.ev τ st e).bind λp=>(setT t p.1 τ).map λτ'=>(.nx τ',p.2)
 |.dset a i e=>(r.ev τ st e).bind λp=>(r.ev τ p.2 a).bind λq=>(r.ev τ q.2 i).bind λu=>match q.1 with
  |.loc l=>(wdicAt u.2 l).bind λkvs=>if isKey u.1&&decide (kvs.length<lim) then some (.nx τ,u.2.set l (.dic true (dput kvs u.1 p.1))) else none
  |_=>none
 |.setA C a f e=>(r.ev τ st e).bind λp=>(r.ev τ p.2 a).bind λq=>(objAt q.2 C q.1).bind λfs=>match q.1 with
  |.loc l=>if fs.length<900 then some (.nx τ,q.2.set l (.obj C (putA f p.1 fs))) else none
  |_=>none
 |.ford t a body=>(r.ev τ st a).bind λp=>match p.1 with
  |.loc l=>(wdicAt p.2 l).bind λkvs=>(loop (.tup (keysOf kvs)) (λτ st d=>(setT t d τ).bind λτ'=>r.ex τ' st body) (kvs.length+1) 0 τ (p.2.set l (.dic false kvs))).bind λq=>
   match q.2[l]? with
   |some (.dic false kvs')=>some (q.1,q.2.set l (.dic true kvs'))
   |_=>none
  |_=>none
 |.bad=>none
 |.expr e=>(r.ev τ st e).map λp=>(.nx τ,p.2)
 |.ret e=>(r.ev τ st e).map λp=>(.rt p.1,p.2)
 |.ite c a b=>(r.tst τ st c).bind λp=>if p.1 then r.ex τ p.2 a else r.ex τ p.2 b
 |.forr t it body=>(src r τ st it).bind λp=>
   loop p.1 (λτ st d=>(setT t d τ).bind λτ'=>r.ex τ' st body) (p.1.size p.2+1) 0 τ p.2
noncomputable def exs(f:Sl->Store->S->Option (Out×Store)):List S->Sl->Store->Option (Out×Store)
 |[],τ,st=>some (.nx τ,st)
 |s::ss,τ,st=>(f τ st s).bind λp=>match p.1 with
  |.nx τ'=>exs f ss τ' p.2
  |o=>some (o,p.2)
noncomputable def stepCall(fns:List Fn)(r:R)(f:Nat)(ds:List D)(st:Store):Option (D×Store):=
 match fns[f]? with
 |some F=>if ds.length=F.np then(r.ex (ds.map some++List.replicate (F.nl - ds.length) none) st F.body).bind λp=>match p.1 with
   |.rt d=>some (d,p.2)
   |.nx _=>some (.non,p.2)
   |_=>none
  else none
 |none=>none
noncomputable def step(c:Nat->List D->Store->Option (D×Store))(r:R):R:=⟨stepEv r,stepTst r,λτ st ss=>exs (stepEx r) ss τ st,c⟩
noncomputable def runK(c:Nat->List D->Store->Option (D×Store)):Nat->R
 |0=>⟨λ_ _ _=>none,λ_ _ _=>none,λ_ _ _=>none,c⟩
 |k+1=>step c (runK c k)
open Classical in
noncomputable def lim1{α:Type}(f:Nat->Option α):Option α:=if h:∃x,∃n,f n=some x then some h.choose else none
noncomputable def RL(c:Nat->List D->Store->Option (D×Store)):R:=⟨λτ st e=>lim1 λn=>(runK c n).ev τ st e,λτ st e=>lim1 λn=>(runK c n).tst τ st e,λτ st e=>lim1 λn=>(runK c n).ex τ st e,c⟩
noncomputable def callD(fns:List Fn):Nat->Nat->List D->Store->Option (D×Store)
 |0=>λ_ _ _=>none
 |d+1=>stepCall fns (RL (callD fns d))
noncomputable abbrev rn(fns:List Fn)(d n:Nat):R:=runK (callD fns d) n
noncomputable abbrev Lv(fns:List Fn)(d:Nat):R:=RL (callD fns d)
theorem lim1_is{α:Type}{f:Nat->Option α}{x:α}(h:lim1 f=some x):∃n,f n=some x:=by
 unfold lim1 at h
 split at h
 ·rename_i j;obtain⟨n,hn⟩:=j.choose_spec;exact⟨n,by rw[hn]; exact h⟩
 ·cases h
theorem runK_call(c:Nat->List D->Store->Option (D×Store)):∀n,(runK c n).call=c
 |0=>rfl
 |_+1=>rfl
end M
end
section
namespace M
open PySem (Str)
theorem qwh:∀(a:List S){b:List S}{f:Sl->Store->S->Option (Out×Store)}{τ τ':Sl}{s s':Store},exs f a τ s=some (.nx τ',s')->exs f (a++b) τ s=exs f b τ' s'
 |[],b,f,τ,τ',s,s',h=>by cases h; rfl
 |x::a,b,f,τ,τ',s,s',h=>by
  simp only[exs,List.cons_append]at h ⊢
  cases q:f τ s x with
  |none=>rw[q]at h; cases h
  |some p=>
   rw[q]at h;simp only[oBs]at h ⊢
   cases j:p.1 with
   |nx z=>rw[j]at h; simp only at h ⊢; exact qwh a h
   |rt d=>rw[j]at h; cases h
   |bk d=>rw[j]at h; cases h
   |ct d=>rw[j]at h; cases h
theorem qzp{x:S}{b:List S}{f:Sl->Store->S->Option (Out×Store)}{τ τ':Sl}{s s':Store}(h:f τ s x=some (.nx τ',s')):exs f (x::b) τ s=exs f b τ' s':=by
 simp only[exs,h,oBs]
theorem qya{x:S}{b:List S}{f:Sl->Store->S->Option (Out×Store)}{τ:Sl}{s s':Store}{d:D}(h:f τ s x=some (.rt d,s')):exs f (x::b) τ s=some (.rt d,s'):=by
 simp only[exs,h,oBs]
theorem eqT_ii(a b:Int):eqT (.int a) (.int b)=(a==b):=by rw[eqT]
theorem flat_i(n:Nat)(a:Int):flat n (.int a)=true:=by cases n<;>rfl
theorem eqD_ii(st:Store)(a b:Int):eqD st (.int a) (.int b)=some (a==b):=by simp[eqD,seqAt,flat_i,eqT_ii]
theorem qwz{f:Sl->Store->D->Option (Out×Store)}{lo:Int}{n:Nat}(P:Nat->Sl->Store->Prop)(J:∀i τ st,i<n->P i τ st->∃j st',f τ st (.int (lo+i))=some (.nx j,st')/\P (i+1) j st'):
  ∀(k i:Nat) (τ:Sl) (st:Store),i+k=n->P i τ st->∃j st',loop (.rng lo n) f (k+1) i τ st=some (.nx j,st')/\P n j st'
 |0,i,τ,st,h,p=>by
  have:i=n:=by omega
  subst this;exact⟨τ,st,by simp[loop,Src.at],p⟩
 |k+1,i,τ,st,h,p=>by
  have hi:i<n:=by omega
  obtain⟨j,st',e,q⟩:=J i τ st hi p;obtain⟨z,F,O,L⟩:=qwz P J k (i+1) j st' (by omega) q;refine⟨z,F,?_,L⟩;rw[loop];simp only[Src.at,hi,if_true,oBs,e];exact O
theorem qf8{f:Sl->Store->D->Option (Out×Store)}{lo:Int}{n:Nat}{τ:Sl}{st:Store}(P:Nat->Sl->Store->Prop)(F:P 0 τ st)(z:∀i τ st,i<n->P i τ st->∃j st',f τ st (.int (lo+i))=some (.nx j,st')/\P (i+1) j st'):
  ∃j st',loop (.rng lo n) f (n+1) 0 τ st=some (.nx j,st')/\P n j st':=qwz P z n 0 τ st (by omega) F
end M
end
section
namespace M
open PySem (Str)
def Co{α:Type}(a:Option α)(b:Nat->Option α):Prop:=∀x,a=some x->∃n,∀m,n<=m->b m=some x
theorem Co.refl{α:Type}(a:Option α):Co a λ_=>a:=λ_ h=>⟨0,λ_ _=>h⟩
theorem Co.none{α:Type}(b:Nat->Option α):Co Option.none b:=λ_ h=>by cases h
theorem Co.bind{α j:Type}{f:Option α}{z:Nat->Option α}{g:α->Option j}{g':Nat->α->Option j}(L:Co f z)(J:∀a,Co (g a) λm=>g' m a):Co (f.bind g) λm=>(z m).bind (g' m):=λx h=>by
 cases e:f with
 |none=>rw[e]at h; cases h
 |some a=>
  rw[e]at h;obtain⟨n,hn⟩:=L a e;obtain⟨k,F⟩:=J a x h;refine⟨max n k,λm O=>?_⟩;simp only;rw[hn m (by omega)];exact F m (by omega)
theorem Co.map{α z:Type}{f:Option α}{j:Nat->Option α}(g:α->z)(J:Co f j):Co (f.map g) λm=>(j m).map g:=λx h=>by
 cases e:f with
 |none=>rw[e]at h; cases h
 |some a=>
  rw[e]at h;obtain⟨n,hn⟩:=J a e;refine⟨n,λm F=>?_⟩;simp only;rw[hn m F];exact h
theorem Co.ite{α:Type}{c:Prop} [Decidable c]{a b:Option α}{z j:Nat->Option α}(J:Co a z) (F:Co b j):Co (if c then a else b) λm=>if c then z m else j m:=by
 by_cases h:c
 ·simp only[Z3 h]; exact J
 ·simp only[Z2 h]; exact F
structure Le (r:R) (r':Nat->R):Prop where
 ev:∀τ st e,Co (r.ev τ st e) λm=>(r' m).ev τ st e
 tst:∀τ st e,Co (r.tst τ st e) λm=>(r' m).tst τ st e
 ex:∀τ st e,Co (r.ex τ st e) λm=>(r' m).ex τ st e
 call:∀f ds st,Co (r.call f ds st) λm=>(r' m).call f ds st
theorem qz4{f:Store->E->Option (D×Store)}{j:Nat->Store->E->Option (D×Store)}(h:∀st e,Co (f st e) λm=>j m st e):∀(es:List E) (st:Store),Co (evs f es st) λm=>evs (j m) es st
 |[],st=>.refl _
 |e::es,st=>(h st e).bind λp=>(qz4 h es p.2).bind λq=>.refl _
theorem qxv{it:Src}{f:Sl->Store->D->Option (Out×Store)}{z:Nat->Sl->Store->D->Option (Out×Store)}(h:∀τ st d,Co (f τ st d) λm=>z m τ st d):∀(k i:Nat) (τ:Sl) (st:Store),Co (loop it f k i τ st) λm=>loop it (z m) k i τ st
 |0,_,_,_=>.refl _
 |k+1,i,τ,st=>by
  unfold loop;refine(Co.refl _).bind λo=>?_
  cases o with
  |none=>exact .refl _
  |some d=>
   refine(h τ st d).bind λp=>?_
   cases F:p.1 with
   |nx j=>exact qxv h k _ _ _
   |ct j=>exact qxv h k _ _ _
   |bk j=>exact .refl _
   |rt v=>exact .refl _
theorem qki{it:Src}{f:Sl->Store->D->Option (Option D×Sl×Store)}{z:Nat->Sl->Store->D->Option (Option D×Sl×Store)}(h:∀τ st d,Co (f τ st d) λm=>z m τ st d):∀(k i:Nat) (j:List D) (τ:Sl) (st:Store),Co (loopC it f k i j τ st) λm=>loopC it (z m) k i j τ st
 |0,_,_,_,_=>.refl _
 |k+1,i,j,τ,st=>by
  unfold loopC;refine(Co.refl _).bind λo=>?_
  cases o with
  |none=>exact .refl _
  |some d=>exact Co.ite (.refl _) ((h τ st d).bind λp=>qki h k _ _ _ _)
theorem qve{f:Sl->Store->S->Option (Out×Store)}{j:Nat->Sl->Store->S->Option (Out×Store)}(h:∀τ st s,Co (f τ st s) λm=>j m τ st s):∀(ss:List S) (τ:Sl) (st:Store),Co (exs f ss τ st) λm=>exs (j m) ss τ st
 |[],_,_=>.refl _
 |s::ss,τ,st=>by
  unfold exs;refine(h τ st s).bind λp=>?_
  cases F:p.1 with
  |nx z=>exact qve h ss _ _
  |_=>exact .refl _
section
variable {r:R}{r':Nat->R}(h:Le r r')
include h
theorem qy2(τ:Sl)(st:Store)(e:E):Co (src r τ st e) λm=>src (r' m) τ st e:=by
 cases e with
 |rng1 a=>exact(h.ev τ st a).bind λp=>.refl _
 |rng2 a b=>exact(h.ev τ st a).bind λp=>(h.ev τ _ b).bind λq=>.refl _
 |zip a b=>exact(h.ev τ st a).bind λp=>(h.ev τ _ b).bind λq=>.refl _
 |_=>exact(h.ev τ st _).bind λp=>.refl _
theorem qv6(τ:Sl)(st:Store)(e:Option E):Co (part r τ st e) λm=>part (r' m) τ st e:=by
 cases e with
 |none=>exact .refl _
 |some e=>exact(h.ev τ st e).bind λp=>.refl _
theorem qa2(t:T)(test:Option E)(elt:E)(τ:Sl)(st:Store)(d:D):Co (turnC r t test elt τ st d) λm=>turnC (r' m) t test elt τ st d:=by
 unfold turnC;refine(Co.refl _).bind λj=>?_
 cases test with
 |none=>exact(h.ev _ _ _).map _
 |some c=>exact(h.tst _ _ _).bind λb=>Co.ite ((h.ev _ _ _).map _) (.refl _)
theorem qwl(τ:Sl)(st:Store)(neg:Bool)(a b:E):Co (dinR r τ st neg a b) λm=>dinR (r' m) τ st neg a b:=(h.ev τ st a).bind λp=>(h.ev τ _ b).bind λq=>.refl _
theorem qwe(τ:Sl)(st:Store)(neg:Bool)(ks:List PySem.Str)(b:E):Co (ginR r τ st neg ks b) λm=>ginR (r' m) τ st neg ks b:=(h.ev τ st b).bind λp=>.refl _
theorem qjb(τ:Sl)(st:Store)(e:E):Co (stepEv r τ st e) λm=>stepEv (r' m) τ st e:=by
 cases e with
 |var i=>exact .refl _
 |lit d=>exact .refl _
 |glo x d=>exact .refl _
 |bin z a b=>exact(h.ev τ st a).bind λp=>(h.ev τ _ b).bind λq=>.refl _
 |neg a=>exact(h.ev τ st a).bind λp=>.refl _
 |not a=>exact(h.ev τ st a).bind λp=>.refl _
 |cmp z a b=>exact(h.ev τ st a).bind λp=>(h.ev τ _ b).bind λq=>.refl _
 |cmp2 z F a b c=>exact(h.ev τ st a).bind λp=>(h.ev τ _ b).bind λq=>(Co.refl _).bind λk=>Co.ite ((h.ev τ _ c).bind λu=>.refl _) (.refl _)
 |and a b=>
  refine(h.ev τ st a).bind λp=>?_;obtain⟨d,s⟩:=p
  cases d with
  |bl k=>cases k with
   |true=>exact h.ev τ _ b
   |false=>exact .refl _
  |_=>exact .refl _
 |or a b=>
  refine(h.ev τ st a).bind λp=>?_;obtain⟨d,s⟩:=p
  cases d with
  |bl k=>cases k with
   |false=>exact h.ev τ _ b
   |true=>exact .refl _
  |_=>exact .refl _
 |ite c a b=>exact(h.tst τ st c).bind λp=>Co.ite (h.ev τ _ a) (h.ev τ _ b)
 |tup es=>exact(qz4 (h.ev τ) es st).bind λp=>.refl _
 |lst es=>exact(qz4 (h.ev τ) es st).bind λp=>.refl _
 |idx a b=>exact(h.ev τ st a).bind λp=>(h.ev τ _ b).bind λq=>.refl _
 |sli a lo hi=>exact(h.ev τ st a).bind λp=>(qv6 h τ _ lo).bind λl=>(qv6 h τ _ hi).bind λu=>.refl _
 |call f es=>exact(qz4 (h.ev τ) es st).bind λp=>h.call f _ _
 |bcall f es=>exact(qz4 (h.ev τ) es st).bind λp=>.refl _
 |isi a J m=>exact(h.ev τ st a).bind λp=>.refl _
 |lenset a=>exact(h.ev τ st a).bind λp=>.refl _
 |gc a=>exact(h.ev τ st a).map _
 |meth a m es=>exact(h.ev τ st a).bind λp=>Co.ite ((qz4 (h.ev τ) es _).bind λq=>.refl _) (.refl _)
 |rng1 a=>exact .refl _
 |rng2 a b=>exact .refl _
 |zip a b=>exact .refl _
 |dic es=>exact(qz4 (h.ev τ) es _).bind λp=>.refl _
 |didx a b=>exact(h.ev τ st a).bind λp=>(h.ev τ _ b).bind λq=>.refl _
 |din neg a b=>exact qwl h τ st neg a b
 |gidx x ks ds b=>exact(h.ev τ st b).bind λp=>.refl _
 |gin neg x ks b=>exact qwe h τ st neg ks b
 |comp t it j elt sr=>exact(qy2 h τ st it).bind λp=>(qki (qa2 h t j elt) _ _ _ _ _).map _
 |attr C a f=>exact(h.ev τ st a).bind λp=>.refl _
 |mcall C f m a es=>exact(h.ev τ st a).bind λp=>(Co.refl _).bind λfs=>Co.ite (.refl _) ((qz4 (h.ev τ) es _).bind λq=>h.call f _ _)
 |new C f es=>exact(qz4 (h.ev τ) es st).bind λp=>(h.call f _ _).bind λq=>.refl _
theorem qxu(τ:Sl)(st:Store)(e:E):Co (stepTst r τ st e) λm=>stepTst (r' m) τ st e:=by
 cases e with
 |not a=>exact(h.tst τ st a).map _
 |and a b=>exact(h.tst τ st a).bind λp=>Co.ite (h.tst τ _ b) (.refl _)
 |or a b=>exact(h.tst τ st a).bind λp=>Co.ite (.refl _) (h.tst τ _ b)
 |ite _ _ _=>exact .refl _
 |din neg a b=>exact(qwl h τ st neg a b).bind λp=>.refl _
 |gin neg x ks b=>exact(qwe h τ st neg ks b).bind λp=>.refl _
 |cmp z a b=>exact(h.ev τ st a).bind λp=>(h.ev τ _ b).bind λq=>.refl _
 |cmp2 z j a b c=>exact(h.ev τ st a).bind λp=>(h.ev τ _ b).bind λq=>(Co.refl _).bind λk=>Co.ite ((h.ev τ _ c).bind λu=>.refl _) (.refl _)
 |_=>exact(h.ev τ st _).bind λp=>.refl _
theorem qja(τ:Sl)(st:Store)(s:S):Co (stepEx r τ st s) λm=>stepEx (r' m) τ st s:=by
 cases s with
 |set t e=>exact(h.ev τ st e).bind λp=>.refl _
 |dset a i e=>exact(h.ev τ st e).bind λp=>(h.ev τ _ a).bind λq=>(h.ev τ _ i).bind λu=>.refl _
 |bad=>exact .refl _
 |setA C a f e=>exact(h.ev τ st e).bind λp=>(h.ev τ _ a).bind λq=>.refl _
 |ford t a body=>
  refine(h.ev τ st a).bind λp=>?_;obtain⟨d,s⟩:=p
  cases d with
  |loc l=>exact(Co.refl _).bind λkvs=>(qxv (λτ st d=>(Co.refl _).bind λj=>h.ex j st body) _ _ _ _).bind λq=>.refl _
  |_=>exact .refl _
 |expr e=>exact(h.ev τ st e).map _
 |ret e=>exact(h.ev τ st e).map _
 |ite c a b=>exact(h.tst τ st c).bind λp=>Co.ite (h.ex τ _ a) (h.ex τ _ b)
 |forr t it body=>exact(qy2 h τ st it).bind λp=>qxv (λτ st d=>(Co.refl _).bind λj=>h.ex j st body) _ _ _ _
theorem qcv(c:Nat->List D->Store->Option (D×Store)):Le (step c r) λm=>step c (r' m):=
 ⟨qjb h,qxu h,λτ st j=>qve (qja h) j τ st,λf ds st=>.refl _⟩
end
theorem qx9(c:Nat->List D->Store->Option (D×Store)):∀n,Le (runK c n) λ_=>runK c (n+1)
 |0=>⟨λ_ _ _=>.none _,λ_ _ _=>.none _,λ_ _ _=>.none _,λ_ _ _=>.refl _⟩
 |n+1=>qcv (qx9 c n) c
section
variable {c:Nat->List D->Store->Option (D×Store)}{n N:Nat}
theorem ev_up{τ:Sl}{st:Store}{e:E}{x:D×Store}(h:(runK c n).ev τ st e=some x)(F:n<=N):(runK c N).ev τ st e=some x:=by
 induction F with
 |refl=>exact h
 |step _ j=>obtain⟨k,z⟩:=(qx9 c _).ev τ st e x j; exact z k (Qqj _)
theorem qg1{τ:Sl}{st:Store}{e:E}{x:Bool×Store}(h:(runK c n).tst τ st e=some x)(F:n<=N):(runK c N).tst τ st e=some x:=by
 induction F with
 |refl=>exact h
 |step _ j=>obtain⟨k,z⟩:=(qx9 c _).tst τ st e x j; exact z k (Qqj _)
theorem qmv{τ:Sl}{st:Store}{e:List S}{x:Out×Store}(h:(runK c n).ex τ st e=some x)(F:n<=N):(runK c N).ex τ st e=some x:=by
 induction F with
 |refl=>exact h
 |step _ j=>obtain⟨k,z⟩:=(qx9 c _).ex τ st e x j; exact z k (Qqj _)
end
theorem qvw{α:Type}{f:Nat->Option α}{n:Nat}{x:α}(up:∀n N x,f n=some x->n<=N->f N=some x)(h:f n=some x):lim1 f=some x:=by
 have j:∃x,∃n,f n=some x:=⟨x,n,h⟩
 unfold lim1;rw[dif_pos j];obtain⟨k,F⟩:=j.choose_spec;have J:=up _ (max n k) _ h (by omega);have z:=up _ (max n k) _ F (by omega);rw[J]at z;exact z.symm
section
variable {fns:List Fn}{d:Nat}{τ:Sl}{st:Store}
theorem call_of{f:Nat}{F:Fn}{ds:List D}{j:Store}{v:D}(n:Nat)(L:fns[f]?=some F)(J:ds.length=F.np)(z:ds.map some++List.replicate (F.nl - ds.length) none=τ)
  (h:exs (stepEx (rn fns d n)) F.body τ st=some (.rt v,j)):callD fns (d+1) f ds st=some (v,j):=by
 show stepCall fns (RL (callD fns d)) f ds st=_;unfold stepCall;rw[L];dsimp only;have e:(RL (callD fns d)).ex τ st F.body=some (.rt v,j):=qvw (n:=n+1) (λ_ _ _ h k=>qmv h k) h;rw[Z3 J,z,e]
 rfl
theorem ev_k{c:Nat->List D->Store->Option (D×Store)}{n:Nat}(e:E):(runK c (n+1)).ev τ st e=stepEv (runK c n) τ st e:=rfl
theorem tst_k{c:Nat->List D->Store->Option (D×Store)}{n:Nat}(e:E):(runK c (n+1)).tst τ st e=stepTst (runK c n) τ st e:=rfl
end
end M
end
section
namespace M
open PySem (Str)
section
variable {r:R}{s:Src}{S:Store}{rest:Sl}{elt:E}{ds:List D}
theorem qwx{es:List D}(j:∀i,s.at S i=some ds[i]?)(F:es.length=ds.length)(z:ds.length<lim)(J:∀(i:Nat) (d e:D),ds[i]?=some d->es[i]?=some e->r.ev (some d::rest) S elt=some (e,S)):
  ∀(k i:Nat) (o:Option D),i+k=ds.length->loopC s (turnC r (.var 0) none elt) (k+1) i (es.take i) (o::rest) S=some (es,S)
 |0,i,o,h=>by
  have e:i=ds.length:=by omega
  subst e;have h1:es.take ds.length=es:=Qx9 (by omega);rw[loopC,j,h1];simp only[oBs,Qzp (Qqj _)];rw[Z2 (by omega)]
 |k+1,i,o,h=>by
  have hi:i<ds.length:=by omega
  have h1:ds[i]?=some ds[i]:=by simp
  have h2:es[i]?=some (es[i]'(by omega)):=by simp
  have L:=J i _ _ h1 h2;rw[loopC,j,h1];simp only[oBs];rw[Z2 (by rw[Qq9]; omega)];have O:turnC r (.var 0) none elt (o::rest) S ds[i]=some (some (es[i]'(by omega)),some ds[i]::rest,S):=by
   unfold turnC;simp only[setT,Qqh,Qj5,if_true,Qjl,oBs,L,oMs]
  rw[O];simp only[oBs];rw[show es.take i++[es[i]'(by omega)]=es.take (i+1) by rw[Qzg (by omega)]];exact qwx j F z J k (i+1) _ (by omega)
theorem qx1{c:E}{p:D->Bool}(j:∀i,s.at S i=some ds[i]?)(F:ds.length<lim)(L:∀(i:Nat) (d:D),ds[i]?=some d->r.tst (some d::rest) S c=some (p d,S))(f:D->D)(U:∀(i:Nat) (d:D),ds[i]?=some d->p d=true->r.ev (some d::rest) S elt=some (f d,S)):
  ∀(k i:Nat) (o:Option D),i+k=ds.length->loopC s (turnC r (.var 0) (some c) elt) (k+1) i (((ds.take i).filter p).map f) (o::rest) S=some ((ds.filter p).map f,S)
 |0,i,o,h=>by
  have e:i=ds.length:=by omega
  subst e;rw[loopC,j,Qx9 (Qqj _)];simp only[oBs,Qzp (Qqj _)];have:=Qzr p ds;rw[Z2 (by rw[Qqx]; omega)]
 |k+1,i,o,h=>by
  have hi:i<ds.length:=by omega
  have h1:ds[i]?=some ds[i]:=by simp
  rw[loopC,j,h1];simp only[oBs];have h5:=Qzr p (ds.take i);have Z:(ds.take i).length<=ds.length:=by rw[Qq9]; omega
  rw[Z2 (by rw[Qqx]; omega)];have Y:ds.take (i+1)=ds.take i++[ds[i]]:=Qzg (by omega);have J:=qx1 j F L f U k (i+1) (some ds[i]) (by omega)
  cases z:p ds[i] with
  |true=>
   have O:turnC r (.var 0) (some c) elt (o::rest) S ds[i]=some (some (f ds[i]),some ds[i]::rest,S):=by
    unfold turnC;simp only[setT,Qqh,Qj5,if_true,Qjl,oBs,L i _ h1,z,U i _ h1 z,oMs]
   rw[O];simp only[oBs];rw[Y,Qxa,Qq1]at J;simpa[z] using J
  |false=>
   have O:turnC r (.var 0) (some c) elt (o::rest) S ds[i]=some (none,some ds[i]::rest,S):=by
    unfold turnC;simp only[setT,Qqh,Qj5,if_true,Qjl,oBs,L i _ h1,z,Qqf,if_false]
   rw[O];simp only[oBs];rw[Y,Qxa,Qq1]at J;simpa[z] using J
end
theorem qvh{r:R}{τ:Sl}{S S':Store}{it elt:E}{sr:List (Option Nat)}{s:Src}{rest:Sl}{ds es:List D}(j:src r τ S it=some (s,S'))(L:∀i,s.at S' i=some ds[i]?)(hsz:s.size S'=ds.length)(J:inner sr τ=none::rest)(F:es.length=ds.length)(z:ds.length<lim)
  (O:∀(i:Nat) (d e:D),ds[i]?=some d->es[i]?=some e->r.ev (some d::rest) S' elt=some (e,S')):stepEv r τ S (.comp (.var 0) it none elt sr)=some (.loc S'.length,S'++[.lst true es]):=by
 have h:=qwx (r:=r) (s:=s) (S:=S') (rest:=rest) (elt:=elt) L F z O ds.length 0 none (by omega);show((src r τ S it).bind λp=>(loopC p.1 (turnC r (.var 0) none elt) (p.1.size p.2+1) 0 [] (inner sr τ) p.2).map λq=>alloc q.2 (.lst true q.1))=_;rw[j];simp only[oBs,hsz,J];rw[show([]:List D)=es.take 0 by simp,h]
 rfl
theorem qye{r:R}{τ:Sl}{S S':Store}{it elt c:E}{sr:List (Option Nat)}{s:Src}{rest:Sl}{ds:List D}{p:D->Bool}(f:D->D)(j:src r τ S it=some (s,S'))(J:∀i,s.at S' i=some ds[i]?)(hsz:s.size S'=ds.length)(F:inner sr τ=none::rest)(z:ds.length<lim)
  (O:∀(i:Nat) (d:D),ds[i]?=some d->r.tst (some d::rest) S' c=some (p d,S')) (L:∀(i:Nat) (d:D),ds[i]?=some d->p d=true->r.ev (some d::rest) S' elt=some (f d,S')):stepEv r τ S (.comp (.var 0) it (some c) elt sr)=some (.loc S'.length,S'++[.lst true ((ds.filter p).map f)]):=by
 have h:=qx1 (r:=r) (s:=s) (S:=S') (rest:=rest) (elt:=elt) J z O f L ds.length 0 none (by omega);show((src r τ S it).bind λp=>(loopC p.1 (turnC r (.var 0) (some c) elt) (p.1.size p.2+1) 0 [] (inner sr τ) p.2).map λq=>alloc q.2 (.lst true q.1))=_;rw[j];simp only[oBs,hsz,F];simp only[Qxm,Qkw,Qxy]at h;rw[h]
 rfl
theorem qku{S:Store}{q:D}{ds:List D}(h:seqAt S q=some ds)(i:Nat):(Src.lst q).at S i=some ds[i]?:=by simp[Src.at,h]
theorem qqs{S:Store}{q:D}{ds:List D}(h:seqAt S q=some ds):(Src.lst q).size S=ds.length:=by simp[Src.size,h]
theorem qat{S:Store}(lo:Int)(n:Nat)(i:Nat):(Src.rng lo n).at S i=some ((List.range n).map λ(j:Nat)=>D.int (lo+j))[i]?:=by
 simp only[Src.at,Qqa]
 by_cases h:i<n
 ·rw[Z3 h,Qxn h]; rfl
 ·rw[Z2 h,Qzp (by simpa using h)]; rfl
theorem qji{f:Sl->Store->D->Option (Out×Store)}{s:Src}{ds:List D}(P:Nat->Sl->Store->Prop)(Q:Sl->Store->Prop)(z:∀i τ st,P i τ st->s.at st i=some ds[i]?)
  (F:∀i τ st d,ds[i]?=some d->P i τ st->(∃j st',(f τ st d=some (.nx j,st')\/f τ st d=some (.ct j,st'))/\P (i+1) j st')\/∃j st',f τ st d=some (.bk j,st')/\Q j st') :
  ∀(k i:Nat) (τ:Sl) (st:Store),i+k=ds.length->P i τ st->∃j st',loop s f (k+1) i τ st=some (.nx j,st')/\(P ds.length j st'\/Q j st')
 |0,i,τ,st,h,p=>by
  have e:i=ds.length:=by omega
  subst e;refine⟨τ,st,?_,.inl p⟩;rw[loop,z _ _ _ p];simp[Qzp (Qqj _)]
 |k+1,i,τ,st,h,p=>by
  have hi:i<ds.length:=by omega
  have h1:ds[i]?=some ds[i]:=by simp
  rw[loop,z _ _ _ p,h1];simp only[oBs];rcases F i τ st _ h1 p with⟨j,st',e|e,q⟩|⟨j,st',e,q⟩
  ·rw[e];exact qji P Q z F k (i+1) j st' (by omega) q
  ·rw[e];exact qji P Q z F k (i+1) j st' (by omega) q
  ·rw[e];exact⟨j,st',rfl,.inr q⟩
theorem qvk{f:Sl->Store->D->Option (Out×Store)}{s:Src}{ds:List D}{τ:Sl}{st:Store}(P:Nat->Sl->Store->Prop)(Q:Sl->Store->Prop)(J:P 0 τ st)(hsz:s.size st=ds.length)(z:∀i τ st,P i τ st->s.at st i=some ds[i]?)
  (F:∀i τ st d,ds[i]?=some d->P i τ st->(∃j st',(f τ st d=some (.nx j,st')\/f τ st d=some (.ct j,st'))/\P (i+1) j st')\/∃j st',f τ st d=some (.bk j,st')/\Q j st') :
  ∃j st',loop s f (s.size st+1) 0 τ st=some (.nx j,st')/\(P ds.length j st'\/Q j st'):=by
 rw[hsz];exact qji P Q z F ds.length 0 τ st (by omega) J
end M
end
section
namespace M
open PySem (Str)
section
variable {st r:Store}{d:D}{ds:List D}
theorem gc_x{p:D×Store}(h:p.2.take st.length=st):gcD st p=gcX st.length p:=by
 unfold gcD;rw[Z3 h,ite_self]
theorem qc5:noLoc (.tup ds)=noLocs ds:=by rw[noLoc]
theorem qw8:noLocs (d::ds)=(noLoc d&&noLocs ds):=rfl
theorem qkg:∀{ds:List D},noLocs ds=ds.all noLoc
 |[]=>rfl
 |d::ds=>by rw[qw8,Qxc,qkg]
theorem qc4(h:∀d∈ds,noLoc d=true):noLocs ds=true:=by rw[qkg,Qza]; exact h
theorem qqw{α:Type}{xs:List α}{g:α->D}(h:∀x∈xs,noLoc (g x)=true):noLocs (xs.map g)=true:=qc4 λd hd=>by
 obtain⟨x,j,rfl⟩:=Qqk.mp hd;exact h x j
theorem qzg(h:noLocs ds=true):gcD st (.loc st.length,st++[.lst true ds])=(.lst ds,st):=by
 rw[gc_x (by simp)];unfold gcX;rw[Z2 (by simp[noLoc])];simp[h]
theorem qdr{k:Nat}(h:noLocs ds=true)(j:r[k]?=some (.lst true ds)):gcD st (.loc (st.length+k),st++r)=(.lst ds,st):=by
 rw[gc_x (by simp)];unfold gcX;rw[Z2 (by simp[noLoc])];have e:(st++r)[st.length+k]?=some (.lst true ds):=by rw[Qzw (by omega),show st.length+k - st.length=k by omega]; exact j
 simp only[e,h];simp
end
theorem qx0{r:R}{τ:Sl}{st j:Store}{c:E}{a b:List S}(h:r.tst τ st c=some (true,j)):stepEx r τ st (.ite c a b)=r.ex τ j a:=by
 show(r.tst τ st c).bind _=_;rw[h]; rfl
theorem qvs{r:R}{τ:Sl}{st j:Store}{c:E}{a b:List S}(h:r.tst τ st c=some (false,j)):stepEx r τ st (.ite c a b)=r.ex τ j b:=by
 show(r.tst τ st c).bind _=_;rw[h]; rfl
noncomputable def cDraw:List S:=[
 .set (.var 4) (.lit (.int 0)),
 .set (.var 5) (.lit (.int 1)),
 .ite (.cmp .Gt (.bcall .len [(.var 0)]) (.lit (.int 0))) [.set (.var 4) (.idx (.var 0) (.bin .Mod (.var 1) (.bcall .len [(.var 0)]))),.set (.var 5) (.bin .FloorDiv (.var 1) (.bcall .len [(.var 0)]))] [],
 .set (.var 6) (.var 4),
 .forr (.var 7) (.rng1 (.var 2)) [.set (.var 6) (.bin .FloorDiv (.var 6) (.bin .Pow (.lit (.int 10)) (.lit (.int 10))))],
 .ite (.and (.cmp .Eq (.var 5) (.lit (.int 0))) (.and (.cmp .GtE (.var 4) (.bin .Pow (.lit (.int 10)) (.lit (.int 18)))) (.cmp .Gt (.var 6) (.lit (.int 0))))) [.ret (.bin .Mod (.bin .Mod (.var 6) (.bin .Pow (.lit (.int 10)) (.lit (.int 10)))) (.var 3))] [],
 .set (.var 8) (.bin .Mod (.bin .Add (.bin .Add (.bin .Add (.bin .Mult (.var 4) (.lit (.int 7919))) (.bin .Mult (.var 1) (.lit (.int 104729)))) (.bin .Mult (.var 2) (.lit (.int 1299709)))) (.lit (.int 31))) (.lit (.int 1000000007))),
 .set (.var 9) (.bin .Mod (.bin .Add (.bin .Mult (.var 8) (.lit (.int 48271))) (.bin .FloorDiv (.var 4) (.lit (.int 1009)))) (.lit (.int 998244353))),
 .set (.var 9) (.bin .Mod (.bin .Add (.bin .Mult (.var 9) (.bin .Add (.bin .Mod (.var 8) (.lit (.int 9973))) (.lit (.int 1)))) (.var 2)) (.lit (.int 1000000009))),
 .ret (.bin .Mod (.bin .Mod (.bin .Add (.bin .Add (.bin .Mult (.var 8) (.lit (.int 69621))) (.bin .Mult (.var 9) (.lit (.int 40692)))) (.bin .FloorDiv (.var 9) (.lit (.int 1013)))) (.lit (.int 2147483647))) (.var 3))]
noncomputable def qge:Fn:=⟨4,10,cDraw⟩
theorem qw9{a b:Int}(z:-(2 ^ 64)<b)(j:b<2 ^ 64):mulOk a b=true:=by unfold mulOk; simp; omega
noncomputable def qx5(ns:List Int)(k:Int):Int×Int:=if ns=[] then(0,1) else(ns.getD (k % (ns.length:Int)).toNat 0,k / ns.length)
noncomputable def qkx:Nat->Int->Int
 |0,c=>c
 |n+1,c=>qkx n c / 10000000000
noncomputable def drawF(c k j many:Int):Int:=(λone=>(λtwo=>(λtwo'=>(one*69621+two'*40692+two' / 1013) % 2147483647 % many) ((two*(one % 9973+1)+j) % 1000000009)) ((one*48271+c / 1009) % 998244353)) ((c*7919+k*104729+j*1299709+31) % 1000000007)
noncomputable def qqz(ns:List Int)(k j many:Int):Int:=
 if (qx5 ns k).2=0/\1000000000000000000<=(qx5 ns k).1/\0<qkx j.toNat (qx5 ns k).1 then qkx j.toNat (qx5 ns k).1 % 10000000000 % many else drawF (qx5 ns k).1 k j many
theorem qvf(ns:List Int)(k j:Int){many:Int}(h:0<many):0<=qqz ns k j many:=by
 unfold qqz
 split
 ·exact Int.emod_nonneg _ (by omega)
 ·exact Int.emod_nonneg _ (by omega)
theorem qvg(ns:List Int)(k j:Int){many:Int}(h:0<many):qqz ns k j many<many:=by
 unfold qqz
 split
 ·exact Int.emod_lt_of_pos _ h
 ·exact Int.emod_lt_of_pos _ h
section
variable {c:Nat->List D->Store->Option (D×Store)}{n:Nat}{τ:Sl}{st:Store}
theorem evB{op:PySem.Operator}{A B:E}{a b r:D}(F:(runK c n).ev τ st A=some (a,st))(z:(runK c n).ev τ st B=some (b,st))(j:binop st op a b=some (r,st)):(runK c (n+1)).ev τ st (.bin op A B)=some (r,st):=by
 rw[ev_k];simp only[stepEv,F,z,oBs,j]
theorem evX{a b:E}{x y r:D}(z:(runK c n).ev τ st a=some (x,st))(j:(runK c n).ev τ st b=some (y,st))(h:idxD st x y=some r):(runK c (n+1)).ev τ st (.idx a b)=some (r,st):=by
 rw[ev_k];simp only[stepEv,z,j,oBs,h,oMs]
theorem stS{τ':Sl}{i:Nat}{e:E}{d:D}(z:(runK c n).ev τ st e=some (d,st))(j:setT (.var i) d τ=some τ'):stepEx (runK c n) τ st (.set (.var i) e)=some (.nx τ',st):=by
 simp only[stepEx,z,oBs,j,oMs]
theorem stR{e:E}{d:D}(j:(runK c n).ev τ st e=some (d,st)):stepEx (runK c n) τ st (.ret e)=some (.rt d,st):=by
 simp only[stepEx,j,oMs]
theorem tCmp{op:PySem.CmpOp}{a b:E}{x y:D}{k:Bool}(z:(runK c n).ev τ st a=some (x,st))(j:(runK c n).ev τ st b=some (y,st))(h:cmpD st op x y=some k):(runK c (n+1)).tst τ st (.cmp op a b)=some (k,st):=by
 rw[tst_k];simp only[stepTst,z,j,oBs,h,oMs]
theorem tAnd{a b:E}{x y:Bool}(z:(runK c n).tst τ st a=some (x,st))(j:(runK c n).tst τ st b=some (y,st)):(runK c (n+1)).tst τ st (.and a b)=some (x&&y,st):=by
 rw[tst_k];simp only[stepTst,z,oBs]
 cases x with
 |true=>rw[Z3 rfl,j]; rfl
 |false=>rfl
end
theorem bMu(S:Store)(a:Int){b:Int}(z:-(2 ^ 64)<b)(j:b<2 ^ 64):binop S .Mult (.int a) (.int b)=some (.int (a*b),S):=by
 simp only[binop];rw[Z3 (qw9 z j)]
theorem bMo(S:Store)(a:Int){b:Int}(h:0<b):binop S .Mod (.int a) (.int b)=some (.int (a % b),S):=by
 simp only[binop];rw[Z3 h]
theorem bDi(S:Store)(a:Int){b:Int}(h:0<b)(j:b<2 ^ 64):binop S .FloorDiv (.int a) (.int b)=some (.int (a / b),S):=by
 simp only[binop];rw[Z3 ⟨h,j⟩]
noncomputable abbrev dT(ns:List Int)(k j many:Int)(r:Sl):Sl:=some (.lst (ns.map D.int))::some (.int k)::some (.int j)::some (.int many)::r
theorem qbe{c:Nat->List D->Store->Option (D×Store)}(st:Store)(ns:List Int)(k j many:Int)(U:ns.length<=63):
  exs (stepEx (runK c 30)) (cDraw.take 4) (dT ns k j many [none,none,none,none,none,none]) st=some (.nx (dT ns k j many [some (.int (qx5 ns k).1),some (.int (qx5 ns k).2),some (.int (qx5 ns k).1),none,none,none]),st):=by
 by_cases J:ns=[]
 ·subst J
  rfl
 ·have O:0<ns.length:=Qxo.mpr J;have F:0<(ns.length:Int):=by omega
  have h1:0<=k % (ns.length:Int):=Int.emod_nonneg _ (by omega);have h2:k % (ns.length:Int)<ns.length:=Int.emod_lt_of_pos _ F;have z:(k % (ns.length:Int)).toNat<ns.length:=by omega
  have L:qx5 ns k=(ns[(k % (ns.length:Int)).toNat]'z,k / ns.length):=by
   unfold qx5;rw[Z2 J,Qxq,Qqg z]
   rfl
  rw[L];have l:∀(m:Nat) (r:Sl),(runK c (m+2)).ev (dT ns k j many r) st (.bcall .len [(.var 0)])=some (.int ns.length,st):=λm r=>by
   have v:(runK c (m+1)).ev (dT ns k j many r) st (.var 0)=some (.lst (ns.map D.int),st):=rfl;rw[ev_k];simp only[stepEv,evs,v,oBs,bfun,bLen,seqAt,oMs,Qqx]
  have x:idxD st (.lst (ns.map D.int)) (.int (k % ns.length))=some (.int (ns[(k % (ns.length:Int)).toNat]'z)):=by
   simp only[idxD,seqAt,oBs,atI,ixN,h1,if_true,Qqx,h2,Qqa,Qqg z,oMs]
  refine(qzp (τ':=dT ns k j many [some (.int 0),none,none,none,none,none]) (s':=st) rfl).trans ?_;refine(qzp (τ':=dT ns k j many [some (.int 0),some (.int 1),none,none,none,none]) (s':=st) rfl).trans ?_
  have t:=tCmp (c:=c) (n:=29) (τ:=dT ns k j many [some (.int 0),some (.int 1),none,none,none,none]) (st:=st) (op:=.Gt) (b:=.lit (.int 0)) (y:=.int 0) (k:=true) (l 27 _) rfl (by
   show some (decide ((0:Int)<ns.length))=_
   rw[Z0 F])
  refine(qzp (τ':=dT ns k j many [some (.int (ns[(k % (ns.length:Int)).toNat]'z)),some (.int (k / ns.length)),none,none,none,none]) (s':=st) ((qx0 t).trans ?_)).trans rfl;refine(qzp (τ':=dT ns k j many [some (.int (ns[(k % (ns.length:Int)).toNat]'z)),some (.int 1),none,none,none,none]) (s':=st) (stS (evX (n:=28) (x:=.lst (ns.map D.int)) rfl (evB (n:=27) (a:=.int k) rfl (l 25 _) (bMo _ _ F)) x) rfl)).trans ?_;exact(qzp (τ':=dT ns k j many [some (.int (ns[(k % (ns.length:Int)).toNat]'z)),some (.int (k / ns.length)),none,none,none,none]) (s':=st) (stS (evB (n:=28) (a:=.int k) rfl (l 26 _) (bDi _ _ F (by omega))) rfl)).trans rfl
theorem qyb{c:Nat->List D->Store->Option (D×Store)}(st:Store)(ns:List Int)(k j many cell z:Int)(U:0<=j)(J:j<100000):
  ∃o,stepEx (runK c 30) (dT ns k j many [some (.int cell),some (.int z),some (.int cell),none,none,none]) st (.forr (.var 7) (.rng1 (.var 2)) [.set (.var 6) (.bin .FloorDiv (.var 6) (.bin .Pow (.lit (.int 10)) (.lit (.int 10))))])=some (.nx (dT ns k j many [some (.int cell),some (.int z),some (.int (qkx j.toNat cell)),o,none,none]),st):=by
 have L:big j=false:=by unfold big; simp; omega
 obtain⟨F,st',e,o,hT,O⟩:=qf8 (lo:=0) (n:=j.toNat) (τ:=dT ns k j many [some (.int cell),some (.int z),some (.int cell),none,none,none]) (st:=st)
  (f:=λτ st d=>(setT (.var 7) d τ).bind λF=>(runK c 30).ex F st [.set (.var 6) (.bin .FloorDiv (.var 6) (.bin .Pow (.lit (.int 10)) (.lit (.int 10))))])
  (λi τ s=>∃(o:Option D),τ=dT ns k j many [some (.int cell),some (.int z),some (.int (qkx i cell)),o,none,none]/\s=st) ⟨none,rfl,rfl⟩ (by
   rintro i τ s hi ⟨o,rfl,rfl⟩;refine⟨dT ns k j many [some (.int cell),some (.int z),some (.int (qkx i cell / 10000000000)),some (.int (0+i)),none,none],s,?_,_,rfl,rfl⟩;show exs (stepEx (runK c 29)) _ (dT ns k j many [some (.int cell),some (.int z),some (.int (qkx i cell)),some (.int (0+i)),none,none]) s=_
   exact(qzp (τ':=dT ns k j many [some (.int cell),some (.int z),some (.int (qkx i cell / 10000000000)),some (.int (0+i)),none,none]) (s':=s) (stS (evB (n:=28) (a:=.int (qkx i cell)) (b:=.int 10000000000) rfl rfl (bDi _ _ (by decide) (by decide))) rfl)).trans rfl)
 rw[hT,O]at e;refine⟨o,?_⟩;have v:(runK c 30).ev (dT ns k j many [some (.int cell),some (.int z),some (.int cell),none,none,none]) st (.var 2)=some (.int j,st):=rfl;simp only[stepEx,src,v,oBs,L,Qqf,if_false,Src.size];exact e
theorem qgi{fns:List Fn}{f:Nat}(Z:fns[f]?=some qge)(n:Nat)(st:Store)(ns:List Int)(k j many:Int)(U:ns.length<=63)(Y:0<=j)(L:j<100000)(O:0<many):
  callD fns (n+1) f [.lst (ns.map D.int),.int k,.int j,.int many] st=some (.int (qqz ns k j many),st):=by
 refine call_of 30 Z rfl rfl ?_;show exs (stepEx (rn fns n 30)) (cDraw.take 4++cDraw.drop 4) (dT ns k j many [none,none,none,none,none,none]) st=_;rw[qwh _ (qbe st ns k j many U)];unfold qqz;generalize (qx5 ns k).1=cell;generalize (qx5 ns k).2=z;obtain⟨o,e2⟩:=qyb (c:=callD fns n) st ns k j many cell z Y L;refine(qzp e2).trans ?_;generalize qkx j.toNat cell=rest;have t:=tAnd (c:=callD fns n) (n:=29) (τ:=dT ns k j many [some (.int cell),some (.int z),some (.int rest),o,none,none]) (st:=st) (tCmp (n:=28) (op:=.Eq) (a:=.var 5) (b:=.lit (.int 0)) (x:=.int z) (y:=.int 0) (k:=z==0) rfl rfl (eqD_ii st z 0)) (tAnd (n:=28) (tCmp (n:=27) (op:=.GtE) (a:=.var 4) (b:=.bin .Pow (.lit (.int 10)) (.lit (.int 18))) (x:=.int cell) (y:=.int 1000000000000000000) rfl rfl rfl) (tCmp (n:=27) (op:=.Gt) (a:=.var 6) (b:=.lit (.int 0)) (x:=.int rest) (y:=.int 0) rfl rfl rfl))
 by_cases J:z=0/\1000000000000000000<=cell/\0<rest
 ·rw[Z3 J];have tb:((z==0)&&(decide (1000000000000000000<=cell)&&decide (0<rest)))=true:=by
   rw[J.1,Z0 J.2.1,Z0 J.2.2]; rfl
  rw[tb]at t;exact qya ((qx0 t).trans (qya (stR (evB (n:=28) (b:=.int many) (evB (n:=27) (a:=.int rest) (b:=.int 10000000000) rfl rfl (bMo _ _ (by decide))) rfl (bMo _ _ O)))))
 ·rw[Z2 J];have tb:((z==0)&&(decide (1000000000000000000<=cell)&&decide (0<rest)))=false:=by
   rw[<- Qj6,Qqm,Qqm,beq_iff_eq,decide_eq_true_iff,decide_eq_true_iff];exact J
  rw[tb]at t;refine(qzp (τ':=dT ns k j many [some (.int cell),some (.int z),some (.int rest),o,none,none]) (s':=st) ((qvs t).trans rfl)).trans ?_;unfold drawF;refine(qzp (stS (evB (n:=29) (b:=.int 1000000007) (evB (n:=28) (b:=.int 31) (evB (n:=27) (evB (n:=26) (evB (n:=25) (a:=.int cell) (b:=.int 7919) rfl rfl (bMu _ _ (by decide) (by decide))) (evB (n:=25) (a:=.int k) (b:=.int 104729) rfl rfl (bMu _ _ (by decide) (by decide))) rfl) (evB (n:=26) (a:=.int j) (b:=.int 1299709) rfl rfl (bMu _ _ (by decide) (by decide))) rfl) rfl rfl) rfl (bMo _ _ (by decide))) rfl)).trans ?_;generalize (cell*7919+k*104729+j*1299709+31) % 1000000007=one
  try dsimp only
  refine(qzp (stS (evB (n:=29) (b:=.int 998244353) (evB (n:=28) (evB (n:=27) (a:=.int one) (b:=.int 48271) rfl rfl (bMu _ _ (by decide) (by decide))) (evB (n:=27) (a:=.int cell) (b:=.int 1009) rfl rfl (bDi _ _ (by decide) (by decide))) rfl) rfl (bMo _ _ (by decide))) rfl)).trans ?_;generalize (one*48271+cell / 1009) % 998244353=two
  try dsimp only
  have h1:0<=one % 9973:=Int.emod_nonneg _ (by decide);have h2:one % 9973<9973:=Int.emod_lt_of_pos _ (by decide);refine(qzp (stS (evB (n:=29) (b:=.int 1000000009) (evB (n:=28) (b:=.int j) (evB (n:=27) (a:=.int two) rfl (evB (n:=26) (b:=.int 1) (evB (n:=25) (a:=.int one) (b:=.int 9973) rfl rfl (bMo _ _ (by decide))) rfl rfl) (bMu _ _ (by omega) (by omega))) rfl rfl) rfl (bMo _ _ (by decide))) rfl)).trans ?_;generalize (two*(one % 9973+1)+j) % 1000000009=F
  try dsimp only
  exact qya (stR (evB (n:=29) (b:=.int many) (evB (n:=28) (b:=.int 2147483647) (evB (n:=27) (evB (n:=26) (evB (n:=25) (a:=.int one) (b:=.int 69621) rfl rfl (bMu _ _ (by decide) (by decide))) (evB (n:=25) (a:=.int F) (b:=.int 40692) rfl rfl (bMu _ _ (by decide) (by decide))) rfl) (evB (n:=26) (a:=.int F) (b:=.int 1013) rfl rfl (bDi _ _ (by decide) (by decide))) rfl) rfl (bMo _ _ (by decide))) rfl (bMo _ _ O)))
theorem qd4{fns:List Fn}{f:Nat}(O:fns[f]?=some qge){N:Nat}(U:1<=N){st:Store}{ns:List Int}{k j many:Int}(F:ns.length<=63)(L:0<=j)(z:j<100000)(J:0<many):
  callD fns N f [.lst (ns.map D.int),.int k,.int j,.int many] st=some (.int (qqz ns k j many),st):=by
 have:=qgi O (N - 1) st ns k j many F L z J;rwa [show N - 1+1=N by omega]at this
end M
end
section
namespace M
open PySem (Str)
abbrev CF:=Nat->List D->Store->Option (D×Store)
section
variable {c:CF}{n:Nat}{τ:Sl}{st:Store}{it elt:E}{sr:List (Option Nat)}{s:Src}{rest:Sl}{α:Type}
end
section
variable {fns:List Fn}{f:Nat}
end
end M
end
section
namespace M
open PySem (Str)
section
variable {c:CF}{n:Nat}{τ:Sl}{st st':Store}
end
end M
end
section
namespace M
open PySem (Str CmpOp Operator)
set_option genCtorIdx false in
inductive It where
 /-- a test comes out so -/
 |b (k:Bool)
 /-- a call answers so -/
 |c (a:D×Store)
 /-- seen by the kernel -/
 |k
 /-- what lies in a cell -/
 |r (c:Cell)
 /-- what a dict has at a key -/
 |q (o:Option D)
 /-- what lies at an index -/
 |i (d:D)
 |n
 /-- a part leaves nothing behind -/
 |g
 /-- a part leaves a list -/
 |l (ds:List D)
 /-- a loop ends so -/
 |s (o:Out×Store)
abbrev Tp:=List It
noncomputable def TM(α:Type):=Tp->(α->Tp->Prop)->Prop
noncomputable def TM.bind{α β:Type}(x:TM α)(f:α->TM β):TM β:=λt K=>x t λa t'=>f a t' K
noncomputable def TM.map{α β:Type}(x:TM α)(f:α->β):TM β:=λt K=>x t λa t'=>K (f a) t'
noncomputable def no{α:Type}:TM α:=λ_ _=>False
noncomputable def lf{α:Type}:Option α->TM α
 |some a=>λt K=>K a t
 |none=>no
noncomputable def ys{α:Type}(a:α):TM α:=λt K=>K a t
noncomputable def askB(p:Bool):TM Bool:=λt K=>match t with
 |.b k::t'=>p=k/\K k t'
 |.k::t'=>K p t'
 |_=>False
noncomputable def askC(o:Option (D×Store)):TM (D×Store):=λt K=>match t with
 |.c a::t'=>o=some a/\K a t'
 |_=>False
noncomputable def askD(o:Option (D×Store)):TM (D×Store):=λt K=>match t with
 |.c a::t'=>o=some a/\K a t'
 |t=>lf o t K
noncomputable def askE(o:Option (D×Store))(x:TM (D×Store)):TM (D×Store):=λt K=>match t with
 |.c a::t'=>o=some a/\K a t'
 |t=>x t K
noncomputable def askS(o:Option (Out×Store))(x:TM (Out×Store)):TM (Out×Store):=λt K=>match t with
 |.s a::t'=>o=some a/\K a t'
 |t=>x t K
noncomputable def askQ(o:Option D):TM (Option D):=λt K=>match t with
 |.q a::t'=>o=a/\K a t'
 |.k::t'=>K o t'
 |_=>False
noncomputable def askI(o:Option D):TM D:=λt K=>match t with
 |.i a::t'=>o=some a/\K a t'
 |.n::t'=>lf o t' K
 |t=>lf o t K
noncomputable def askR(o:Option Cell):TM Cell:=λt K=>match t with
 |.r c::t'=>o=some c/\K c t'
 |_=>False
noncomputable def rdT(n:Nat)(st:Store)(l:Nat):TM Cell:=if Nat.blt l n then lf st[l]? else askR st[l]?
noncomputable def Cell.ls:Cell->Option (List D)
 |.lst _ ds=>some ds
 |_=>none
noncomputable def Cell.wls:Cell->Option (List D)
 |.lst true ds=>some ds
 |_=>none
noncomputable def Cell.dc:Cell->Option (List (D×D))
 |.dic _ ds=>some ds
 |_=>none
noncomputable def Cell.wdc:Cell->Option (List (D×D))
 |.dic true ds=>some ds
 |_=>none
noncomputable def Cell.ob(C:Nat):Cell->Option (List (Str×D))
 |.obj C' fs=>if C'=C then some fs else none
 |_=>none
noncomputable def seqT(n:Nat)(st:Store):D->TM (List D)
 |.loc l=>(rdT n st l).bind λc=>lf c.ls
 |.lst ds=>ys ds
 |_=>no
noncomputable def rowT(n:Nat)(st:Store):D->TM (List D)
 |.tup ds=>ys ds
 |d=>seqT n st d
noncomputable def wlT(n:Nat)(st:Store)(l:Nat):TM (List D):=(rdT n st l).bind λc=>lf c.wls
noncomputable def dcT(n:Nat)(st:Store)(l:Nat):TM (List (D×D)):=(rdT n st l).bind λc=>lf c.dc
noncomputable def wdT(n:Nat)(st:Store)(l:Nat):TM (List (D×D)):=(rdT n st l).bind λc=>lf c.wdc
noncomputable def obT(n:Nat)(st:Store)(C:Nat):D->TM (List (Str×D))
 |.loc l=>(rdT n st l).bind λc=>lf (c.ob C)
 |_=>no
noncomputable def ql4:Qt->D->Bool
 |.Lt,_=>true
 |.LtE,_=>true
 |.Gt,_=>true
 |.GtE,_=>true
 |.Is,_=>true
 |.IsNot,_=>true
 |.Eq,.int _=>true
 |.NotEq,.int _=>true
 |_,_=>false
noncomputable def isLs:D->Bool
 |.loc _=>true
 |.lst _=>true
 |_=>false
noncomputable def isAsk:Qt->D->D->Bool
 |.In,_,y=>isLs y
 |.NotIn,_,y=>isLs y
 |.Eq,.tup _,_=>true
 |.Eq,x,_=>isLs x
 |.NotEq,x,_=>isLs x
 |_,_,_=>false
noncomputable def askO(o:Option Bool):TM Bool:=λt K=>match t with
 |.b k::t'=>o=some k/\K k t'
 |.k::t'=>lf o t' K
 |_=>False
noncomputable def cmpT(st:Store)(op:Qt)(x y:D):TM Bool:=if isAsk op x y then askO (cmpD st op x y) else(lf (cmpD st op x y)).bind λp=>if ql4 op x then askB p else ys p
noncomputable def qg2(n:Nat)(st:Store)(d:D):TM Bool:=match d with
 |.loc l=>(seqT n st (.loc l)).bind λds=>askB (!ds.isEmpty)
 |.lst ds=>askB (!ds.isEmpty)
 |d=>lf (truth st d)
noncomputable def addT(n:Nat)(st:Store)(a b:D):TM (D×Store):=(seqT n st a).bind λx=>(seqT n st b).bind λy=>(askB (decide (lim<x.length+y.length))).bind λk=>if k then no else ys (alloc st (.lst true (x++y)))
noncomputable def binT(n:Nat)(st:Store)(op:Zl)(a b:D):TM (D×Store):=match op,a with
 |.Add,.loc l=>addT n st (.loc l) b
 |.Add,.lst l=>addT n st (.lst l) b
 |.Mult,.int i=>match b with
  |.int j=>(askB (mulOk i j)).bind λk=>if k then ys (.int (i*j),st) else no
  |b=>lf (binop st .Mult (.int i) b)
 |.Mult,.tup l=>askD (binop st .Mult (.tup l) b)
 |.Mult,.loc l=>askD (binop st .Mult (.loc l) b)
 |.Mod,.int i=>askD (binop st .Mod (.int i) b)
 |.FloorDiv,.int i=>askD (binop st .FloorDiv (.int i) b)
 |op,a=>lf (binop st op a b)
noncomputable def qf5(n:Nat)(st:Store)(m:Mt)(d:D)(es:List D):TM (D×Store):=match m with
 |.append=>match d,es with
  |.loc l,[d]=>(wlT n st l).bind λds=>(askB (decide (ds.length<lim))).bind λb=>if b then ys (.non,st.set l (.lst true (ds++[d]))) else no
  |_,_=>no
 |.extend=>match d,es with
  |.loc l,[d]=>(wlT n st l).bind λds=>(rowT n st d).bind λes=>(askB (decide (ds.length+es.length<=lim))).bind λb=>if b then ys (.non,st.set l (.lst true (ds++es))) else no
  |_,_=>no
noncomputable def mtyT(n:Nat)(st:Store)(m:Mt)(d:D):TM Bool:=match d with
 |.str _=>ys (!m.ofList)
 |.lst _=>ys m.ofList
 |.loc l=>(seqT n st (.loc l)).bind λ_=>ys m.ofList
 |_=>no
noncomputable def qmg(n:Nat)(st:Store)(f:B)(ds:List D):TM (D×Store):=match f with
 |.len=>match ds with
  |[.loc l]=>(seqT n st (.loc l)).bind λxs=>ys (.int xs.length,st)
  |ds=>lf (bfun st .len ds)
 |.list=>match ds with
  |[.loc l]=>(rdT n st l).bind λc=>(lf (c.ls.or (c.dc.map keysOf))).bind λxs=>ys (alloc st (.lst true xs))
  |ds=>lf (bfun st .list ds)
 |.tuple=>match ds with
  |[.loc l]=>(seqT n st (.loc l)).bind λxs=>ys (.tup xs,st)
  |ds=>lf (bfun st .tuple ds)
 |.min=>match ds with
  |[.int i,.int j]=>(askB (decide (j<i))).bind λk=>ys (.int (if k then j else i),st)
  |_=>no
 |f=>askD (bfun st f ds)
structure RT where
 rl:R
 ev:Sl->Store->E->TM (D×Store)
 tst:Sl->Store->E->TM (Bool×Store)
 ex:Sl->Store->List S->TM (Out×Store)
 call:Nat->List D->Store->TM (D×Store)
noncomputable def gcT(st:Store)(p:D×Store):TM (D×Store):=λt K=>match t with
 |.g::t'=>(noLoc p.1=true/\p.2.take st.length=st)/\K (p.1,st) t'
 |.l ds::t'=>gcD st p=(.lst ds,st)/\K (.lst ds,st) t'
 |.k::t'=>K (gcD st p) t'
 |_=>False
noncomputable def evsT(f:Store->E->TM (D×Store)):List E->Store->TM (List D×Store)
 |[],st=>ys ([],st)
 |e::es,st=>(f st e).bind λp=>(evsT f es p.2).bind λq=>ys (p.1::q.1,q.2)
noncomputable def srcT(n:Nat)(r:RT)(τ:Sl)(st:Store):E->TM (Src×Store)
 |.rng1 a=>(r.ev τ st a).bind λp=>match p.1 with
  |.int n=>if big n then no else ys (.rng 0 n.toNat,p.2)
  |_=>no
 |.zip a b=>(r.ev τ st a).bind λp=>(r.ev τ p.2 b).bind λq=>lf ((rowAt q.2 p.1).bind λ_=>(rowAt q.2 q.1).map λ_=>(.zip p.1 q.1,q.2))
 |.rng2 _ _=>no
 |e=>(r.ev τ st e).bind λp=>match p.1 with
  |.tup ds=>ys (.tup ds,p.2)
  |.str z=>no
  |d=>(seqT n p.2 d).map λ_=>(.lst d,p.2)
noncomputable def qdz(it:Src)(f:Sl->Store->D->TM (Out×Store)):Nat->Nat->Sl->Store->TM (Out×Store)
 |0,_,_,_=>no
 |k+1,i,τ,st=>(lf (it.at st i)).bind λo=>match o with
  |none=>ys (.nx τ,st)
  |some d=>(f τ st d).bind λp=>match p.1 with
   |.nx τ'=>qdz it f k (i+1) τ' p.2
   |.ct τ'=>qdz it f k (i+1) τ' p.2
   |.bk τ'=>ys (.nx τ',p.2)
   |.rt v=>ys (.rt v,p.2)
noncomputable def turnT(r:RT)(t:T)(test:Option E)(elt:E)(τ:Sl)(st:Store)(d:D):TM (Option D×Sl×Store):=
 (lf (setT t d τ)).bind λτ'=>match test with
  |none=>(r.ev τ' st elt).map λp=>(some p.1,τ',p.2)
  |some c=>(r.tst τ' st c).bind λb=>if b.1 then(r.ev τ' b.2 elt).map λp=>(some p.1,τ',p.2) else ys (none,τ',b.2)
noncomputable def qaw(it:Src)(f:Sl->Store->D->TM (Option D×Sl×Store)):Nat->Nat->List D->Sl->Store->TM (List D×Store)
 |0,_,_,_,_=>no
 |k+1,i,acc,τ,st=>(lf (it.at st i)).bind λo=>match o with
  |none=>if lim<acc.length then no else ys (acc,st)
  |some d=>if lim<=acc.length then no else(f τ st d).bind λp=>qaw it f k (i+1) (match p.1 with|some x=>acc++[x]|none=>acc) p.2.1 p.2.2
noncomputable def qlx(r:RT)(τ:Sl)(st:Store):Option E->TM (Option Int×Store)
 |none=>ys (none,st)
 |some e=>(r.ev τ st e).bind λp=>match p.1 with
  |.int i=>ys (some i,p.2)
  |_=>no
noncomputable def dgT(n:Nat)(p:D×Store)(k:D)(st:Store):TM (Option D):=match p.1 with
 |.loc l=>(dcT n st l).bind λkvs=>if isKey k then askQ (dget kvs k) else no
 |_=>no
noncomputable def qcy(n:Nat)(r:RT)(τ:Sl)(st:Store):E->TM (D×Store)
 |.var i=>lf (match τ[i]? with
  |some (some d)=>some (d,st)
  |_=>none)
 |.lit d=>ys (d,st)
 |.glo _ d=>ys (d,st)
 |.bin op a b=>(r.ev τ st a).bind λp=>(r.ev τ p.2 b).bind λq=>binT n q.2 op p.1 q.1
 |.neg a=>(r.ev τ st a).bind λp=>lf (match p.1 with
  |.int i=>some (.int (-i),p.2)
  |_=>none)
 |.not a=>(r.ev τ st a).bind λp=>lf (match p.1 with
  |.bl b=>some (.bl (!b),p.2)
  |_=>none)
 |.cmp op a b=>(r.ev τ st a).bind λp=>(r.ev τ p.2 b).bind λq=>(cmpT q.2 op p.1 q.1).map λk=>(.bl k,q.2)
 |.cmp2 op op' a b c=>(r.ev τ st a).bind λp=>(r.ev τ p.2 b).bind λq=>(cmpT q.2 op p.1 q.1).bind λk=>
   if k then(r.ev τ q.2 c).bind λu=>(cmpT u.2 op' q.1 u.1).map λk'=>(.bl k',u.2) else ys (.bl false,q.2)
 |.and a b=>(r.ev τ st a).bind λp=>match p.1 with
  |.bl true=>r.ev τ p.2 b
  |.bl false=>ys (.bl false,p.2)
  |_=>no
 |.or a b=>(r.ev τ st a).bind λp=>match p.1 with
  |.bl false=>r.ev τ p.2 b
  |.bl true=>ys (.bl true,p.2)
  |_=>no
 |.ite c a b=>(r.tst τ st c).bind λp=>if p.1 then r.ev τ p.2 a else r.ev τ p.2 b
 |.tup es=>(evsT (r.ev τ) es st).bind λp=>if lim<p.1.length then no else ys (.tup p.1,p.2)
 |.lst es=>(evsT (r.ev τ) es st).bind λp=>if lim<p.1.length then no else ys (alloc p.2 (.lst true p.1))
 |.idx a b=>(r.ev τ st a).bind λp=>(r.ev τ p.2 b).bind λq=>(askI (idxD q.2 p.1 q.1)).map λd=>(d,q.2)
 |.sli a lo hi=>(r.ev τ st a).bind λp=>(qlx r τ p.2 lo).bind λl=>(qlx r τ l.2 hi).bind λh=>lf (sliD h.2 p.1 l.1 h.1)
 |.call f es=>(evsT (r.ev τ) es st).bind λp=>r.call f p.1 p.2
 |.bcall f es=>(evsT (r.ev τ) es st).bind λp=>qmg n p.2 f p.1
 |.isi a ts _=>(r.ev τ st a).bind λp=>(lf (tyName p.2 p.1)).map λn=>(.bl (ts.any λt=>tyIs t n),p.2)
 |.meth a m es=>(r.ev τ st a).bind λp=>(mtyT n p.2 m p.1).bind λk=>if k then(evsT (r.ev τ) es p.2).bind λq=>qf5 n q.2 m p.1 q.1 else no
 |.gc a=>(r.ev τ st a).bind λp=>gcT st p
 |.dic es=>(evsT (r.ev τ) es (st++[.dic true []])).bind λp=>(wdT n p.2 st.length).bind λk0=>lf (match k0 with
  |[]=>(pairUp p.1).bind λkvs=>if kvs.length<=15 then some (.loc st.length,p.2.set st.length (.dic true (dall kvs))) else none
  |_=>none)
 |.didx a b=>(r.ev τ st a).bind λp=>(r.ev τ p.2 b).bind λq=>(dgT n p q.1 q.2).bind λo=>(lf o).map λd=>(d,q.2)
 |.din neg a b=>(r.ev τ st a).bind λp=>(r.ev τ p.2 b).bind λq=>(dgT n q p.1 q.2).map λo=>(.bl (o.isSome != neg),q.2)
 |.gidx _ ks ds b=>(r.ev τ st b).bind λp=>lf (match p.1 with
  |.str z=>((ks.zip ds).find? λq=>q.1==z).map λq=>(q.2,p.2)
  |_=>none)
 |.gin neg _ ks b=>(r.ev τ st b).bind λp=>lf (match p.1 with
  |.str z=>some (.bl (ks.contains z != neg),p.2)
  |_=>none)
 |.lenset a=>(r.ev τ st a).bind λp=>(askI (qvy p.1)).map λd=>(d,p.2)
 |.comp t it test elt sr=>askE (stepEv r.rl τ st (.comp t it test elt sr)) ((srcT n r τ st it).bind λp=>
   (qaw p.1 (turnT r t test elt) (p.1.size p.2+1) 0 [] (inner sr τ) p.2).map λq=>alloc q.2 (.lst true q.1))
 |.attr C a f=>(r.ev τ st a).bind λp=>(obT n p.2 C p.1).bind λfs=>lf ((fs.lookup f).map λd=>(d,p.2))
 |.mcall C f m a es=>(r.ev τ st a).bind λp=>(obT n p.2 C p.1).bind λfs=>if (fs.lookup m).isSome then no else(evsT (r.ev τ) es p.2).bind λq=>r.call f (p.1::q.1) q.2
 |.new C f es=>(evsT (r.ev τ) es st).bind λp=>(r.call f (.loc p.2.length::p.1) (p.2++[.obj C []])).bind λq=>if isNon q.1 then ys (.loc p.2.length,q.2) else no
 |_=>no
noncomputable def qy1(n:Nat)(r:RT)(τ:Sl)(st:Store):E->TM (Bool×Store)
 |.not a=>(r.tst τ st a).map λp=>(!p.1,p.2)
 |.and a b=>(r.tst τ st a).bind λp=>if p.1 then r.tst τ p.2 b else ys (false,p.2)
 |.or a b=>(r.tst τ st a).bind λp=>if p.1 then ys (true,p.2) else r.tst τ p.2 b
 |.ite _ _ _=>no
 |.din neg a b=>(r.ev τ st a).bind λp=>(r.ev τ p.2 b).bind λq=>(dgT n q p.1 q.2).map λo=>(o.isSome != neg,q.2)
 |.gin neg _ ks b=>(r.ev τ st b).bind λp=>lf (match p.1 with
  |.str z=>some (ks.contains z != neg,p.2)
  |_=>none)
 |.cmp op a b=>(r.ev τ st a).bind λp=>(r.ev τ p.2 b).bind λq=>(cmpT q.2 op p.1 q.1).map λk=>(k,q.2)
 |.cmp2 op op' a b c=>(r.ev τ st a).bind λp=>(r.ev τ p.2 b).bind λq=>(cmpT q.2 op p.1 q.1).bind λk=>
   if k then(r.ev τ q.2 c).bind λu=>(cmpT u.2 op' q.1 u.1).map λk'=>(k',u.2) else ys (false,q.2)
 |e=>(r.ev τ st e).bind λp=>(qg2 n p.2 p.1).map λk=>(k,p.2)
noncomputable def qk4(n:Nat)(r:RT)(τ:Sl)(st:Store):S->TM (Out×Store)
 |.set t e=>(r.ev τ st e).bind λp=>(lf (setT t p.1 τ)).map λτ'=>(.nx τ',p.2)
 |.dset a i e=>(r.ev τ st e).bind λp=>(r.ev τ p.2 a).bind λq=>(r.ev τ q.2 i).bind λu=>match q.1 with
  |.loc l=>(wdT n u.2 l).bind λkvs=>if isKey u.1 then(askB (decide (kvs.length<lim))).bind λb=>if b then ys (.nx τ,u.2.set l (.dic true (dput kvs u.1 p.1))) else no else no
  |_=>no
 |.setA C a f e=>(r.ev τ st e).bind λp=>(r.ev τ p.2 a).bind λq=>(obT n q.2 C q.1).bind λfs=>match q.1 with
  |.loc l=>if fs.length<900 then ys (.nx τ,q.2.set l (.obj C (putA f p.1 fs))) else no
  |_=>no
 |.expr e=>(r.ev τ st e).map λp=>(.nx τ,p.2)
 |.ret e=>(r.ev τ st e).map λp=>(.rt p.1,p.2)
 |.ite c a b=>(r.tst τ st c).bind λp=>if p.1 then r.ex τ p.2 a else r.ex τ p.2 b
 |.forr t it body=>askS (stepEx r.rl τ st (.forr t it body)) ((srcT n r τ st it).bind λp=>
   qdz p.1 (λτ st d=>(lf (setT t d τ)).bind λτ'=>r.ex τ' st body) (p.1.size p.2+1) 0 τ p.2)
 |.ford t a body=>askS (stepEx r.rl τ st (.ford t a body)) no
 |_=>no
noncomputable def exsT(f:Sl->Store->S->TM (Out×Store)):List S->Sl->Store->TM (Out×Store)
 |[],τ,st=>ys (.nx τ,st)
 |s::ss,τ,st=>(f τ st s).bind λp=>match p.1 with
  |.nx τ'=>exsT f ss τ' p.2
  |o=>ys (o,p.2)
abbrev CT:=Nat->List D->Store->TM (D×Store)
noncomputable def runT(n:Nat)(R0:R)(c:CT):Nat->RT
 |0=>⟨R0,λ_ _ _=>no,λ_ _ _=>no,λ_ _ _=>no,c⟩
 |k+1=>⟨R0,qcy n (runT n R0 c k),qy1 n (runT n R0 c k),λτ st ss=>exsT (qk4 n (runT n R0 c k)) ss τ st,c⟩
noncomputable def qvm(fns:List Fn)(n:Nat)(O:List Nat)(k:Nat):Nat->CT
 |0=>λ_ _ _=>no
 |d+1=>λf ds st=>if O.contains f then askC (callD fns (k+(d+1)) f ds st) else match fns[f]? with
   |some F=>if ds.length=F.np then((runT n (RL (callD fns (k+d))) (qvm fns n O k d) 40).ex (ds.map some++List.replicate (F.nl - ds.length) none) st F.body).bind λp=>(match p.1 with
     |.rt d=>ys (d,p.2)
     |.nx _=>ys (.non,p.2)
     |_=>no)
    else no
   |none=>no
def Sn{α:Type}(x:TM α)(y:Option α):Prop:=∀t K,x t K->∃a t',y=some a/\K a t'
theorem Sn.lf{α:Type}:∀(o:Option α),Sn (lf o) o
 |some a=>λt K h=>⟨a,t,rfl,h⟩
 |none=>λt K h=>h.elim
theorem Sn.ys{α:Type}(a:α):Sn (ys a) (some a):=λt K h=>⟨a,t,rfl,h⟩
theorem Sn.no{α:Type}(o:Option α):Sn no o:=λt K h=>h.elim
theorem Sn.bind{α j:Type}{x:TM α}{y:Option α}{f:α->TM j}{g:α->Option j}(h:Sn x y)(h':∀a,Sn (f a) (g a)):Sn (x.bind f) (y.bind g):=λt K e=>by
 obtain⟨a,F,rfl,z⟩:=h _ _ e;exact h' a _ _ z
theorem Sn.map{α j:Type}{x:TM α}{y:Option α}(f:α->j)(h:Sn x y):Sn (x.map f) (y.map f):=λt K e=>by
 obtain⟨a,z,rfl,F⟩:=h _ _ e;exact⟨f a,z,rfl,F⟩
theorem Sn.ite{α:Type}{c:Prop} [Decidable c]{a b:TM α}{z j:Option α}(J:Sn a z) (F:Sn b j):Sn (if c then a else b) (if c then z else j):=by
 by_cases h:c
 ·rw[Z3 h,Z3 h]; exact J
 ·rw[Z2 h,Z2 h]; exact F
theorem Sn.up{α:Type}{x:TM α}{y y':Option α}(h:∀a,y=some a->y'=some a)(e:Sn x y):Sn x y':=λt K h1=>by
 obtain⟨a,j,F,z⟩:=e t K h1;exact⟨a,j,h a F,z⟩
theorem Sn.eq{α:Type}{x:TM α}{y y':Option α}(h:y=y')(e:Sn x y):Sn x y':=h▸e
theorem bm{α j:Type}{o:Option α}{f:α->j}:(o.bind λx=>some (f x))=o.map f:=by cases o<;>rfl
theorem Sn.askB(p:Bool):Sn (askB p) (some p):=λt K h=>by
 cases t with
 |nil=>exact h.elim
 |cons i t=>
  cases i with
  |b k=>obtain⟨rfl,e⟩:=h; exact⟨_,_,rfl,e⟩
  |k=>exact⟨p,t,rfl,h⟩
  |_=>exact h.elim
theorem Sn.askC(o:Option (D×Store)):Sn (askC o) o:=λt K h=>by
 cases t with
 |nil=>exact h.elim
 |cons i t=>
  cases i with
  |c a=>exact⟨a,t,h.1,h.2⟩
  |_=>exact h.elim
theorem Sn.askD(o:Option (D×Store)):Sn (askD o) o:=λt K h=>by
 cases t with
 |nil=>exact Sn.lf o _ _ h
 |cons i t=>
  cases i with
  |c a=>exact⟨a,t,h.1,h.2⟩
  |_=>exact Sn.lf o _ _ h
theorem Sn.askE{o:Option (D×Store)}{x:TM (D×Store)}(h:Sn x o):Sn (askE o x) o:=λt K e=>by
 cases t with
 |nil=>exact h _ _ e
 |cons i t=>
  cases i with
  |c a=>exact⟨a,t,e.1,e.2⟩
  |_=>exact h _ _ e
theorem Sn.askS{o:Option (Out×Store)}{x:TM (Out×Store)}(h:Sn x o):Sn (askS o x) o:=λt K e=>by
 cases t with
 |nil=>exact h _ _ e
 |cons i t=>
  cases i with
  |s a=>exact⟨a,t,e.1,e.2⟩
  |_=>exact h _ _ e
theorem Sn.askQ(o:Option D):Sn (askQ o) (some o):=λt K h=>by
 cases t with
 |nil=>exact h.elim
 |cons i t=>
  cases i with
  |q a=>exact⟨a,t,congrArg some h.1,h.2⟩
  |k=>exact⟨o,t,rfl,h⟩
  |_=>exact h.elim
theorem Sn.askI(o:Option D):Sn (askI o) o:=λt K h=>by
 cases t with
 |nil=>exact Sn.lf o _ _ h
 |cons i t=>
  cases i with
  |i a=>exact⟨a,t,h.1,h.2⟩
  |n=>exact Sn.lf o _ _ h
  |_=>exact Sn.lf o _ _ h
theorem Sn.askR(o:Option Cell):Sn (askR o) o:=λt K h=>by
 cases t with
 |nil=>exact h.elim
 |cons i t=>
  cases i with
  |r c=>exact⟨c,t,h.1,h.2⟩
  |_=>exact h.elim
theorem Sn.rd(n:Nat)(st:Store)(l:Nat):Sn (rdT n st l) st[l]?:=by
 unfold rdT
 by_cases j:Nat.blt l n=true
 ·rw[Z3 j]; exact .lf _
 ·rw[Z2 j]; exact .askR _
theorem Sn.seq(n:Nat)(st:Store)(d:D):Sn (seqT n st d) (seqAt st d):=by
 cases d with
 |loc l=>exact((Sn.rd n st l).bind λc=>.lf _).eq (by show _=listAt st l; unfold listAt; cases st[l]? with|none=>rfl|some c=>cases c<;>rfl)
 |lst ds=>exact .ys _
 |_=>exact .no _
theorem Sn.row(n:Nat)(st:Store)(d:D):Sn (rowT n st d) (rowAt st d):=by
 cases d with
 |tup ds=>exact .ys _
 |non=>exact Sn.seq n st .non
 |bl b=>exact Sn.seq n st (.bl b)
 |int b=>exact Sn.seq n st (.int b)
 |str b=>exact Sn.seq n st (.str b)
 |lst b=>exact Sn.seq n st (.lst b)
 |loc b=>exact Sn.seq n st (.loc b)
theorem Sn.wl(n:Nat)(st:Store)(l:Nat):Sn (wlT n st l) (wlistAt st l):=((Sn.rd n st l).bind λc=>.lf _).eq (by
 unfold wlistAt
 cases st[l]? with
 |none=>rfl
 |some c=>cases c with
  |lst w ds=>cases w<;>rfl
  |_=>rfl)
theorem Sn.dc(n:Nat)(st:Store)(l:Nat):Sn (dcT n st l) (dicAt st l):=((Sn.rd n st l).bind λc=>.lf _).eq (by unfold dicAt; cases st[l]? with|none=>rfl|some c=>cases c<;>rfl)
theorem Sn.wd(n:Nat)(st:Store)(l:Nat):Sn (wdT n st l) (wdicAt st l):=((Sn.rd n st l).bind λc=>.lf _).eq (by
 unfold wdicAt
 cases st[l]? with
 |none=>rfl
 |some c=>cases c with
  |dic w ds=>cases w<;>rfl
  |_=>rfl)
theorem Sn.ob(n:Nat)(st:Store)(C:Nat)(d:D):Sn (obT n st C d) (objAt st C d):=by
 cases d with
 |loc l=>exact((Sn.rd n st l).bind λc=>.lf _).eq (by unfold objAt; dsimp only; cases st[l]? with|none=>rfl|some c=>cases c<;>rfl)
 |_=>exact .no _
theorem Sn.gc(st:Store)(p:D×Store):Sn (gcT st p) (some (gcD st p)):=λt K h=>by
 cases t with
 |nil=>exact h.elim
 |cons i t=>
  cases i with
  |g=>
   obtain⟨⟨h1,h2⟩,h⟩:=h;refine⟨_,t,?_,h⟩;unfold gcD gcX;rw[h2,Z3 h1,Z3 rfl,ite_self]
  |l ds=>exact⟨_,t,congrArg some h.1,h.2⟩
  |k=>exact⟨_,t,rfl,h⟩
  |_=>exact h.elim
theorem Sn.cond{α:Type}(p:Bool)(a:α):Sn (TM.bind (M.askB p) λb=>if b=true then M.ys a else M.no) (if p=true then some a else none):=
 (Sn.askB p).bind (g:=λb=>if b=true then some a else none) λb=>Sn.ite (c:=b=true) (Sn.ys a) (.no none)
theorem Sn.meth(n:Nat)(st:Store)(m:Mt)(d:D)(es:List D):Sn (qf5 n st m d es) (mfun st m d es):=by
 cases m with
 |append=>
  unfold qf5;dsimp only
  split
  ·refine(Sn.wl n st _).bind λds=>(Sn.cond _ _).eq ?_;simp only[decide_eq_true_eq]
  ·exact .no _
 |extend=>
  unfold qf5;dsimp only
  split
  ·rename_i l d;refine(Sn.wl n st _).bind λds=>((Sn.row n st d).bind λes=>Sn.cond _ _).eq ?_;simp only[decide_eq_true_eq];cases d<;>rfl
  ·exact .no _
theorem Sn.mt(n:Nat)(st:Store)(m:Mt)(d:D){α:Type}{x:TM α}{y:Option α}(h:Sn x y):Sn (TM.bind (mtyT n st m d) λk=>if k=true then x else M.no) (if mty st m d then y else none):=by
 cases d with
 |str z=>exact λt K e=>Sn.ite (c:=(!m.ofList)=true) h (.no none) t K e
 |lst z=>
  refine((Sn.ys m.ofList).bind λk=>Sn.ite (c:=k=true) h (.no none)).eq ?_
  show(if m.ofList=true then y else none)=if (m.ofList&&true)=true then y else none
  rw[Qkf]
 |loc l=>
  have e:=((Sn.seq n st (.loc l)).bind λ_=>Sn.ys m.ofList).bind λk=>Sn.ite (c:=k=true) h (.no none);refine e.up λa e=>?_;show(if (m.ofList&&(seqAt st (.loc l)).isSome)=true then y else none)=some a
  cases j:seqAt st (.loc l) with
  |none=>rw[j]at e; cases e
  |some xs=>rw[j]at e; rw[Option.isSome_some,Qkf]; exact e
 |_=>exact λt K e=>e.elim
theorem Sn.askO(o:Option Bool):Sn (askO o) o:=λt K h=>by
 cases t with
 |nil=>exact h.elim
 |cons i t=>
  cases i with
  |b k=>exact⟨k,t,h.1,h.2⟩
  |k=>exact Sn.lf o _ _ h
  |_=>exact h.elim
theorem Sn.cmp(st:Store)(op:Qt)(x y:D):Sn (cmpT st op x y) (cmpD st op x y):=by
 unfold cmpT
 by_cases j:isAsk op x y=true
 ·rw[Z3 j]; exact .askO _
 ·rw[Z2 j];have h:Sn ((M.lf (cmpD st op x y)).bind λp=>if ql4 op x=true then M.askB p else M.ys p) ((cmpD st op x y).bind λp=>if ql4 op x=true then some p else some p):=(Sn.lf _).bind λp=>Sn.ite (Sn.askB p) (Sn.ys p);simpa using h
theorem Sn.truth(n:Nat)(st:Store)(d:D):Sn (qg2 n st d) (truth st d):=by
 cases d with
 |loc l=>exact((Sn.seq n st (.loc l)).bind λds=>Sn.askB _).eq (by show _=(seqAt st (.loc l)).map _; rw[Option.map_eq_bind]; rfl)
 |lst l=>exact .askB _
 |non=>exact .lf (M.truth st .non)
 |bl b=>exact .lf (M.truth st (.bl b))
 |int b=>exact .lf (M.truth st (.int b))
 |str b=>exact .lf (M.truth st (.str b))
 |tup b=>exact .lf (M.truth st (.tup b))
theorem Sn.add(n:Nat)(st:Store)(a b:D):Sn (addT n st a b) ((seqAt st a).bind λx=>(seqAt st b).bind λy=>if lim<x.length+y.length then none else some (alloc st (.lst true (x++y)))):=
 (Sn.seq n st a).bind λx=>(Sn.seq n st b).bind λy=>by
  have h:=(Sn.askB (decide (lim<x.length+y.length))).bind (g:=λk=>if k=true then none else some (alloc st (.lst true (x++y)))) λk=>Sn.ite (c:=k=true) (.no none) (Sn.ys (alloc st (.lst true (x++y))));simpa only[oBs,decide_eq_true_eq] using h
theorem Sn.bin(n:Nat)(st:Store)(op:Zl)(a b:D):Sn (binT n st op a b) (binop st op a b):=by
 unfold binT
 split
 ·exact(Sn.add n st _ b).eq (by cases b<;>rfl)
 ·exact(Sn.add n st _ b).eq (by cases b<;>rfl)
 ·split
  ·exact Sn.cond _ _
  ·exact .lf _
 ·exact .askD _
 ·exact .askD _
 ·exact .askD _
 ·exact .askD _
 ·exact .lf _
theorem Sn.bf(n:Nat)(st:Store)(f:B)(ds:List D):Sn (qmg n st f ds) (bfun st f ds):=by
 unfold qmg
 split
 ·split
  ·exact((Sn.seq n st _).bind λxs=>.ys _).eq (bm)
  ·exact .lf _
 ·split
  ·rename_i l;refine((Sn.rd n st l).bind λc=>(Sn.lf _).bind λxs=>.ys _).eq ?_;show _=bList st [.loc l];unfold bList seqAt listAt dkeys dicAt;dsimp only
   cases st[l]? with
   |none=>rfl
   |some c=>cases c<;>rfl
  ·exact .lf _
 ·split
  ·exact((Sn.seq n st _).bind λxs=>.ys _).eq (bm)
  ·exact .lf _
 ·split
  ·rename_i i j;refine((Sn.askB _).bind λk=>.ys _).eq ?_;show some _=some _
   by_cases h:j<i<;>simp[h]
  ·exact .no _
 ·exact .askD _
structure SnR (r:RT) (r':R):Prop where
 rl:r.rl=r'
 ev:∀τ st e,Sn (r.ev τ st e) (r'.ev τ st e)
 tst:∀τ st e,Sn (r.tst τ st e) (r'.tst τ st e)
 ex:∀τ st e,Sn (r.ex τ st e) (r'.ex τ st e)
 call:∀f ds st,Sn (r.call f ds st) (r'.call f ds st)
theorem qxc{f:Store->E->TM (D×Store)}{j:Store->E->Option (D×Store)}(h:∀st e,Sn (f st e) (j st e)):∀(es:List E) (st:Store),Sn (evsT f es st) (evs j es st)
 |[],st=>.ys _
 |e::es,st=>(h st e).bind λp=>(qxc h es p.2).bind λq=>.ys _
theorem qyx{it:Src}{f:Sl->Store->D->TM (Out×Store)}{z:Sl->Store->D->Option (Out×Store)}(h:∀τ st d,Sn (f τ st d) (z τ st d)):∀(k i:Nat) (τ:Sl) (st:Store),Sn (qdz it f k i τ st) (loop it z k i τ st)
 |0,_,_,_=>.no _
 |k+1,i,τ,st=>by
  unfold loop qdz;refine(Sn.lf _).bind λo=>?_
  cases o with
  |none=>exact .ys _
  |some d=>
   refine(h τ st d).bind λp=>?_;obtain⟨o,s⟩:=p
   cases o with
   |nx j=>exact qyx h k _ _ _
   |ct j=>exact qyx h k _ _ _
   |bk j=>exact .ys _
   |rt v=>exact .ys _
theorem qav{it:Src}{f:Sl->Store->D->TM (Option D×Sl×Store)}{z:Sl->Store->D->Option (Option D×Sl×Store)}(h:∀τ st d,Sn (f τ st d) (z τ st d)):∀(k i:Nat) (j:List D) (τ:Sl) (st:Store),Sn (qaw it f k i j τ st) (loopC it z k i j τ st)
 |0,_,_,_,_=>.no _
 |k+1,i,j,τ,st=>by
  unfold loopC qaw;refine(Sn.lf _).bind λo=>?_
  cases o with
  |none=>exact Sn.ite (.no _) (.ys _)
  |some d=>exact Sn.ite (.no _) ((h τ st d).bind λp=>qav h k _ _ _ _)
theorem qdu{f:Sl->Store->S->TM (Out×Store)}{j:Sl->Store->S->Option (Out×Store)}(h:∀τ st s,Sn (f τ st s) (j τ st s)):∀(ss:List S) (τ:Sl) (st:Store),Sn (exsT f ss τ st) (exs j ss τ st)
 |[],_,_=>.ys _
 |s::ss,τ,st=>by
  unfold exs exsT;refine(h τ st s).bind λp=>?_;obtain⟨o,q⟩:=p
  cases o with
  |nx z=>exact qdu h ss _ _
  |rt _=>exact .ys _
  |bk _=>exact .ys _
  |ct _=>exact .ys _
section
variable {n:Nat}{r:RT}{r':R}(h:SnR r r')
include h
theorem qg7(τ:Sl)(st:Store)(e:E):Sn (srcT n r τ st e) (src r' τ st e):=by
 cases e with
 |rng1 a=>
  refine(h.ev τ st a).bind λp=>?_;obtain⟨d,s⟩:=p
  cases d with
  |int n=>exact Sn.ite (.no _) (.ys _)
  |_=>exact .no _
 |rng2 a b=>exact .no _
 |zip a b=>exact(h.ev τ st a).bind λp=>(h.ev τ _ b).bind λq=>.lf _
 |_=>
  refine(h.ev τ st _).bind λp=>?_;obtain⟨d,s⟩:=p
  cases d with
  |tup n=>exact .ys _
  |str z=>exact .no _
  |_=>exact(Sn.seq n s _).map _
theorem qc1(τ:Sl)(st:Store)(e:Option E):Sn (qlx r τ st e) (part r' τ st e):=by
 cases e with
 |none=>exact .ys _
 |some e=>
  refine(h.ev τ st e).bind λp=>?_;obtain⟨d,s⟩:=p
  cases d with
  |int n=>exact .ys _
  |_=>exact .no _
theorem qh4(t:T)(test:Option E)(elt:E)(τ:Sl)(st:Store)(d:D):Sn (turnT r t test elt τ st d) (turnC r' t test elt τ st d):=(Sn.lf _).bind λj=>by
 cases test with
 |none=>exact(h.ev _ _ _).map _
 |some c=>exact(h.tst _ _ _).bind λb=>Sn.ite ((h.ev _ _ _).map _) (.ys _)
omit h in
theorem qmy(p:D×Store)(k:D)(st:Store){α:Type}{f:Option D->TM α}{g:Option D->Option α}(j:∀o,Sn (f o) (g o)):Sn ((dgT n p k st).bind f) (match p.1 with
  |.loc l=>(dicAt st l).bind λkvs=>if isKey k then g (dget kvs k) else none
  |_=>none):=by
 obtain⟨d,s⟩:=p
 cases d with
 |loc l=>
  refine(((Sn.dc n st l).bind λkvs=>Sn.ite (c:=isKey k=true) (Sn.askQ (dget kvs k)) (.no none)).bind j).eq ?_;dsimp only
  cases dicAt st l with
  |none=>rfl
  |some kvs=>
   show Option.bind (if isKey k=true then some (dget kvs k) else none) g=if isKey k=true then g (dget kvs k) else none
   by_cases e:isKey k=true
   ·rw[Z3 e,Z3 e]; rfl
   ·rw[Z2 e,Z2 e]; rfl
 |_=>exact λt K e=>e.elim
theorem qcw(τ:Sl)(st:Store)(e:E):Sn (qcy n r τ st e) (stepEv r' τ st e):=by
 cases e with
 |var i=>exact .lf _
 |lit d=>exact .ys _
 |glo x d=>exact .ys _
 |bin z a b=>exact(h.ev τ st a).bind λp=>(h.ev τ _ b).bind λq=>.bin _ _ _ _ _
 |neg a=>exact(h.ev τ st a).bind λp=>.lf _
 |not a=>exact(h.ev τ st a).bind λp=>.lf _
 |cmp z a b=>exact(h.ev τ st a).bind λp=>(h.ev τ _ b).bind λq=>(Sn.cmp _ _ _ _).map _
 |cmp2 z F a b c=>exact(h.ev τ st a).bind λp=>(h.ev τ _ b).bind λq=>(Sn.cmp _ _ _ _).bind λk=>Sn.ite ((h.ev τ _ c).bind λu=>(Sn.cmp _ _ _ _).map _) (.ys _)
 |and a b=>
  refine(h.ev τ st a).bind λp=>?_;obtain⟨d,s⟩:=p
  cases d with
  |bl k=>cases k with
   |true=>exact h.ev τ _ b
   |false=>exact .ys _
  |_=>exact .no _
 |or a b=>
  refine(h.ev τ st a).bind λp=>?_;obtain⟨d,s⟩:=p
  cases d with
  |bl k=>cases k with
   |false=>exact h.ev τ _ b
   |true=>exact .ys _
  |_=>exact .no _
 |ite c a b=>exact(h.tst τ st c).bind λp=>Sn.ite (h.ev τ _ a) (h.ev τ _ b)
 |tup es=>exact(qxc (h.ev τ) es st).bind λp=>Sn.ite (.no _) (.ys _)
 |lst es=>exact(qxc (h.ev τ) es st).bind λp=>Sn.ite (.no _) (.ys _)
 |idx a b=>exact(h.ev τ st a).bind λp=>(h.ev τ _ b).bind λq=>(Sn.askI _).map _
 |sli a lo hi=>exact(h.ev τ st a).bind λp=>(qc1 h τ _ lo).bind λl=>(qc1 h τ _ hi).bind λu=>.lf _
 |call f es=>exact(qxc (h.ev τ) es st).bind λp=>h.call f _ _
 |bcall f es=>exact(qxc (h.ev τ) es st).bind λp=>.bf _ _ _ _
 |isi a J m=>exact(h.ev τ st a).bind λp=>(Sn.lf _).map _
 |lenset a=>exact(h.ev τ st a).bind λp=>(Sn.askI _).map _
 |gc a=>exact((h.ev τ st a).bind λp=>Sn.gc st p).eq (bm)
 |meth a m es=>exact(h.ev τ st a).bind λp=>Sn.mt _ _ _ _ ((qxc (h.ev τ) es _).bind λq=>.meth _ _ _ _ _)
 |dic es=>
  refine(qxc (h.ev τ) es _).bind λp=>((Sn.wd n p.2 st.length).bind λk0=>Sn.lf _).eq ?_
  cases wdicAt p.2 st.length with
  |none=>rfl
  |some k0=>cases k0<;>rfl
 |didx a b=>exact(h.ev τ st a).bind λp=>(h.ev τ _ b).bind λq=>qmy p q.1 q.2 λo=>(Sn.lf o).map _
 |din neg a b=>exact(h.ev τ st a).bind λp=>(h.ev τ _ b).bind λq=>qmy q p.1 q.2 (f:=λo=>ys _) λo=>Sn.ys _
 |gidx x ks ds b=>exact(h.ev τ st b).bind λp=>.lf _
 |gin neg x ks b=>exact(h.ev τ st b).bind λp=>.lf _
 |comp t it j elt sr=>
  show Sn (askE (stepEv r.rl τ st (.comp t it j elt sr)) _) _;rw[h.rl];exact Sn.askE ((qg7 h τ st it).bind λp=>(qav (qh4 h t j elt) _ _ _ _ _).map _)
 |attr C a f=>exact(h.ev τ st a).bind λp=>(Sn.ob _ _ _ _).bind λfs=>.lf _
 |mcall C f m a es=>exact(h.ev τ st a).bind λp=>(Sn.ob _ _ _ _).bind λfs=>Sn.ite (.no _) ((qxc (h.ev τ) es _).bind λq=>h.call f _ _)
 |new C f es=>exact(qxc (h.ev τ) es st).bind λp=>(h.call f _ _).bind λq=>Sn.ite (.ys _) (.no _)
 |_=>exact .no _
theorem qa3(τ:Sl)(st:Store)(e:E):Sn (qy1 n r τ st e) (stepTst r' τ st e):=by
 cases e with
 |not a=>exact(h.tst τ st a).map _
 |and a b=>exact(h.tst τ st a).bind λp=>Sn.ite (h.tst τ _ b) (.ys _)
 |or a b=>exact(h.tst τ st a).bind λp=>Sn.ite (.ys _) (h.tst τ _ b)
 |ite _ _ _=>exact .no _
 |din neg a b=>
  refine((h.ev τ st a).bind λp=>(h.ev τ _ b).bind λq=>qmy q p.1 q.2 (f:=λo=>ys _) λo=>Sn.ys _).eq ?_;show _=(dinR r' τ st neg a b).bind _;unfold dinR;simp only[Option.bind_assoc];refine congrArg _ (funext λp=>congrArg _ (funext λq=>?_))
  cases q.1 with
  |loc l=>
   dsimp only
   cases dicAt q.2 l with
   |none=>rfl
   |some kvs=>
    simp only[oBs]
    by_cases e:isKey p.1=true
    ·rw[Z3 e,Z3 e]; rfl
    ·rw[Z2 e,Z2 e]; rfl
  |_=>rfl
 |gin neg x ks b=>
  refine((h.ev τ st b).bind λp=>Sn.lf _).eq ?_;show _=(ginR r' τ st neg ks b).bind _;unfold ginR;simp only[Option.bind_assoc];refine congrArg _ (funext λp=>?_);cases p.1<;>rfl
 |cmp z a b=>exact(h.ev τ st a).bind λp=>(h.ev τ _ b).bind λq=>(Sn.cmp _ _ _ _).map _
 |cmp2 z j a b c=>exact(h.ev τ st a).bind λp=>(h.ev τ _ b).bind λq=>(Sn.cmp _ _ _ _).bind λk=>Sn.ite ((h.ev τ _ c).bind λu=>(Sn.cmp _ _ _ _).map _) (.ys _)
 |_=>exact(h.ev τ st _).bind λp=>(Sn.truth _ _ _).map _
theorem qvr(τ:Sl)(st:Store)(s:S):Sn (qk4 n r τ st s) (stepEx r' τ st s):=by
 cases s with
 |set t e=>exact(h.ev τ st e).bind λp=>(Sn.lf _).map _
 |dset a i e=>
  refine(h.ev τ st e).bind λp=>(h.ev τ _ a).bind λq=>(h.ev τ _ i).bind λu=>?_;obtain⟨d,s⟩:=q
  cases d with
  |loc l=>
   refine((Sn.wd n u.2 l).bind λkvs=>Sn.ite (c:=isKey u.1=true) (Sn.cond (decide (kvs.length<lim)) (Out.nx τ,u.2.set l (.dic true (dput kvs u.1 p.1)))) (.no none)).eq ?_;dsimp only;refine congrArg _ (funext λkvs=>?_)
   cases isKey u.1 with
   |true=>rfl
   |false=>rfl
  |_=>exact .no _
 |setA C a f e=>
  refine(h.ev τ st e).bind λp=>(h.ev τ _ a).bind λq=>(Sn.ob n _ _ _).bind λfs=>?_;obtain⟨d,s⟩:=q
  cases d with
  |loc l=>exact Sn.ite (.ys _) (.no _)
  |_=>exact .no _
 |expr e=>exact(h.ev τ st e).map _
 |ret e=>exact(h.ev τ st e).map _
 |ite c a b=>exact(h.tst τ st c).bind λp=>Sn.ite (h.ex τ _ a) (h.ex τ _ b)
 |forr t it body=>
  show Sn (askS (stepEx r.rl τ st (.forr t it body)) _) _;rw[h.rl];exact Sn.askS ((qg7 h τ st it).bind λp=>qyx (λτ st d=>(Sn.lf _).bind λj=>h.ex j st body) _ _ _ _)
 |ford t a body=>
  show Sn (askS (stepEx r.rl τ st (.ford t a body)) _) _;rw[h.rl];exact Sn.askS (.no _)
 |_=>exact .no _
end
theorem qil(c:CF):Le (RL c) λm=>runK c m:=
 ⟨λτ st e x h=>by obtain⟨n,e⟩:=lim1_is h; exact⟨n,λm j=>ev_up e j⟩,λτ st e x h=>by obtain⟨n,e⟩:=lim1_is h; exact⟨n,λm j=>qg1 e j⟩,λτ st e x h=>by obtain⟨n,e⟩:=lim1_is h; exact⟨n,λm j=>qmv e j⟩,λf ds st x h=>⟨0,λm _=>by show(runK c m).call f ds st=_; rw[runK_call]; exact h⟩⟩
theorem qk9(c:CF)(τ:Sl)(st:Store)(e:E)(x:D×Store)(h:stepEv (RL c) τ st e=some x):(RL c).ev τ st e=some x:=by
 obtain⟨n,hn⟩:=qjb (qil c) τ st e x h;exact qvw (n:=n+1) (λ_ _ _ h k=>ev_up h k) (hn n (Qqj _))
theorem rl_tst(c:CF)(τ:Sl)(st:Store)(e:E)(x:Bool×Store)(h:stepTst (RL c) τ st e=some x):(RL c).tst τ st e=some x:=by
 obtain⟨n,hn⟩:=qxu (qil c) τ st e x h;exact qvw (n:=n+1) (λ_ _ _ h k=>qg1 h k) (hn n (Qqj _))
theorem rl_ex(c:CF)(τ:Sl)(st:Store)(e:List S)(x:Out×Store)(h:exs (stepEx (RL c)) e τ st=some x):(RL c).ex τ st e=some x:=by
 obtain⟨n,hn⟩:=qve (qja (qil c)) e τ st x h;exact qvw (n:=n+1) (λ_ _ _ h k=>qmv h k) (hn n (Qqj _))
theorem qjd{n:Nat}{c:CT}{c':CF}(h:∀f ds st,Sn (c f ds st) (c' f ds st)):∀k,SnR (runT n (RL c') c k) (RL c')
 |0=>⟨rfl,λ_ _ _=>.no _,λ_ _ _=>.no _,λ_ _ _=>.no _,h⟩
 |k+1=>⟨rfl,λτ st e=>(qcw (qjd h k) τ st e).up (qk9 c' τ st e),λτ st e=>(qa3 (qjd h k) τ st e).up (rl_tst c' τ st e),λτ st j=>(qdu (qvr (qjd h k)) j τ st).up (rl_ex c' τ st j),h⟩
theorem qxp{fns:List Fn}{n:Nat}{O:List Nat}{k:Nat}:∀(d f:Nat) (ds:List D) (st:Store),Sn (qvm fns n O k d f ds st) (callD fns (k+d) f ds st)
 |0,f,ds,st=>.no _
 |d+1,f,ds,st=>by
  unfold qvm
  by_cases j:O.contains f=true
  ·rw[Z3 j];exact .askC _
  ·rw[Z2 j];show Sn _ (stepCall fns (RL (callD fns (k+d))) f ds st);unfold stepCall
   cases hf:fns[f]? with
   |none=>exact .no _
   |some F=>
    refine Sn.ite (((qjd (λf ds st=>qxp d f ds st) 40).ex _ _ _).bind λp=>?_) (.no _);obtain⟨o,s⟩:=p
    cases o with
    |rt _=>exact .ys _
    |nx _=>exact .ys _
    |bk _=>exact .no _
    |ct _=>exact .no _
theorem qgf{fns:List Fn}{k:Nat}{τ:Sl}{st:Store}{ss:List S}{r:Out×Store}(n:Nat)(O:List Nat)(d:Nat)(P:Prop->Prop)(t:Tp)(j:P (r=r))(h:exsT (qk4 n (runT n (RL (callD fns (k+d))) (qvm fns n O k d) 40)) ss τ st t (λa _=>a=r)=P (r=r):=by kernel_rfl):exs (stepEx (RL (callD fns (k+d)))) ss τ st=some r:=by
 rw[<- h]at j;obtain⟨a,z,e,rfl⟩:=qdu (qvr (qjd (λf ds st=>qxp d f ds st) 40)) ss τ st t _ j;exact e
theorem qzb{fns:List Fn}{k:Nat}{τ:Sl}{st:Store}{ss:List S}{r:Out×Store}(n:Nat)(O:List Nat)(d:Nat)(P:Prop->Prop)(t:Tp)(j:P (r=r))(h:exsT (qk4 n (runT n (RL (callD fns (k+d))) (qvm fns n O k d) 40)) ss τ st t (λa _=>a=r)=P (r=r):=by kernel_rfl):(RL (callD fns (k+d))).ex τ st ss=some r:=rl_ex _ _ _ _ _ (qgf n O d P t j h)
theorem qzi{fns:List Fn}{k:Nat}{τ:Sl}{st:Store}{e:E}{r:D×Store}(n:Nat)(O:List Nat)(d:Nat)(P:Prop->Prop)(t:Tp)(j:P (r=r))(h:(runT n (RL (callD fns (k+d))) (qvm fns n O k d) 40).ev τ st e t (λa _=>a=r)=P (r=r):=by kernel_rfl):(RL (callD fns (k+d))).ev τ st e=some r:=by
 rw[<- h]at j;obtain⟨a,z,e,rfl⟩:=(qjd (λf ds st=>qxp d f ds st) 40).ev τ st e t _ j;exact e
theorem qqe{fns:List Fn}{k:Nat}{τ:Sl}{st:Store}{e:E}{r:Bool×Store}(n:Nat)(O:List Nat)(d:Nat)(P:Prop->Prop)(t:Tp)(j:P (r=r))(h:(runT n (RL (callD fns (k+d))) (qvm fns n O k d) 40).tst τ st e t (λa _=>a=r)=P (r=r):=by kernel_rfl):(RL (callD fns (k+d))).tst τ st e=some r:=by
 rw[<- h]at j;obtain⟨a,z,e,rfl⟩:=(qjd (λf ds st=>qxp d f ds st) 40).tst τ st e t _ j;exact e
theorem qzz{fns:List Fn}{k f:Nat}{ds:List D}{st:Store}{r:D×Store}(n:Nat)(O:List Nat)(d:Nat)(P:Prop->Prop)(t:Tp)(j:P (r=r))(h:qvm fns n O k d f ds st t (λa _=>a=r)=P (r=r):=by kernel_rfl):callD fns (k+d) f ds st=some r:=by
 rw[<- h]at j;obtain⟨a,z,e,rfl⟩:=qxp d f ds st t _ j;exact e
theorem qas{fns:List Fn}{k f:Nat}{ds:List D}{st:Store}{r:D×Store}(n:Nat)(O:List Nat)(d:Nat)(z:D×Store)(P:Prop->Prop)(t:Tp)(j:P (z=r))(h:qvm fns n O k d f ds st t (λa _=>a=r)=P (z=r):=by kernel_rfl):callD fns (k+d) f ds st=some r:=by
 rw[<- h]at j;obtain⟨a,F,e,rfl⟩:=qxp d f ds st t _ j;exact e
end M
end
section
namespace MS
open PySem PySem.Spec PyProof.Rows L2
theorem qx4:fillsNumberSlot (.type "tuple") "mul" = pure false:=
 PySem.fillsNumberSlot_seq (id:="tuple.__mul__") (r:=some (.builtin "tuple.__rmul__")) F.slot_tuple_mul.lookup (by decide +kernel) F.slot_tuple_rmul.lookup (by decide +kernel)
theorem qv2:seqRepeat? (.type "tuple")=pure (some (.builtin "tuple.__mul__")):=by
 unfold seqRepeat?;rw[PySem.seqSlot_of (T:="tuple") (name:="__mul__") (id:="tuple.__mul__") F.slot_tuple_mul.lookup (by decide +kernel),PySem.seqSlot_of (T:="tuple") (name:="__rmul__") (id:="tuple.__rmul__") F.slot_tuple_rmul.lookup (by decide +kernel)]
 rfl
theorem qkj(a:Int)(t:Tok)(l:Addr)(items:Array Value)(n:Nat)(j:Option Addr)(sl:Array (Option Value)):
  Meets (Zx.«int.__rmul__» ⟨[.int a t,.ref l],[]⟩) (λ_ R s=>s.heap.get? l=some { cls:=.type "tuple",dict:=j,data:=.seq items n,slots:=sl }/\R (.ok (.ret Value.notImplemented)) s):=
 .of_wp λprog w A R s h=>by obtain⟨z,g,d,tk,os⟩:=s; obtain⟨F,h⟩:=h; wp_walk; exact⟨_,rfl,h⟩
theorem qj8(l:Addr)(items:Array Value)(n:Nat)(z:Option Addr)(sl:Array (Option Value))(x:Int)(u:Tok)(j:¬ (decide (x < -(2 ^ 63))||decide (x >= 2 ^ 63))=true)(L:(items.isEmpty||x==1)=true):
  Meets (Zx.«tuple.__mul__» ⟨[.ref l,.int x u],[]⟩) (λ_ R s=>s.heap.get? l=some { cls:=.type "tuple",dict:=z,data:=.seq items n,slots:=sl }/\R (.ok (.ret (Value.ref l))) s):=
 .of_wp λprog w A R s h=>by
  obtain⟨F,g,d,tk,os⟩:=s; obtain⟨J,h⟩:=h
  wp_walk
  simp only[Z2 j]
  wp_walk
  exact⟨_,rfl,h⟩
theorem qj9(l:Addr)(items:Array Value)(n:Nat)(z:Option Addr)(sl:Array (Option Value))(x:Int)(u:Tok)(j:¬ (decide (x < -(2 ^ 63))||decide (x >= 2 ^ 63))=true)(O:¬ (items.isEmpty||x==1)=true)(L:(decide (x<=0)||items.isEmpty)=true):
  Meets (Zx.«tuple.__mul__» ⟨[.ref l,.int x u],[]⟩) (λ_ R s=>s.heap.get? l=some { cls:=.type "tuple",dict:=z,data:=.seq items n,slots:=sl }/\R (.ok (.ret (Value.ref s.heap.objs.size))) { s with heap:=s.heap.push { cls:=.type "tuple",data:=.seq #[] } }):=
 .of_wp λprog w A R s h=>by
  obtain⟨F,g,d,tk,os⟩:=s; obtain⟨J,h⟩:=h
  wp_walk
  simp only[Z2 j]
  wp_walk
  exact⟨_,rfl,h⟩
theorem qkz(l:Addr)(items:Array Value)(n:Nat)(J:Option Addr)(sl:Array (Option Value))(x:Int)(u:Tok)(F:¬ (decide (x < -(2 ^ 63))||decide (x >= 2 ^ 63))=true)(h1:¬ (items.isEmpty||x==1)=true)(Z:¬ (decide (x<=0)||items.isEmpty)=true)
  (z:¬ ((items.size:Int)*x > (2 ^ 63 - 1) / 8)) (Y:¬ Builtin.Tuple.tupleTooMany ((items.size:Int)*x)=true) (U:(List.foldl (λj x2=>j++x2) #[] (List.replicate x.toNat items)).size<=sizeLine) :
  Meets (Zx.«tuple.__mul__» ⟨[.ref l,.int x u],[]⟩) (λ_ R s=>s.heap.get? l=some { cls:=.type "tuple",dict:=J,data:=.seq items n,slots:=sl }/\R (.ok (.ret (Value.ref s.heap.objs.size))) { s with heap:=s.heap.push { cls:=.type "tuple",data:=.seq (List.foldl (λj x2=>j++x2) #[] (List.replicate x.toNat items)) } }):=
 .of_wp λprog w A R s h=>by
  obtain⟨L,g,d,tk,os⟩:=s; obtain⟨O,h⟩:=h
  wp_walk
  simp only[Z2 F]
  wp_walk
  simp only[Z2 z]
  wp_walk
  exact⟨_,rfl,h⟩
noncomputable def rRepT(K:Qqq):R2:=λx y H Q=>∃l k xs,x=.ref l/\y=.int k/\SqT K H l xs/\-(2 ^ 62)<=k/\k<2 ^ 62/\xs.length*k.toNat<=sizeLine/\
 (∀ys,ys=(List.replicate k.toNat xs).flatten->(ys=xs->Q (.ref l) H)/\∀p,H p=none->Q (.ref p) (upd H p (.tup ys)))
theorem qlk{X:Cx}:OpR X (Q2 .Mult) (rRepT X.K):=by
 intro pins s σ H x y v u Q I rx ry h;obtain⟨l,k,xs,rfl,rfl,hq,k1,k2,hz,q⟩:=h;cases rx;obtain⟨t,rfl⟩:=ry;obtain⟨j,r,hp,a1⟩:=I.tuple hq;obtain⟨⟨cls,O,a0,sl⟩,J,hc,n,hd⟩:=id hp;simp only at hc hd;subst hc hd;have hl:=r.length;obtain⟨qs,qn⟩:=q _ rfl;have f0:∀m:Nat,List.foldl (λx1 x2=>x1++x2) #[] (List.replicate m j.toArray)=(List.replicate m j).flatten.toArray:=λm=>by
  have:=foldl_rep j m [];rw[List.nil_append]at this;exact this
 have h0:¬ (decide (k < -(2 ^ 63))||decide (k >= 2 ^ 63))=true:=by simp; omega
 refine wpAny_binaryOp_repeat_ref (T:="tuple") (U:="int") (by decide) ⟨_,J,rfl⟩ (λs'=>typeIs_int s' k t) qx4 F.fills_int_mul F.slot_int_rmul qv2 F.slot_int_index.lookup
  (Q4 F.slot_int_rmul (typeIs_int s k t) F.entry_int_rmul (F.args_int_rmul_2 _ _) (qkj k t l j.toArray n O sl) ⟨J,rfl,⟨_,J,rfl⟩,?_⟩)
 by_cases h1:(j.toArray.isEmpty||k==1)=true
 ·refine Q4 F.slot_tuple_mul ⟨_,J,rfl⟩ F.entry_tuple_mul (F.args_tuple_mul_2 _ _) (qj8 l j.toArray n O sl k t h0 h1) ⟨J,?_⟩;refine⟨.ref l,H,I,rfl,qs ?_⟩;rw[Qzy]at h1;rcases h1 with z|z
  ·have e1:j=[]:=by simpa using z
   have e2:xs=[]:=Qz0.mp (by rw[hl,e1]; rfl);rw[e2];simp
  ·have e1:k=1:=by simpa using z
   rw[e1];simp
 ·have Z:j≠[]:=λz=>h1 (by rw[z]; rfl)
  by_cases h2:(decide (k<=0)||j.toArray.isEmpty)=true
  ·refine Q4 F.slot_tuple_mul ⟨_,J,rfl⟩ F.entry_tuple_mul (F.args_tuple_mul_2 _ _) (qj9 l j.toArray n O sl k t h0 h1 h2) ⟨J,?_⟩;have hk:k<=0:=by
    rw[Qzy]at h2;rcases h2 with z|z
    ·simpa using z
    ·exact absurd (by simpa using z) Z
   have e0:k.toNat=0:=by omega
   refine⟨.ref _,_,I.laid (a:=s.heap.objs.size) (o:=.tup (List.replicate k.toNat xs).flatten) (t':=s.toks) (λ_ _ e=>Qqz _ e) (Qqj _) ?_,rfl,qn _ I.fresh⟩;rw[e0];exact⟨Qzu _,[],.nil,IsTup.new s.heap _⟩
  ·have hk:0<k:=by
    simp at h2; omega
   have L:((j.toArray.size:Nat):Int)*k=((j.length*k.toNat:Nat):Int):=by
    rw[Qqw,Int.natCast_mul]
    congr 1
    omega
   have Y:j.length*k.toNat<=sizeLine:=by rw[<- hl]; exact hz
   have a2:(sizeLine:Nat)<2 ^ 60:=by rw[Q8]; decide
   refine Q4 F.slot_tuple_mul ⟨_,J,rfl⟩ F.entry_tuple_mul (F.args_tuple_mul_2 _ _) (qkz l j.toArray n O sl k t h0 h1 h2 ?_ ?_ ?_) ⟨J,?_⟩
   ·rw[L]; omega
   ·unfold Builtin.Tuple.tupleTooMany;rw[L,decide_eq_true_eq];omega
   ·rw[f0,Qqw,len_rep,Qj4]; exact Y
   ·refine⟨.ref _,_,I.laid (a:=s.heap.objs.size) (o:=.tup (List.replicate k.toNat xs).flatten) (t':=s.toks) (λ_ _ e=>Qqz _ e) (Qqj _) ?_,rfl,qn _ I.fresh⟩;rw[f0];exact⟨by rw[len_rep,Qj4]; exact hz,_,r.rep k.toNat,IsTup.new s.heap _⟩
section
variable {prog:Program}{w:Qk}{A:Qv}{E:Value->Qz->Prop}{s:Qz}
theorem qxz{t sl:Addr}{items:Array Value}{vl O:Value}{lo hi:Option Int}{Q:Value->Qz->Prop}(z:IsTup s.heap t items)(Y:s.heap.IsSliceOf sl vl O .none)(pl:IsPart vl lo)(Z:IsPart O hi)
  (U:HT.sIx items.size 0 lo=0/\HT.sIx items.size items.size hi=items.size) (h:Q (.ref t) s):wpAny (model prog w) A (Zk (.ref t) (.ref sl)) Q E s:=by
 obtain⟨os,F,J,a0⟩:=id Y;have L:s.TypeIs (.ref sl) "slice":=⟨os,F,J⟩
 unfold Zk
 try with_reducible refine Q3 ?_
 first|refine Qq (Qj ?_)|skip
 refine Qq (wpAny_sequenceKey z.typeIs (by decide) ?_)
 refine Qq (Ql (name:=Str.ofString "__getitem__") z.typeIs PyProof.Rows.slot_tuple_getitem
  (Qs PyProof.Rows.slot_tuple_getitem z.typeIs entry_tuple_getitem ?_ (args_tuple_getitem _ _)))
 show wpAny _ _ (Builtin.Tuple.tupleItemsOf (.ref t) >>= _) _ _ s;refine Qq (tupleItemsOf_ z ?_);refine Qq (wpAny_typeOf L ?_);rw[Z3 (by decide)];refine Qq (HT.sliceApplied_gen Y pl Z ?_);have j:(((HT.sIx items.size 0 lo:Nat):Int)==0&&(1:Int)==1&&(HT.sIx items.size items.size hi - HT.sIx items.size 0 lo)==items.size)=true:=by
  rw[U.1,U.2];simp
 show wpAny _ _ (if (((HT.sIx items.size 0 lo:Nat):Int)==0&&(1:Int)==1&&(HT.sIx items.size items.size hi - HT.sIx items.size 0 lo)==items.size)=true then _ else _) _ _ s;rw[Z3 j];refine Qq (m:=Builtin.Tuple.tupleIsExact _) ?_;unfold Builtin.Tuple.tupleIsExact;refine Qq (wpAny_typeOf z.typeIs (Qj ?_));rw[Z3 (by decide)]
 first
  |exact Qq (Zj (Qj ⟨_,rfl,Qj h⟩))
  |exact Qq (Zj (Qq (Qj (Qj ⟨_,rfl,Qj h⟩))))
  |exact Qq (Qq (Zj (Qj (Qj ⟨_,rfl,Qj h⟩))))
end
end MS
end
section
namespace MS
open PySem PySem.Spec PyProof.Rows L2
open M (D Cell Store Sl)
def SqF(K:Qqq)(H:Hp)(a:Addr)(xs:List V):Prop:=
 (∃o,H a=some (.frz o (.lst xs)))\/∃(o:Obj) (its:Array Value) (n:Nat),K.lookup a=some o/\o.cls=.type "list"/\o.dict=none/\o.data=.seq its n/\its.size<=sizeLine/\Vals xs its.toList
mutual
noncomputable def IsD(K:Qqq)(m:List Addr)(H:Hp):D->V->Prop
 |.non,v=>v=.non
 |.bl b,v=>v=.bl b
 |.int i,v=>v=.int i
 |.str s,v=>v=.str s
 |.tup ds,v=>∃a xs,v=.ref a/\SqT K H a xs/\IsDs K m H ds xs
 |.lst ds,v=>∃a xs,v=.ref a/\SqF K H a xs/\IsDs K m H ds xs
 |.loc l,v=>∃a,m[l]?=some a/\v=.ref a
noncomputable def IsDs(K:Qqq)(m:List Addr)(H:Hp):List D->List V->Prop
 |[],xs=>xs=[]
 |d::ds,xs=>∃x r,xs=x::r/\IsD K m H d x/\IsDs K m H ds r
end
def Sub(m m':List Addr):Prop:=∀(l:Nat) (a:Addr),m[l]?=some a->m'[l]?=some a
noncomputable def Sq:HO->Prop
 |.lst _=>True
 |.tup _=>True
 |_=>False
structure Tr (H H':Hp):Prop where
 tup:∀b xs,H b=some (.tup xs)->H' b=some (.tup xs)
 frz:∀b o u,H b=some (.frz o u)->H' b=some (.frz o u)
structure Tw (H H':Hp):Prop where
 tup:∀b xs,H b=some (.tup xs)->H' b=some (.tup xs)
 frz:∀b o u,Sq u->H b=some (.frz o u)->H' b=some (.frz o u)
theorem Tr.w{H H':Hp}(t:Tr H H'):Tw H H':=⟨t.tup,λb o u _=>t.frz b o u⟩
theorem Sub.refl(m:List Addr):Sub m m:=λ_ _ h=>h
theorem Sub.trans{m j m2:List Addr}(a:Sub m j)(b:Sub j m2):Sub m m2:=λl x h=>b l x (a l x h)
theorem Sub.app(m r:List Addr):Sub m (m++r):=λl a h=>by
 rw[Qq3 (Qqv.mp h).1]; exact h
theorem Tr.refl(H:Hp):Tr H H:=⟨λ_ _ h=>h,λ_ _ _ h=>h⟩
theorem Tr.trans{H j H2:Hp}(a:Tr H j)(b:Tr j H2):Tr H H2:=⟨λc xs h=>b.tup c xs (a.tup c xs h),λc o u h=>b.frz c o u (a.frz c o u h)⟩
theorem Tr.of_same{H H':Hp}(h:Same H H'):Tr H H':=⟨λb xs e=>h b _ e,λb o u e=>h b _ e⟩
theorem qzj{H:Hp}{p:Addr}{o:HO}(j:H p=none):Same H (upd H p o):=λb u e=>by
 rw[qzq (qze e j)]; exact e
theorem Tr.put{H:Hp}{p:Addr}{xs ys:List V}(j:H p=some (.lst xs)):Tr H (upd H p (.lst ys)):=
 ⟨λb zs e=>by rw[qzq (qzo e j (by intro z; cases z))]; exact e,λb o u e=>by rw[qzq (qzo e j (by intro z; cases z))]; exact e⟩
theorem Tw.sqT{K:Qqq}{H H':Hp}{a:Addr}{xs:List V}(t:Tw H H')(h:SqT K H a xs):SqT K H' a xs:=by
 rcases h with (h|⟨o,h⟩)|h
 ·exact .inl (.inl (t.tup _ _ h))
 ·exact .inl (.inr ⟨o,t.frz _ _ _ trivial h⟩)
 ·exact .inr h
theorem SqF.sq{K:Qqq}{H:Hp}{a:Addr}{xs:List V}(h:SqF K H a xs):SqL K H a xs:=by
 rcases h with h|h
 ·exact .inl (.inr h)
 ·exact .inr h
theorem Tw.sqF{K:Qqq}{H H':Hp}{a:Addr}{xs:List V}(t:Tw H H')(h:SqF K H a xs):SqF K H' a xs:=by
 rcases h with⟨o,h⟩|h
 ·exact .inl ⟨o,t.frz _ _ _ trivial h⟩
 ·exact .inr h
theorem Tr.sqT{K:Qqq}{H H':Hp}{a:Addr}{xs:List V}(t:Tr H H')(h:SqT K H a xs):SqT K H' a xs:=t.w.sqT h
theorem Tr.sqF{K:Qqq}{H H':Hp}{a:Addr}{xs:List V}(t:Tr H H')(h:SqF K H a xs):SqF K H' a xs:=t.w.sqF h
section
variable {K:Qqq}{m m':List Addr}{H H':Hp}
mutual
theorem qqb(z:Sub m m')(j:Tw H H'):∀(d:D) (v:V),IsD K m H d v->IsD K m' H' d v
 |.non,_,h=>h
 |.bl _,_,h=>h
 |.int _,_,h=>h
 |.str _,_,h=>h
 |.tup ds,_,h=>by
  unfold IsD at h ⊢;obtain⟨a,xs,e,q,r⟩:=h;exact⟨a,xs,e,j.sqT q,qz5 z j ds xs r⟩
 |.lst ds,_,h=>by
  unfold IsD at h ⊢;obtain⟨a,xs,e,q,r⟩:=h;exact⟨a,xs,e,j.sqF q,qz5 z j ds xs r⟩
 |.loc l,_,h=>by
  unfold IsD at h ⊢;obtain⟨a,e,q⟩:=h;exact⟨a,z l a e,q⟩
theorem qz5(z:Sub m m')(j:Tw H H'):∀(ds:List D) (xs:List V),IsDs K m H ds xs->IsDs K m' H' ds xs
 |[],_,h=>h
 |d::ds,_,h=>by
  unfold IsDs at h ⊢;obtain⟨x,r,e,q,t⟩:=h;exact⟨x,r,e,qqb z j d x q,qz5 z j ds r t⟩
end
theorem qzk(z:Sub m m')(j:Tr H H')(d:D)(v:V)(h:IsD K m H d v):IsD K m' H' d v:=qqb z j.w d v h
theorem qza(z:Sub m m')(j:Tr H H')(ds:List D)(xs:List V)(h:IsDs K m H ds xs):IsDs K m' H' ds xs:=qz5 z j.w ds xs h
theorem IsD.int{i:Int}{v:V}(h:IsD K m H (.int i) v):v=.int i:=by unfold IsD at h; exact h
theorem IsD.bl{i:Bool}{v:V}(h:IsD K m H (.bl i) v):v=.bl i:=by unfold IsD at h; exact h
theorem IsD.str{i:Str}{v:V}(h:IsD K m H (.str i) v):v=.str i:=by unfold IsD at h; exact h
theorem IsD.non{v:V}(h:IsD K m H .non v):v=.non:=by unfold IsD at h; exact h
theorem IsD.tup{ds:List D}{v:V}(h:IsD K m H (.tup ds) v):∃a xs,v=.ref a/\SqT K H a xs/\IsDs K m H ds xs:=by unfold IsD at h; exact h
theorem IsD.lst{ds:List D}{v:V}(h:IsD K m H (.lst ds) v):∃a xs,v=.ref a/\SqF K H a xs/\IsDs K m H ds xs:=by unfold IsD at h; exact h
theorem IsD.loc{l:Nat}{v:V}(h:IsD K m H (.loc l) v):∃a,m[l]?=some a/\v=.ref a:=by unfold IsD at h; exact h
theorem mkInt(i:Int):IsD K m H (.int i) (.int i):=by unfold IsD; rfl
theorem mkBl(i:Bool):IsD K m H (.bl i) (.bl i):=by unfold IsD; rfl
theorem mkStr(i:Str):IsD K m H (.str i) (.str i):=by unfold IsD; rfl
theorem qyz:IsD K m H .non .non:=by unfold IsD; rfl
theorem qq6{ds:List D}{a:Addr}{xs:List V}(h:SqT K H a xs)(q:IsDs K m H ds xs):IsD K m H (.tup ds) (.ref a):=by unfold IsD; exact⟨a,xs,rfl,h,q⟩
theorem qbk{ds:List D}{a:Addr}{xs:List V}(h:SqF K H a xs)(q:IsDs K m H ds xs):IsD K m H (.lst ds) (.ref a):=by unfold IsD; exact⟨a,xs,rfl,h,q⟩
theorem qf4{l:Nat}{a:Addr}(h:m[l]?=some a):IsD K m H (.loc l) (.ref a):=by unfold IsD; exact⟨a,h,rfl⟩
theorem IsDs.nil{xs:List V}(h:IsDs K m H [] xs):xs=[]:=by unfold IsDs at h; exact h
theorem IsDs.cons{d:D}{ds:List D}{xs:List V}(h:IsDs K m H (d::ds) xs):∃x r,xs=x::r/\IsD K m H d x/\IsDs K m H ds r:=by unfold IsDs at h; exact h
theorem qqx:IsDs K m H [] []:=by unfold IsDs; rfl
theorem qzm{d:D}{ds:List D}{x:V}{r:List V}(h:IsD K m H d x)(t:IsDs K m H ds r):IsDs K m H (d::ds) (x::r):=by unfold IsDs; exact⟨x,r,rfl,h,t⟩
theorem IsDs.one{d:D}{xs:List V}(h:IsDs K m H [d] xs):∃x,xs=[x]/\IsD K m H d x:=by
 obtain⟨x,r,rfl,q,t⟩:=h.cons;rw[t.nil];exact⟨x,rfl,q⟩
theorem IsDs.two{d e:D}{xs:List V}(h:IsDs K m H [d,e] xs):∃x y,xs=[x,y]/\IsD K m H d x/\IsD K m H e y:=by
 obtain⟨x,r,rfl,q,t⟩:=h.cons;obtain⟨y,rfl,j⟩:=t.one;exact⟨x,y,rfl,q,j⟩
theorem IsDs.length:∀{ds:List D}{xs:List V},IsDs K m H ds xs->ds.length=xs.length
 |[],_,h=>by rw[h.nil]; rfl
 |_::_,_,h=>by
  obtain⟨x,r,rfl,_,t⟩:=h.cons;rw[Qqh,Qqh,t.length]
theorem IsDs.get:∀{ds:List D}{xs:List V}{i:Nat}{d:D},IsDs K m H ds xs->ds[i]?=some d->∃x,xs[i]?=some x/\IsD K m H d x
 |[],_,_,_,_,e=>by simp at e
 |d::ds,_,0,d',h,e=>by
  obtain⟨x,r,rfl,q,_⟩:=h.cons;have F:d=d':=by simpa using e
  subst F;exact⟨x,rfl,q⟩
 |d::ds,_,i+1,d',h,e=>by
  obtain⟨x,r,rfl,_,t⟩:=h.cons;obtain⟨y,z,j⟩:=t.get (i:=i) (d:=d') (by simpa using e);exact⟨y,by simpa using z,j⟩
theorem IsDs.append:∀{ds es:List D}{xs ys:List V},IsDs K m H ds xs->IsDs K m H es ys->IsDs K m H (ds++es) (xs++ys)
 |[],_,_,_,h,q=>by rw[h.nil]; exact q
 |_::_,_,_,_,h,q=>by
  obtain⟨x,r,rfl,a,t⟩:=h.cons;exact qzm a (t.append q)
end
noncomputable def keyOf:D->Option Key
 |.int i=>some (.inl i)
 |.str z=>some (.inr z)
 |_=>none
noncomputable def IsKV(K:Qqq)(m:List Addr)(H:Hp):List (D×D)->List (Key×V)->Prop
 |[],xs=>xs=[]
 |p::r,xs=>∃k v xr,xs=(k,v)::xr/\keyOf p.1=some k/\IsD K m H p.2 v/\IsKV K m H r xr
theorem qqy{K:Qqq}{m z:List Addr}{H H':Hp}(J:Sub m z)(F:Tw H H'):∀(kvs:List (D×D)) (xs:List (Key×V)),IsKV K m H kvs xs->IsKV K z H' kvs xs
 |[],_,h=>h
 |p::r,_,⟨k,v,j,e,U,L,O⟩=>⟨k,v,j,e,U,qqb J F _ _ L,qqy J F r j O⟩
theorem qjp{K:Qqq}{m j:List Addr}{H H':Hp}(F:Sub m j)(z:Tr H H')(kvs:List (D×D))(xs:List (Key×V))(h:IsKV K m H kvs xs):IsKV K j H' kvs xs:=qqy F z.w kvs xs h
theorem IsKV.length{K:Qqq}{m:List Addr}{H:Hp}:∀{kvs:List (D×D)}{xs:List (Key×V)},IsKV K m H kvs xs->kvs.length=xs.length
 |[],_,h=>by rw[show _=[] from h]; rfl
 |p::r,_,⟨k,v,z,e,_,_,j⟩=>by rw[e,Qqh,Qqh,j.length]
theorem qd0{a b:D}{k j:Key}(J:keyOf a=some k)(F:keyOf b=some j):M.eqT a b=decide (k=j):=by
 cases a with
 |int i=>
  cases J
  cases b with
  |int L=>cases F; rw[M.eqT]; by_cases h:i=L<;>simp[h]
  |str z=>cases F; simp[M.eqT]
  |_=>cases F
 |str z=>
  cases J
  cases b with
  |int L=>cases F; simp[M.eqT]
  |str O=>cases F; rw[M.eqT]; by_cases h:z=O<;>simp[h]
  |_=>cases F
 |_=>cases J
theorem qxy{a:D}(h:M.isKey a=true):∃k,keyOf a=some k:=by
 cases a with
 |int i=>exact⟨_,rfl⟩
 |str z=>exact⟨_,rfl⟩
 |_=>cases h
theorem qlt{K:Qqq}{m:List Addr}{H:Hp}{a:D}{k:Key}{v:V}(h:keyOf a=some k)(i:IsD K m H a v):v=kV k:=by
 cases a with
 |int j=>cases h; exact i.int
 |str z=>cases h; exact i.str
 |_=>cases h
theorem IsKV.get{K:Qqq}{m:List Addr}{H:Hp}{a:D}{j:Key}(F:keyOf a=some j):∀{kvs:List (D×D)}{xs:List (Key×V)},IsKV K m H kvs xs->(M.dget kvs a=none/\valV xs j=none)\/∃d v,M.dget kvs a=some d/\valV xs j=some v/\IsD K m H d v
 |[],_,h=>by rw[show _=[] from h]; exact .inl ⟨rfl,rfl⟩
 |p::r,_,⟨k,v,Y,e,O,J,L⟩=>by
  subst e;have eq:=qd0 O F
  by_cases z:k=j
  ·refine .inr ⟨p.2,v,?_,qx6 (p:=(k,v)) z,J⟩;rw[Z0 z]at eq;simp[M.dget,Qzq,eq]
  ·rw[Z1 z]at eq;have U:M.dget (p::r) a=M.dget r a:=by simp[M.dget,Qzq,eq]
   rw[U,qx7 (p:=(k,v)) z];exact L.get F
theorem IsKV.any{K:Qqq}{m:List Addr}{H:Hp}{a:D}{j:Key}(z:keyOf a=some j):∀{kvs:List (D×D)}{xs:List (Key×V)},IsKV K m H kvs xs->(kvs.any λp=>M.eqT p.1 a)=(xs.any λp=>decide (p.1=j))
 |[],_,h=>by rw[show _=[] from h]; rfl
 |p::r,_,⟨k,v,L,e,J,O,F⟩=>by
  subst e;rw[Qxj,Qxj,qd0 J z,F.any z]
theorem IsKV.repl{K:Qqq}{m:List Addr}{H:Hp}{a d:D}{j:Key}{w:V}(J:keyOf a=some j)(hd:IsD K m H d w):∀{kvs:List (D×D)}{xs:List (Key×V)},IsKV K m H kvs xs->IsKV K m H (kvs.map λp=>if M.eqT p.1 a then(p.1,d) else p) (xs.map λp=>if p.1=j then(p.1,w) else p)
 |[],_,h=>by rw[show _=[] from h]; rfl
 |p::r,_,⟨k,v,U,e,F,O,L⟩=>by
  subst e;have eq:=qd0 F J;rw[Qqy,Qqy]
  by_cases z:k=j
  ·rw[Z0 z]at eq;rw[Z3 eq,Z3 z];exact⟨k,w,_,rfl,F,hd,L.repl J hd⟩
  ·rw[Z1 z]at eq;rw[Z2 (by rw[eq]; nofun),Z2 z];exact⟨k,v,_,rfl,F,O,L.repl J hd⟩
theorem IsKV.snoc{K:Qqq}{m:List Addr}{H:Hp}{a d:D}{j:Key}{w:V}(z:keyOf a=some j)(hd:IsD K m H d w):∀{kvs:List (D×D)}{xs:List (Key×V)},IsKV K m H kvs xs->IsKV K m H (kvs++[(a,d)]) (xs++[(j,w)])
 |[],_,h=>by rw[show _=[] from h]; exact⟨j,w,[],rfl,z,hd,rfl⟩
 |p::r,_,⟨k,v,O,e,L,F,J⟩=>by
  subst e;exact⟨k,v,_,rfl,L,F,J.snoc z hd⟩
theorem IsKV.put{K:Qqq}{m:List Addr}{H:Hp}{a d:D}{j:Key}{w:V}{kvs:List (D×D)}{xs:List (Key×V)}(h:IsKV K m H kvs xs)(z:keyOf a=some j)(hd:IsD K m H d w):IsKV K m H (M.dput kvs a d) (putK xs j w):=by
 unfold M.dput putK;rw[h.any z]
 split
 ·exact h.repl z hd
 ·exact h.snoc z hd
theorem IsKV.merge{K:Qqq}{m:List Addr}{H:Hp}:∀{more:List (D×D)}{ms:List (Key×V)}{kvs:List (D×D)}{xs:List (Key×V)},IsKV K m H more ms->IsKV K m H kvs xs->IsKV K m H (more.foldl (λj p=>M.dput j p.1 p.2) kvs) (qkh xs ms)
 |[],_,kvs,xs,h,q=>by rw[show _=[] from h]; exact q
 |p::r,_,kvs,xs,⟨k,v,L,e,J,z,F⟩,q=>by
  subst e;exact F.merge (q.put J z)
noncomputable def IsFs(K:Qqq)(m:List Addr)(H:Hp):List (Str×D)->List (Str×V)->Prop
 |[],ys=>ys=[]
 |p::r,ys=>∃v yr,ys=(p.1,v)::yr/\IsD K m H p.2 v/\IsFs K m H r yr
theorem qxn{K:Qqq}{m z:List Addr}{H H':Hp}(J:Sub m z)(F:Tw H H'):∀(fs:List (Str×D)) (ys:List (Str×V)),IsFs K m H fs ys->IsFs K z H' fs ys
 |[],_,h=>h
 |p::r,_,⟨v,j,e,L,O⟩=>⟨v,j,e,qqb J F _ _ L,qxn J F r j O⟩
theorem qde{K:Qqq}{m j:List Addr}{H H':Hp}(F:Sub m j)(z:Tr H H')(fs:List (Str×D))(ys:List (Str×V))(h:IsFs K m H fs ys):IsFs K j H' fs ys:=qxn F z.w fs ys h
theorem IsFs.length{K:Qqq}{m:List Addr}{H:Hp}:∀{fs:List (Str×D)}{ys:List (Str×V)},IsFs K m H fs ys->fs.length=ys.length
 |[],_,h=>by rw[show _=[] from h]; rfl
 |p::r,_,⟨v,z,e,_,j⟩=>by rw[e,Qqh,Qqh,j.length]
theorem IsFs.get{K:Qqq}{m:List Addr}{H:Hp}(f:Str):∀{fs:List (Str×D)}{ys:List (Str×V)},IsFs K m H fs ys->(fs.lookup f=none/\ys.lookup f=none)\/∃d v,fs.lookup f=some d/\ys.lookup f=some v/\IsD K m H d v
 |[],_,h=>by rw[show _=[] from h]; exact .inl ⟨rfl,rfl⟩
 |(g,d)::r,_,⟨v,F,e,j,z⟩=>by
  subst e;rw[Qzj,Qzj]
  cases f==g with
  |true=>exact .inr ⟨d,v,rfl,rfl,j⟩
  |false=>exact z.get f
theorem IsFs.put{K:Qqq}{m:List Addr}{H:Hp}{f:Str}{d:D}{w:V}(hd:IsD K m H d w):∀{fs:List (Str×D)}{ys:List (Str×V)},IsFs K m H fs ys->IsFs K m H (M.putA f d fs) (putF f w ys)
 |[],_,h=>by rw[show _=[] from h]; exact⟨w,[],rfl,hd,rfl⟩
 |(g,x)::r,_,⟨v,z,e,F,j⟩=>by
  subst e;unfold M.putA putF
  split
  ·exact⟨w,z,rfl,hd,j⟩
  ·exact⟨v,_,rfl,F,j.put hd⟩
noncomputable def IsC(K:Qqq)(m:List Addr)(H:Hp):Cell->Addr->Prop
 |.lst true ds,a=>∃xs,H a=some (.lst xs)/\IsDs K m H ds xs
 |.lst false ds,a=>∃xs,SqF K H a xs/\IsDs K m H ds xs
 |.dic true kvs,a=>∃xs,H a=some (.dK xs)/\IsKV K m H kvs xs
 |.dic false kvs,a=>∃o xs,H a=some (.frz o (.dK xs))/\IsKV K m H kvs xs
 |.obj C fs,a=>∃dx ys,H a=some (.ins C dx ys)/\IsFs K m H fs ys
noncomputable def Wr:Cell->Bool
 |.lst w _=>w
 |_=>true
structure Rel (K:Qqq) (m:List Addr) (st:Store) (H:Hp):Prop where
 len:m.length=st.length
 nd:∀(l l':Nat) (a:Addr) (c c':Cell),m[l]?=some a->m[l']?=some a->st[l]?=some c->st[l']?=some c'->Wr c=true->Wr c'=true->l=l'
 cell:∀(l:Nat) (c:Cell) (a:Addr),st[l]?=some c->m[l]?=some a->IsC K m H c a
section
variable {K:Qqq}{m:List Addr}{st:Store}{H:Hp}
theorem Rel.addr(h:Rel K m st H){l:Nat}{c:Cell}(e:st[l]?=some c):∃a,m[l]?=some a:=by
 have j:=(Qqv.mp e).1;have:=h.len;exact⟨m[l]'(by omega),by simp⟩
theorem IsC.wr{c:Cell}{a:Addr}(h:IsC K m H c a)(w:Wr c=true):∃o,H a=some o:=by
 cases c with
 |lst j ds=>
  have e:j=true:=w;subst e;obtain⟨xs,e,_⟩:=h;exact⟨_,e⟩
 |dic j kvs=>
  cases j with
  |true=>obtain⟨xs,e,_⟩:=h; exact⟨_,e⟩
  |false=>obtain⟨o,xs,e,_⟩:=h; exact⟨_,e⟩
 |obj C fs=>
  obtain⟨dx,ys,e,_⟩:=h;exact⟨_,e⟩
theorem Rel.list(h:Rel K m st H){l:Nat}{ds:List D}{v:V}(e:M.listAt st l=some ds)(J:IsD K m H (.loc l) v):∃a xs,m[l]?=some a/\v=.ref a/\SqL K H a xs/\IsDs K m H ds xs:=by
 obtain⟨a,j,rfl⟩:=J.loc;unfold M.listAt at e
 split at e
 ·rename_i w L q;cases e;have c:=h.cell l _ a q j
  cases w with
  |true=>
   obtain⟨xs,F,z⟩:=c;exact⟨a,xs,j,rfl,SqL.of F,z⟩
  |false=>
   obtain⟨xs,F,z⟩:=c;exact⟨a,xs,j,rfl,F.sq,z⟩
 ·cases e
theorem Rel.seq(h:Rel K m st H){d:D}{ds:List D}{v:V}(e:M.seqAt st d=some ds)(j:IsD K m H d v):∃a xs,True/\v=.ref a/\SqL K H a xs/\IsDs K m H ds xs:=by
 cases d with
 |loc l=>
  obtain⟨a,xs,_,q⟩:=h.list e j;exact⟨a,xs,trivial,q⟩
 |lst es=>
  cases e;obtain⟨a,xs,e,q,r⟩:=j.lst;exact⟨a,xs,trivial,e,q.sq,r⟩
 |_=>cases e
theorem Rel.wlist(h:Rel K m st H){l:Nat}{ds:List D}{v:V}(e:M.wlistAt st l=some ds)(z:IsD K m H (.loc l) v):∃a xs,m[l]?=some a/\v=.ref a/\H a=some (.lst xs)/\IsDs K m H ds xs/\st[l]?=some (.lst true ds):=by
 obtain⟨a,j,rfl⟩:=z.loc;unfold M.wlistAt at e
 split at e
 ·rename_i L q;cases e;obtain⟨xs,J,F⟩:=h.cell l _ a q j;exact⟨a,xs,j,rfl,J,F,q⟩
 ·cases e
theorem qwd{J:List Addr}{H':Hp}(z:Sub m J)(j:Tw H H'){c:Cell}{a:Addr}(h:IsC K m H c a)(F:Wr c=true->H' a=H a):IsC K J H' c a:=by
 cases c with
 |lst w ds=>
  cases w with
  |true=>
   obtain⟨xs,e,q⟩:=h;exact⟨xs,(F rfl).trans e,qz5 z j ds xs q⟩
  |false=>
   obtain⟨xs,e,q⟩:=h;exact⟨xs,j.sqF e,qz5 z j ds xs q⟩
 |dic w kvs=>
  cases w with
  |true=>
   obtain⟨xs,e,q⟩:=h;exact⟨xs,(F rfl).trans e,qqy z j kvs xs q⟩
  |false=>
   obtain⟨o,xs,e,q⟩:=h;exact⟨o,xs,(F rfl).trans e,qqy z j kvs xs q⟩
 |obj C fs=>
  obtain⟨dx,ys,e,q⟩:=h;exact⟨dx,ys,(F rfl).trans e,qxn z j fs ys q⟩
theorem qjx{j:List Addr}{H':Hp}(J:Sub m j)(F:Tr H H'){c:Cell}{a:Addr}(h:IsC K m H c a)(z:Wr c=true->H' a=H a):IsC K j H' c a:=qwd J F.w h z
theorem Rel.dict(h:Rel K m st H){l:Nat}{kvs:List (D×D)}{v:V}(e:M.dicAt st l=some kvs)(L:IsD K m H (.loc l) v):∃a xs,m[l]?=some a/\v=.ref a/\Rd H a (.dK xs)/\IsKV K m H kvs xs:=by
 obtain⟨a,j,rfl⟩:=L.loc;unfold M.dicAt at e
 split at e
 ·rename_i w J q;cases e;have c:=h.cell l _ a q j
  cases w with
  |true=>
   obtain⟨xs,F,z⟩:=c;exact⟨a,xs,j,rfl,.inl F,z⟩
  |false=>
   obtain⟨o,xs,F,z⟩:=c;exact⟨a,xs,j,rfl,.inr ⟨o,F⟩,z⟩
 ·cases e
theorem Rel.wdict(h:Rel K m st H){l:Nat}{kvs:List (D×D)}{v:V}(e:M.wdicAt st l=some kvs)(F:IsD K m H (.loc l) v):∃a xs,m[l]?=some a/\v=.ref a/\H a=some (.dK xs)/\IsKV K m H kvs xs/\st[l]?=some (.dic true kvs):=by
 obtain⟨a,z,rfl⟩:=F.loc;unfold M.wdicAt at e
 split at e
 ·rename_i j q;cases e;obtain⟨xs,L,J⟩:=h.cell l _ a q z;exact⟨a,xs,z,rfl,L,J,q⟩
 ·cases e
theorem Rel.inst(h:Rel K m st H){C:Nat}{d:D}{fs:List (Str×D)}{v:V}(e:M.objAt st C d=some fs)(F:IsD K m H d v):∃l a dx ys,d=.loc l/\m[l]?=some a/\v=.ref a/\H a=some (.ins C dx ys)/\IsFs K m H fs ys/\st[l]?=some (.obj C fs):=by
 cases d with
 |loc l=>
  obtain⟨a,j,rfl⟩:=F.loc;have e:(match st[l]? with|some (.obj z fs)=>if z=C then some fs else none|_=>none)=some fs:=e
  split at e
  ·rename_i z fs' q
   split at e
   ·rename_i J;cases e;subst J;obtain⟨dx,ys,O,L⟩:=h.cell l _ a q j;exact⟨l,a,dx,ys,rfl,j,rfl,O,L,q⟩
   ·cases e
  ·cases e
 |_=>cases e
theorem Rel.same(h:Rel K m st H){H':Hp}(s:Same H H'):Rel K m st H':=
 ⟨h.len,h.nd,λl c a e j=>qjx (Sub.refl m) (Tr.of_same s) (h.cell l c a e j) λw=>by
  obtain⟨xs,q⟩:=(h.cell l c a e j).wr w
  rw[q]; exact s _ _ q⟩
theorem Rel.newC(h:Rel K m st H){p:Addr}{o:HO}{c:Cell}(Y:H p=none)(hc:Wr c=true->True)(hd:IsC K (m++[p]) (upd H p o) c p):Rel K (m++[p]) (st++[c]) (upd H p o):=by
 have ht:Tr H (upd H p o):=Tr.of_same (qzj Y);have J:∀(l:Nat) (e:Cell) (a:Addr),(st++[c])[l]?=some e->(m++[p])[l]?=some a->(l<st.length/\st[l]?=some e/\m[l]?=some a)\/(l=st.length/\e=c/\a=p):=by
  intro l e a L O
  by_cases hl:l<st.length
  ·rw[Qq3 hl]at L;rw[Qq3 (by rw[h.len]; exact hl)]at O;exact .inl ⟨hl,L,O⟩
  ·have a0:=(Qqv.mp L).1;rw[Qqo,Qzo]at a0;have e1:l=st.length:=by omega
   subst e1;rw[Qzw (Qqj _)]at L;rw[Qzw (by rw[h.len]; exact Qqj _),h.len]at O;have e2:c=e:=by simpa using L
   have e3:p=a:=by simpa using O
   exact .inr ⟨rfl,e2.symm,e3.symm⟩
 refine⟨by simp[h.len],λl l' a e e' e1 e2 e3 e4 w w'=>?_,λl e a L O=>?_⟩
 ·rcases J l e a e3 e1 with⟨h1,F,j⟩|⟨h1,F,j⟩<;>rcases J l' e' a e4 e2 with⟨h2,Z,U⟩|⟨h2,Z,U⟩
  ·exact h.nd l l' a e e' j U F Z w w'
  ·obtain⟨ys,z⟩:=(h.cell l e a F j).wr w;rw[U,Y]at z; cases z
  ·obtain⟨ys,z⟩:=(h.cell l' e' a Z U).wr w';rw[j,Y]at z; cases z
  ·rw[h1,h2]
 ·rcases J l e a L O with⟨h1,F,j⟩|⟨h1,F,j⟩
  ·refine qjx (Sub.app m [p]) ht (h.cell l e a F j) λw=>?_;obtain⟨ys,z⟩:=(h.cell l e a F j).wr w;exact qzq (qze z Y)
  ·rw[F,j];exact hd
theorem Rel.new(h:Rel K m st H){p:Addr}{ds:List D}{xs:List V}(j:H p=none)(hd:IsDs K m H ds xs):Rel K (m++[p]) (st++[.lst true ds]) (upd H p (.lst xs)):=
 h.newC j (λ_=>trivial) ⟨xs,qzx,qza (Sub.app m [p]) (Tr.of_same (qzj j)) ds xs hd⟩
theorem Rel.newD(h:Rel K m st H){p:Addr}{kvs:List (D×D)}{xs:List (Key×V)}(j:H p=none)(hd:IsKV K m H kvs xs):Rel K (m++[p]) (st++[.dic true kvs]) (upd H p (.dK xs)):=
 h.newC j (λ_=>trivial) ⟨xs,qzx,qjp (Sub.app m [p]) (Tr.of_same (qzj j)) kvs xs hd⟩
theorem Rel.newLoc(h:Rel K m st H){p:Addr}{H':Hp}:IsD K (m++[p]) H' (.loc st.length) (.ref p):=qf4 (by
 rw[Qzw (by rw[h.len]; exact Qqj _),h.len]; simp)
theorem Rel.putW(h:Rel K m st H){l:Nat}{a:Addr}{c c':Cell}{o:HO}(e:st[l]?=some c)(L:Wr c=true)(ea:m[l]?=some a)(ht:Tw H (upd H a o))(hd:IsC K m (upd H a o) c' a):
  Rel K m (st.set l c') (upd H a o):=by
 have hl:=(Qqv.mp e).1;have wr:∀(j:Nat) (d:Cell),(st.set l c')[j]?=some d->(j=l/\d=c')\/(j≠l/\st[j]?=some d):=by
  intro j d q
  by_cases O:j=l
  ·subst O;rw[Qq8 hl]at q;exact .inl ⟨rfl,(Option.some.inj q).symm⟩
  ·rw[Qqp (Ne.symm O)]at q;exact .inr ⟨O,q⟩
 refine⟨by rw[Qz3]; exact h.len,λj j' b d d' Y U e3 e4 w w'=>?_,λj d b q J=>?_⟩
 ·rcases wr j d e3 with⟨F,b1⟩|⟨F,b1⟩<;>rcases wr j' d' e4 with⟨Z,b2⟩|⟨Z,b2⟩
  ·rw[F,Z]
  ·subst F; exact h.nd _ _ b _ _ Y U e b2 L w'
  ·subst Z; exact h.nd _ _ b _ _ Y U b1 e w L
  ·exact h.nd _ _ b _ _ Y U b1 b2 w w'
 ·rcases wr j d q with⟨F,b1⟩|⟨F,b1⟩
  ·subst F b1;rw[ea]at J; cases J;exact hd
  ·refine qwd (Sub.refl m) ht (h.cell j d b b1 J) λw=>qzq λz=>?_;subst z;exact F (h.nd _ _ b _ _ J ea b1 e w L)
theorem Rel.putC(h:Rel K m st H){l:Nat}{a:Addr}{c c':Cell}{o:HO}(e:st[l]?=some c)(j:Wr c=true)(F:m[l]?=some a)(z:Tr H (upd H a o))(hd:IsC K m (upd H a o) c' a):
  Rel K m (st.set l c') (upd H a o):=h.putW e j F z.w hd
theorem Rel.put(h:Rel K m st H){l:Nat}{a:Addr}{ds j:List D}{xs ys:List V}(e:st[l]?=some (.lst true ds))(F:m[l]?=some a)(z:H a=some (.lst xs))(hd:IsDs K m H j ys):
  Rel K m (st.set l (.lst true j)) (upd H a (.lst ys)):=
 h.putC e rfl F (Tr.put z) ⟨ys,qzx,qza (Sub.refl m) (Tr.put z) j ys hd⟩
theorem Tr.putD{H:Hp}{p:Addr}{xs ys:List (Key×V)}(j:H p=some (.dK xs)):Tr H (upd H p (.dK ys)):=
 ⟨λb zs e=>by rw[qzq (qzo e j (by intro z; cases z))]; exact e,λb o u e=>by rw[qzq (qzo e j (by intro z; cases z))]; exact e⟩
theorem Rel.putD(h:Rel K m st H){l:Nat}{a:Addr}{kvs j:List (D×D)}{xs ys:List (Key×V)}(e:st[l]?=some (.dic true kvs))(F:m[l]?=some a)(z:H a=some (.dK xs))(hd:IsKV K m H j ys):
  Rel K m (st.set l (.dic true j)) (upd H a (.dK ys)):=
 h.putC e rfl F (Tr.putD z) ⟨ys,qzx,qjp (Sub.refl m) (Tr.putD z) j ys hd⟩
end
theorem Tr.putI{H:Hp}{p C F:Addr}{xs ys:List (Str×V)}(j:H p=some (.ins C F xs)):Tr H (upd H p (.ins C F ys)):=
 ⟨λb zs e=>by rw[qzq (qzo e j (by intro z; cases z))]; exact e,λb o u e=>by rw[qzq (qzo e j (by intro z; cases z))]; exact e⟩
theorem Rel.putI{K:Qqq}{m:List Addr}{st:Store}{H:Hp}(h:Rel K m st H){l:Nat}{a C z:Addr}{fs j:List (Str×D)}{xs ys:List (Str×V)}(e:st[l]?=some (.obj C fs))(J:m[l]?=some a)(F:H a=some (.ins C z xs))(hd:IsFs K m H j ys):
  Rel K m (st.set l (.obj C j)) (upd H a (.ins C z ys)):=
 h.putC e rfl J (Tr.putI F) ⟨z,ys,qzx,qde (Sub.refl m) (Tr.putI F) j ys hd⟩
theorem Rel.newI{K:Qqq}{m:List Addr}{st:Store}{H:Hp}(h:Rel K m st H){x j C:Addr}(O:H x=none)(J:H j=none)(F:j≠x):Same H (upd (upd H j (.own x)) x (.ins C j []))/\Rel K (m++[x]) (st++[.obj C []]) (upd (upd H j (.own x)) x (.ins C j [])):=by
 have L:Same H (upd H j (.own x)):=qzj J;have z:(upd H j (.own x)) x=none:=by rw[qzq (Ne.symm F)]; exact O
 exact⟨λb u e=>qzj z b u (L b u e),(h.same L).newC z (λ_=>trivial) ⟨j,[],qzx,rfl⟩⟩
theorem Tr.ice{H:Hp}{a:Addr}{o:Obj}{xs:List (Key×V)}(h:H a=some (.dK xs)):Tr H (upd H a (.frz o (.dK xs))):=
 ⟨λb zs e=>by rw[qzq (qzo e h (by intro z; cases z))]; exact e,λb o u e=>by rw[qzq (qzo e h (by intro z; cases z))]; exact e⟩
theorem Tr.thaw{H H':Hp}{a:Addr}{o:Obj}{xs ys:List (Key×V)}(h:H a=some (.dK xs))(t:Tr (upd H a (.frz o (.dK xs))) H'):Tr H (upd H' a (.dK ys)):=
 ⟨λb zs e=>by
  have j:=qzo e h (by intro z; cases z);rw[qzq j];exact t.tup b zs (by rw[qzq j]; exact e),λb o u e=>by
  have j:=qzo e h (by intro z; cases z);rw[qzq j]
  exact t.frz b o u (by rw[qzq j]; exact e)⟩
theorem Tw.thaw{H:Hp}{a:Addr}{o:Obj}{xs ys:List (Key×V)}(h:H a=some (.frz o (.dK xs))):Tw H (upd H a (.dK ys)):=
 ⟨λb zs e=>by rw[qzq (qzo e h (by intro z; cases z))]; exact e,λb o u j e=>by rw[qzq (qzo e h (by intro z; cases z; exact j))]; exact e⟩
theorem Rel.ice{K:Qqq}{m:List Addr}{st:Store}{H:Hp}(h:Rel K m st H){l:Nat}{a:Addr}{o:Obj}{kvs:List (D×D)}{xs:List (Key×V)}(e:st[l]?=some (.dic true kvs))(z:m[l]?=some a)(j:H a=some (.dK xs))(hd:IsKV K m H kvs xs):
  Rel K m (st.set l (.dic false kvs)) (upd H a (.frz o (.dK xs))):=
 h.putC e rfl z (Tr.ice j) ⟨o,xs,qzx,qjp (Sub.refl m) (Tr.ice j) kvs xs hd⟩
theorem Rel.thaw{K:Qqq}{m:List Addr}{st:Store}{H:Hp}(h:Rel K m st H){l:Nat}{a:Addr}{o:Obj}{kvs:List (D×D)}{xs:List (Key×V)}(e:st[l]?=some (.dic false kvs))(z:m[l]?=some a)(j:H a=some (.frz o (.dK xs))):
  Rel K m (st.set l (.dic true kvs)) (upd H a (.dK xs)):=by
 obtain⟨o',ys,F,q⟩:=h.cell l _ a e z;rw[j]at F;cases F;exact h.putW e rfl z (Tw.thaw j) ⟨xs,qzx,qqy (Sub.refl m) (Tw.thaw j) kvs xs q⟩
structure SlotOk (K:Qqq) (m:List Addr) (H:Hp) (τ:Sl) (σ:L2.St):Prop where
 len:τ.length=σ.length
 at_:∀(i:Nat) (d:D),τ[i]?=some (some d)->∃v,σ[i]?=some (some v)/\IsD K m H d v
theorem SlotOk.monoW{K:Qqq}{m j:List Addr}{H H':Hp}{τ:Sl}{σ:L2.St}(h:SlotOk K m H τ σ)(s:Sub m j)(t:Tw H H'):SlotOk K j H' τ σ:=
 ⟨h.len,λi d e=>let ⟨v,a,b⟩:=h.at_ i d e; ⟨v,a,qqb s t d v b⟩⟩
theorem SlotOk.mono{K:Qqq}{m j:List Addr}{H H':Hp}{τ:Sl}{σ:L2.St}(h:SlotOk K m H τ σ)(s:Sub m j)(t:Tr H H'):SlotOk K j H' τ σ:=
 ⟨h.len,λi d e=>let ⟨v,a,b⟩:=h.at_ i d e; ⟨v,a,qzk s t d v b⟩⟩
theorem SlotOk.put{K:Qqq}{m:List Addr}{H:Hp}{τ:Sl}{F:L2.St}(h:SlotOk K m H τ F){i:Nat}{d:D}{v:V}(q:IsD K m H d v):SlotOk K m H (τ.set i (some d)) (F.set i (some v)):=by
 refine⟨by rw[Qz3,Qz3]; exact h.len,λj e z=>?_⟩
 by_cases J:i=j
 ·subst J;have hi:i<τ.length:=by
   have:=(Qqv.mp z).1;rwa [Qz3]at this
  rw[Qq8 hi]at z;cases z;exact⟨v,Qq8 (by rw[<- h.len]; exact hi),q⟩
 ·rw[Qqp J]at z ⊢;exact h.at_ j e z
def Post(K:Qqq)(m:List Addr)(H:Hp)(d:D)(st':Store)(Q:VK):Prop:=∀v m' H',Sub m m'->Tr H H'->Rel K m' st' H'->IsD K m' H' d v->Q v H'
def PostB(K:Qqq)(m:List Addr)(H:Hp)(b:Bool)(st':Store)(Q:Bool->Hp->Prop):Prop:=∀m' H',Sub m m'->Tr H H'->Rel K m' st' H'->Q b H'
def PostL(K:Qqq)(m:List Addr)(H:Hp)(ds:List D)(st':Store)(Q:List V->Hp->Prop):Prop:=∀vs m' H',Sub m m'->Tr H H'->Rel K m' st' H'->IsDs K m' H' ds vs->Q vs H'
theorem Post.mono{K:Qqq}{m z:List Addr}{H F:Hp}{d:D}{j:Store}{Q:VK}(p:Post K m H d j Q)(s:Sub m z)(t:Tr H F):Post K z F d j Q:=
 λv m' H' s' J r i=>p v m' H' (s.trans s') (t.trans J) r i
theorem Post.here{K:Qqq}{m:List Addr}{H:Hp}{d:D}{j:Store}{Q:VK}{v:V}(p:Post K m H d j Q)(r:Rel K m j H)(i:IsD K m H d v):Q v H:=p v m H (Sub.refl m) (Tr.refl H) r i
noncomputable def tD(K:Qqq)(f:Sl->Store->Option (D×Store)):TE:=λσ H Q=>∃m st τ d st',Rel K m st H/\SlotOk K m H τ σ/\f τ st=some (d,st')/\Post K m H d st' Q
noncomputable def tTs(K:Qqq)(f:Sl->Store->Option (Bool×Store)):TT:=λσ H Q=>∃m st τ d st',Rel K m st H/\SlotOk K m H τ σ/\f τ st=some (d,st')/\PostB K m H d st' Q
noncomputable def tL(K:Qqq)(f:Sl->Store->Option (List D×Store)):TA:=λσ H Q=>∃m st τ d st',Rel K m st H/\SlotOk K m H τ σ/\f τ st=some (d,st')/\PostL K m H d st' Q
noncomputable def rD(K:Qqq)(g:Store->D->D->Option (D×Store)):R2:=λx y H Q=>∃m st a b d st',Rel K m st H/\IsD K m H a x/\IsD K m H b y/\g st a b=some (d,st')/\Post K m H d st' Q
def rC(K:Qqq)(g:Store->List D->Option (D×Store)):List V->Hp->VK->Prop:=λxs H Q=>∃m st ds d st',Rel K m st H/\IsDs K m H ds xs/\g st ds=some (d,st')/\Post K m H d st' Q
def rU1(K:Qqq)(g:Store->D->Option (D×Store)):V->Hp->VK->Prop:=λx H Q=>∃m st a d st',Rel K m st H/\IsD K m H a x/\g st a=some (d,st')/\Post K m H d st' Q
theorem tD.el{K:Qqq}{f:Sl->Store->Option (D×Store)}{j:L2.St}{H:Hp}{Q:VK}{P:Prop}(h:tD K f j H Q)(k:∀m st τ d st',Rel K m st H->SlotOk K m H τ j->f τ st=some (d,st')->Post K m H d st' Q->P):P:=by
 rcases h with⟨m,st,τ,d,st',a,b,c,e⟩
 exact k m st τ d st' a b c e
theorem tTs.el{K:Qqq}{f:Sl->Store->Option (Bool×Store)}{j:L2.St}{H:Hp}{Q:Bool->Hp->Prop}{P:Prop}(h:tTs K f j H Q)(k:∀m st τ d st',Rel K m st H->SlotOk K m H τ j->f τ st=some (d,st')->PostB K m H d st' Q->P):P:=by
 rcases h with⟨m,st,τ,d,st',p0,p1,p2,z⟩
 exact k m st τ d st' p0 p1 p2 z
theorem tL.el{K:Qqq}{f:Sl->Store->Option (List D×Store)}{j:L2.St}{H:Hp}{Q:List V->Hp->Prop}{P:Prop}(h:tL K f j H Q)(k:∀m st τ d st',Rel K m st H->SlotOk K m H τ j->f τ st=some (d,st')->PostL K m H d st' Q->P):P:=by
 rcases h with⟨m,st,τ,d,st',p0,p1,p2,z⟩
 exact k m st τ d st' p0 p1 p2 z
theorem rD.el{K:Qqq}{f:Store->D->D->Option (D×Store)}{x y:V}{H:Hp}{Q:VK}{P:Prop}(h:rD K f x y H Q)(k:∀m st a b d st',Rel K m st H->IsD K m H a x->IsD K m H b y->f st a b=some (d,st')->Post K m H d st' Q->P):P:=by
 rcases h with⟨m,st,a,b,d,st',p0,p1,p2,z,j⟩
 exact k m st a b d st' p0 p1 p2 z j
theorem rC.el{K:Qqq}{f:Store->List D->Option (D×Store)}{xs:List V}{H:Hp}{Q:VK}{P:Prop}(h:rC K f xs H Q)(k:∀m st ds d st',Rel K m st H->IsDs K m H ds xs->f st ds=some (d,st')->Post K m H d st' Q->P):P:=by
 rcases h with⟨m,st,ds,d,st',p0,p1,p2,j⟩
 exact k m st ds d st' p0 p1 p2 j
theorem rU1.el{K:Qqq}{f:Store->D->Option (D×Store)}{x:V}{H:Hp}{Q:VK}{P:Prop}(h:rU1 K f x H Q)(k:∀m st a d st',Rel K m st H->IsD K m H a x->f st a=some (d,st')->Post K m H d st' Q->P):P:=by
 rcases h with⟨m,st,a,d,st',p0,p1,p2,j⟩
 exact k m st a d st' p0 p1 p2 j
theorem _root_.L2.PE.imp{X:Cx}{e:Qx}{t t':TE}(h:PE X e t)(f:∀σ H Q,t' σ H Q->t σ H Q):PE X e t':=λpins s σ H Q I q=>h pins s σ H Q I (f σ H Q q)
theorem _root_.L2.PT.imp{X:Cx}{e:Qx}{t t':TT}(h:PT X e t)(f:∀σ H Q,t' σ H Q->t σ H Q):PT X e t':=λpins s σ H Q I q=>h pins s σ H Q I (f σ H Q q)
theorem _root_.L2.PW.imp{X:Cx}{e:Qx}{t t':TT}(h:PW X e t)(f:∀σ H Q,t' σ H Q->t σ H Q):PW X e t':=λw pins s σ H Q I q=>h w pins s σ H Q I (f σ H Q q)
theorem _root_.L2.PA.imp{X:Cx}{e:List Qx}{t t':TA}(h:PA X e t)(f:∀σ H Q,t' σ H Q->t σ H Q):PA X e t':=λp pins s σ H Q I q=>h p pins s σ H Q I (f σ H Q q)
theorem _root_.L2.PS.imp{X:Cx}{e:Stmt}{t t':TS}(h:PS X e t)(f:∀σ H Q,t' σ H Q->t σ H Q):PS X e t':=λpins s σ H Q I q=>h pins s σ H Q I (f Q σ H q)
theorem _root_.L2.PSs.imp{X:Cx}{e:List Stmt}{t t':TS}(h:PSs X e t)(f:∀D σ H,t' D σ H->t D σ H):PSs X e t':=λpins s σ H D I q=>h pins s σ H D I (f D σ H q)
theorem qzc{α:Type}{f:Option (D×Store)}{g:D×Store->Option α}{r:α}(e:f.bind g=some r):∃d st,f=some (d,st)/\g (d,st)=some r:=by
 cases f with
 |none=>cases e
 |some p=>exact⟨p.1,p.2,rfl,e⟩
theorem orO{α:Type}{a b:Option α}{r:α}(h:a.or b=some r):a=some r\/b=some r:=by
 cases a with
 |none=>exact .inr h
 |some x=>exact .inl h
theorem mapD{α j:Type}{f:Option α}{g:α->j}{r:j}(e:f.map g=some r):∃d,f=some d/\g d=r:=by
 cases f with
 |none=>cases e
 |some p=>exact⟨p,rfl,Option.some.inj e⟩
theorem qzy{α j:Type}{f:Option α}{g:α->Option j}{r:j}(e:f.bind g=some r):∃d,f=some d/\g d=some r:=by
 cases f with
 |none=>cases e
 |some p=>exact⟨p,rfl,e⟩
section
variable {K:Qqq}
theorem qcq{fa fb:Sl->Store->Option (D×Store)}{g:Store->D->D->Option (D×Store)}{j:L2.St}{H:Hp}{Q:VK}
  (h:tD K (λτ st=>(fa τ st).bind λp=>(fb τ p.2).bind λq=>g q.2 p.1 q.1) j H Q):tOp (rD K g) (tD K fa) (tD K fb) j H Q:=by
 refine h.el λm st τ d st' R0 Y e q=>?_;obtain⟨U,L,e1,e⟩:=qzc e;obtain⟨O,J,e2,e⟩:=qzc e
 exact⟨m,st,τ,U,L,R0,Y,e1,λx m1 H1 b1 F R1 i1=>⟨m1,L,τ,O,J,R1,Y.mono b1 F,e2,λy Z H2 b2 z R2 i2=>
  ⟨Z,J,U,O,d,st',R2,qzk b2 z _ _ i1,i2,e,q.mono (b1.trans b2) (F.trans z)⟩⟩⟩
theorem tD_un{fa:Sl->Store->Option (D×Store)}{g:Store->D->Option (D×Store)}{j:L2.St}{H:Hp}{Q:VK}
  (h:tD K (λτ st=>(fa τ st).bind λp=>g p.2 p.1) j H Q):tUn (rU1 K g) (tD K fa) j H Q:=by
 refine h.el λm st τ d st' Z U e q=>?_;obtain⟨F,z,O,e⟩:=qzc e;exact⟨m,st,τ,F,z,Z,U,O,λx m1 H1 b1 J Y L=>⟨m1,z,F,d,st',Y,L,e,q.mono b1 J⟩⟩
theorem qia{fa:Sl->Store->Option (D×Store)}{fr:Sl->Store->Option (List D×Store)}{j:L2.St}{H:Hp}{Q:List V->Hp->Prop}
  (h:tL K (λτ st=>(fa τ st).bind λp=>(fr τ p.2).bind λq=>some (p.1::q.1,q.2)) j H Q):qib (tD K fa) (tL K fr) j H Q:=by
 refine h.el λm st τ d st' R0 L e q=>?_;obtain⟨d1,J,e1,e⟩:=qzc e;obtain⟨p,Z,e⟩:=qzy e;cases e
 exact⟨m,st,τ,d1,J,R0,L,e1,λx m1 H1 b1 F R1 Y=>⟨m1,J,τ,p.1,p.2,R1,L.mono b1 F,Z,λxs O H2 b2 z R2 U=>
  q _ O H2 (b1.trans b2) (F.trans z) R2 (qzm (qzk b2 z _ _ Y) U)⟩⟩
theorem tL_nil{j:L2.St}{H:Hp}{Q:List V->Hp->Prop}(h:tL K (λ_ st=>some ([],st)) j H Q):tNil j H Q:=by
 refine h.el λm st τ d st' z F e q=>?_;cases e;exact q [] m H (Sub.refl m) (Tr.refl H) z qqx
theorem qql{fa:Sl->Store->Option (List D×Store)}{g:Store->List D->Option (D×Store)}{j:L2.St}{H:Hp}{Q:VK}
  (h:tD K (λτ st=>(fa τ st).bind λp=>g p.2 p.1) j H Q):tCB (rC K g) (tL K fa) j H Q:=by
 refine h.el λm st τ d st' U L e q=>?_;obtain⟨p,J,e⟩:=qzy e;exact⟨m,st,τ,p.1,p.2,U,L,J,λxs m1 H1 b1 z O F=>⟨m1,p.2,p.1,d,st',O,F,e,q.mono b1 z⟩⟩
end
end MS
end
section
namespace MS
open PySem PySem.Spec PyProof.Rows L2
open M (D Cell Store Sl)
section
variable {X:Cx}
theorem qqp:(sizeLine:Nat)=M.lim:=Q8
theorem qc2:OpR X (Q2 .FloorDiv) (rI (λ_ j=>0<j/\j<2 ^ 64) λi j=>.int (i / j)):=opI λi j _ _ _ _ _ z q=>by
 have h1:(0:Int)<j:=z.1;have h2:j<2 ^ 64:=z.2;refine floordiv_int (by omega) (by rw[Int.fdiv_eq_ediv_of_nonneg i (by omega)]; exact q) (.inl (PyProof.noPylong_of_log2 ?_));have J:j.natAbs<2 ^ 64:=by omega
 have F:j.natAbs≠0:=by omega
 have L:j.natAbs.log2<64:=(Nat.log2_lt F).mpr J;omega
theorem _root_.MS.IsDs.rep{K:Qqq}{m:List Addr}{H:Hp}{ds:List D}{xs:List V}(h:IsDs K m H ds xs):∀k:Nat,IsDs K m H (List.replicate k ds).flatten (List.replicate k xs).flatten
 |0=>by simp only[List.replicate_zero,List.flatten_nil]; exact qqx
 |k+1=>by
  rw[Qzd,Qzd,Qz1,Qz1];exact h.append (IsDs.rep h k)
theorem qly{j:List (Addr×Obj)}{s:Qz}{σ:L2.St}{H:Hp}{Q:VK}{l b:Addr}{xs ys:List V}(I:Inv X j σ H s)(hq:SqL X.K H l xs)(U:SqL X.K H b ys)(hz:xs.length+ys.length<=sizeLine)(q:∀p,H p=none->Q (.ref p) (upd H p (.lst (xs++ys)))):
  wpAny (model X.prog X.w) X.A (Q2 .Add (.ref l) (.ref b)) (EP X j σ Q) X.xe s:=by
 obtain⟨vs,r1,pl,_⟩:=I.list hq;obtain⟨ws,r2,O,_⟩:=I.list U;have l1:=r1.length;have l2:=r2.length;obtain⟨⟨cls,dd,a1,sl⟩,n,ho,hc,a3,hd⟩:=pl;obtain⟨⟨a2,Y,Z,L⟩,n2,z,J,a0,F⟩:=O;simp only at hc hd J F;subst hc hd J F;have e:vs.toArray++ws.toArray=(vs++ws).toArray:=by simp
 refine concat_meets ⟨_,ho,rfl⟩ ⟨_,z,rfl⟩ noFill_list_add seq_list_add PySem.F.slot_list_add PySem.F.entry_list_add (PySem.F.args_list_add_2 _ _) (list_addW l b vs.toArray ws.toArray n n2 dd Y sl L (by simp; omega)) ⟨ho,z,?_⟩;rw[e];exact⟨.ref _,_,I.lnew (t':=s.toks) (r1.append r2) (by rw[Qqo]; omega),rfl,q _ I.fresh⟩
theorem qla(op:Zl):OpR X (Q2 op) (rD X.K λst a b=>M.binop st op a b):=by
 intro pins s σ H x y v u Q I O L h;refine h.el λm st a b d st' F Y U e q=>?_;have e:M.binop st op a b=some (d,st'):=e;unfold M.binop at e
 split at e
 ·cases e;exact op_add pins s σ H x y v u Q I O L ⟨_,_,Y.int,U.int,q.here F (mkInt _)⟩
 ·rename_i as bs
  split at e
  ·cases e
  ·rename_i j;cases e;rw[Qzy,decide_eq_true_eq,not_or,List.isEmpty_iff]at j;obtain⟨pa,xs,rfl,Z,J⟩:=Y.tup;obtain⟨pb,ys,rfl,hy,iy⟩:=U.tup;have l1:=J.length;have l2:=iy.length;have l3:=qqp;refine qlw pins s σ H _ _ v u Q I O L ⟨pa,pb,xs,ys,rfl,rfl,Z,hy,?_,by omega,λz=>?_,λz p hp=>?_⟩
   ·intro z;subst z;exact j.1 (Qz0.mp l1)
   ·have i3:=J.append iy;rw[z,Qzv]at i3;exact q.here F (qq6 Z i3)
   ·have sm:=qzj (o:=.tup (xs++ys)) hp;exact q _ m _ (Sub.refl m) (Tr.of_same sm) (F.same sm) (qq6 (SqT.of qzx) (qza (Sub.refl m) (Tr.of_same sm) _ _ (J.append iy)))
 ·rename_i la lb _ _;obtain⟨a0,e1,e⟩:=qzy e;obtain⟨a1,e2,e⟩:=qzy e
  split at e
  ·cases e
  ·rename_i j;cases e;obtain⟨pa,xs,_,rfl,Z,J⟩:=F.seq e1 Y;obtain⟨pb,ys,_,rfl,hy,iy⟩:=F.seq e2 U;have l1:=J.length;have l2:=iy.length;have l3:=qqp;cases O;cases L;refine qly I Z hy (by omega) λp hp=>?_;exact q _ (m++[p]) _ (Sub.app m [p]) (Tr.of_same (qzj hp)) (F.new hp (J.append iy)) F.newLoc
 ·cases e;exact op_sub pins s σ H x y v u Q I O L ⟨_,_,Y.int,U.int,q.here F (mkInt _)⟩
 ·split at e
  ·rename_i j;cases e;refine op_mul pins s σ H x y v u Q I O L ⟨_,_,Y.int,U.int,?_,q.here F (mkInt _)⟩;unfold M.mulOk at j;simp only[Qzy,Qqm,decide_eq_true_eq]at j;exact j
  ·cases e
 ·rename_i as k _
  split at e
  ·cases e
  ·rename_i j;cases e;simp only[Qzy,decide_eq_true_eq,not_or]at j;obtain⟨pa,xs,rfl,Z,J⟩:=Y.tup;have l1:=J.length;have l3:=qqp;refine qlk pins s σ H _ _ v u Q I O L ⟨pa,k,xs,rfl,U.int,Z,by omega,by omega,by rw[<- l1]; omega,λys hy=>⟨λz=>?_,λp hp=>?_⟩⟩
   ·have i3:=J.rep k.toNat
    rw[<- hy,z]at i3;exact q.here F (qq6 Z i3)
   ·have sm:=qzj (o:=.tup ys) hp;have i3:=J.rep k.toNat
    rw[<- hy]at i3;exact q _ m _ (Sub.refl m) (Tr.of_same sm) (F.same sm) (qq6 (SqT.of qzx) (qza (Sub.refl m) (Tr.of_same sm) _ _ i3))
 ·rename_i la k _;obtain⟨a0,e1,e⟩:=qzy e
  split at e
  ·cases e
  ·rename_i j;cases e;simp only[Qzy,decide_eq_true_eq,not_or]at j;obtain⟨pa,xs,m1,rfl,Z,J,_⟩:=F.wlist e1 Y;have l1:=J.length;have l3:=qqp;refine op_rep pins s σ H _ _ v u Q I O L ⟨pa,k,xs,rfl,U.int,Z,by omega,by omega,by rw[<- l1]; omega,λp hp=>?_⟩;exact q _ (m++[p]) _ (Sub.app m [p]) (Tr.of_same (qzj hp)) (F.new hp (J.rep k.toNat)) F.newLoc
 ·split at e
  ·rename_i j;cases e;exact qc2 pins s σ H x y v u Q I O L ⟨_,_,Y.int,U.int,j,q.here F (mkInt _)⟩
  ·cases e
 ·split at e
  ·rename_i j;cases e;exact op_mod pins s σ H x y v u Q I O L ⟨_,_,Y.int,U.int,j,q.here F (mkInt _)⟩
  ·cases e
 ·split at e
  ·rename_i j;cases e;exact op_pow pins s σ H x y v u Q I O L ⟨_,_,Y.int,U.int,⟨j.1,by omega,j.2.2⟩,q.here F (mkInt _)⟩
  ·cases e
 ·cases e
theorem qz0{z:List (Addr×Obj)}{J:L2.St}{H:Hp}{s:Qz}{m:List Addr}{ds:List D}{v:V}(I:Inv X z J H s)(h:IsD X.K m H (.tup ds) v):∃a xs j,v=.ref a/\SqT X.K H a xs/\IsDs X.K m H ds xs/\Vals xs j/\IsTup s.heap a j.toArray:=by
 obtain⟨a,xs,rfl,F,L⟩:=h.tup;obtain⟨j,r,p,_⟩:=I.tuple F;exact⟨a,xs,j,rfl,F,L,r,p⟩
section
variable {pins:List (Addr×Obj)}{σ:L2.St}{H:Hp}{s:Qz}{m:List Addr}
mutual
theorem qdg(I:Inv X pins σ H s):∀(n:Nat) (d e:D) (v:V),M.flat n d=true->M.flat n e=true->IsD X.K m H d v->IsD X.K m H e v->d=e
 |n,.loc _,_,_,f,_,_,_=>by simp[M.flat]at f
 |n,.lst _,_,_,f,_,_,_=>by simp[M.flat]at f
 |n,.non,e,v,_,j,h,h'=>by
  rw[h.non]at h'
  cases e with
  |non=>rfl
  |tup ds=>obtain⟨a,xs,z,_⟩:=h'.tup; cases z
  |loc l=>simp[M.flat]at j
  |lst _=>simp[M.flat]at j
  |bl b=>cases h'.bl
  |int b=>cases h'.int
  |str b=>cases h'.str
 |n,.bl b,e,v,_,j,h,h'=>by
  rw[h.bl]at h'
  cases e with
  |non=>cases h'.non
  |tup ds=>obtain⟨a,xs,z,_⟩:=h'.tup; cases z
  |loc l=>simp[M.flat]at j
  |lst _=>simp[M.flat]at j
  |bl b=>cases h'.bl; rfl
  |int b=>cases h'.int
  |str b=>cases h'.str
 |n,.int b,e,v,_,j,h,h'=>by
  rw[h.int]at h'
  cases e with
  |non=>cases h'.non
  |tup ds=>obtain⟨a,xs,z,_⟩:=h'.tup; cases z
  |loc l=>simp[M.flat]at j
  |lst _=>simp[M.flat]at j
  |bl b=>cases h'.bl
  |int b=>cases h'.int; rfl
  |str b=>cases h'.str
 |n,.str b,e,v,_,j,h,h'=>by
  rw[h.str]at h'
  cases e with
  |non=>cases h'.non
  |tup ds=>obtain⟨a,xs,z,_⟩:=h'.tup; cases z
  |loc l=>simp[M.flat]at j
  |lst _=>simp[M.flat]at j
  |bl b=>cases h'.bl
  |int b=>cases h'.int
  |str b=>cases h'.str; rfl
 |0,.tup ds,e,v,f,j,h,h'=>by simp[M.flat]at f
 |n+1,.tup ds,e,v,f,j,h,h'=>by
  obtain⟨a,xs,rfl,O,J⟩:=h.tup
  cases e with
  |non=>cases h'.non
  |tup es=>
   obtain⟨b,ys,z,L,F⟩:=h'.tup;cases z;have:=I.tuple_inj O L;subst this;simp only[M.flat]at f j;rw[qvc I n ds es xs f j J F]
  |loc l=>simp[M.flat]at j
  |lst _=>simp[M.flat]at j
  |bl b=>cases h'.bl
  |int b=>cases h'.int
  |str b=>cases h'.str
theorem qvc(I:Inv X pins σ H s):∀(n:Nat) (ds es:List D) (xs:List V),M.flats n ds=true->M.flats n es=true->IsDs X.K m H ds xs->IsDs X.K m H es xs->ds=es
 |n,[],es,xs,_,_,h,h'=>by
  rw[h.nil]at h';exact(Qz0.mp h'.length).symm
 |n,d::ds,es,xs,f,j,h,h'=>by
  obtain⟨x,r,rfl,q,t⟩:=h.cons
  cases es with
  |nil=>cases h'.nil
  |cons e es=>
   obtain⟨L,r',z,J,F⟩:=h'.cons;cases z;simp only[M.flats,Qqm]at f j;rw[qdg I n d e x f.1 j.1 q J,qvc I n ds es r f.2 j.2 t F]
end
mutual
theorem qgg:∀(n:Nat) (d:D),M.flat n d=true->M.eqT d d=true
 |n,.loc _,f=>by simp[M.flat]at f
 |n,.lst _,f=>by simp[M.flat]at f
 |n,.non,_=>rfl
 |n,.bl b,_=>by simp[M.eqT]
 |n,.int b,_=>by simp[M.eqT]
 |n,.str b,_=>by simp[M.eqT]
 |0,.tup ds,f=>by simp[M.flat]at f
 |n+1,.tup ds,f=>by
  simp only[M.flat]at f;simp only[M.eqT];exact qj2 n ds f
theorem qj2:∀(n:Nat) (ds:List D),M.flats n ds=true->M.eqTs ds ds=true
 |n,[],_=>rfl
 |n,d::ds,f=>by
  simp only[M.flats,Qqm]at f;simp only[M.eqTs,qgg n d f.1,qj2 n ds f.2,Qkg]
end
noncomputable def pairE(ds es:List D)(j:Nat):Bool:=match ds[j]?,es[j]? with
 |some d,some e=>M.eqT d e
 |_,_=>true
theorem qxd:∀(ds es:List D),M.eqTs ds es=((List.range (min ds.length es.length)).all (pairE ds es)&&ds.length==es.length)
 |[],[]=>rfl
 |[],e::es=>by simp[M.eqTs]
 |d::ds,[]=>by simp[M.eqTs]
 |d::ds,e::es=>by
  simp only[M.eqTs];rw[qxd ds es,Qqh,Qqh,Nat.add_min_add_right,List.range_succ_eq_map,Qxc,List.all_map,Bool.and_assoc]
  congr 1
  congr 1
  rw[Qzm,beq_iff_eq,beq_iff_eq];omega
theorem qd1{ds es:List D}(h:ds.length=es.length):M.eqTs ds es=(List.range ds.length).all (pairE ds es):=by
 rw[qxd,h,Nat.min_self];simp
theorem qd2(I:Inv X pins σ H s):∀(n:Nat) (A:Qv) (d e:D) (x y:V) (u v:Value),A.units+n<cLine->M.flat n d=true->M.flat n e=true->IsD X.K m H d x->IsD X.K m H e y->RelV x u->RelV y v->
  SeqAt.EqAt A s u v (M.eqT d e)/\SeqAt.RcAt A s u v (M.eqT d e):=by
 intro n
 induction n with
 |zero=>
  intro A d e x y u v hu f U hx F rx z;have L:A.units<cLine:=by omega
  cases d with
  |loc _=>simp[M.flat]at f
  |lst _=>simp[M.flat]at f
  |tup _=>simp[M.flat]at f
  |non=>
   cases hx.non; cases rx
   cases e with
   |loc _=>simp[M.flat]at U
   |lst _=>simp[M.flat]at U
   |tup _=>simp[M.flat]at U
   |non=>cases F.non; cases z; exact⟨SeqAt.EqAt.same _,SeqAt.RcAt.none_none⟩
   |bl b=>cases F.bl; cases z; exact⟨SeqAt.EqAt.none_bool b,SeqAt.RcAt.none_bool b⟩
   |int b=>cases F.int; obtain⟨t,rfl⟩:=z; exact⟨SeqAt.EqAt.none_int b t,SeqAt.RcAt.none_int b t⟩
   |str b=>cases F.str; obtain⟨t,rfl⟩:=z; exact⟨SeqAt.EqAt.none_str b t,SeqAt.RcAt.none_str b t⟩
  |bl a=>
   cases hx.bl; cases rx
   cases e with
   |loc _=>simp[M.flat]at U
   |lst _=>simp[M.flat]at U
   |tup _=>simp[M.flat]at U
   |non=>cases F.non; cases z; exact⟨SeqAt.EqAt.bool_none a,SeqAt.RcAt.bool_none a⟩
   |bl b=>cases F.bl; cases z; exact⟨SeqAt.EqAt.bool_bool a b,SeqAt.RcAt.bool_bool a b⟩
   |int b=>cases F.int; obtain⟨t,rfl⟩:=z; exact⟨SeqAt.EqAt.bool_int a b t,SeqAt.RcAt.bool_int a b t⟩
   |str b=>cases F.str; obtain⟨t,rfl⟩:=z; exact⟨SeqAt.EqAt.bool_str a b t,SeqAt.RcAt.bool_str a b t⟩
  |int a=>
   cases hx.int; obtain⟨J,rfl⟩:=rx
   cases e with
   |loc _=>simp[M.flat]at U
   |lst _=>simp[M.flat]at U
   |tup _=>simp[M.flat]at U
   |non=>cases F.non; cases z; exact⟨SeqAt.EqAt.int_none a J,SeqAt.RcAt.int_none a J⟩
   |bl b=>cases F.bl; cases z; exact⟨SeqAt.EqAt.int_bool a J b,SeqAt.RcAt.int_bool a J b⟩
   |int b=>cases F.int; obtain⟨t,rfl⟩:=z; exact⟨SeqAt.EqAt.int_int a J b t,SeqAt.RcAt.int_int a J b t⟩
   |str b=>cases F.str; obtain⟨t,rfl⟩:=z; exact⟨SeqAt.EqAt.int_str a J b t,SeqAt.RcAt.int_str a J b t⟩
  |str a=>
   cases hx.str; obtain⟨J,rfl⟩:=rx
   cases e with
   |loc _=>simp[M.flat]at U
   |lst _=>simp[M.flat]at U
   |tup _=>simp[M.flat]at U
   |non=>cases F.non; cases z; exact⟨SeqAt.EqAt.str_none a J,SeqAt.RcAt.str_none a J⟩
   |bl b=>cases F.bl; cases z; exact⟨SeqAt.EqAt.str_bool a J b,SeqAt.RcAt.str_bool a J b⟩
   |int b=>cases F.int; obtain⟨t,rfl⟩:=z; exact⟨SeqAt.EqAt.str_int a J b t,SeqAt.RcAt.str_int a J b t⟩
   |str b=>cases F.str; obtain⟨t,rfl⟩:=z; exact⟨SeqAt.EqAt.str_str a J b t,SeqAt.RcAt.str_str a J b t⟩
 |succ n ih=>
  intro A d e x y u v hu f U hx F rx z;have L:A.units<cLine:=by omega
  cases d with
  |loc _=>simp[M.flat]at f
  |lst _=>simp[M.flat]at f
  |tup ds=>
   obtain⟨a,xs,Y,rfl,hq,ix,r1,p1⟩:=qz0 I hx;cases rx
   cases e with
   |loc _=>simp[M.flat]at U
   |lst _=>simp[M.flat]at U
   |non=>cases F.non; cases z; exact⟨SeqAt.EqAt.tuple_none p1 L,SeqAt.RcAt.tuple_none p1 L⟩
   |bl b=>cases F.bl; cases z; exact⟨SeqAt.EqAt.tuple_bool b p1 L,SeqAt.RcAt.tuple_bool b p1 L⟩
   |int b=>cases F.int; obtain⟨t,rfl⟩:=z; exact⟨SeqAt.EqAt.tuple_int b t p1 L,SeqAt.RcAt.tuple_int b t p1 L⟩
   |str b=>cases F.str; obtain⟨t,rfl⟩:=z; exact⟨SeqAt.EqAt.tuple_str b t p1 L,SeqAt.RcAt.tuple_str b t p1 L⟩
   |tup es=>
    obtain⟨b,ys,O,rfl,Z,iy,r2,p2⟩:=qz0 I F;cases z;have l1:=ix.length;have l2:=iy.length;have l3:=r1.length;have l4:=r2.length;simp only[M.flat]at f U;have he:∀j (h1:j<Y.toArray.size) (h2:j<O.toArray.size),SeqAt.EqAt A.in1 s Y.toArray[j] O.toArray[j] (pairE ds es j):=by
     intro j h1 h2;rw[Qqw]at h1 h2;have j1:j<ds.length:=by omega
     have j2:j<es.length:=by omega
     have g1:ds[j]?=some ds[j]:=by simp
     have g2:es[j]?=some es[j]:=by simp
     obtain⟨x1,k1,q1⟩:=ix.get g1;obtain⟨x2,k2,q2⟩:=iy.get g2;obtain⟨u1,w1,z1⟩:=r1.get k1;obtain⟨u2,w2,z2⟩:=r2.get k2;have fl:∀(l:List D) (k:Nat) (hk:k<l.length),M.flats n l=true->M.flat n l[k]=true:=by
      intro l
      induction l with
      |nil=>intro k hk; cases hk
      |cons c l a1=>
       intro k hk hf;simp only[M.flats,Qqm]at hf
       cases k with
       |zero=>exact hf.1
       |succ k=>exact a1 k (by simpa using hk) hf.2
     have:=(ih A.in1 ds[j] es[j] x1 x2 u1 u2 (by have hz:A.in1.units=A.units+1:=rfl; omega) (fl ds j j1 f) (fl es j j2 U) q1 q2 z1 z2).1;have e1:Y.toArray[j]=u1:=by
      have:Y[j]?=some Y[j]:=by simp
      rw[w1]at this;simpa using (Option.some.inj this).symm
     have e2:O.toArray[j]=u2:=by
      have:O[j]?=some O[j]:=by simp
      rw[w2]at this;simpa using (Option.some.inj this).symm
     rw[e1,e2];have e3:pairE ds es j=M.eqT ds[j] es[j]:=by
      unfold pairE;rw[g1,g2]
     rw[e3];exact this
    have rc:SeqAt.RcAt A s (.ref a) (.ref b) (M.eqT (.tup ds) (.tup es)):=by
     have:=SeqAt.RcAt.tuples p1 p2 L he;simp only[M.eqT];rw[qxd,l1,l2,l3,l4];simpa using this
    refine⟨?_,rc⟩
    by_cases a0:a=b
    ·subst a0;have:=I.tuple_inj hq Z;subst this;have e0:=qvc I n ds es xs f U ix iy;subst e0;have e1:M.eqT (.tup ds) (.tup ds)=true:=by
      simp only[M.eqT];exact qj2 n ds f
     rw[e1];exact SeqAt.EqAt.same _
    ·exact SeqAt.EqAt.of_refs a0 rc
  |non=>
   cases hx.non; cases rx
   cases e with
   |loc _=>simp[M.flat]at U
   |lst _=>simp[M.flat]at U
   |tup es=>
    obtain⟨b,ys,O,rfl,Z,iy,r2,p2⟩:=qz0 I F;cases z;exact⟨SeqAt.EqAt.none_tuple p2 L,SeqAt.RcAt.none_tuple p2 L⟩
   |non=>cases F.non; cases z; exact⟨SeqAt.EqAt.same _,SeqAt.RcAt.none_none⟩
   |bl b=>cases F.bl; cases z; exact⟨SeqAt.EqAt.none_bool b,SeqAt.RcAt.none_bool b⟩
   |int b=>cases F.int; obtain⟨t,rfl⟩:=z; exact⟨SeqAt.EqAt.none_int b t,SeqAt.RcAt.none_int b t⟩
   |str b=>cases F.str; obtain⟨t,rfl⟩:=z; exact⟨SeqAt.EqAt.none_str b t,SeqAt.RcAt.none_str b t⟩
  |bl a=>
   cases hx.bl; cases rx
   cases e with
   |loc _=>simp[M.flat]at U
   |lst _=>simp[M.flat]at U
   |tup es=>
    obtain⟨b,ys,O,rfl,Z,iy,r2,p2⟩:=qz0 I F;cases z;exact⟨SeqAt.EqAt.bool_tuple a p2 L,SeqAt.RcAt.bool_tuple a p2 L⟩
   |non=>cases F.non; cases z; exact⟨SeqAt.EqAt.bool_none a,SeqAt.RcAt.bool_none a⟩
   |bl b=>cases F.bl; cases z; exact⟨SeqAt.EqAt.bool_bool a b,SeqAt.RcAt.bool_bool a b⟩
   |int b=>cases F.int; obtain⟨t,rfl⟩:=z; exact⟨SeqAt.EqAt.bool_int a b t,SeqAt.RcAt.bool_int a b t⟩
   |str b=>cases F.str; obtain⟨t,rfl⟩:=z; exact⟨SeqAt.EqAt.bool_str a b t,SeqAt.RcAt.bool_str a b t⟩
  |int a=>
   cases hx.int; obtain⟨J,rfl⟩:=rx
   cases e with
   |loc _=>simp[M.flat]at U
   |lst _=>simp[M.flat]at U
   |tup es=>
    obtain⟨b,ys,O,rfl,Z,iy,r2,p2⟩:=qz0 I F;cases z;exact⟨SeqAt.EqAt.int_tuple a J p2 L,SeqAt.RcAt.int_tuple a J p2 L⟩
   |non=>cases F.non; cases z; exact⟨SeqAt.EqAt.int_none a J,SeqAt.RcAt.int_none a J⟩
   |bl b=>cases F.bl; cases z; exact⟨SeqAt.EqAt.int_bool a J b,SeqAt.RcAt.int_bool a J b⟩
   |int b=>cases F.int; obtain⟨t,rfl⟩:=z; exact⟨SeqAt.EqAt.int_int a J b t,SeqAt.RcAt.int_int a J b t⟩
   |str b=>cases F.str; obtain⟨t,rfl⟩:=z; exact⟨SeqAt.EqAt.int_str a J b t,SeqAt.RcAt.int_str a J b t⟩
  |str a=>
   cases hx.str; obtain⟨J,rfl⟩:=rx
   cases e with
   |loc _=>simp[M.flat]at U
   |lst _=>simp[M.flat]at U
   |tup es=>
    obtain⟨b,ys,O,rfl,Z,iy,r2,p2⟩:=qz0 I F;cases z;exact⟨SeqAt.EqAt.str_tuple a J p2 L,SeqAt.RcAt.str_tuple a J p2 L⟩
   |non=>cases F.non; cases z; exact⟨SeqAt.EqAt.str_none a J,SeqAt.RcAt.str_none a J⟩
   |bl b=>cases F.bl; cases z; exact⟨SeqAt.EqAt.str_bool a J b,SeqAt.RcAt.str_bool a J b⟩
   |int b=>cases F.int; obtain⟨t,rfl⟩:=z; exact⟨SeqAt.EqAt.str_int a J b t,SeqAt.RcAt.str_int a J b t⟩
   |str b=>cases F.str; obtain⟨t,rfl⟩:=z; exact⟨SeqAt.EqAt.str_str a J b t,SeqAt.RcAt.str_str a J b t⟩
theorem qj1:∀{n:Nat}{l:List D}{k:Nat}{d:D},M.flats n l=true->l[k]?=some d->M.flat n d=true
 |_,[],_,_,_,e=>by simp at e
 |n,c::l,0,d,f,e=>by
  simp only[M.flats,Qqm]at f;have j:c=d:=by simpa using e
  rw[<- j]; exact f.1
 |n,c::l,k+1,d,f,e=>by
  simp only[M.flats,Qqm]at f;exact qj1 (k:=k) f.2 (by simpa using e)
end
end
end MS
end
section
namespace MS
open PySem PySem.Spec PyProof.Rows L2
section
variable {X:Cx}
end
end MS
end
section
namespace MS
open PySem PySem.Spec PyProof.Rows L2
open M (D Cell Store Sl)
section
variable {X:Cx}
section
variable {pins:List (Addr×Obj)}{σ:L2.St}{H:Hp}{s:Qz}{m:List Addr}
theorem qhs(I:Inv X pins σ H s)(A:Qv)(hu:A.units+9<cLine){d0:D}{J:V}{F:Value}(f0:M.flat 9 d0=true)(h0:IsD X.K m H d0 J)(r0:RelV J F):
  ∃e:Value->Bool,∀(ds:List D) (xs:List V) (j:List Value),M.flats 9 ds=true->IsDs X.K m H ds xs->Vals xs j->(∀w∈j,SeqAt.EqAt A s w F (e w))/\j.any e=ds.any λy=>M.eqT y d0:=by
 classical
 refine⟨λw=>decide (∃d x,M.flat 9 d=true/\IsD X.K m H d x/\RelV x w/\M.eqT d d0=true),λds=>?_⟩;have key:∀d x w,M.flat 9 d=true->IsD X.K m H d x->RelV x w->decide (∃d x,M.flat 9 d=true/\IsD X.K m H d x/\RelV x w/\M.eqT d d0=true)=M.eqT d d0:=by
  intro d x w f i r
  cases q:M.eqT d d0 with
  |true=>exact Z0 ⟨d,x,f,i,r,q⟩
  |false=>
   refine Z1 ?_;rintro⟨d',x',f',i',r',Y⟩;have e1:=r.inj r';subst e1;have e2:=qdg I 9 d d' x f f' i i';subst e2;rw[q]at Y;cases Y
 induction ds with
 |nil=>
  intro xs j _ O r;rw[O.nil]at r;cases r;exact⟨λw U=>(by cases U),rfl⟩
 |cons d ds ih=>
  intro xs j f O r;obtain⟨x,Z,rfl,q,t⟩:=O.cons;simp only[M.flats,Qqm]at f
  cases r with
  |@cons _ u _ us L r2=>
   obtain⟨a1,a2⟩:=ih Z us f.2 t r2;refine⟨λw U=>?_,?_⟩
   ·rcases Qqc.mp U with z|z
    ·subst z;show SeqAt.EqAt A s w F (decide _);rw[key d x w f.1 q L];exact(qd2 I 9 A d d0 x J w F hu f.1 f0 q h0 L r0).1
    ·exact a1 w z
   ·rw[Qxj,Qxj,a2]
    congr 1
    exact key d x u f.1 q L
end
theorem qha(n:Bool)(hu:X.A.units+64<cLine):OpR X (Qe (cond n .NotIn .In)) (rD X.K λst a b=>(M.inD st a b).map λk=>(.bl (cond n (!k) k),st)):=by
 intro pins s σ H x y v u Q I Z Y h;refine h.el λm st a b d st' R0 i1 i2 e q=>?_;obtain⟨k,z,U⟩:=mapD e;cases U;have J:X.A.in1.units+9<cLine:=by have hz:X.A.in1.units=X.A.units+1:=rfl; omega
 have q:=q.here R0 (mkBl _)
 cases b with
 |tup ds=>
  simp only[M.inD]at z
  split at z
  ·rename_i hf;cases z;rw[Qqm]at hf;obtain⟨p,xs,j,rfl,hq,L,r,pl⟩:=qz0 I i2;cases Y;obtain⟨ef,O⟩:=qhs I X.A.in1 J hf.1 i1 Z;obtain⟨h1,h2⟩:=O ds xs j hf.2 L r;have e:j.toArray.any ef=j.any ef:=by simp
   rw[<- h2,<- e]at q;cases n
   ·exact SeqAt.in_tupleAt ef pl (λw F=>h1 w (by simpa using F)) ⟨.bl _,H,I,rfl,q⟩
   ·exact SeqAt.notIn_tupleAt ef pl (λw F=>h1 w (by simpa using F)) ⟨.bl _,H,I,rfl,q⟩
  ·cases z
 |loc l|lst l=>
  simp only[M.inD]at z;obtain⟨ds,U,z⟩:=qzy z
  split at z
  ·rename_i hf;cases z;rw[Qqm]at hf;obtain⟨p,xs,_,rfl,hq,L⟩:=R0.seq U i2;cases Y;obtain⟨j,r,pl,_⟩:=I.list hq;obtain⟨ef,O⟩:=qhs I X.A.in1 J hf.1 i1 Z;obtain⟨h1,h2⟩:=O ds xs j hf.2 L r;have e:j.toArray.any ef=j.any ef:=by simp
   rw[<- h2,<- e]at q;cases n
   ·exact SeqAt.in_listAt ef pl.isList (λw F=>h1 w (by simpa using F)) ⟨.bl _,H,I,rfl,q⟩
   ·exact SeqAt.notIn_listAt ef pl.isList (λw F=>h1 w (by simpa using F)) ⟨.bl _,H,I,rfl,q⟩
  ·cases z
 |_=>simp[M.inD,M.seqAt]at z
theorem op_eqD(hu:X.A.units+64<cLine):OpR X (Qe .Eq) (rD X.K λst a b=>(M.eqD st a b).map λk=>(.bl k,st)):=by
 intro pins s σ H x y v u Q I rx ry h;refine h.el λm st a b d st' Z i1 i2 e q=>?_;obtain⟨k,F,e2⟩:=mapD e;cases e2;have F:M.eqD st a b=some k:=F;unfold M.eqD at F
 split at F
 ·rename_i ds es Y U
  split at F
  ·rename_i hf;cases F;rw[Qqm]at hf;obtain⟨p,xs,_,rfl,hq,ix⟩:=Z.seq Y i1;obtain⟨p',ys,_,rfl,a0,iy⟩:=Z.seq U i2;cases rx;cases ry;obtain⟨J,r1,pl,_⟩:=I.list hq;obtain⟨z,r2,O,_⟩:=I.list a0;have l1:=ix.length;have l2:=iy.length;have l3:=r1.length;have l4:=r2.length
   by_cases L:J.toArray.size=z.toArray.size
   ·refine SeqAt.RcAt.lists (e:=pairE ds es) pl.isList O.isList L (by omega) (λj h1 h2=>?_) _ _ _ _ ⟨.bl _,H,I,rfl,?_⟩
    ·rw[Qqw]at h1 h2;have j1:j<ds.length:=by omega
     have j2:j<es.length:=by omega
     have Y:ds[j]?=some ds[j]:=by simp
     have U:es[j]?=some es[j]:=by simp
     obtain⟨x1,k1,q1⟩:=ix.get Y;obtain⟨x2,k2,q2⟩:=iy.get U;obtain⟨u1,w1,z1⟩:=r1.get k1;obtain⟨u2,w2,z2⟩:=r2.get k2;have this:=(qd2 I 9 X.A.in1 ds[j] es[j] x1 x2 u1 u2 (by have hz:X.A.in1.units=X.A.units+1:=rfl; omega) (qj1 hf.1 Y) (qj1 hf.2 U) q1 q2 z1 z2).1;have F:J.toArray[j]=u1:=by
      have:J[j]?=some J[j]:=by simp
      rw[w1]at this;simpa using (Option.some.inj this).symm
     have e2:z.toArray[j]=u2:=by
      have:z[j]?=some z[j]:=by simp
      rw[w2]at this;simpa using (Option.some.inj this).symm
     rw[F,e2];have e3:pairE ds es j=M.eqT ds[j] es[j]:=by
      unfold pairE;rw[Y,U]
     rw[e3];exact this
    ·rw[Qqw,Qqw]at L;have e5:(List.range J.toArray.size).all (pairE ds es)=M.eqTs ds es:=by
      rw[qd1 (by omega),Qqw,<- l3,<- l1]
     rw[e5];exact q.here Z (mkBl _)
   ·rw[Qqw,Qqw]at L;have e5:M.eqTs ds es=false:=by
     rw[qxd];have:(ds.length==es.length)=false:=by simp; omega
     rw[this,Qx5]
    rw[e5]at q;refine SeqAt.RcAt.lists_lengths pl.isList O.isList (by simpa using L) (by omega) _ _ _ _ ⟨.bl _,H,I,rfl,q.here Z (mkBl _)⟩
  ·cases F
 ·split at F
  ·rename_i hf;cases F;rw[Qqm]at hf;exact(qd2 I 9 X.A a b x y v u (by omega) hf.1 hf.2 i1 i2 rx ry).2 _ _ _ _ ⟨.bl _,H,I,rfl,q.here Z (mkBl _)⟩
  ·cases F
theorem qad{K:Qqq}{m:List Addr}{H:Hp}{d:D}{x:V}(h:IsD K m H d x):decide (x=.non)=M.isNon d:=by
 cases d with
 |non=>rw[h.non]; rfl
 |bl b=>rw[h.bl]; rfl
 |int b=>rw[h.int]; rfl
 |str b=>rw[h.str]; rfl
 |tup ds=>obtain⟨a,xs,rfl,_⟩:=h.tup; rfl
 |loc l=>obtain⟨a,_,rfl⟩:=h.loc; rfl
 |lst l=>obtain⟨a,xs,rfl,_⟩:=h.lst; rfl
theorem qxl(Z:X.A.units+64<cLine)(op:Qt):OpR X (Qe op) (rD X.K λst a b=>(M.cmpD st op a b).map λk=>(.bl k,st)):=by
 intro pins s σ H x y v u Q I L J h;obtain⟨m,st,a,b,d,st',Y,U,O,e,q⟩:=h;obtain⟨k,F,e2⟩:=mapD e;cases e2;have F:M.cmpD st op a b=some k:=F;unfold M.cmpD at F
 split at F
 ·cases F;exact op_lt pins s σ H x y v u Q I L J ⟨_,_,U.int,O.int,q.here Y (mkBl _)⟩
 ·cases F;exact op_le pins s σ H x y v u Q I L J ⟨_,_,U.int,O.int,q.here Y (mkBl _)⟩
 ·cases F;exact op_gt pins s σ H x y v u Q I L J ⟨_,_,U.int,O.int,q.here Y (mkBl _)⟩
 ·cases F;exact op_ge pins s σ H x y v u Q I L J ⟨_,_,U.int,O.int,q.here Y (mkBl _)⟩
 ·exact op_eqD Z pins s σ H x y v u Q I L J ⟨m,st,a,b,_,_,Y,U,O,by dsimp only; rw[F]; rfl,q⟩
 ·rename_i i j _;cases F;cases U.int;cases O.int;refine op_ne pins s σ H _ _ v u Q I L J ⟨rfl,?_⟩;have e:decide (V.int i=V.int j)=(i==j):=by
   rw[Qzm,decide_eq_true_eq,beq_iff_eq];exact⟨λz=>by cases z; rfl,λz=>z▸rfl⟩
  rw[e];exact q.here Y (mkBl _)
 ·cases F;refine op_isN pins s σ H x y v u Q I L J ⟨O.non,?_⟩;rw[qad U];exact q.here Y (mkBl _)
 ·cases F;refine qlv pins s σ H x y v u Q I L J ⟨O.non,?_⟩;rw[qad U];exact q.here Y (mkBl _)
 ·exact qha false Z pins s σ H x y v u Q I L J ⟨m,st,a,b,_,_,Y,U,O,by dsimp only; rw[F]; rfl,q⟩
 ·obtain⟨k,e2,rfl⟩:=mapD F;exact qha true Z pins s σ H x y v u Q I L J ⟨m,st,a,b,_,_,Y,U,O,by dsimp only; rw[e2]; rfl,q⟩
 ·cases F
theorem qh6{K:Qqq}{m:List Addr}{st:Store}{H:Hp}{d:D}{x:V}{k:Bool}(L:Rel K m st H)(h:IsD K m H d x)(e:M.truth st d=some k):TruV K x H k:=by
 cases d with
 |non=>rw[h.non]; simp only[M.truth]at e; exact(Option.some.inj e).symm
 |bl b=>rw[h.bl]; simp only[M.truth]at e; exact(Option.some.inj e).symm
 |int b=>rw[h.int]; simp only[M.truth]at e; exact(Option.some.inj e).symm
 |str b=>cases e
 |tup ds=>
  obtain⟨a,xs,rfl,z,j⟩:=h.tup;simp only[M.truth]at e;refine .inr (.inl ⟨xs,z,?_⟩);have:=j.length;cases e;cases ds<;>cases xs<;>simp_all
 |loc l=>
  simp only[M.truth]at e;obtain⟨ds,J,F⟩:=mapD e;obtain⟨a,xs,_,rfl,z,j⟩:=L.seq J h;refine .inl ⟨xs,z,?_⟩;have:=j.length;subst F;cases ds<;>cases xs<;>simp_all
 |lst l=>
  simp only[M.truth]at e;obtain⟨ds,J,F⟩:=mapD e;obtain⟨a,xs,_,rfl,z,j⟩:=L.seq J h;refine .inl ⟨xs,z,?_⟩;have:=j.length;subst F;cases ds<;>cases xs<;>simp_all
theorem qhr{K:Qqq}{m:List Addr}{H:Hp}{ds:List D}{xs:List V}{i:Int}{d:D}(z:IsDs K m H ds xs)(e:M.atI ds i=some d):∃x,L2.atI xs i=some x/\IsD K m H d x:=by
 unfold M.atI at e;obtain⟨j,O,L⟩:=qzy e;obtain⟨x,J,q⟩:=z.get L;refine⟨x,?_,q⟩;unfold L2.atI;have F:L2.ixN xs.length i=some j:=by rw[<- z.length]; exact O
 rw[F];exact J
theorem ix_D:IxR X (rD X.K λst a b=>(M.idxD st a b).map λd=>(d,st)):=by
 intro value j pins s σ H x y v u Q I rx Z h hs;obtain⟨m,st,a,b,d,st',Y,i1,i2,e,q⟩:=h;obtain⟨k,z,U⟩:=mapD e;cases U;have z:M.idxD st a b=some d:=z;unfold M.idxD at z
 split at z
 ·obtain⟨p,xs,rfl,L,F⟩:=i1.tup;obtain⟨w,O,J⟩:=qhr F z;exact ix_tup value j pins s σ H _ _ v u Q I rx Z ⟨p,xs,_,w,rfl,i2.int,L,O,q.here Y J⟩ hs
 ·obtain⟨ds,U,z⟩:=qzy z;obtain⟨p,xs,_,rfl,L,F⟩:=Y.seq U i1;obtain⟨w,O,J⟩:=qhr F z;exact ql2 value j pins s σ H _ _ v u Q I rx Z ⟨p,xs,_,w,rfl,i2.int,L,O,q.here Y J⟩ hs
 ·cases z
theorem qbj:MtM X "list.append" (λx xs H Q=>∃m st a ds d st',Rel X.K m st H/\IsD X.K m H a x/\IsDs X.K m H ds xs/\M.mAppend st a ds=some (d,st')/\Post X.K m H d st' Q):=by
 intro pins s σ H x xs v J Q I L O h;obtain⟨m,st,a,ds,d,st',F,Z,Y,e,q⟩:=h;unfold M.mAppend at e
 split at e
 ·obtain⟨a0,e1,e⟩:=qzy e
  split at e
  ·rename_i hl;cases e;obtain⟨p,ys,hm,rfl,j,z,hs⟩:=F.wlist e1 Z;obtain⟨y,rfl,U⟩:=Y.one;have l1:=z.length;have l2:=qqp;refine qc8 pins s σ H _ _ v J Q I L O ⟨p,ys,y,rfl,rfl,j,by omega,?_⟩;exact q _ m _ (Sub.refl m) (Tr.put j) (F.put hs hm j (z.append (qzm U qqx))) qyz
  ·cases e
 ·cases e
def rSlD(K:Qqq):V->Option Int->Option Int->Hp->VK->Prop:=λx lo hi H Q=>∃m st a d st',Rel K m st H/\IsD K m H a x/\M.sliD st a lo hi=some (d,st')/\Post K m H d st' Q
theorem _root_.MS.IsDs.take{K:Qqq}{m:List Addr}{H:Hp}:∀{ds:List D}{xs:List V}(n:Nat),IsDs K m H ds xs->IsDs K m H (ds.take n) (xs.take n)
 |_,_,0,_=>by simp only[Qxm]; exact qqx
 |[],_,n+1,h=>by rw[h.nil]; simp only[List.take_nil]; exact qqx
 |d::ds,_,n+1,h=>by
  obtain⟨x,r,rfl,q,t⟩:=h.cons;simp only[List.take_succ_cons];exact qzm q (IsDs.take n t)
theorem _root_.MS.IsDs.drop{K:Qqq}{m:List Addr}{H:Hp}:∀{ds:List D}{xs:List V}(n:Nat),IsDs K m H ds xs->IsDs K m H (ds.drop n) (xs.drop n)
 |_,_,0,h=>by simp only[Qje]; exact h
 |[],_,n+1,h=>by rw[h.nil]; simp only[List.drop_nil]; exact qqx
 |d::ds,_,n+1,h=>by
  obtain⟨x,r,rfl,q,t⟩:=h.cons;simp only[List.drop_succ_cons];exact IsDs.drop n t
theorem qan(n d:Nat)(o:Option Int):M.cutIx n d o=HT.sIx n d o:=by
 cases o<;>rfl
theorem qhp{K:Qqq}{m:List Addr}{H:Hp}{ds:List D}{xs:List V}(h:IsDs K m H ds xs)(lo hi:Option Int):IsDs K m H (M.cut ds lo hi) (cutV xs lo hi):=by
 unfold M.cut cutV;rw[qan,qan,h.length];exact(h.drop _).take _
theorem sl_D:SlR X (rSlD X.K):=by
 intro pins s σ H x v vl vu lo hi sl Q I L hs pl O h;obtain⟨m,st,a,d,st',z,i1,e,q⟩:=h;unfold M.sliD at e
 split at e
 ·cases e;obtain⟨p,xs,rfl,hx,U⟩:=i1.tup;have Z:=qhp U lo hi
  by_cases F:HT.sIx xs.length 0 lo=0/\HT.sIx xs.length xs.length hi=xs.length
  ·cases L;obtain⟨Y,r,ht,hz⟩:=I.tuple hx;refine⟨"tuple",_,PyProof.Rows.slot_tuple_getitem.lookup,ht.typeIs,?_⟩;have j:Y.toArray.size=xs.length:=by rw[Qqw]; exact r.length.symm
   refine qxz ht hs pl O (by rw[j]; exact F) ?_;refine⟨.ref p,H,I,rfl,q.here z (qq6 hx ?_)⟩;have e1:cutV xs lo hi=xs:=by
    unfold cutV;rw[F.1,F.2];simp
   rw[e1]at Z;exact Z
  ·refine sl_tup pins s σ H _ v vl vu lo hi sl Q I L hs pl O ⟨p,xs,rfl,hx,F,λp' hp=>?_⟩;have J:=qzj (o:=.tup (cutV xs lo hi)) hp;exact q _ m _ (Sub.refl m) (Tr.of_same J) (z.same J) (qq6 (SqT.of qzx) (qza (Sub.refl m) (Tr.of_same J) _ _ Z))
 ·obtain⟨ds,e1,e2⟩:=mapD e;cases e2;obtain⟨p,xs,_,rfl,hq,U⟩:=z.seq e1 i1;refine qie pins s σ H _ v vl vu lo hi sl Q I L hs pl O ⟨p,xs,rfl,hq,λl hl=>?_⟩;exact q _ (m++[l]) _ (Sub.app m [l]) (Tr.of_same (qzj hl)) (z.new hl (qhp U lo hi)) z.newLoc
theorem qeb:qqc X (.builtin "len") (rC X.K M.bLen):=by
 intro pins s σ H xs J Q I r h;refine h.el λm st ds d st' F L e q=>?_;unfold M.bLen at e
 split at e
 ·cases e;obtain⟨x,rfl,i⟩:=L.one;obtain⟨p,ys,rfl,z,j⟩:=i.tup;refine qx3 pins s σ H _ J Q I r ⟨p,ys,rfl,.inr z,?_⟩;rw[<- j.length];exact q.here F (mkInt _)
 ·obtain⟨Y,U,O⟩:=mapD e;cases O;obtain⟨x,rfl,i⟩:=L.one;obtain⟨p,ys,_,rfl,z,j⟩:=F.seq U i;refine qx3 pins s σ H _ J Q I r ⟨p,ys,rfl,.inl z,?_⟩;rw[<- j.length];exact q.here F (mkInt _)
 ·cases e
theorem qek(J:X.calm=true):qqc X (.builtin "min") (rC X.K M.bMin):=by
 intro pins s σ H xs z Q I r h;refine h.el λm st ds d st' L F e q=>?_;unfold M.bMin at e
 split at e
 ·cases e;obtain⟨x,y,rfl,i,j⟩:=F.two;cases i.int; cases j.int;exact qev J pins s σ H _ z Q I r ⟨_,_,rfl,q.here L (mkInt _)⟩
 ·cases e
theorem qew(J:X.calm=true):qqc X (.builtin "max") (rC X.K M.bMax):=by
 intro pins s σ H xs z Q I r h;refine h.el λm st ds d st' L F e q=>?_;unfold M.bMax at e
 split at e
 ·cases e;obtain⟨x,y,rfl,i,j⟩:=F.two;cases i.int; cases j.int;exact qey J pins s σ H _ z Q I r ⟨_,_,rfl,q.here L (mkInt _)⟩
 ·cases e
theorem qyf:qqc X (.type "tuple") (rC X.K M.bTuple):=by
 intro pins s σ H xs L Q I r h;refine h.el λm st ds d st' J O e q=>?_;unfold M.bTuple at e
 split at e
 ·cases e;obtain⟨x,rfl,i⟩:=O.one;obtain⟨p,ys,rfl,j,F⟩:=i.tup;exact qxg pins s σ H _ L Q I r ⟨p,ys,rfl,.inr ⟨j,q.here J (qq6 j F)⟩⟩
 ·obtain⟨a0,Z,Y⟩:=mapD e;cases Y;obtain⟨x,rfl,i⟩:=O.one;obtain⟨p,ys,_,rfl,j,F⟩:=J.seq Z i;refine qxg pins s σ H _ L Q I r ⟨p,ys,rfl,.inl ⟨j,λl U=>?_⟩⟩;have z:=qzj (o:=.tup ys) U;exact q _ m _ (Sub.refl m) (Tr.of_same z) (J.same z) (qq6 (SqT.of qzx) (qza (Sub.refl m) (Tr.of_same z) _ _ F))
 ·cases e
theorem qwy{P:Program}{w:Qk}:∀{xs:List (Key×V)}{vs:List (Key×Value)}{L:List Value},KV xs vs->L.length=vs.length->(∀(j:Nat) (v:Value),L[j]?=some v->∃k x,vs[j]?=some (k,x)/\(mixKind P w).is k v=true)->Vals (xs.map λp=>kV p.1) L
 |[],_,L,.nil,F,_=>by
  rw[Qz0.mp F];exact .nil
 |(k,x)::xs,(k',u)::vs,[],.cons _ _,F,_=>by cases F
 |(k,x)::xs,(k',u)::vs,v::L,.cons h r,F,O=>by
  obtain⟨k2,x2,e,hk⟩:=O 0 v rfl;cases e;have J:k=k':=h.1;subst J;refine .cons ?_ (qwy (P:=P) (w:=w) r (by simpa using F) λj Y e=>?_)
  ·rcases qzd hk with⟨i,t,rfl,rfl⟩|⟨z,t,rfl,rfl⟩
   ·exact⟨t,rfl⟩
   ·exact⟨t,rfl⟩
  ·obtain⟨Z,U,e3,h3⟩:=O (j+1) Y (by simpa using e);exact⟨Z,U,by simpa using e3,h3⟩
theorem IsKV.keys{K:Qqq}{m:List Addr}{H:Hp}:∀{kvs:List (D×D)}{xs:List (Key×V)},IsKV K m H kvs xs->IsDs K m H (M.keysOf kvs) (xs.map λp=>kV p.1)
 |[],_,h=>by rw[show _=[] from h]; exact qqx
 |p::r,_,⟨k,v,J,e,j,L,F⟩=>by
  subst e;refine qzm ?_ F.keys;obtain⟨d,e⟩:=p
  cases d with
  |int i=>cases j; exact mkInt i
  |str z=>cases j; exact mkStr z
  |_=>cases j
theorem Rel.dkeys{K:Qqq}{m:List Addr}{st:Store}{H:Hp}(h:Rel K m st H){d:D}{ds:List D}{v:V}(e:M.dkeys st d=some ds)(j:IsD K m H d v):∃a xs,v=.ref a/\Rd H a (.dK xs)/\IsDs K m H ds (xs.map λp=>kV p.1):=by
 cases d with
 |loc l=>
  obtain⟨kvs,J,rfl⟩:=mapD e;obtain⟨a,xs,_,rfl,z,F⟩:=h.dict J j;exact⟨a,xs,rfl,z,F.keys⟩
 |_=>cases e
theorem qmw{j:List (Addr×Obj)}{J:L2.St}{H:Hp}{s:Qz}{a:Addr}{xs:List (Key×V)}(I:Inv X j J H s)(e:Rd H a (.dK xs)):∃vs z,KV xs vs/\s.heap.DictAt (mixKind X.prog X.w) a vs z/\(a==Qn)=false/\vs.length<=sizeLine:=by
 obtain⟨L,lo,vs,F,o,es,z,r⟩:=qbg I.hok e;exact⟨vs,z,F,⟨o,es,r⟩,lo,by rw[<- F.length]; exact L⟩
theorem qkk(hh:X.A.handled=none):qqc X (.type "list") (λxs H Q=>∃p ys,xs=[.ref p]/\Rd H p (.dK ys)/\∀l,H l=none->Q (.ref l) (upd H l (.lst (ys.map λq=>kV q.1)))):=by
 intro pins s σ H xs us Q I r h;obtain⟨p,ys,rfl,Y,q⟩:=h;obtain⟨u,rfl,O⟩:=vals1 r;cases O;obtain⟨vs,ep,F,da,lo,hn⟩:=qmw I Y;refine PySem.W.kdl_call (PySem.W.kdl_dict lo) hh da hn λh' tk z c Z hS J=>?_;have U:=qwy (P:=X.prog) (w:=X.w) (L:=z.toList) F (by rw[Qzb]; exact J.1) λj v e=>J.2 j v (by rw[<- Qqu]; exact e);refine⟨.ref s.heap.objs.size,_,I.laid (t':=tk) Z (Qqj _) (show ObjOk X.prog X.w _ h' _ (.lst (ys.map λq=>kV q.1)) from⟨?_,z.toList,c,U,hS⟩),rfl,q _ (I.hok.fresh (Qqj _))⟩;rw[Qqx,F.length]; exact hn
theorem qbl(Y:X.A.handled=none):qqc X (.type "list") (rC X.K M.bList):=by
 intro pins s σ H xs O Q I r h;refine h.el λm st ds d st' z U e q=>?_;unfold M.bList at e
 split at e
 ·cases e;obtain⟨x,rfl,i⟩:=U.one;obtain⟨p,ys,rfl,J,F⟩:=i.tup;refine qx2 pins s σ H _ O Q I r ⟨p,ys,rfl,.inr J,λl j=>?_⟩;exact q _ (m++[l]) _ (Sub.app m [l]) (Tr.of_same (qzj j)) (z.new j F) z.newLoc
 ·obtain⟨a0,L,Z⟩:=mapD e;cases Z;obtain⟨x,rfl,i⟩:=U.one;rcases orO L with L|L
  ·obtain⟨p,ys,_,rfl,J,F⟩:=z.seq L i;refine qx2 pins s σ H _ O Q I r ⟨p,ys,rfl,.inl J,λl j=>?_⟩;exact q _ (m++[l]) _ (Sub.app m [l]) (Tr.of_same (qzj j)) (z.new j F) z.newLoc
  ·obtain⟨p,ys,rfl,J,F⟩:=z.dkeys L i;refine qkk Y pins s σ H _ O Q I r ⟨p,ys,rfl,J,λl j=>?_⟩;exact q _ (m++[l]) _ (Sub.app m [l]) (Tr.of_same (qzj j)) (z.new j F) z.newLoc
 ·cases e
theorem qvn{K:Qqq}{m:List Addr}{H:Hp}:∀{ds:List D}{xs:List V}{j:List Value}{bs:List Bool},M.asBools ds=some bs->IsDs K m H ds xs->Vals xs j->LSm.BoolsAre j bs
 |[],_,_,_,e,z,r=>by
  rw[z.nil]at r;cases r;cases e;exact .nil
 |d::ds,_,_,_,e,z,r=>by
  obtain⟨x,Y,rfl,q,t⟩:=z.cons
  cases d with
  |bl b=>
   simp only[M.asBools]at e;obtain⟨U,O,L⟩:=mapD e;subst L;cases q.bl
   cases r with
   |cons J F=>
    cases J;exact .cons b (qvn O t F)
  |_=>simp[M.asBools]at e
theorem ints_of{K:Qqq}{m:List Addr}{H:Hp}:∀{ds:List D}{xs:List V}{ns:List Int},M.asInts ds=some ns->IsDs K m H ds xs->xs=ns.map V.int/\ds=ns.map D.int
 |[],_,_,e,j=>by
  cases e;exact⟨j.nil,rfl⟩
 |d::ds,_,_,e,j=>by
  obtain⟨x,L,rfl,q,t⟩:=j.cons
  cases d with
  |int b=>
   simp only[M.asInts]at e;obtain⟨J,F,z⟩:=mapD e;subst z;cases q.int;obtain⟨h1,h2⟩:=ints_of F t;rw[h1,h2];exact⟨rfl,rfl⟩
  |_=>simp[M.asInts]at e
theorem qef(hc:X.calm=true):qqc X (.builtin "all") (rC X.K M.bAll):=by
 intro pins s σ H xs us Q I r h;refine h.el λm st ds d st' O ix e q=>?_;unfold M.bAll at e
 split at e
 ·obtain⟨a0,e1,e⟩:=qzy e;obtain⟨bs,e2,e3⟩:=mapD e;cases e3;obtain⟨x,rfl,i⟩:=ix.one;obtain⟨p,ys,_,rfl,hq,Z⟩:=O.seq e1 i;obtain⟨u,rfl,Y⟩:=vals1 r;cases Y;obtain⟨j,U,pl,_⟩:=I.list hq;have J:=qvn e2 Z U;have F:=pl.isList;have z:p<s.heap.objs.size:=by obtain⟨_,e,_⟩:=id F; exact Qqd e
  refine call_all_walk (Zg F ?_)
  refine⟨s.heap.objs.size,[s.heap.objs.size,p],[s.heap.objs.size],j.toArray.size,_,_,λi=>(bs[i]?).getD true,rfl,Walks.list (A:=X.A.in1) (I.ok.hd hc) _ p (Qq4 z) j.toArray,
   ⟨⟨_,Qql _ rfl,rfl,rfl⟩,F.push _⟩,λi v s' Q' E' hP L=>?_,λh' tk hk=>?_⟩
  ·obtain⟨b,e,rfl⟩:=J.get i v (by simpa using hP);simp only[e,Qxg]at L;exact Qb L
  ·have e:((List.range j.toArray.size).all λi=>(bs[i]?).getD true)=bs.all id:=by
    rw[Qqw,J.length]; exact LSm.range_all bs
   rw[e];exact⟨.bl _,H,I.kept (LSm.kept_iter hk),rfl,q.here O (mkBl _)⟩
 ·cases e
theorem range_any(bs:List Bool):((List.range bs.length).any λi=>(bs[i]?).getD false)=bs.any id:=by
 rw[Qzm,Qjx,Qjx];constructor
 ·rintro⟨i,hi,h⟩;have hi:=Qxv.mp hi;rw[Qqg hi]at h;exact⟨bs[i],Qjj hi,h⟩
 ·rintro⟨b,j,h⟩;obtain⟨i,hi,rfl⟩:=Qz6 j;exact⟨i,Qxv.mpr hi,by rw[Qqg hi]; exact h⟩
theorem qee(hc:X.calm=true):qqc X (.builtin "any") (rC X.K M.bAny):=by
 intro pins s σ H xs us Q I r h;refine h.el λm st ds d st' O ix e q=>?_;unfold M.bAny at e
 split at e
 ·obtain⟨a0,e1,e⟩:=qzy e;obtain⟨bs,e2,e3⟩:=mapD e;cases e3;obtain⟨x,rfl,i⟩:=ix.one;obtain⟨p,ys,_,rfl,hq,Z⟩:=O.seq e1 i;obtain⟨u,rfl,Y⟩:=vals1 r;cases Y;obtain⟨j,U,pl,_⟩:=I.list hq;have J:=qvn e2 Z U;have F:=pl.isList;have z:p<s.heap.objs.size:=by obtain⟨_,e,_⟩:=id F; exact Qqd e
  refine call_any_walk (Zg F ?_)
  refine⟨s.heap.objs.size,[s.heap.objs.size,p],[s.heap.objs.size],j.toArray.size,_,_,λi=>(bs[i]?).getD false,rfl,Walks.list (A:=X.A.in1) (I.ok.hd hc) _ p (Qq4 z) j.toArray,
   ⟨⟨_,Qql _ rfl,rfl,rfl⟩,F.push _⟩,λi v s' Q' E' hP L=>?_,λh' tk hk=>?_⟩
  ·obtain⟨b,e,rfl⟩:=J.get i v (by simpa using hP);simp only[e,Qxg]at L;exact Qb L
  ·have e:((List.range j.toArray.size).any λi=>(bs[i]?).getD false)=bs.any id:=by
    rw[Qqw,J.length]; exact range_any bs
   rw[e];exact⟨.bl _,H,I.kept (LSm.kept_iter hk),rfl,q.here O (mkBl _)⟩
 ·cases e
theorem qq9(x:Int):∀l:List Int,(M.insInt x l).Perm (x::l)
 |[]=>.refl _
 |y::r=>by
  unfold M.insInt
  split
  ·exact .refl _
  ·exact((qq9 x r).cons y).trans (.swap x y r)
theorem qqn:∀l:List Int,(M.sortInt l).Perm l
 |[]=>.refl _
 |x::r=>by
  unfold M.sortInt;exact(qq9 x _).trans ((qqn r).cons x)
theorem qxb(x:Int):∀l:List Int,l.Pairwise (· <= ·)->(M.insInt x l).Pairwise (· <= ·)
 |[],_=>by unfold M.insInt; simp
 |y::r,h=>by
  unfold M.insInt
  split
  ·rename_i F;refine List.Pairwise.cons (λz j=>?_) h;rcases Qqc.mp j with e|e
   ·rw[e]; exact F
   ·exact Int.le_trans F ((Qzt.mp h).1 z e)
  ·rename_i F;have h':=Qzt.mp h;refine List.Pairwise.cons (λz j=>?_) (qxb x r h'.2);rcases Qqc.mp ((qq9 x r).mem_iff.mp j) with e|e
   ·rw[e]; omega
   ·exact h'.1 z e
theorem qq2:∀l:List Int,(M.sortInt l).Pairwise (· <= ·)
 |[]=>by unfold M.sortInt; simp
 |x::r=>by
  unfold M.sortInt;exact qxb x _ (qq2 r)
theorem qjt{K:Qqq}{m:List Addr}{H:Hp}:∀(ns:List Int),IsDs K m H (ns.map D.int) (ns.map V.int)
 |[]=>qqx
 |n::r=>qzm (mkInt n) (qjt r)
theorem leP_iff{a b:Int×Int}:M.leP a b=true↔a.1<b.1\/(a.1=b.1/\a.2<=b.2):=by
 unfold M.leP;simp only[Qzy,Qqm,decide_eq_true_eq]
theorem qj0(x:Int×Int):∀l:List (Int×Int),(M.insP x l).Perm (x::l)
 |[]=>List.Perm.refl _
 |y::r=>by
  unfold M.insP
  split
  ·exact List.Perm.refl _
  ·exact((qj0 x r).cons y).trans (List.Perm.swap x y r)
theorem sortP_perm:∀l:List (Int×Int),(M.sortP l).Perm l
 |[]=>List.Perm.refl _
 |x::r=>(qj0 x _).trans ((sortP_perm r).cons x)
theorem qdl(x:Int×Int):∀l:List (Int×Int),l.Pairwise (λa b=>M.leP a b=true)->(M.insP x l).Pairwise (λa b=>M.leP a b=true)
 |[],_=>Qkx _ _
 |y::r,h=>by
  unfold M.insP;have h':=Qzt.mp h
  split
  ·rename_i g;refine Qzt.mpr ⟨λz j=>?_,h⟩;rcases Qqc.mp j with rfl|j
   ·exact g
   ·have q:=h'.1 z j;rw[leP_iff]at *;omega
  ·rename_i g;refine Qzt.mpr ⟨λz j=>?_,qdl x r h'.2⟩;rcases Qqc.mp ((qj0 x r).mem_iff.mp j) with rfl|j
   ·rw[leP_iff]at *;omega
   ·exact h'.1 z j
theorem sortP_up:∀l:List (Int×Int),(M.sortP l).Pairwise (λa b=>M.leP a b=true)
 |[]=>List.Pairwise.nil
 |x::r=>qdl x _ (sortP_up r)
theorem kle_leP{a b:Int×Int}:TS.pO.kle a b↔M.leP a b=true:=by
 show TS.plt b a=false↔_;rw[leP_iff,<- Qj6,TS.plt_iff];omega
theorem qax{K:Qqq}{m:List Addr}{H:Hp}:∀{ds:List D}{ys:List V}{ps:List (Int×Int)},M.asPairs ds=some ps->IsDs K m H ds ys->
  ∃j:List (Addr×Int×Int),j.map (·.2)=ps/\ys=j.map (λq=>V.ref q.1)/\∀q∈j,SqT K H q.1 [V.int q.2.1,V.int q.2.2]
 |[],ys,ps,e,h=>by
  cases e;cases h.nil;exact⟨[],rfl,rfl,λq z=>nomatch z⟩
 |d::r,ys,ps,e,h=>by
  unfold M.asPairs at e
  split at e
  ·rename_i hd;cases hd
  ·rename_i x y r' hd;cases hd;obtain⟨Z,e1,e2⟩:=Qqi.mp e;cases e2;obtain⟨v,J,rfl,i1,i2⟩:=h.cons;obtain⟨j,Y,U,O⟩:=qax e1 i2;obtain⟨a,xs,rfl,sq,F⟩:=i1.tup;obtain⟨v1,L,rfl,j1,F⟩:=F.cons;obtain⟨v2,rfl,j2⟩:=F.one;cases j1.int;cases j2.int;refine⟨(a,x,y)::j,by rw[Qqy,Y],by rw[Qqy,U],λq z=>?_⟩;rcases Qqc.mp z with rfl|z
   ·exact sq
   ·exact O q z
  ·cases e
theorem perm_back{α U:Type}(f:α->U):∀{l J:List U},l.Perm J->∀{j:List α},J=j.map f->∃z:List α,z.Perm j/\l=z.map f:=by
 intro l J h
 induction h with
 |nil=>
  intro j e;exact⟨[],by rw[List.map_eq_nil_iff.mp e.symm],rfl⟩
 |cons x _ Z=>
  intro j e
  match j,e with
  |q::j,e=>
   rw[Qqy]at e;cases e;obtain⟨z,p,e⟩:=Z rfl;exact⟨q::z,p.cons q,by rw[Qqy,e]⟩
 |swap x y l=>
  intro j e
  match j,e with
  |a::b::j,e=>
   rw[Qqy,Qqy]at e;cases e;exact⟨b::a::j,List.Perm.swap a b j,rfl⟩
 |trans _ _ O L=>
  intro j e;obtain⟨z,p,e⟩:=L e;obtain⟨F,Y,e'⟩:=O e;exact⟨F,Y.trans p,e'⟩
theorem qv3:∀{j:List (Addr×Int×Int)}{us:List Value},Vals (j.map λq=>V.ref q.1) us->us=j.map λq=>Value.ref q.1
 |[],_,.nil=>rfl
 |q::j,_,.cons r h=>by
  cases r;rw[qv3 h]; rfl
theorem qv4:∀j:List (Addr×Int×Int),Vals (j.map λq=>V.ref q.1) (j.map λq=>Value.ref q.1)
 |[]=>.nil
 |q::j=>.cons rfl (qv4 j)
theorem qkf{K:Qqq}{m:List Addr}{H:Hp}:∀j:List (Addr×Int×Int),(∀q∈j,SqT K H q.1 [V.int q.2.1,V.int q.2.2])->IsDs K m H ((j.map (·.2)).map M.pI) (j.map λq=>V.ref q.1)
 |[],_=>qqx
 |q::j,h=>qzm (qq6 (h q Qq0) (qzm (mkInt _) (qzm (mkInt _) qqx))) (qkf j λq z=>h q (Qqn _ z))
theorem qiu{X:Cx}{j:List (Addr×Obj)}{J:L2.St}{H:Hp}{s:Qz}(I:Inv X j J H s){q:Addr×Int×Int}(h:SqT X.K H q.1 [V.int q.2.1,V.int q.2.2]):TS.Pr s.heap (.ref q.1)/\TS.pk s.heap (.ref q.1)=some q.2:=by
 obtain⟨F,r,⟨o,e,c,n,d⟩,_⟩:=I.tuple h;obtain⟨t,u,rfl⟩:∃t u,F=[Value.int q.2.1 t,Value.int q.2.2 u]:=by
  cases r with
  |cons O z=>
   cases z with
   |cons L z=>
    cases z;obtain⟨t,rfl⟩:=O;obtain⟨u,rfl⟩:=L;exact⟨t,u,rfl⟩
 exact⟨⟨q.1,o,_,n,q.2.1,q.2.2,t,u,rfl,e,c,d,rfl⟩,TS.pk_mk e d rfl⟩
theorem qwo(hh:X.A.handled=none):qqc X (.builtin "sorted") (rC X.K M.bSorted):=by
 intro pins s σ H xs us Q I r h;refine h.el λm st ds d st' F ix e q=>?_;unfold M.bSorted at e
 split at e
 ·rcases orO e with e|e
  rotate_left
  ·obtain⟨a6,e1,e⟩:=qzy e;obtain⟨ps,z,e3⟩:=mapD e;cases e3
   split at z
   ·cases z
   rename_i a5;obtain⟨x,rfl,i⟩:=ix.one;obtain⟨p,ys,_,rfl,O,L⟩:=F.seq e1 i;obtain⟨u,rfl,ru⟩:=vals1 r;cases ru;obtain⟨j,Y,pl,hl⟩:=I.list O;obtain⟨qs,rfl,rfl,Z⟩:=qax z L;have e5:=qv3 Y;subst e5;have l7:=L.length;rw[Qqx]at l7;refine TS.sorted_pairs pl.isList (λv hv=>?_) ?_ (by rw[Qqx]; omega) λout o1 o2=>?_
   ·obtain⟨q,a4,rfl⟩:=Qqk.mp hv;exact(qiu I (Z q a4)).1
   ·rw[Qqx]at hl ⊢;exact hl
   ·obtain⟨J,p1,p2⟩:=perm_back (λq:Addr×Int×Int=>Value.ref q.1) o1 rfl;have e6:J.map (·.2)=M.sortP (qs.map (·.2)):=by
     refine List.Perm.eq_of_pairwise (le:=λa b=>M.leP a b=true) (λa b _ _ h1 h2=>?_) ?_ (sortP_up _) ((p1.map _).trans (sortP_perm _).symm)
     ·rw[leP_iff]at h1 h2;exact Prod.ext (by omega) (by omega)
     ·rw[Qz2];have o3:(J.map λq=>Value.ref q.1).Pairwise _:=p2▸o2;rw[Qz2]at o3;refine List.Pairwise.imp_of_mem (λ{a b} ha hb h1=>?_) o3;rw[(qiu I (Z a (p1.mem_iff.mp ha))).2,(qiu I (Z b (p1.mem_iff.mp hb))).2]at h1;exact kle_leP.mp h1
    obtain⟨ep,he⟩:=sortedAll_at s.heap (qs.map λq=>Value.ref q.1) out;have U:H (s.heap.objs.size+1)=none:=I.hok.fresh (Qxx _);rw[<- e6]at q;refine⟨.ref (s.heap.objs.size+1),upd H (s.heap.objs.size+1) (.lst (J.map λq=>V.ref q.1)),I.laid (t':=s.toks) (λb o e=>sortedAll_old e) (Qxx _) ?_,rfl,?_⟩
    ·refine⟨?_,out.toList,ep,?_,?_⟩
     ·rw[Qqx]at hl ⊢;rw[p1.length_eq];exact hl
     ·rw[p2]; exact qv4 J
     ·rw[he]
    ·exact q _ (m++[_]) _ (Sub.app m _) (Tr.of_same (qzj U)) (F.new U (qkf J λq O=>Z q (p1.mem_iff.mp O))) F.newLoc
  obtain⟨a6,e1,e⟩:=qzy e;obtain⟨ns,z,e3⟩:=mapD e;cases e3
  split at z
  ·cases z
  ·rename_i a5;obtain⟨x,rfl,i⟩:=ix.one;obtain⟨p,ys,_,rfl,O,L⟩:=F.seq e1 i;obtain⟨u,rfl,ru⟩:=vals1 r;cases ru;obtain⟨j,Y,pl,_⟩:=I.list O;obtain⟨e4,e5⟩:=ints_of z L;have l1:=L.length;have l2:=Y.length;subst e4;have hI:IntsAre j ns:=intsAre_of Y;refine sorted_ints pl.isList hI (by omega) λout a0 a1 a2 a3=>?_;have e6:a0=M.sortInt ns:=PySem.W.ksm_same (a2.trans (qqn ns).symm) a3 (qq2 ns);subst e6;obtain⟨ep,he⟩:=sortedAll_at s.heap j out;have U:H (s.heap.objs.size+1)=none:=I.hok.fresh (Qxx _);have l3:=(qqn ns).length_eq;have l4:=qqp;rw[Qqx]at l1;refine⟨.ref (s.heap.objs.size+1),upd H (s.heap.objs.size+1) (.lst ((M.sortInt ns).map V.int)),I.laid (t':=s.toks) (λb o e=>sortedAll_old e) (Qxx _) ?_,rfl,?_⟩
   ·refine⟨?_,out.toList,ep,qjw a1,?_⟩
    ·rw[Qqx,l3,l4];unfold M.lim;omega
    ·rw[he]
   ·exact q _ (m++[_]) _ (Sub.app m _) (Tr.of_same (qzj U)) (F.new U (qjt _)) F.newLoc
 ·cases e
theorem qdw(K:Qqq)(n t:M.Ty)(j:t≠.non):PySem.W.kitOne K (.type n.name) (.type t.name)=some (M.tyIs t n):=by
 cases n<;>cases t<;>first
  |exact absurd rfl j
  |rfl
  |decide +kernel
theorem qdy(K:Qqq)(n:M.Ty):∀j:List M.Ty,(∀t∈j,t≠.non)->PySem.W.kitAny K (.type n.name) (j.map λt=>Value.type t.name)=some (j.any λt=>M.tyIs t n)
 |[],_=>rfl
 |t::j,h=>by
  rw[Qqy,Qxj];unfold PySem.W.kitAny;rw[qdw K n t (h t Qq0)]
  cases M.tyIs t n with
  |true=>rfl
  |false=>exact qdy K n j λz F=>h z (Qqn _ F)
theorem qhe{j:List (Addr×Obj)}{σ:L2.St}{H:Hp}{s:Qz}{m:List Addr}{st:Store}{d:D}{x:V}{u:Value}{n:M.Ty}(I:Inv X j σ H s)(Y:Rel X.K m st H)(h:IsD X.K m H d x)(r:RelV x u)(e:M.tyName st d=some n):
  ∃Z:Heap->Prop,PySem.W.KitX X.K u (.type n.name) Z/\Z s.heap/\u≠.builtin "__main__.__loader__#opaque":=by
 cases d with
 |non=>cases h.non; cases r; cases e; exact⟨_,PySem.W.kitx_none,True.intro,λz=>nomatch z⟩
 |bl b=>cases h.bl; cases r; cases e; exact⟨_,PySem.W.kitx_bool,True.intro,λz=>nomatch z⟩
 |int b=>cases h.int; obtain⟨t,rfl⟩:=r; cases e; exact⟨_,PySem.W.kitx_int,True.intro,λz=>nomatch z⟩
 |str b=>cases h.str; obtain⟨t,rfl⟩:=r; cases e; exact⟨_,PySem.W.kitx_str,True.intro,λz=>nomatch z⟩
 |tup ds=>
  obtain⟨a,xs,F,rfl,J,U,r1,p1⟩:=qz0 I h;cases r;cases e;obtain⟨o,h1,h2,_⟩:=p1;exact⟨_,PySem.W.kitx_tuple,⟨o,h1,h2⟩,λz=>nomatch z⟩
 |loc l=>
  simp only[M.tyName]at e;obtain⟨ds,O,L⟩:=mapD e;subst L;obtain⟨a,xs,_,rfl,J,U⟩:=Y.seq O h;cases r;obtain⟨F,rv,pl,_⟩:=I.list J;obtain⟨o,h1,h2,_⟩:=pl.isList;exact⟨_,PySem.W.kitx_list,⟨o,h1,h2⟩,λz=>nomatch z⟩
 |lst l=>
  simp only[M.tyName]at e;obtain⟨ds,O,L⟩:=mapD e;subst L;obtain⟨a,xs,_,rfl,J,U⟩:=Y.seq O h;cases r;obtain⟨F,rv,pl,_⟩:=I.list J;obtain⟨o,h1,h2,_⟩:=pl.isList;exact⟨_,PySem.W.kitx_list,⟨o,h1,h2⟩,λz=>nomatch z⟩
def rIsi1(K:Qqq)(t:M.Ty):List V->Hp->VK->Prop:=λxs H Q=>∃m st d n x,xs=[x,.ty t.name]/\Rel K m st H/\IsD K m H d x/\M.tyName st d=some n/\Q (.bl (M.tyIs t n)) H
theorem qed(t:M.Ty)(J:t≠.non):qqc X (.builtin "isinstance") (rIsi1 X.K t):=by
 intro pins s σ H xs O Q I r h;obtain⟨m,st,d,n,x,rfl,L,i,e,q⟩:=h;obtain⟨u,w,rfl,z,j⟩:=vals2 r;cases j;obtain⟨U,Z,p,F⟩:=qhe I L i z e;exact PySem.W.kia_one Z I.kIn p (qdw X.K n t J) F λtk=>⟨.bl _,H,I.tok tk,rfl,q⟩
def rIsiN(K:Qqq)(ts:List M.Ty):List V->Hp->VK->Prop:=λxs H Q=>∃m st d n x p,xs=[x,.ref p]/\H p=some (.tup (ts.map λt=>V.ty t.name))/\Rel K m st H/\IsD K m H d x/\M.tyName st d=some n/\Q (.bl (ts.any λt=>M.tyIs t n)) H
theorem qyh:∀{j:List M.Ty}{us:List Value},Vals (j.map λt=>V.ty t.name) us->us=j.map λt=>Value.type t.name
 |[],_,.nil=>rfl
 |t::j,_,.cons r q=>by
  cases r;rw[qyh q]
  rfl
theorem qec(j:List M.Ty)(ht:∀t∈j,t≠.non):qqc X (.builtin "isinstance") (rIsiN X.K j):=by
 intro pins s σ H xs us Q I r h;obtain⟨m,st,d,n,x,p,rfl,hp,R0,i,e,q⟩:=h;obtain⟨u,w,rfl,O,z⟩:=vals2 r;cases z;obtain⟨Hf,Z,U,hx⟩:=qhe I R0 i O e;obtain⟨_,Y,L,⟨cls,dd,J,sl⟩,h1,h2,nn,F⟩:=I.hok p _ hp;have e1:=qyh L;subst e1;simp only at h2 F;subst h2 F;exact PySem.W.kia_tup Z I.kIn U h1 (qdy X.K n j ht) hx λtk=>⟨.bl _,H,I.tok tk,rfl,q⟩
end
end MS
end
section
namespace MS
open PySem PySem.Spec PyProof.Rows L2
noncomputable def qxf(cells:List (Str×Addr)):List (Str×Qh)->List (Str×Addr)->List (Str×Addr)
 |[],acc=>acc
 |(n,k)::r,acc=>qxf cells r (if k==.free then(match cells.lookup n with|some a=>(n,a)::acc|none=>acc) else acc)
theorem qez{env:Env}:∀(names:List (Str×Qh)) (j:List (Str×Addr)),(∀x∈names,x.2=.free->∃c,env.cells.lookup x.1=some c)->
  (forIn names j λx r=>match x,r with
   |(name,kind),cs=>if (kind==.free)=true then do let a <- cellOf env name; pure (ForInStep.yield ((name,a)::cs)) else pure (ForInStep.yield cs):Sem (List (Str×Addr)))=pure (qxf env.cells names j):=by
 intro names
 induction names with
 |nil=>intro j _; rfl
 |cons x r Y=>
  intro j h;obtain⟨n,k⟩:=x;rw[Qjy];have J:=λj=>Y j λy Z=>h y (Qqn _ Z)
  by_cases L:k=.free
  ·subst L;obtain⟨c,O⟩:=h (n,.free) Qq0 rfl;simp only[beq_self_eq_true,if_true,cellOf,O];show(do let z <- (do let a <- (pure c:Sem Addr); pure (ForInStep.yield ((n,a)::j))); match z with|.done b=>pure b|.yield b=>_)=_;simp only[pure_bind];refine(J ((n,c)::j)).trans ?_;have F:env.cells.lookup n=some c:=O;simp[qxf,F]
  ·have U:(k==NameKind.free)=false:=by simpa using L
   simp only[U,Qqf,if_false,pure_bind];refine(J j).trans ?_;simp[qxf,U]
theorem qvi{j:Scope}{env:Env}(h:∀x∈j.names,x.2=.free->∃c,env.cells.lookup x.1=some c):closureFor j env=pure (qxf env.cells j.names []):=by
 unfold closureFor;have:=qez (env:=env) j.names [] h;simp only[this]
 rfl
theorem qvl{j:List (Str×Addr)}{x:Str}{c:Addr}(J:j.lookup x=some c):∀(names:List (Str×Qh)) (z:List (Str×Addr)),((x,NameKind.free)∈names\/z.lookup x=some c)->(qxf j names z).lookup x=some c
 |[],z,h=>by
  rcases h with h|h
  ·cases h
  ·exact h
 |(n,k)::r,z,h=>by
  unfold qxf;refine qvl J r _ ?_
  by_cases F:k=.free
  ·subst F;simp only[beq_self_eq_true,if_true]
   by_cases hn:n=x
   ·subst hn;rw[J];exact .inr (by simp)
   ·rcases h with h|h
    ·rcases Qqc.mp h with e|e
     ·cases e; exact absurd rfl hn
     ·exact .inl e
    ·refine .inr ?_
     split
     ·have:(x==n)=false:=by simpa using Ne.symm hn
      rw[Qzj,this]; exact h
     ·exact h
  ·have L:(k==NameKind.free)=false:=by simpa using F
   rw[L,Z2 Qqe];rcases h with h|h
   ·rcases Qqc.mp h with e|e
    ·cases e; exact absurd rfl F
    ·exact .inl e
   ·exact .inr h
theorem qz9{j:List (Str×Addr)}:∀(names:List (Str×Qh)) (z:List (Str×Addr)),(∀x c,z.lookup x=some c->j.lookup x=some c)->∀x c,(qxf j names z).lookup x=some c->j.lookup x=some c
 |[],z,h,x,c,e=>h x c e
 |(n,k)::r,z,h,x,c,e=>by
  unfold qxf at e;refine qz9 r _ ?_ x c e;intro y d q
  by_cases J:(k==NameKind.free)=true
  ·rw[Z3 J]at q
   split at q
   ·rename_i a L
    by_cases F:(y==n)=true
    ·rw[Qzj,F]at q;rw[eq_of_beq F,L]; exact q
    ·have:(y==n)=false:=by simpa using F
     rw[Qzj,this]at q;exact h y d q
   ·exact h y d q
  ·rw[Z2 J]at q;exact h y d q
theorem qqq(env:Env):∀(names:List (Str×Qh)) (x:Str),(names.map λ(n,k)=>if (k==NameKind.free&&env.scope.kind==.function&&env.kindOf n==some .cell) then(n,NameKind.cell) else(n,k)).lookup x =
  (names.lookup x).map λk=>if (k==NameKind.free&&env.scope.kind==.function&&env.kindOf x==some .cell) then NameKind.cell else k
 |[],x=>rfl
 |(n,k)::r,x=>by
  have J:=qqq env r x;rw[Qqy]
  by_cases z:(x==n)=true
  ·have e:=eq_of_beq z;subst e;dsimp only
   split
   ·rename_i F;rw[Qzj,z,Qzj,z];dsimp only[oMs];rw[Z3 F]
   ·rename_i F;rw[Qzj,z,Qzj,z];dsimp only[oMs];rw[Z2 F]
  ·have j:(x==n)=false:=by simpa using z
   dsimp only
   split
   ·rw[Qzj,j,Qzj,j]; exact J
   ·rw[Qzj,j,Qzj,j]; exact J
section
variable {prog:Program}{w:Qk}{A:Qv}{R:Result->Qz->Prop}{s:Qz}
abbrev NoX:Value->Qz->Prop:=λ_ _=>False
theorem qwn{elt j Z:Qx}{a2:List Qx}{L:Scope}{pos:Pos}{it a3:Value}{env:Env}{Ex:Value->Qz->Prop}(a9:∀e s',Ex e s'->notedBy (model prog w) A env (λe s'=>R (.error e) s') e s')(I:Nat->Qz->Prop)
  (a4:∀n s,I n s->wpAny (model prog w) A (pyNext it) (λr J=>match r with
   |none=>R (.ok .next) J
   |some v=>wpAny (model prog w) A (Zo j it v) (λ_ s₀=>wpAny (model prog w) A (assign j env v) (λ_ Y=>
     wpAny (model prog w) A (forIn a2 true λc r=>if r=true then do let ok <- isTrue c env (eval c env); pure (ForInStep.yield ok) else pure (ForInStep.yield r)) (λok F=>
      if ok=true then wpAny (model prog w) A (eval elt env) (λx U=>wpAny (model prog w) A (call (.builtin "list.append") [a3,x]) (λ_ O=>∃m,m<n/\I m O) Ex U) Ex F
      else ∃m,m<n/\I m F) Ex Y) Ex s₀) Ex J) Ex s)
  (n:Nat) (h:I n s):Ze (model prog w) A (.compLoop (.ListComp elt [⟨j,Z,a2,0⟩] L pos) 0 it a3 env) R s:=by
 refine codeAny_loop rfl I (λn s hI=>?_) n h;show wpAny _ A ((compTurn (.ListComp elt [⟨j,Z,a2,0⟩] L pos) 0 it a3 env).onRaise (λx=>do noteFrame x env; theTreesLotGoes x)) _ _ s;refine wpAny_noted (Qf ?_ (λ_ _ q=>q) a9);rw[compTurn_list];refine Qq (wpAny_standAt (Qq (Qf (a4 n s hI) (λr J a1=>?_) λ_ _ z=>z)))
 cases r with
 |none=>exact Qj a1
 |some v=>
  refine Qq (Qf a1 (λ_ s₀ a8=>?_) λ_ _ z=>z);refine Qq (Qf a8 (λ_ Y a7=>Qq (Qf a7 (λok F a0=>?_) λ_ _ z=>z)) λ_ _ z=>z)
  cases ok with
  |false=>exact Qj ⟨rfl,a0⟩
  |true=>
   exact Qq (Qq (Qf a0 (λx U a6=>Qq (Qf a6 (λ_ O a5=>Qj (Qj ⟨rfl,a5⟩)) λ_ _ z=>z)) λ_ _ z=>z))
end
theorem HOk.track{P:Program}{w:Qk}{H:Hp}{h:Heap}{a:Addr}{o:HO}(x:HOk P w H h)(j:H a=none)(new:ObjOk P w (upd H a o) h a o):HOk P w (upd H a o) h:=λb u e=>by
 by_cases z:b=a
 ·subst z; rw[qzx]at e; cases e; exact new
 ·rw[qzq z]at e;exact(x b u e).stay (λc v _ q=>q) (λc q=>by rw[qzq (qze q j)]; exact q) λc xs q=>by rw[qzq (qze q j)]; exact q
theorem Inv.track{X:Cx}{j:List (Addr×Obj)}{J:L2.St}{H:Hp}{s:Qz}{a:Addr}{o:HO}(I:Inv X j J H s)(L:FpOk X j H a)(new:ObjOk X.prog X.w (upd H a o) s.heap a o):Inv X j J (upd H a o) s:=by
 obtain⟨z,Z,f2,Y,U,O⟩:=L;refine I.step (h':=s.heap) (g':=s.gens) (t':=s.toks) (d':=s.drawn) (ch:=[a]) (λb F=>?_) (λb o _ _ _ e _=>e) (λb o _ _ _ e _=>⟨o.slots,e⟩) (λb o F e n=>?_) (λb o _ e=>⟨o,e⟩)
  (λb xs e=>by rw[qzq (qze e z)]; exact e) (λb o u e=>by rw[qzq (qze e z)]; exact e) (λb ps e=>⟨#[],by rw[qzq (qze e z),e]; simp⟩) (λm h=>h) (HOk.track I.hok z new) I.bare
 ·have e:b=a:=by simpa using F
  subst e;exact⟨Y,Z,U,O⟩
 ·rw[qzq (by simpa using F)]; exact n
noncomputable def qzh(X:Cx)(N:List Str)(scope:Scope)(C:Addr)(fp:List Addr)(s:Qz)(H:Hp):Cx:=
 { X with N:=N,s₀:=s,H₀:=H,env:=compEnvC scope (qxf X.env.cells scope.names []) C X.env,outer:=X.stack,ex:=fp,fn:=λ_=>false,pn:=[],xe:=λ_ _=>False }
noncomputable def qq3(src:List (Option Nat))(σ:L2.St):L2.St:=src.map λo=>o.bind λi=>(σ[i]?).bind id
structure CompScope (X:Cx) (N:List Str) (src:List (Option Nat)) (scope:Scope):Prop where
 kind:scope.kind=.function
 cell:∀y∈scope.names,y.2≠.cell
 free:∀y∈scope.names,y.2=.free->X.env.kindOf y.1=some .cell\/X.env.kindOf y.1=some .free
 loc:∀y∈scope.names,y.2=.local->scope.names.lookup y.1=some .local
 len:src.length=N.length
 src:∀(j i:Nat),src[j]?=some (some i)->∃x,N[j]?=some x/\X.N[i]?=some x/\scope.names.lookup x=some .free
section
variable {X:Cx}{pins:List (Addr×Obj)}{σ:L2.St}{H:Hp}{s:Qz}
theorem mem_lookup{names:List (Str×Qh)}{x:Str}{k:Qh}(h:names.lookup x=some k):(x,k)∈names:=PySem.mem_of_lookup h
theorem qwm{N:List Str}{src:List (Option Nat)}{j:Scope}(S:CompScope X N src j)(I:Inv X pins σ H s):closureFor j X.env=pure (qxf X.env.cells j.names []):=
 qvi λx z F=>I.ok.has x.1 (S.free x z F)
theorem qme{N:List Str}{src:List (Option Nat)}{j:Scope}{C:Addr}{O:List Addr}(S:CompScope X N src j)(I:Inv X pins σ H s)(Z:s.heap.objs.size<=C)(F:∀b∈O,FpOk X pins H b)(U:∀b∈O,b<s.heap.objs.size):(qzh X N j C O s H).Ok where
 mod:=I.ok.mod
 kind:=S.kind
 glob:=I.ok.glob
 blt:=I.ok.blt
 above:=Z
 inj:=λx y c h1 h2=>I.ok.inj x y c (qz9 _ [] (λ_ _ z=>nomatch z) x c h1) (qz9 _ [] (λ_ _ z=>nomatch z) y c h2)
 has:=λx h=>by
  have e:(qzh X N j C O s H).env.kindOf x=(j.names.lookup x).map λk=>if (k==NameKind.free&&X.env.scope.kind==.function&&X.env.kindOf x==some .cell) then NameKind.cell else k:=qqq X.env j.names x
  rw[e]at h
  cases q:j.names.lookup x with
  |none=>rw[q]at h; rcases h with h|h<;>cases h
  |some k=>
   have hk:k=.free:=by
    rw[q]at h;simp only[oMs,Option.some.injEq]at h
    by_cases L:(k==NameKind.free&&X.env.scope.kind==.function&&X.env.kindOf x==some .cell)=true
    ·simp only[Qqm]at L;exact eq_of_beq L.1.1
    ·rw[Z2 L]at h;rcases h with h|h
     ·subst h; exact absurd rfl (S.cell _ (mem_lookup q))
     ·exact h
   subst hk;have Y:=mem_lookup q;obtain⟨c,L⟩:=I.ok.has x (S.free _ Y rfl);exact⟨c,qvl L _ _ (.inl Y)⟩
 cab:=λx c h=>by cases h
 hd:=I.ok.hd
 frames:=I.ok.frames
 stk:=.inl rfl
 exf:=λb J=>⟨Qq4 (Qq2 (U b J) Z),λx c e=>(F b J).2.2.2.2.1 x c (qz9 _ [] (λ_ _ z=>nomatch z) x c e)⟩
 bs:=I.bs
 bsz:=Qzh I.ok.bsz I.sz
 noex:=λb o e J=>by
  rcases (F b J).2.2.2.1 with z|z
  ·exact I.ok.noex b o e z
  ·exact absurd (Qq2 (Qqd e) (Qzh I.ok.bsz z)) (Qz9 _)
 exfs:=λb J hf=>by
  have f:=F b J;rcases Qqc.mp (I.stkSub b hf) with z|z
  ·exact f.2.1 z
  ·exact f.2.2.1 z
 funs:=I.stack
 frf:=I.stkFree
theorem qbi{N:List Str}{src:List (Option Nat)}{F:Scope}{C:Addr}{Y:List Addr}{h':Heap}{tk:Nat}{m':Str->Option Value}(S:CompScope X N src F)(I:Inv X pins σ H s)(hC:s.heap.objs.size<=C)(a2:∀b∈Y,FpOk X pins H b)(a0:∀b∈Y,b<s.heap.objs.size)
  (kp:∀b o,s.heap.get? b=some o->h'.get? b=some o) (ns:h'.Ns C m'):Inv (qzh X N F C Y s H) [] (qq3 src σ) H { s with heap:=h',toks:=tk }:=by
 have O:=qme S I hC a2 a0;refine⟨O,rfl,I.bare,Un.kept kp,⟨m',ns,λj x v hN J hv=>?_⟩,λx c e=>?_,I.hok.fresh hC,λx c e=>?_,λp hp=>absurd (show p∈([]:List (Addr×Obj)) from hp) (by simp),I.hok.kept kp,?_⟩
 ·unfold qq3 at J;rw[Qqa]at J
  cases q:src[j]? with
  |none=>rw[q]at J; cases J
  |some o=>
   rw[q]at J
   cases o with
   |none=>cases J
   |some i=>
    obtain⟨x',e1,e2,e3⟩:=S.src j i q;have hN:N[j]?=some x:=hN;rw[hN]at e1;cases e1;have hi:σ[i]?=some (some v):=by
     cases z:σ[i]? with
     |none=>simp[z]at J
     |some w=>
      cases w with
      |none=>simp[z]at J
      |some w=>simpa[z] using J
    obtain⟨m0,a3,a1⟩:=I.loc;have hk:=S.free _ (mem_lookup e3) rfl;have Z:Vis X.env.scope x:=by
     rcases hk with z|z
     ·exact .inr (.inl z)
     ·exact .inr (.inr z)
    obtain⟨u,ru,lk⟩:=a1 i x v e2 hi Z;refine⟨u,ru,?_⟩;rcases lk with⟨z,_⟩|⟨_,c,U,L⟩
    ·rcases hk with y|y
     ·rw[y]at z; cases z
     ·rw[y]at z; cases z
    ·refine .inr ⟨?_,c,qvl U _ _ (.inl (mem_lookup e3)),?_⟩
     ·have e:(qzh X N F C Y s H).env.kindOf x=(F.names.lookup x).map λk=>if (k==NameKind.free&&X.env.scope.kind==.function&&X.env.kindOf x==some .cell) then NameKind.cell else k:=qqq X.env F.names x
      rw[e,e3];simp only[oMs,Option.some.injEq]
      by_cases U:(NameKind.free==NameKind.free&&X.env.scope.kind==.function&&X.env.kindOf x==some .cell)=true
      ·rw[Z3 U]; exact .inl rfl
      ·rw[Z2 U]; exact .inr rfl
     ·obtain⟨o,ho,hd⟩:=L;exact⟨o,kp c o ho,hd⟩
 ·have e':=qz9 _ [] (λ_ _ z=>nomatch z) x c e;obtain⟨v,o,ho,hd⟩:=I.cell x c e';exact⟨v,o,kp c o ho,hd⟩
 ·exact I.freeC x c (qz9 _ [] (λ_ _ z=>nomatch z) x c e)
 ·unfold qq3;rw[Qqx];exact S.len
end
def qeu(X:Cx)(ifs:List Qx)(tt:TT):Prop:=∀(pins:List (Addr×Obj)) (s:Qz) (σ:L2.St) (H:Hp) (Q:Bool->Hp->Prop),Inv X pins σ H s->tt σ H Q->
 wpAny (model X.prog X.w) X.A (forIn ifs true λc r=>if r=true then do let ok <- isTrue c X.env (eval c X.env); pure (ForInStep.yield ok) else pure (ForInStep.yield r)) (TP X pins σ Q) X.xe s
theorem qyt{X:Cx}:qeu X [] (λ_ H Q=>Q true H):=λpins s σ H Q I h=>by
 show wpAny _ _ (pure true) _ _ _;exact Qj ⟨H,I,h⟩
theorem qys{X:Cx}{c:Qx}{tc:TT}(j:PT X c tc):qeu X [c] tc:=λpins s σ H Q I h=>by
 rw[Qjy];simp only[if_true];refine Qq (Qq (thn (j pins s σ H Q I h) λb z q=>Qj ?_));show wpAny _ _ (pure b) _ _ _;exact Qj q
theorem qkr{X:Cx}{a0:List (Addr×Obj)}{σ:L2.St}{H:Hp}{s:Qz}{elt tg b0:Qx}{c0:List Qx}{scope:Scope}{pos:Pos}{it:Addr}{Z:List Addr}{tn:Nat->Heap->Prop}{J:It}{N:List Str}{src:List (Option Nat)}
  {g:TG}{tt:TT}{te:TE}{E:Value->Qz->Prop}{d3:List V->Hp->Prop}{RR:Value->Addr->Result->Qz->Prop}{Ex:Addr->Addr->Value->Qz->Prop}(hc:X.calm=true) (I:Inv X a0 σ H s) (T:Turn X.prog X.w X.K tg J Z it tn) (st0:tn 0 s.heap) (a3:∀b∈Z,FpOk X a0 H b) (S:CompScope X N src scope)
  (hg:∀C,PG (qzh X N scope C Z s H) tg g) (ht:∀C,qeu (qzh X N scope C Z s H) c0 tt) (he:∀D C,PE ((qzh X N scope C Z s H).wish (Ex D C)) elt te)
  (d8:∀D C,s.heap.objs.size<=C->∀e s',Ex D C e s'->notedBy (model X.prog X.w) X.A (compEnvC scope (qxf X.env.cells scope.names []) C X.env) (λe s'=>RR (.ref D) C (.error e) s') e s')
  (W:Nat->Nat->List V->L2.St->Hp->Prop) (w0:∃k,W 0 k [] (qq3 src σ) H)
  (step:∀i k j σ H,W i k j σ H->(J.stop i H/\j.length<=sizeLine/\d3 j H)\/(J.go i H/\j.length<sizeLine/\∀x H',J.yld i H x H'->g x σ H' λa9 H2=>tt a9 H2 λb H3=>
   if b=true then te a9 H3 λv H4=>∃k',k'<k/\W (i+1) k' (j++[v]) a9 H4 else ∃k',k'<k/\W (i+1) k' j a9 H3))
  (d7:∀D C s' H' j,d3 j H'->H' D=none->Inv X a0 σ (upd H' D (.lst j)) s'->FpOk X a0 (upd H' D (.lst j)) C->(∃m,s'.heap.Ns C m)->RR (.ref D) C (.ok .next) s') :
  wpAny (model X.prog X.w) X.A (newList []) (λj s₃=>wpAny (model X.prog X.w) X.A (newFunctionEnv scope X.env.globals (qxf X.env.cells scope.names []) [] X.env.qual none .none (some X.env)) (λb6 c8=>
   Ze (model X.prog X.w) X.A (.compStart (.ListComp elt [⟨tg,b0,c0,0⟩] scope pos) 0 (.ref it) j { b6 with scope:=relabel scope X.env }) (RR j b6.locals) c8) E s₃) E s:=by
 have d0:∀b∈Z,b<s.heap.objs.size:=λb U=>by obtain⟨o,e,_⟩:=T.obj 0 _ st0 b U; exact Qqd e
 refine Qp (wpAny_newFunctionEnv S.cell (by intro y hy; simp at hy) (λa1 Y O=>?_) S.kind);dsimp only at Y O ⊢;generalize c2:s.heap.push { cls:=.type "list",dict:=none,data:=.seq ([]:List Value).toArray }=H2 at Y O ⊢;have hC:H2.objs.size=s.heap.objs.size+1:=by rw[<- c2,Qxw]
 have a4:s.heap.objs.size≠H2.objs.size:=by rw[hC]; exact Qq4 (Qzs _)
 have a8:s.heap.objs.size<=H2.objs.size:=by rw[hC]; exact Qxx _
 have b8:∀b o,s.heap.get? b=some o->a1.get? b=some o:=λb o e=>O.extBut b o (by rw[hC]; exact Qq4 (Qjs (Qqd e))) (Qqz _ (c2▸Qqz _ e));have b5:a1.get? s.heap.objs.size=some { cls:=.type "list",data:=.seq ([]:List Value).toArray }:=O.extBut _ _ a4 (Qqz _ (c2▸Qql _ rfl));generalize a7:s.heap.objs.size=Dd at a4 a8 b5;generalize e5:H2.objs.size=Cc at a4 a8 Y O hC ⊢;have c3:s.heap.objs.size<=Dd:=Nat.le_of_eq a7;have c4:s.heap.objs.size<=Cc:=by rw[a7]; exact a8
 have fD:H Dd=none:=I.hok.fresh c3;have I1:Inv (qzh X N scope Cc Z s H) [] (qq3 src σ) H { s with heap:=a1,toks:=s.toks+([]:List (Str×Value)).length }:=qbi S I c4 a3 d0 b8 Y;have c9:∀b∈Z,b≠Dd:=λb U=>by rw[<- a7]; exact Qq4 (d0 b U)
 have c5:∀x c,(qzh X N scope Cc Z s H).env.cells.lookup x=some c->c≠Dd:=λx c e z=>by
  have e':=qz9 _ [] (λ_ _ z=>nomatch z) x c e;obtain⟨v,o,ho,_⟩:=I.cell x c e';rw[z,<- a7]at ho;exact Qz9 _ (Qqd ho)
 have d9:Dd ∉ (qzh X N scope Cc Z s H).fs:=λz=>by
  obtain⟨_,o,ho,_⟩:=I1.ok.funs.mem z;have ho:s.heap.get? Dd=some o:=ho;rw[<- a7]at ho;exact Qz9 _ (Qqd ho)
 have a6:∀{pl:List (Addr×Obj)}{H':Hp},(∀p∈pl,p.1=Dd)->(∀b∈Z,H' b=none)->∀b∈Z,FpOk (qzh X N scope Cc Z s H) pl H' b:=λ{pl H'} d4 hn b U=>
  ⟨hn b U,(I1.ok.exf b U).1,I1.ok.exfs b U,.inl U,(I1.ok.exf b U).2,λp hp=>by
   have d5:p∈pl:=hp
   rw[d4 p d5]; exact(c9 b U).symm⟩
 obtain⟨k0,w0⟩:=w0;have loop:∀s₃:Qz,s₃={ s with heap:=a1,toks:=s.toks+([]:List (Str×Value)).length }->
   Ze (model X.prog X.w) X.A (.compLoop (.ListComp elt [⟨tg,b0,c0,0⟩] scope pos) 0 (.ref it) (.ref Dd) (compEnvC scope (qxf X.env.cells scope.names []) Cc X.env)) (RR (.ref Dd) Cc) s₃:=by
  rintro s₃ rfl;refine qwn (d8 Dd Cc c4) (λk s'=>∃i j L nn c7 H',Inv (qzh X N scope Cc Z s H) [] c7 H' s'/\tn i s'.heap/\(∀b∈Z,H' b=none)/\W i k j c7 H'/\Vals j L/\s'.heap.get? Dd=some { cls:=.type "list",data:=.seq L.toArray nn }/\H' Dd=none) ?_ k0
   ⟨0,[],[],0,qq3 src σ,H,I1,T.keep _ _ _ st0 λb _ o e=>b8 b o e,λb U=>(a3 b U).1,w0,.nil,b5,fD⟩
  rintro k s3 ⟨i,j,L,nn,a5,H3,I3,t3,d1,w3,rv,d6,b9⟩;have d2:Inv (qzh X N scope Cc Z s H) [(Dd,{ cls:=.type "list",data:=.seq L.toArray nn })] a5 H3 s3:=I3.pins_of λp hp=>by
   have e:p=(Dd,{ cls:=.type "list",data:=.seq L.toArray nn }):=by simpa using hp
   subst e
   exact⟨d6,b9,a4,d9,λv z=>by
    have z':Data.seq L.toArray nn=Data.cell v:=z
    cases z'⟩
  rcases step i k j a5 H3 w3 with⟨stop,hz,e2⟩|⟨go,hz,next⟩
  ·refine thn (T.done (qzh X N scope Cc Z s H) rfl rfl rfl hc i _ s3 a5 H3 (Ex Dd Cc) d2 (a6 (λp hp=>by rw[Qqb.mp hp]) d1) t3 stop) λr s4 ⟨hr,I4⟩=>?_;subst hr;have p4:=I4.pin (Dd,{ cls:=.type "list",data:=.seq L.toArray nn }) (Qqs _ (by simp));have I5:Inv X a0 σ H3 s4:=I.call' I4.os I4.base I4.hok I4.bare λb U=>⟨(a3 b U).2.2.2.1,(a3 b U).2.1,(a3 b U).2.2.2.2.1,(a3 b U).2.2.2.2.2⟩
   have e1:FpOk X a0 H3 Dd:=I.fpOk c3 b9;refine d7 Dd Cc s4 H3 j e2 b9 (Inv.track I5 e1 ⟨hz,L,nn,rv,p4.1⟩) (I.fpOk c4 (by rw[qzq (Ne.symm a4)]; exact I4.free)) ?_;obtain⟨m4,n4,_⟩:=I4.loc;exact⟨m4,n4⟩
  ·refine thn (T.item (qzh X N scope Cc Z s H) rfl rfl rfl hc i _ s3 a5 H3 (Ex Dd Cc) d2 (a6 (λp hp=>by rw[Qqb.mp hp]) d1) t3 go) λr s4 ⟨u,hr,h4⟩=>?_;subst hr;refine thn h4 λ_ s5 ⟨x,H5,I5,r5,y5,t5,e0⟩=>?_;have e3:=I5.pinned (a6 (λp hp=>by rw[Qqb.mp hp]) e0) (T.obj _ _ t5);refine Qf (hg Cc _ s5 a5 H5 x u _ e3 r5 (next x H5 y5)) (λ_ s6 ⟨a2,H6,I6,q6⟩=>?_) λ_ _ z=>z.elim;refine Qf (ht Cc _ s6 a2 H6 _ I6 q6) (λb s7 ⟨H7,I7,q7⟩=>?_) λ_ _ z=>z.elim;have b7:∀{c6:L2.St}{H8:Hp}{s8:Qz},Inv (qzh X N scope Cc Z s H) ([(Dd,{ cls:=.type "list",data:=.seq L.toArray nn })]++qv5 Z s5.heap) c6 H8 s8->
     tn (i+1) s8.heap/\(∀b∈Z,H8 b=none)/\s8.heap.get? Dd=some { cls:=.type "list",data:=.seq L.toArray nn }/\H8 Dd=none:=λ{c6 H8 s8} I8=>by
    refine⟨T.keep _ _ _ t5 λb U o e=>(I8.pin (b,o) (Qqs _ (Qqs _ (qqu U e)))).1,λb U=>?_,?_,?_⟩
    ·obtain⟨o,e,d⟩:=T.obj _ _ t5 b U;exact(I8.pin (b,o) (Qqs _ (Qqs _ (qqu U e)))).2.1
    ·exact(I8.pin (Dd,_) (Qqs _ (Qzf _ (by simp)))).1
    ·exact(I8.pin (Dd,{ cls:=.type "list",data:=.seq L.toArray nn }) (Qqs _ (Qzf _ (by simp)))).2.1
   cases b with
   |false=>
    simp only[Qqf,if_false]at q7 ⊢;obtain⟨k',hk,w7⟩:=q7;obtain⟨b1,b2,b3,b4⟩:=b7 I7;exact⟨k',hk,i+1,j,L,nn,a2,H7,I7.pins_of λp hp=>absurd hp (by simp),b1,b2,w7,rv,b3,b4⟩
   |true=>
    simp only[if_true]at q7 ⊢;refine thn (he Dd Cc _ s7 a2 H7 _ (I7.wish _) q7) λy s8 ⟨v8,H8,I8,r8,k',hk,w8⟩=>?_;have I8:=I8.unwish;obtain⟨b1,b2,b3,b4⟩:=b7 I8;have l1:=rv.length;refine Q4 F.slot_list_append ⟨_,b3,rfl⟩ F.entry_list_append (F.args_list_append_2 _ _) (PySem.list_append Dd L.toArray nn y (by rw[Qqw]; omega)) ⟨b3,?_⟩;have q:=PySem.IsL.update b3 (λa=>a.push y);have c1:L.toArray.push y=(L++[y]).toArray:=by simp
    rw[c1]at q;have I9:Inv (qzh X N scope Cc Z s H) [] a2 H8 s8:=I8.pins_of λp hp=>absurd hp (by simp);have e4:Inv (qzh X N scope Cc Z s H) [] a2 H8 { s8 with heap:=s8.heap.update Dd (Obj.mapSeq (·.push y)) }:=
     I9.turned (it:=Dd) (t':=s8.toks) (λb o U e=>(Qx8 s8.heap _ (Ne.symm U)).trans e) b4 a4 (.inr c3) c5 λp hp=>absurd (show p∈([]:List (Addr×Obj)) from hp) (by simp)
    exact⟨k',hk,i+1,j++[v8],L++[y],_,a2,H8,e4,T.keep _ _ _ b1 λb U o e=>(Qx8 s8.heap _ (Ne.symm (c9 b U))).trans e,b2,w8,rv.append (.cons r8 .nil),q,b4⟩
 exact codeAny_compStart_list (loop _ rfl) (T.self _ 0 _ _ _ (T.keep _ _ _ st0 λb _ o e=>b8 b o e) (loop _ rfl))
noncomputable def qic(src:List (Option Nat))(wi:TI)(g:TG)(tt:TT)(te:TE):TE:=λσ H Q=>wi σ H λJ H1=>∃W:Nat->Nat->List V->L2.St->Hp->Prop,(∃k,W 0 k [] (qq3 src σ) H1)/\
 ∀i k acc σ' H',W i k acc σ' H'->(J.stop i H'/\acc.length<=sizeLine/\∀p,H' p=none->Q (.ref p) (upd H' p (.lst acc)))\/(J.go i H'/\acc.length<sizeLine/\∀x H2,J.yld i H' x H2->g x σ' H2 λσ2 H3=>tt σ2 H3 λb H4=>
  if b=true then te σ2 H4 λv H5=>∃k',k'<k/\W (i+1) k' (acc++[v]) σ2 H5 else ∃k',k'<k/\W (i+1) k' acc σ2 H4)
theorem qcu{X:Cx}{elt U F:Qx}{O:List Qx}{j:Scope}{pos:Pos}{N:List Str}{src:List (Option Nat)}{wi:TI}{g:TG}{tt:TT}{te:TE}(hc:X.calm=true)(S:CompScope X N src j)(hi:PI X U F wi)
  (hg:∀C fp s H,PG (qzh X N j C fp s H) U g) (ht:∀C fp s H,qeu (qzh X N j C fp s H) O tt) (he:∀C fp s H,PE (qzh X N j C fp s H) elt te)
  (hs:∀x,foldedSetIterable F X.env x=pure x):PE X (.ListComp elt [⟨U,F,O,0⟩] j pos) (qic src wi g tt te):=by
 intro pins s σ H Q I h;rw[eval_ListComp];refine wpAny_comprehension_free (use:=none) rfl hs (qwm S I) S.kind S.loc (thn (hi pins s σ H _ I h) λv s1 h1=>thn h1 λa2 Z h2=>?_);obtain⟨it,fp,tn,J,H2,e,I2,T,Y,f2,W,w0,L⟩:=h2;subst e;refine qkr (Ex:=λ_ _=>NoX) hc I2 T Y f2 S (λC=>hg C fp Z H2) (λC=>ht C fp Z H2) (λ_ C=>he C fp Z H2) (λ_ _ _ _ _ z=>z.elim) W w0 L ?_;intro D C s' H' a1 a0 nD I' fC hm;obtain⟨m',hn⟩:=hm;refine⟨m',hn,λh' sb=>⟨.ref D,upd H' D (.lst a1),?_,rfl,a0 D nD⟩⟩;obtain⟨c0,c1,c2,c3,c4,c5⟩:=fC;exact I'.turned (t':=s'.toks) (λb o hb e=>(sb.2 b hb).trans e) c0 c1 c3 c4 c5
end MS
end
section
namespace MS
open PySem PySem.Spec PyProof.Rows L2
theorem Inv.turnedL{X:Cx}{j:List (Addr×Obj)}{O:L2.St}{H:Hp}{s:Qz}{h':Heap}{t':Nat}{ch:List Addr}(I:Inv X j O H s)(k:∀b o,b ∉ ch->s.heap.get? b=some o->h'.get? b=some o)(L:∀b∈ch,FpOk X j H b):Inv X j O H { s with heap:=h',toks:=t' }:=by
 have J:∀b u,H b=some u->b ∉ ch:=λb u e z=>by rw[(L b z).1]at e; cases e
 refine I.step (g':=s.gens) (d':=s.drawn) (ch:=ch) (λb Z=>?_) (λb o _ _ F e _=>k b o F e) (λb o _ _ F e _=>⟨o.slots,k b o F e⟩) (λ_ _ _ _ n=>n) (λb o F e=>⟨o,k b o F e⟩) (λ_ _ e=>e) (λ_ _ _ e=>e) (λb ps e=>⟨#[],by rw[e]; simp⟩) (λm Y=>?_) (λb u e=>?_) I.bare
 ·obtain⟨f0,f1,f2,f3,f4,f5⟩:=L b Z;exact⟨f3,f1,f4,f5⟩
 ·obtain⟨o,es,ep,U,r⟩:=Y;exact⟨o,es,ep,k _ o (λz=>(L _ z).2.1 rfl) U,r⟩
 ·refine(I.hok b u e).stay (λc v F q=>k c v ?_ q) (λ_ q=>q) λ_ _ q=>q;rcases F with z|z
  ·rw[z]; exact J b u e
  ·exact J c _ z
inductive RK where
 |lst|tup
noncomputable def RK.It:RK->Heap->Addr->Addr->Nat->Prop
 |.lst,h,it,a,i=>h.IsListIter it a i
 |.tup,h,it,a,i=>h.IsTupleIter it a i
noncomputable def RK.Sq:RK->Heap->Addr->Array Value->Prop
 |.lst,h,a,xs=>h.IsList a xs
 |.tup,h,a,xs=>h.IsTuple a xs
theorem RK.It.on{k:RK}{h h':Heap}{it a:Addr}{i:Nat}(x:k.It h it a i)(e:∀o,h.get? it=some o->h'.get? it=some o):k.It h' it a i:=by
 cases k with
 |lst=>exact Heap.IsListIter.at x e
 |tup=>obtain⟨o,j,r⟩:=x; exact⟨o,e o j,r⟩
theorem RK.Sq.on{k:RK}{h h':Heap}{a:Addr}{xs:Array Value}(x:k.Sq h a xs)(e:∀o,h.get? a=some o->h'.get? a=some o):k.Sq h' a xs:=by
 cases k with
 |lst=>exact Heap.IsList.at x e
 |tup=>obtain⟨o,j,r⟩:=x; exact⟨o,e o j,r⟩
theorem RK.It.obj{k:RK}{h:Heap}{it a:Addr}{i:Nat}(x:k.It h it a i):∃o,h.get? it=some o/\∀v,o.data≠.cell v:=by
 cases k with
 |lst=>obtain⟨o,j,_,d⟩:=x; exact⟨o,j,λv z=>by rw[d]at z; cases z⟩
 |tup=>obtain⟨o,j,_,d⟩:=x; exact⟨o,j,λv z=>by rw[d]at z; cases z⟩
section
variable {prog:Program}{w:Qk}{A:Qv}{E:Value->Qz->Prop}{s:Qz}
theorem qj3{k:RK}{it a:Addr}{i:Nat}{xs:Array Value}{x:Value}{Q:Value->Qz->Prop}(hi:k.It s.heap it a i)(O:k.Sq s.heap a xs)(L:xs[i]?=some x)
  (U:∀h',k.It h' it a (i+1)->(∀b o,b≠it->s.heap.get? b=some o->h'.get? b=some o)->h'.objs.size=s.heap.objs.size->Q x { s with heap:=h' }):wpAny (model prog w) A (Builtin.SmallTypes.nextOf (.ref it)) Q E s:=by
 cases k with
 |lst=>exact wpAny_nextOf_list_item hi O L λh' a1 Y=>U h' a1 Y.extBut Y.1
 |tup=>
  obtain⟨o,J,e2,j⟩:=id hi;obtain⟨q,f1,_,m,Z⟩:=O;unfold Builtin.SmallTypes.nextOf;refine Qq (Ql (name:=Str.ofString "__next__") (Heap.IsTupleIter.typeIs hi) F.slot_tuple_iterator_next (Qs F.slot_tuple_iterator_next (Heap.IsTupleIter.typeIs hi) F.entry_tuple_iterator_next ?_ (F.args_tuple_iterator_next_1 _)));show wpAny _ _ (field (.ref it) 0 >>= _) _ _ _;refine Qq (Qg J j (x:=.ref a) rfl ?_);show wpAny _ _ (if (Value.ref a==Value.none)=true then _ else _) _ _ _;rw[Z2 (show ¬ ((Value.ref a==Value.none)=true) from λz=>nomatch z)];show wpAny _ _ (field (.ref it) 1 >>= _) _ _ _;refine Qq (Qg J j (x:=.int i 0) rfl ?_);show wpAny _ _ (seqItems? (.ref a) >>= _) _ _ _;refine Qq (Qi f1 Z ?_);simp only[Int.toNat_natCast,L];refine Qq (wpAny_setField J j (by simp) (Qj ⟨x,rfl,Qj (U _ ?_ (Heap.SameBut.update ..).extBut (Heap.SameBut.update ..).1)⟩));exact⟨_,Qjv _ J (Obj.isFreed_of_fields (Obj.data_mapFields j _)),(Obj.cls_mapFields ..).trans e2,by rw[Obj.data_mapFields j]; simp[rawInt]⟩
theorem qwi{k:RK}{it a:Addr}{i:Nat}{xs:Array Value}{Q:Value->Qz->Prop}(j:A.handled=none)(hi:k.It s.heap it a i)(U:k.Sq s.heap a xs)(O:xs[i]?=none)
  (Y:∀h' e,(∀b o,b≠it->s.heap.get? b=some o->h'.get? b=some o)->(∃o,h'.get? e=some o/\o.cls=.type "StopIteration")->E (.ref e) { s with heap:=h' }):wpAny (model prog w) A (Builtin.SmallTypes.nextOf (.ref it)) Q E s:=by
 cases k with
 |lst=>exact wpAny_nextOf_list_end j hi U O λh' e a1 a2=>Y h' e a1 a2
 |tup=>
  obtain⟨o,L,e2,J⟩:=id hi;obtain⟨q,f1,_,m,Z⟩:=U;unfold Builtin.SmallTypes.nextOf;refine Qq (Ql (name:=Str.ofString "__next__") (Heap.IsTupleIter.typeIs hi) F.slot_tuple_iterator_next (Qs F.slot_tuple_iterator_next (Heap.IsTupleIter.typeIs hi) F.entry_tuple_iterator_next ?_ (F.args_tuple_iterator_next_1 _)));show wpAny _ _ (field (.ref it) 0 >>= _) _ _ _;refine Qq (Qg L J (x:=.ref a) rfl ?_);show wpAny _ _ (if (Value.ref a==Value.none)=true then _ else _) _ _ _;rw[Z2 (show ¬ ((Value.ref a==Value.none)=true) from λz=>nomatch z)];show wpAny _ _ (field (.ref it) 1 >>= _) _ _ _;refine Qq (Qg L J (x:=.int i 0) rfl ?_);show wpAny _ _ (seqItems? (.ref a) >>= _) _ _ _;refine Qq (Qi f1 Z ?_);simp only[Int.toNat_natCast,O];refine Qq (Zj (Qq (wpAny_setField L J (by simp) ?_))); show wpAny _ _ (newExc (.type "StopIteration") [] >>= _) _ _ _;refine Qq ?_; simp only[newExc,newTuple];refine Qq (Qp ?_ (by size_fits)); refine Qq (m:=firstArgMember _ _) (wpAny_of_eq (a:=Value.none) (by first|rfl|(simp only[firstArgMember]; rfl)) ?_);refine Qp ?_ (by size_fits); simp only[raiseNew];refine Qq (wpAny_handled ?_)
  first|rw[show A.in1.handled=none from j]|(rw[j])
  refine Qq (Qj (wpAny_throw ?_));exact Y _ _ (((Heap.SameBut.update ..).extBut.push _).push _) ⟨_,Qql _ rfl,by rfl⟩
end
section
variable {prog:Program}{w:Qk}{A:Qv}{E:Value->Qz->Prop}{s:Qz}
theorem qvx{T:Addr}{a b x:Value}{j:Nat}{Q:Unit->Qz->Prop}(F:IsPair s.heap T a b)
  (h:∀h',h'.get? T=some { cls:=.type "tuple",data:=.seq ((#[a,b]:Array Value).setIfInBounds j x) }->(∀c o,c≠T->s.heap.get? c=some o->h'.get? c=some o)->h'.objs.size=s.heap.objs.size->Q () { s with heap:=h' }) :
  wpAny (model prog w) A (updateSeq T (·.setIfInBounds j x)) Q E s:=
 wpAny_updateSeq_pair F λh' J z=>h h' J z.extBut z.1
theorem zip_get{n Y U:Nat}{k1 k2:RK}{i:Nat}{xs ys:Array Value}{x y a b:Value}{Q:Option Value->Qz->Prop}(n1:Y<n)(n2:U<n)
  (hz:IsZip s.heap (n+4) (n+2) (n+3) .none) (hI:IsPair s.heap (n+2) (.ref n) (.ref (n+1))) (hO:IsPair s.heap (n+3) a b) (h1:k1.It s.heap n Y i) (h2:k2.It s.heap (n+1) U i) (s1:k1.Sq s.heap Y xs) (s2:k2.Sq s.heap U ys) (hx:xs[i]?=some x) (hy:ys[i]?=some y)
  (hQ:∀h',IsZip h' (n+4) (n+2) (n+3) (rawInt s.heap.objs.size)->IsPair h' (n+2) (.ref n) (.ref (n+1))->IsPair h' (n+3) x y->k1.It h' n Y (i+1)->k2.It h' (n+1) U (i+1)->IsPair h' s.heap.objs.size x y->
   (∀c o,c≠n+4->c≠n+3->c≠n->c≠n+1->s.heap.get? c=some o->h'.get? c=some o)->Q (some (.ref s.heap.objs.size)) { s with heap:=h' }) :
  wpAny (model prog w) A (pyNext (.ref (n+4))) Q E s:=by
 have hT:s.TypeIs (.ref (n+4)) "zip":=⟨_,hz,rfl⟩
 unfold pyNext;refine Qq (wpAny_attempt (Ql (name:=Str.ofString "__next__") hT F.slot_zip_next (Qs F.slot_zip_next hT F.entry_zip_next ?_ (F.args_zip_next_1 _))));show wpAny _ _ (field (.ref (n+4)) 2 >>= _) _ _ _;refine Qq (Qg hz rfl (x:=.bool false) rfl ?_);show wpAny _ _ (field (.ref (n+4)) 3 >>= _) _ _ _;refine Qq (Qg hz rfl (x:=.ref (n+2)) rfl ?_);refine Qq (Qi hI rfl ?_);show wpAny _ _ (Builtin.SmallTypes.ownedTupleIsFree (.ref (n+4)) >>= _) _ _ _;refine Qq ?_;unfold Builtin.SmallTypes.ownedTupleIsFree;refine Qq (Qg hz rfl (x:=.none) rfl (Qj ?_));simp only[if_true];refine Qq (Zj ?_);refine Qq (Qg hz rfl (x:=.ref (n+3)) rfl ?_);refine Qq (Q0 hz (by simp) λg1 z1 u1=>?_)
 replace z1:IsZip g1 (n+4) (n+2) (n+3) .ellipsis:=z1
 have z:=u1.extBut;refine Qq ?_;simp only[List.zipIdx_cons,List.zipIdx_nil,Qjy,List.forIn_nil];refine Qq (Qq (Zt ?_)); show wpAny _ _ (Builtin.SmallTypes.nextOf (.ref n) >>= _) _ _ _;refine Qq (qj3 (s:={ s with heap:=g1 }) (h1.on λo e=>z _ o (by show @Ne Nat _ _; omega) e) (s1.on λo e=>z _ o (by show @Ne Nat _ _; omega) e) hx λg2 i2 L c2=>Qj ?_);have O2:IsPair g2 (n+3) a b:=L _ _ (by show @Ne Nat _ _; omega) (z _ _ (by show @Ne Nat _ _; omega) hO);refine Qq (Qi O2 rfl ?_);refine Qq (qvx O2 λg3 O3 J c3=>?_)
 replace O3:IsPair g3 (n+3) x b:=O3
 refine Qq (wpAny_letGo (Qj ?_));refine Qq (Qq (Zt ?_)); show wpAny _ _ (Builtin.SmallTypes.nextOf (.ref (n+1)) >>= _) _ _ _;refine Qq (qj3 (s:={ s with heap:=g3 }) (h2.on λo e=>J _ o (by show @Ne Nat _ _; omega) (L _ o (by show @Ne Nat _ _; omega) (z _ o (by show @Ne Nat _ _; omega) e))) (s2.on λo e=>J _ o (by show @Ne Nat _ _; omega) (L _ o (by show @Ne Nat _ _; omega) (z _ o (by show @Ne Nat _ _; omega) e))) hy λg4 i4 v4 c4=>Qj ?_);have O4:IsPair g4 (n+3) x b:=v4 _ _ (by show @Ne Nat _ _; omega) O3;refine Qq (Qi O4 rfl ?_);refine Qq (qvx O4 λj O5 v5 c5=>?_)
 replace O5:IsPair j (n+3) x y:=O5
 refine Qq (wpAny_letGo (Qj (Qj ?_)));refine Qq (Qi O5 rfl ?_);refine Qq (wpAny_newTuple ?_);have sz:j.objs.size=s.heap.objs.size:=c5.trans (c4.trans (c3.trans (c2.trans u1.1)));have z5:IsZip j (n+4) (n+2) (n+3) .ellipsis:=v5 _ _ (by show @Ne Nat _ _; omega) (v4 _ _ (by show @Ne Nat _ _; omega) (J _ _ (by show @Ne Nat _ _; omega) (L _ _ (by show @Ne Nat _ _; omega) z1)));have O:∀c o,c≠n+4->c≠n+3->c≠n->c≠n+1->s.heap.get? c=some o->j.get? c=some o:=λc o c1 c2 c3 c4 e=>v5 _ _ c2 (v4 _ _ c4 (J _ _ c2 (L _ _ c3 (z _ _ c1 e))));have j1:k1.It j n Y (i+1):=i2.on λo e=>v5 _ o (by show @Ne Nat _ _; omega) (v4 _ o (by show @Ne Nat _ _; omega) (J _ o (by show @Ne Nat _ _; omega) e));have j2:k2.It j (n+1) U (i+1):=i4.on λo e=>v5 _ o (by show @Ne Nat _ _; omega) e;have lz:n+4<j.objs.size:=Qqd z5;show wpAny _ _ (Builtin.SmallTypes.ownedTupleHandOut (.ref (n+4)) (.ref j.objs.size) >>= _) _ _ _;refine Qq ?_;unfold Builtin.SmallTypes.ownedTupleHandOut;have z6:IsZip (j.push { cls:=.type "tuple",data:=.seq #[x,y] }) (n+4) (n+2) (n+3) .ellipsis:=Qqz _ z5;refine Qq (Q0 z6 (by simp) λg7 z7 u7=>?_)
 replace z7:IsZip g7 (n+4) (n+2) (n+3) (rawInt j.objs.size):=z7
 refine Q0 z7 (by simp) λg8 Z u8=>?_
 replace Z:IsZip g8 (n+4) (n+2) (n+3) (rawInt j.objs.size):=Z
 have up:∀c o,c≠n+4->j.get? c=some o->g8.get? c=some o:=λc o c1 e=>u8.extBut _ _ c1 (u7.extBut _ _ c1 (Qqz _ e));have t8:IsPair g8 j.objs.size x y:=u8.extBut _ _ (Qj3 lz) (u7.extBut _ _ (Qj3 lz) (Qql _ rfl));rw[sz]at Z t8;refine Qj ⟨_,rfl,Qj ?_⟩;show Q (some (.ref j.objs.size)) _;rw[sz];exact hQ g8 Z (up _ _ (by show @Ne Nat _ _; omega) (O _ _ (by show @Ne Nat _ _; omega) (by show @Ne Nat _ _; omega) (by show @Ne Nat _ _; omega) (by show @Ne Nat _ _; omega) hI)) (up _ _ (by show @Ne Nat _ _; omega) O5) (j1.on λo e=>up _ o (by show @Ne Nat _ _; omega) e) (j2.on λo e=>up _ o (by show @Ne Nat _ _; omega) e) t8 λc o c1 c2 c3 c4 e=>up c o c1 (O c o c1 c2 c3 c4 e)
theorem qe2{n l1 l2:Nat}{k1 k2:RK}{i:Nat}{xs ys:Array Value}{a b:Value}{Q:Option Value->Qz->Prop}(hh:A.handled=none)(n1:l1<n)(n2:l2<n)
  (hz:IsZip s.heap (n+4) (n+2) (n+3) .none) (hI:IsPair s.heap (n+2) (.ref n) (.ref (n+1))) (hO:IsPair s.heap (n+3) a b) (h1:k1.It s.heap n l1 i) (h2:k2.It s.heap (n+1) l2 i) (s1:k1.Sq s.heap l1 xs) (s2:k2.Sq s.heap l2 ys) (O:xs[i]?=none\/ys[i]?=none)
  (hQ:∀h',(∀c o,c≠n+4->c≠n+3->c≠n->c≠n+1->s.heap.get? c=some o->h'.get? c=some o)->Q none { s with heap:=h' }) :
  wpAny (model prog w) A (pyNext (.ref (n+4))) Q E s:=by
 have hT:s.TypeIs (.ref (n+4)) "zip":=⟨_,hz,rfl⟩
 have Y:∀(h':Heap) (e:Addr),(∀c o,c≠n+4->c≠n+3->c≠n->c≠n+1->s.heap.get? c=some o->h'.get? c=some o)->(∃o,h'.get? e=some o/\o.cls=.type "StopIteration")->
   wpAny (model prog w) A (do if (<- isInstance (.ref e) (.type "StopIteration")) then pure none else(throw (Value.ref e):Sem (Option Value))) Q E { s with heap:=h' }:=λh' e hk U=>by
  obtain⟨o,z,L⟩:=U;refine Qq (wpAny_isInstance (T:="StopIteration") (b:=true) ⟨o,z,L⟩ isSubtype_stop ?_);exact Qj (hQ _ hk)
 unfold pyNext;refine Qq (wpAny_attempt (Ql (name:=Str.ofString "__next__") hT F.slot_zip_next (Qs F.slot_zip_next hT F.entry_zip_next ?_ (F.args_zip_next_1 _))));show wpAny _ _ (field (.ref (n+4)) 2 >>= _) _ _ _;refine Qq (Qg hz rfl (x:=.bool false) rfl ?_);show wpAny _ _ (field (.ref (n+4)) 3 >>= _) _ _ _;refine Qq (Qg hz rfl (x:=.ref (n+2)) rfl ?_);refine Qq (Qi hI rfl ?_);show wpAny _ _ (Builtin.SmallTypes.ownedTupleIsFree (.ref (n+4)) >>= _) _ _ _;refine Qq ?_;unfold Builtin.SmallTypes.ownedTupleIsFree;refine Qq (Qg hz rfl (x:=.none) rfl (Qj ?_));simp only[if_true];refine Qq (Zj ?_);refine Qq (Qg hz rfl (x:=.ref (n+3)) rfl ?_);refine Qq (Q0 hz (by simp) λg1 Z u1=>?_)
 replace Z:IsZip g1 (n+4) (n+2) (n+3) .ellipsis:=Z
 have j:=u1.extBut;refine Qq ?_;simp only[List.zipIdx_cons,List.zipIdx_nil,Qjy,List.forIn_nil];refine Qq (Qq (Zt ?_)); show wpAny _ _ (Builtin.SmallTypes.nextOf (.ref n) >>= _) _ _ _
 cases hx:xs[i]? with
 |none=>
  refine Qq (qwi (s:={ s with heap:=g1 }) hh (h1.on λo e=>j _ o (by show @Ne Nat _ _; omega) e) (s1.on λo e=>j _ o (by show @Ne Nat _ _; omega) e) hx λg2 e J U=>?_);obtain⟨oe,z,L⟩:=U;have z2:IsZip g2 (n+4) (n+2) (n+3) .ellipsis:=J _ _ (by show @Ne Nat _ _; omega) Z;have ez:e≠n+4:=λq=>by subst q; rw[z2]at z; cases z; simp at L
  exact Q0 z2 (by simp) λg3 _ u3=>Y g3 e (λc o c1 _ c3 _ q=>u3.extBut _ _ c1 (J _ _ c3 (j _ _ c1 q))) ⟨oe,u3.extBut _ _ ez z,L⟩
 |some x=>
  have hy:ys[i]?=none:=by
   rcases O with h|h
   ·rw[hx]at h; cases h
   ·exact h
  refine Qq (qj3 (s:={ s with heap:=g1 }) (h1.on λo e=>j _ o (by show @Ne Nat _ _; omega) e) (s1.on λo e=>j _ o (by show @Ne Nat _ _; omega) e) hx λg2 i2 J c2=>Qj ?_);have O2:IsPair g2 (n+3) a b:=J _ _ (by show @Ne Nat _ _; omega) (j _ _ (by show @Ne Nat _ _; omega) hO);refine Qq (Qi O2 rfl ?_);refine Qq (qvx O2 λg3 O3 v3 c3=>?_);refine Qq (wpAny_letGo (Qj ?_));refine Qq (Qq (Zt ?_)); show wpAny _ _ (Builtin.SmallTypes.nextOf (.ref (n+1)) >>= _) _ _ _;refine Qq (qwi (s:={ s with heap:=g3 }) hh (h2.on λo e=>v3 _ o (by show @Ne Nat _ _; omega) (J _ o (by show @Ne Nat _ _; omega) (j _ o (by show @Ne Nat _ _; omega) e))) (s2.on λo e=>v3 _ o (by show @Ne Nat _ _; omega) (J _ o (by show @Ne Nat _ _; omega) (j _ o (by show @Ne Nat _ _; omega) e))) hy λg4 e v4 U=>?_);obtain⟨oe,z,L⟩:=U;have z4:IsZip g4 (n+4) (n+2) (n+3) .ellipsis:=v4 _ _ (by show @Ne Nat _ _; omega) (v3 _ _ (by show @Ne Nat _ _; omega) (J _ _ (by show @Ne Nat _ _; omega) Z));have ez:e≠n+4:=λq=>by subst q; rw[z4]at z; cases z; simp at L
  exact Q0 z4 (by simp) λg5 _ u5=>Y g5 e (λc o c1 c2 c3 c4 q=>u5.extBut _ _ c1 (v4 _ _ c4 (v3 _ _ c2 (J _ _ c3 (j _ _ c1 q))))) ⟨oe,u5.extBut _ _ ez z,L⟩
end
noncomputable def RK.itO(k:RK)(a:Addr):Obj:=match k with
 |.lst=>{ cls:=.type "list_iterator",data:=.fields #[.ref a,.int 0 0] }
 |.tup=>{ cls:=.type "tuple_iterator",data:=.fields #[.ref a,.int 0 0] }
theorem qy6{prog:Program}{w:Qk}{A:Qv}{E:Value->Qz->Prop}{s:Qz}{k:RK}{a:Addr}{xs:Array Value}{Q:Value->Qz->Prop}(j:k.Sq s.heap a xs)(z:Q (.ref s.heap.objs.size) { s with heap:=s.heap.push (k.itO a) }):wpAny (model prog w) A (pyIter (.ref a)) Q E s:=by
 cases k with
 |lst=>exact Zg j z
 |tup=>exact wpAny_pyIter_tuple j z
theorem row_new{h:Heap}{k:RK}{a:Addr}:k.It (h.push (k.itO a)) h.objs.size a 0:=by
 cases k with
 |lst=>exact⟨_,Qql _ rfl,rfl,rfl⟩
 |tup=>exact⟨_,Qql _ rfl,rfl,rfl⟩
noncomputable abbrev zh1(k1:RK)(h:Heap)(l1:Addr):Heap:=h.push (k1.itO l1)
noncomputable abbrev zh2(k1 k2:RK)(h:Heap)(l1 l2:Addr):Heap:=(zh1 k1 h l1).push (k2.itO l2)
noncomputable abbrev zh3(k1 k2:RK)(h:Heap)(l1 l2:Addr):Heap:=(zh2 k1 k2 h l1 l2).push { cls:=.type "tuple",data:=.seq #[.ref h.objs.size,.ref (zh1 k1 h l1).objs.size] }
noncomputable abbrev zh4(k1 k2:RK)(h:Heap)(l1 l2:Addr):Heap:=(zh3 k1 k2 h l1 l2).push { cls:=.type "tuple",data:=.seq #[.none,.none] }
noncomputable abbrev zh5(k1 k2:RK)(h:Heap)(l1 l2:Addr):Heap:=(zh4 k1 k2 h l1 l2).push { cls:=.type "zip",data:=.fields #[.none,.bool false,.bool false,.ref (zh2 k1 k2 h l1 l2).objs.size,.ref (zh3 k1 k2 h l1 l2).objs.size] }
theorem qe3(F J:RK)(j z:Addr)(xs ys:Array Value):Meets (Zx.«zip.__new__» ⟨[.type "zip",.ref j,.ref z],[]⟩) (λ_ R s=>F.Sq s.heap j xs/\J.Sq s.heap z ys/\R (.ok (.ret (.ref (zh4 F J s.heap j z).objs.size))) { s with heap:=zh5 F J s.heap j z }):=
 .of_wp λprog w A R s h=>by
  obtain⟨O,g,d,tk,os⟩:=s;obtain⟨Y,U,h⟩:=h;have L:=sub_zip;have Z:F.Sq (Shared.heap ⟨O,g,d,tk,os⟩) j xs:=Y;have L2:J.Sq (Shared.heap ⟨O.push (F.itO j),g,d,tk,os⟩) z ys:=U.on λo e=>Qqz _ e
  wp_walk using qy6 Z,qy6 L2
  exact⟨_,rfl,h⟩
def ZipAt(k1 k2:RK)(n l1 l2:Nat)(i:Nat)(h:Heap):Prop:=
 l1<n/\l2<n/\IsZip h (n+4) (n+2) (n+3) .none/\IsPair h (n+2) (.ref n) (.ref (n+1))/\(∃a b,IsPair h (n+3) a b)/\k1.It h n l1 i/\k2.It h (n+1) l2 i
theorem qex{prog:Program}{w:Qk}{A:Qv}{E:Value->Qz->Prop}{s:Qz}{J L:RK}{j z:Nat}{xs ys:Array Value}{Q:Value->Qz->Prop}(q1:J.Sq s.heap j xs)(q2:L.Sq s.heap z ys)(b1:j<s.heap.objs.size)(b2:z<s.heap.objs.size)
  (h:∀h',ZipAt J L s.heap.objs.size j z 0 h'->(∀c o,s.heap.get? c=some o->h'.get? c=some o)->Q (.ref (s.heap.objs.size+4)) { s with heap:=h' }):wpAny (model prog w) A (call (.type "zip") [.ref j,.ref z]) Q E s:=by
 refine callType_new F.called_zip (by decide) (F.typeCall_zip_2 _ _) (F.newCall_zip_2 _ _) (λobj=>F.args_object_init_3 obj _ _) F.entry_zip_new (qe3 J L j z xs ys) ⟨q1,q2,?_⟩;have Y:(zh1 J s.heap j).objs.size=s.heap.objs.size+1:=Qxw ..;have U:(zh2 J L s.heap j z).objs.size=s.heap.objs.size+2:=by rw[Qxw,Y]
 have O:(zh3 J L s.heap j z).objs.size=s.heap.objs.size+3:=by rw[Qxw,U]
 have z4:(zh4 J L s.heap j z).objs.size=s.heap.objs.size+4:=by rw[Qxw,O]
 have Z:(zh5 J L s.heap j z).get? (zh4 J L s.heap j z).objs.size=some _:=Qql _ rfl;have g4:(zh5 J L s.heap j z).get? (zh3 J L s.heap j z).objs.size=some _:=Qqz _ (Qql _ rfl);have g3:(zh5 J L s.heap j z).get? (zh2 J L s.heap j z).objs.size=some _:=Qqz _ (Qqz _ (Qql _ rfl));have g2:L.It (zh5 J L s.heap j z) (zh1 J s.heap j).objs.size z 0:=row_new.on λo e=>Qqz _ (Qqz _ (Qqz _ e));have g1:J.It (zh5 J L s.heap j z) s.heap.objs.size j 0:=row_new.on λo e=>Qqz _ (Qqz _ (Qqz _ (Qqz _ e)));show _/\_;rw[U,O,z4]at Z;rw[Y,U]at g3;rw[O]at g4;rw[Y]at g2;rw[z4];exact⟨⟨_,Z,rfl⟩,h _ ⟨b1,b2,Z,g3,⟨_,_,g4⟩,g1,g2⟩ λc o x=>Qqz _ (Qqz _ (Qqz _ (Qqz _ (Qqz _ x))))⟩
def RK.sq(k:RK)(K:Qqq)(H:Hp)(a:Addr)(xs:List V):Prop:=match k with
 |.lst=>SqL K H a xs
 |.tup=>SqT K H a xs
noncomputable def Itz(K:Qqq)(k1 k2:RK)(a b:Addr):It:=
 ⟨λi H=>∃xs ys x y,k1.sq K H a xs/\k2.sq K H b ys/\xs[i]?=some x/\ys[i]?=some y,
  λi H v H'=>∃p x y,v=.ref p/\H p=none/\H'=upd H p (.tup [x,y])/\(∀xs,k1.sq K H a xs->xs[i]?=some x)/\∀ys,k2.sq K H b ys->ys[i]?=some y,
  λi H=>∃xs ys,k1.sq K H a xs/\k2.sq K H b ys/\(xs.length<=i\/ys.length<=i)⟩
section
variable {X:Cx}{pins:List (Addr×Obj)}{σ:L2.St}{H:Hp}{s:Qz}
theorem qkd{k:RK}{a:Addr}{xs:List V}(I:Inv X pins σ H s)(q:k.sq X.K H a xs):∃j,Vals xs j/\k.Sq s.heap a j.toArray:=by
 cases k with
 |lst=>obtain⟨j,z,p,F⟩:=I.list q; exact⟨j,z,p.isList⟩
 |tup=>obtain⟨j,z,p,F⟩:=I.tuple q; exact⟨j,z,show s.heap.IsTuple a j.toArray from p⟩
theorem qcl{k:RK}{a:Addr}{xs ys:List V}(I:Inv X pins σ H s)(q:k.sq X.K H a xs)(j:k.sq X.K H a ys):xs=ys:=by
 cases k with
 |lst=>exact I.list_inj q j
 |tup=>exact I.tuple_inj q j
end
noncomputable def fpZ(n:Nat):List Addr:=[n+4,n+2,n+3,n,n+1]
theorem qe5{P:Program}{w:Qk}{K:Qqq}{Z:List Qx}{c:Nat}{pos:Pos}(k1 k2:RK)(n a b:Nat):Turn P w K (.Tuple Z c pos) (Itz K k1 k2 a b) (fpZ n) (n+4) (ZipAt k1 k2 n a b) where
 mem:=by simp[fpZ]
 obj:=λi h st e he=>by
  obtain⟨b1,b2,J,O,⟨x,y,L⟩,h1,h2⟩:=st;simp only[fpZ,Qqc,Qzc,or_false]at he;rcases he with rfl|rfl|rfl|rfl|rfl
  ·exact⟨_,J,λv z=>nomatch z⟩
  ·exact⟨_,O,λv z=>nomatch z⟩
  ·exact⟨_,L,λv z=>nomatch z⟩
  ·exact h1.obj
  ·exact h2.obj
 keep:=λi h h' st k=>by
  obtain⟨b1,b2,J,O,⟨x,y,L⟩,h1,h2⟩:=st;exact⟨b1,b2,k _ (by simp[fpZ]) _ J,k _ (by simp[fpZ]) _ O,⟨x,y,k _ (by simp[fpZ]) _ L⟩,h1.on λo e=>k _ (by simp[fpZ]) o e,h2.on λo e=>k _ (by simp[fpZ]) o e⟩
 item:=by
  intro X hP hw hK hc i pins s σ H E I hf st hg;subst hP hw hK;obtain⟨xs,ys,x,y,qx,qy,ex,ey⟩:=hg;obtain⟨b1,b2,J,O,⟨ua,ub,L⟩,h1,h2⟩:=st;obtain⟨vx,rx,sx⟩:=qkd I qx;obtain⟨vy,ry,sy⟩:=qkd I qy;obtain⟨u1,a9,a7⟩:=rx.get ex;obtain⟨u2,a8,a0⟩:=ry.get ey;refine zip_get b1 b2 J O L h1 h2 sx sy (x:=u1) (y:=u2) (by simpa using a9) (by simpa using a8) λh' a1 a2 a3 a4 a5 a6 kp=>⟨_,rfl,?_⟩
  refine wpAny_letOwnedTupleGo_zip (s:={ s with heap:=h' }) a1 λh9 c1 c2=>?_;have F:=c2.extBut;have lt:∀b∈fpZ n,b≠s.heap.objs.size:=λb j z=>by
   have q:b<s.heap.objs.size:=by
    simp only[fpZ,Qqc,Qzc,or_false]at j;rcases j with rfl|rfl|rfl|rfl|rfl
    ·exact Qqd J
    ·exact Qqd O
    ·exact Qqd L
    ·obtain⟨o,e,_⟩:=h1.obj; exact Qqd e
    ·obtain⟨o,e,_⟩:=h2.obj; exact Qqd e
   rw[z]at q;exact Qz9 _ q
  have nz:s.heap.objs.size≠n+4:=λz=>lt (n+4) (by simp[fpZ]) z.symm;have I1:Inv X pins σ H { s with heap:=h9,toks:=s.toks }:=Inv.turnedL (ch:=fpZ n) I (λb o j e=>F _ _ (λz=>j (by simp[fpZ,z])) (kp b o (λz=>j (by simp[fpZ,z])) (λz=>j (by simp[fpZ,z])) (λz=>j (by simp[fpZ,z])) (λz=>j (by simp[fpZ,z])) e)) hf;have fr:H s.heap.objs.size=none:=I.hok.fresh (Qqj _);have I2:Inv X pins σ (upd H s.heap.objs.size (.tup [x,y])) { s with heap:=h9,toks:=s.toks }:=Inv.track I1 (I.fpOk (Qqj _) fr) ⟨by show 2<=sizeLine; decide,[u1,u2],.cons a7 (.cons a0 .nil),⟨_,F _ _ nz a6,rfl,_,rfl⟩⟩;refine⟨.ref s.heap.objs.size,upd H s.heap.objs.size (.tup [x,y]),I2,rfl,⟨_,x,y,rfl,fr,rfl,λzs U=>?_,λzs U=>?_⟩,⟨b1,b2,c1,F _ _ (by show @Ne Nat _ _; omega) a2,⟨_,_,F _ _ (by show @Ne Nat _ _; omega) a3⟩,a4.on λo e=>F _ o (by show @Ne Nat _ _; omega) e,a5.on λo e=>F _ o (by show @Ne Nat _ _; omega) e⟩,λb j=>?_⟩
  ·rw[qcl I U qx]; exact ex
  ·rw[qcl I U qy]; exact ey
  ·rw[qzq (lt b j)]; exact(hf b j).1
 done:=by
  intro X hP hw hK hc i pins s σ H E I hf st hg;subst hP hw hK;obtain⟨xs,ys,qx,qy,Y⟩:=hg;obtain⟨b1,b2,J,O,⟨ua,ub,L⟩,h1,h2⟩:=st;obtain⟨vx,rx,sx⟩:=qkd I qx;obtain⟨vy,ry,sy⟩:=qkd I qy;have lx:=rx.length;have ly:=ry.length;refine qe2 (I.ok.hd hc) b1 b2 J O L h1 h2 sx sy ?_ λh' kp=>⟨rfl,Inv.turnedL (ch:=fpZ n) I (λb o j e=>kp b o (λz=>j (by simp[fpZ,z])) (λz=>j (by simp[fpZ,z])) (λz=>j (by simp[fpZ,z])) (λz=>j (by simp[fpZ,z])) e) hf⟩
  rcases Y with h|h
  ·exact .inl (by simp; omega)
  ·exact .inr (by simp; omega)
 self:=λ_ _ _ _ _ st h=>wpAny_pyIter_zip st.2.2.1 h
noncomputable def iZip(K:Qqq)(ta:TA):TI:=λσ H R=>ta σ H λvs H1=>∃(k1 k2:RK) (a b:Addr),vs=[.ref a,.ref b]/\(∃xs,k1.sq K H1 a xs)/\(∃ys,k2.sq K H1 b ys)/\R (Itz K k1 k2 a b) H1
theorem pi_zip{X:Cx}{a b:Qx}{U:TA}{p pos:Pos}{J:List Qx}{c:Nat}{z:Pos}(hg:Gl X "zip")(hm:X.mg "zip" = none)(ha:PA X [a,b] U)(hs:starEach [a,b] X.env=[(false,eval a X.env),(false,eval b X.env)]:=by rfl)(F:starEach [b] X.env=[(false,eval b X.env)]:=by rfl):
  PI X (.Tuple J c z) (.Call (.Name "zip" p) [a,b] [] pos) (iZip X.K U):=by
 intro pins s σ H R I h;refine Call_ (qkl I hg hm boot_zip (PyProof.Rows.callWith_type1 (thn (ha pos pins s σ H _ I h) λus j ⟨vs,H1,L,r1,q1⟩=>?_) (by rw[hs,F]) (by rw[F]; rfl)));obtain⟨k1,k2,a,b,e,⟨xs,qx⟩,⟨ys,qy⟩,q⟩:=q1;subst e
 cases r1 with
 |cons r O=>
  cases O with
  |cons r' O=>
   cases O;cases r;cases r';obtain⟨vx,rx,Z⟩:=qkd L qx;obtain⟨vy,ry,Y⟩:=qkd L qy;have la:a<j.heap.objs.size:=by
    cases k1<;>(obtain⟨o,e,_⟩:=Z; exact Qqd e)
   have lb:b<j.heap.objs.size:=by
    cases k2<;>(obtain⟨o,e,_⟩:=Y; exact Qqd e)
   refine qex Z Y la lb λh' st kp=>?_;refine wpAny_pyIter_zip (s:={ j with heap:=h' }) st.2.2.1 ?_;refine⟨j.heap.objs.size+4,fpZ j.heap.objs.size,_,_,H1,rfl,L.kept (t':=j.toks) kp,qe5 k1 k2 _ a b,st,λd hd=>?_,q⟩;have ld:j.heap.objs.size<=d:=by
    simp only[fpZ,Qqc,Qzc,or_false]at hd;rcases hd with rfl|rfl|rfl|rfl|rfl<;>(show @LE.le Nat _ _ _; omega)
   exact L.fpOk ld (L.hok.fresh ld)
end MS
end
section
namespace MS
open PySem PySem.Spec PyProof.Rows L2
section
variable {X:Cx}
end
end MS
end
section
namespace MS
open PySem PySem.Spec PyProof.Rows L2
inductive EntOk (prm:Qr):List Qu->List Str->List Value->Prop
 |nil:EntOk prm [] [] []
 |cons {k:Str}{t:Tok}{u:Value}{es:List Qu}{ks:List Str}{us:List Value}(h:EntOk prm es ks us):EntOk prm (⟨PyData.keyHash prm k,.str k t,u⟩::es) (k::ks) (u::us)
structure FDict (prm:Qr) (K:Qqq) (a:Addr) (ks:List Str) (ds:List M.D):Prop where
 ex:∃(us:List Value) (vs:List V) (es:Array Qu) (ep:Nat),K.lookup a=some { cls:=.type "dict",data:=.dict es ep }/\EntOk prm es.toList ks us/\Vals vs us/\∀m H,IsDs K m H ds vs
 nd:ks.Nodup
 ne:(a==Qn)=false
noncomputable def kzip{α:Type}(ks:List Str)(us:List α):List (Key×α):=(ks.map λk=>(Sum.inr k:Key)).zip us
theorem qal{P:Program}{w:Qk}:∀{es:List Qu}{ks:List Str}{us:List Value},EntOk w.params es ks us->(∀e∈es,∃k,(mixKind P w).is k e.key=true/\e.hash=(mixKind P w).hash k)/\PySem.Pairs (mixKind P w) es (kzip ks us)/\(kzip ks us).map (·.1)=ks.map λk=>(Sum.inr k:Key)
 |_,_,_,.nil=>⟨(λe h=>nomatch h),.nil,rfl⟩
 |_,_,_,.cons (k:=k) (t:=t) (u:=u) h=>by
  obtain⟨h1,h2,z⟩:=qal (P:=P) h;refine⟨λe j=>?_,?_,?_⟩
  ·rcases Qqc.mp j with q|q
   ·subst q;exact⟨.inr k,qq7 P w k t,rfl⟩
   ·exact h1 e q
  ·exact .cons (qq7 P w k t) rfl h2
  ·exact congrArg (List.cons (Sum.inr k:Key)) z
theorem qdt{X:Cx}{j:List (Addr×Obj)}{J:L2.St}{H:Hp}{s:Qz}{a:Addr}{ks:List Str}{ds:List M.D}(I:Inv X j J H s)(h:FDict X.w.params X.K a ks ds):
  ∃(us:List Value) (vs:List V),s.heap.DictOf (mixKind X.prog X.w) a (kzip ks us)/\Vals vs us/\(∀m H,IsDs X.K m H ds vs)/\ks.length=us.length:=by
 obtain⟨us,vs,es,Z,e1,F,e3,e4⟩:=h.ex;obtain⟨h1,h2,Y⟩:=qal (P:=X.prog) (w:=X.w) F;refine⟨us,vs,⟨_,es,Z,I.kIn a _ e1,⟨rfl,rfl,rfl⟩,rfl,λe U=>h1 e (by simpa using U),h2,?_⟩,e3,e4,?_⟩
 ·rw[Y];exact(Qz2.mpr (h.nd.imp λz O=>z (Sum.inr.inj O)))
 ·have:∀{es:List Qu}{ks:List Str}{us:List Value},EntOk X.w.params es ks us->ks.length=us.length:=by
   intro es ks us q
   induction q with
   |nil=>rfl
   |cons _ L=>rw[Qqh,Qqh,L]
  exact this F
theorem qlr{α:Type}(z:Str):∀(ks:List Str) (us:List α),((kzip ks us).find? λp=>decide (p.1=Sum.inr z)).map (·.2)=((ks.zip us).find? λq=>q.1==z).map (·.2)
 |[],us=>rfl
 |k::ks,[]=>rfl
 |k::ks,u::us=>by
  have j:=qlr z ks us;show((((Sum.inr k:Key),u)::kzip ks us).find? λp=>decide (p.1=Sum.inr z)).map (·.2)=(((k,u)::ks.zip us).find? λq=>q.1==z).map (·.2);rw[Qzq,Qzq]
  by_cases h:k=z
  ·have h1:decide ((Sum.inr k:Key)=Sum.inr z)=true:=by rw[h]; simp
   have h2:(k==z)=true:=by rw[h]; simp
   simp only[h1,h2]
   rfl
  ·have h1:decide ((Sum.inr k:Key)=Sum.inr z)=false:=Z1 λq=>h (Sum.inr.inj q);have h2:(k==z)=false:=by simpa using h
   simp only[h1,h2];exact j
theorem qdo{K:Qqq}(z:Str):∀{ks:List Str}{ds:List M.D}{vs:List V}{us:List Value},(∀m H,IsDs K m H ds vs)->Vals vs us->ks.length=us.length->
  (((ks.zip ds).find? λq=>q.1==z)=none/\((ks.zip us).find? λq=>q.1==z)=none/\ks.contains z=false)\/∃k d v u,((ks.zip ds).find? λq=>q.1==z)=some (k,d)/\((ks.zip us).find? λq=>q.1==z)=some (k,u)/\(∀m H,MS.IsD K m H d v)/\RelV v u/\ks.contains z=true
 |[],ds,vs,us,i,r,h=>.inl ⟨rfl,rfl,rfl⟩
 |k::ks,[],vs,us,i,r,h=>by
  rw[(i [] λ_=>none).nil]at r;cases r;cases h
 |k::ks,d::ds,vs,us,i,r,h=>by
  obtain⟨v,vr,e,_,_⟩:=(i [] λ_=>none).cons;subst e;have Z:∀m H,MS.IsD K m H d v:=λm H=>by
   obtain⟨J,j,e,q,_⟩:=(i m H).cons;cases e;exact q
  have Y:∀m H,IsDs K m H ds vr:=λm H=>by
   obtain⟨J,j,e,_,q⟩:=(i m H).cons;cases e;exact q
  cases r with
  |cons O L=>
   rename_i u us
   by_cases F:k=z
   ·subst F;refine .inr ⟨k,d,v,u,by simp,by simp,Z,O,by simp⟩
   ·have h2:(k==z)=false:=by simpa using F
    have h3:(z==k)=false:=by simpa using Ne.symm F
    have U:=qdo z (ks:=ks) Y L (by simpa using h);rw[List.zip_cons_cons,List.zip_cons_cons,Qzq,Qzq,List.contains_cons];simp only[h2,h3,Bool.false_or];exact U
section
variable {X:Cx}{b:Qx}{tb:TE}{pos p0:Pos}{x:Str}
theorem qi7{a:Addr}{ks:List Str}{ds:List M.D}(hg:Gl X x)(hm:X.mg x=some (.ref a))(hF:FDict X.w.params X.K a ks ds)(hd:(x==("__debug__" : Str))=false)(hb:PE X b tb)(hs:NoSl b):
  PE X (.Subscript (.Name x p0) b pos) (λσ H Q=>tb σ H λy H2=>∃z d,y=.str z/\(∃k,((ks.zip ds).find? λq=>q.1==z)=some (k,d))/\∀v,(∀m,MS.IsD X.K m H2 d v)->Q v H2):=by
 intro pins s σ H Q I h;refine qck PySem.F.slot_dict_getitem.lookup hs (thn (qw7 hg hm (show RelV (.ref a) (.ref a) from rfl) hd pins s σ H (λx H1=>x=.ref a/\tb σ H1 _) I ⟨rfl,h⟩) λu U ⟨x',H1,I1,Z,ex,q1⟩=>?_);subst ex;cases Z;refine thn (hb pins U σ H1 _ I1 q1) λiv s2 ⟨y,H2,L,Y,z,d,ey,⟨k,j⟩,q2⟩=>?_;subst ey;obtain⟨O,vs,J,rv,hI,hl⟩:=qdt L hF;refine⟨J.typeIs,?_⟩;rcases qdo z hI rv hl with⟨n1,_,_⟩|⟨k',d',F,u',f1,f2,f3,f4,_⟩
 ·rw[n1]at j; cases j
 ·rw[f1]at j;cases j;have hw:valueAt (kzip ks O) (Sum.inr z)=some u':=by
   unfold valueAt;rw[qlr,f2]
   rfl
  exact wpAny_getItem_of (qva (k:=.inr z) Y) J.mapOf hw ⟨F,H2,L.tok _,f4,q2 F λm=>f3 m H2⟩
theorem gd_has{X:Cx}{j:List (Addr×Obj)}{J:L2.St}{H:Hp}{s:Qz}{a:Addr}{ks:List Str}{ds:List M.D}(I:Inv X j J H s)(hF:FDict X.w.params X.K a ks ds)(z:Str):
  ∃F,s.heap.DictOf (mixKind X.prog X.w) a (kzip ks F)/\(valueAt (kzip ks F) (Sum.inr z)).isSome=ks.contains z:=by
 obtain⟨F,vs,dd,L,Z,Y⟩:=qdt I hF;refine⟨F,dd,?_⟩;unfold valueAt;rw[qlr];rcases qdo z Z L Y with⟨_,U,O⟩|⟨k',d',v',u',f1,f2,f3,f4,f5⟩
 ·rw[U,O]; rfl
 ·rw[f2,f5]; rfl
theorem pc_gin{a:Addr}{ks:List Str}{ds:List M.D}(neg:Bool)(hg:Gl X x)(hm:X.mg x=some (.ref a))(j:FDict X.w.params X.K a ks ds)(hd:(x==("__debug__" : Str))=false)(hb:PE X b tb):
  PC X (if neg then .NotIn else .In) b (.Name x p0) (λσ H Q=>tb σ H λy H2=>∃z,y=.str z/\Q (.bl (ks.contains z != neg)) H2):=by
 intro pins s σ H Q I h;refine thn (hb pins s σ H _ I h) λiv Y ⟨y,H1,I1,J,z,ey,q1⟩=>?_;subst ey;refine thn (qw7 hg hm (show RelV (.ref a) (.ref a) from rfl) hd pins Y σ H1 (λx H2=>x=.ref a/\Q (.bl (ks.contains z != neg)) H2) I1 ⟨rfl,q1⟩) λu s2 ⟨x',H2,F,Z,ex,L⟩=>?_;subst ex;cases Z;obtain⟨us,U,O⟩:=gd_has F j z
 cases neg with
 |false=>
  refine wpAny_in_of (qva (k:=.inr z) J) j.ne U.mapOf ?_;rw[O];refine⟨.bl _,H2,F.tok _,rfl,?_⟩;simpa using L
 |true=>
  refine wpAny_notIn_of (qva (k:=.inr z) J) j.ne U.mapOf ?_;rw[O];refine⟨.bl _,H2,F.tok _,rfl,?_⟩;simpa using L
open M (D Cell Store Sl)
theorem qvz{a:Addr}{ks:List Str}{ds:List D}{fb:Sl->Store->Option (D×Store)}(neg:Bool)(U:Gl X x)(O:X.mg x=some (.ref a))(Z:FDict X.w.params X.K a ks ds)(hd:(x==("__debug__" : Str))=false)(Y:PE X b (tD X.K fb)):
  PC X (if neg then .NotIn else .In) b (.Name x p0) (tD X.K λτ st=>(fb τ st).bind λp=>match p.1 with
   |.str z=>some (.bl (ks.contains z != neg),p.2)
   |_=>none):=by
 intro pins s σ H Q I h;refine pc_gin neg U O Z hd Y pins s σ H Q I ?_;refine h.el λm st τ d st' R0 S0 e q=>?_;obtain⟨j,J,e1,e⟩:=qzc e;refine⟨m,st,τ,j,J,R0,S0,e1,λy m1 H1 b1 F R1 L=>?_⟩
 cases j with
 |str z=>
  cases e;exact⟨z,L.str,q _ m1 H1 b1 F R1 (mkBl _)⟩
 |_=>cases e
theorem qfu{a:Addr}{ks:List Str}{ds:List D}{fb:Sl->Store->Option (D×Store)}(Z:Gl X x)(Y:X.mg x=some (.ref a))(hF:FDict X.w.params X.K a ks ds)(hd:(x==("__debug__" : Str))=false)(hb:PE X b (tD X.K fb))(U:NoSl b):
  PE X (.Subscript (.Name x p0) b pos) (tD X.K λτ st=>(fb τ st).bind λp=>match p.1 with
   |.str z=>((ks.zip ds).find? λq=>q.1==z).map λq=>(q.2,p.2)
   |_=>none):=by
 refine(qi7 Z Y hF hd hb U).imp λσ H Q h=>?_;refine h.el λm st τ d st' R0 S0 e q=>?_;obtain⟨j,J,e1,e⟩:=qzc e;refine⟨m,st,τ,j,J,R0,S0,e1,λy m1 H1 b1 F R1 L=>?_⟩
 cases j with
 |str z=>
  obtain⟨w,e2,e3⟩:=mapD e;cases e3;exact⟨z,w.2,L.str,⟨w.1,e2⟩,λv O=>q _ m1 H1 b1 F R1 (O m1)⟩
 |_=>cases e
theorem qd5{K:Qqq}{m:List Addr}{H:Hp}{kvs:List (D×D)}{xs:List (Key×V)}{z:D}{y:V}{a:Addr}(O:M.isKey z=true)(F:IsKV K m H kvs xs)(U:Rd H a (.dK xs))(J:MS.IsD K m H z y):
  ∃o,DGet H a y o/\((M.dget kvs z=none/\o=none)\/∃d v,M.dget kvs z=some d/\o=some v/\MS.IsD K m H d v):=by
 obtain⟨k,j⟩:=qxy O;have L:=qlt j J;subst L;refine⟨valV xs k,.inl ⟨xs,k,U,rfl,rfl⟩,?_⟩;rcases F.get j with⟨h1,h2⟩|⟨d,v,h1,h2,Y⟩
 ·exact .inl ⟨h1,h2⟩
 ·exact .inr ⟨d,v,h1,h2,Y⟩
theorem qvq{a:Qx}{fa fb:Sl->Store->Option (D×Store)}(O:X.A.units+1<cLine)(neg:Bool)(Y:PE X a (tD X.K fa))(U:PE X b (tD X.K fb)):
  PC X (if neg then .NotIn else .In) a b (tD X.K λτ st=>(fa τ st).bind λp=>(fb τ p.2).bind λq=>match q.1 with
   |.loc l=>(M.dicAt q.2 l).bind λkvs=>if M.isKey p.1 then some (.bl ((M.dget kvs p.1).isSome != neg),q.2) else none
   |_=>none):=by
 have key:∀{σ:L2.St}{H:Hp}{Q:VK},tD X.K (λτ st=>(fa τ st).bind λp=>(fb τ p.2).bind λq=>match q.1 with
   |.loc l=>(M.dicAt q.2 l).bind λkvs=>if M.isKey p.1 then some (.bl ((M.dget kvs p.1).isSome != neg),q.2) else none
   |_=>none) σ H Q->tD X.K fa σ H λy H1=>tD X.K fb σ H1 λx H2=>∃a o,x=.ref a/\DGet H2 a y o/\Q (.bl (o.isSome != neg)) H2:=by
  intro σ H Q h;refine h.el λm st τ d st' R0 S0 e q=>?_;obtain⟨d1,L,e1,e⟩:=qzc e;obtain⟨Z,s2,e2,e⟩:=qzc e;refine⟨m,st,τ,d1,L,R0,S0,e1,λy m1 H1 b1 J R1 i1=>⟨m1,L,τ,Z,s2,R1,S0.mono b1 J,e2,λz m2 H2 b2 F R2 i2=>?_⟩⟩
  cases Z with
  |loc l=>
   obtain⟨kvs,e3,e⟩:=qzy e
   split at e
   ·rename_i hk;cases e;obtain⟨a',xs,_,rfl,hH,j⟩:=R2.dict e3 i2;obtain⟨o,g,hg⟩:=qd5 hk j hH (qzk b2 F _ _ i1);refine⟨a',o,rfl,g,?_⟩;have e4:o.isSome=(M.dget kvs d1).isSome:=by
     rcases hg with⟨h1,h2⟩|⟨d,v,h1,h2,_⟩
     ·rw[h1,h2]; rfl
     ·rw[h1,h2]; rfl
    rw[e4];exact q _ m2 H2 (b1.trans b2) (J.trans F) R2 (mkBl _)
   ·cases e
  |_=>cases e
 cases neg with
 |false=>
  intro pins s σ H Q I h;refine pc_din O Y U pins s σ H Q I ?_;have:=key h;simpa only[tDIn,Bool.bne_false] using this
 |true=>
  intro pins s σ H Q I h;refine qc0 O Y U pins s σ H Q I ?_;have:=key h;simpa only[qcx,Bool.bne_true] using this
theorem qf0{a:Qx}{fa fb:Sl->Store->Option (D×Store)}(hu:X.A.units+1<cLine)(ha:PE X a (tD X.K fa))(hb:PE X b (tD X.K fb))(hs:NoSl b):
  PE X (.Subscript a b pos) (tD X.K λτ st=>(fa τ st).bind λp=>(fb τ p.2).bind λq=>match p.1 with
   |.loc l=>(M.dicAt q.2 l).bind λkvs=>if M.isKey q.1 then(M.dget kvs q.1).map λd=>(d,q.2) else none
   |_=>none):=by
 refine(qi9 hu ha hb hs).imp λσ H Q h=>?_;refine h.el λm st τ d st' R0 Y e q=>?_;obtain⟨U,O,e1,e⟩:=qzc e;obtain⟨d2,Z,e2,e⟩:=qzc e;refine⟨m,st,τ,U,O,R0,Y,e1,λy m1 H1 b1 L R1 i1=>⟨m1,O,τ,d2,Z,R1,Y.mono b1 L,e2,λz m2 H2 b2 J R2 i2=>?_⟩⟩
 cases U with
 |loc l=>
  obtain⟨kvs,e3,e⟩:=qzy e
  split at e
  ·rename_i hk;obtain⟨w,j,e5⟩:=mapD e;cases e5;obtain⟨a',xs,_,rfl,hH,F⟩:=R2.dict e3 (qzk b2 J _ _ i1);obtain⟨o,g,hg⟩:=qd5 hk F hH i2;rcases hg with⟨h1,h2⟩|⟨d,v,h1,h2,h3⟩
   ·rw[h1]at j; cases j
   ·rw[h1]at j;cases j;subst h2;exact⟨a',v,rfl,g,q _ m2 H2 (b1.trans b2) (L.trans J) R2 h3⟩
  ·cases e
 |_=>cases e
end
end MS
end
section
namespace MS
open PySem PySem.Spec PyProof.Rows L2
section
variable {prog:Program}{w:Qk}{A:Qv}{E:Value->Qz->Prop}{s:Qz}{x:Str}{t:Tok}{Q:Value->Qz->Prop}
end
section
variable {X:Cx}
open M (D Cell Store Sl)
end
end MS
end
section
namespace MS
open PySem PySem.Spec PyProof.Rows L2
open M (D Cell Store Sl)
section
variable {K:Qqq}{m m1:List Addr}{H H1:Hp}
mutual
theorem qdf:∀(d:D) (v:V),M.noLoc d=true->MS.IsD K m1 H1 d v->MS.IsD K m H1 d v
 |.non,_,_,h=>by rw[h.non]; exact qyz
 |.bl _,_,_,h=>by rw[h.bl]; exact mkBl _
 |.int _,_,_,h=>by rw[h.int]; exact mkInt _
 |.str _,_,_,h=>by rw[h.str]; exact mkStr _
 |.tup ds,_,n,h=>by
  obtain⟨a,xs,rfl,q,r⟩:=h.tup;unfold M.noLoc at n;exact qq6 q (qjs ds xs n r)
 |.lst ds,_,n,h=>by
  obtain⟨a,xs,rfl,q,r⟩:=h.lst;unfold M.noLoc at n;exact qbk q (qjs ds xs n r)
 |.loc l,_,n,h=>by unfold M.noLoc at n; cases n
theorem qjs:∀(ds:List D) (xs:List V),M.noLocs ds=true->IsDs K m1 H1 ds xs->IsDs K m H1 ds xs
 |[],_,_,h=>by rw[h.nil]; exact qqx
 |d::ds,_,n,h=>by
  obtain⟨x,r,rfl,q,t⟩:=h.cons;unfold M.noLocs at n;rw[Qqm]at n;exact qzm (qdf d x n.1 q) (qjs ds r n.2 t)
end
mutual
theorem qjq(s:Sub m m1):∀(d:D) (v F:V),MS.IsD K m H d v->MS.IsD K m1 H1 d F->MS.IsD K m H1 d F
 |.non,_,_,_,h=>by rw[h.non]; exact qyz
 |.bl _,_,_,_,h=>by rw[h.bl]; exact mkBl _
 |.int _,_,_,_,h=>by rw[h.int]; exact mkInt _
 |.str _,_,_,_,h=>by rw[h.str]; exact mkStr _
 |.tup ds,_,_,h0,h=>by
  obtain⟨a,xs,rfl,q,r⟩:=h.tup;obtain⟨z,j,_,_,r0⟩:=h0.tup;exact qq6 q (qqr s ds j xs r0 r)
 |.lst ds,_,_,h0,h=>by
  obtain⟨a,xs,rfl,q,r⟩:=h.lst;obtain⟨z,j,_,_,r0⟩:=h0.lst;exact qbk q (qqr s ds j xs r0 r)
 |.loc l,_,_,h0,h=>by
  obtain⟨z,J,_⟩:=h0.loc;obtain⟨a,e,rfl⟩:=h.loc;have:=s l z J;rw[e]at this;cases this;exact qf4 J
theorem qqr(s:Sub m m1):∀(ds:List D) (xs j:List V),IsDs K m H ds xs->IsDs K m1 H1 ds j->IsDs K m H1 ds j
 |[],_,_,_,h=>by rw[h.nil]; exact qqx
 |d::ds,_,_,h0,h=>by
  obtain⟨x,r,rfl,q,t⟩:=h.cons;obtain⟨z,r0,rfl,J,F⟩:=h0.cons;exact qzm (qjq s d z x J q) (qqr s ds r0 r F t)
end
theorem qjr(s:Sub m m1):∀(kvs:List (D×D)) (xs j:List (Key×V)),IsKV K m H kvs xs->IsKV K m1 H1 kvs j->IsKV K m H1 kvs j
 |[],_,_,_,h=>h
 |p::r,_,_,⟨k0,v0,J,e0,Y,z,F⟩,⟨k,v,L,e,Z,O,U⟩=>⟨k,v,L,e,Z,qjq s _ _ _ z O,qjr s r _ _ F U⟩
theorem qwc(s:Sub m m1):∀(fs:List (Str×D)) (ys j:List (Str×V)),IsFs K m H fs ys->IsFs K m1 H1 fs j->IsFs K m H1 fs j
 |[],_,_,_,h=>h
 |p::r,_,_,⟨v0,J,Y,z,F⟩,⟨v,L,e,O,U⟩=>⟨v,L,e,qjq s _ _ _ z O,qwc s r _ _ F U⟩
theorem qgq(s:Sub m m1){c:Cell}{a:Addr}(F:IsC K m H c a)(h:IsC K m1 H1 c a):IsC K m H1 c a:=by
 cases c with
 |lst w ds=>
  cases w with
  |true=>
   obtain⟨xs,e,q⟩:=h;obtain⟨z,_,j⟩:=F;exact⟨xs,e,qqr s _ _ _ j q⟩
  |false=>
   obtain⟨xs,e,q⟩:=h;obtain⟨z,_,j⟩:=F;exact⟨xs,e,qqr s _ _ _ j q⟩
 |dic w kvs=>
  cases w with
  |true=>
   obtain⟨xs,e,q⟩:=h;obtain⟨z,_,j⟩:=F;exact⟨xs,e,qjr s _ _ _ j q⟩
  |false=>
   obtain⟨o,xs,e,q⟩:=h;obtain⟨_,z,_,j⟩:=F;exact⟨o,xs,e,qjr s _ _ _ j q⟩
 |obj C fs=>
  obtain⟨dx,ys,e,q⟩:=h;obtain⟨_,J,_,j⟩:=F;exact⟨dx,ys,e,qwc s _ _ _ j q⟩
theorem pre_at{st st0:Store}(h:st0.take st.length=st){l:Nat}{c:Cell}(e:st[l]?=some c):st0[l]?=some c:=by
 have j:=(Qqv.mp e).1;rw[<- h,Qx2,Z3 j]at e;exact e
theorem Rel.cutBack{st st0:Store}(z:Rel K m st H)(J:Rel K m1 st0 H1)(s:Sub m m1)(h:st0.take st.length=st){H2:Hp}(t:Tr H1 H2)(F:∀(l:Nat) (c:Cell) (a:Addr),st[l]?=some c->m[l]?=some a->Wr c=true->H2 a=H1 a):Rel K m st H2:=
 ⟨z.len,z.nd,λl c a e j=>qjx (Sub.refl m) t (qgq s (z.cell l c a e j) (J.cell l c a (pre_at h e) (s l a j))) λw=>F l c a e j w⟩
mutual
theorem qyw(s:Sub m m1):∀(d:D) (v:V),M.lt m.length d=true->IsD K m1 H d v->IsD K m H d v
 |.non,_,_,h=>h
 |.bl _,_,_,h=>h
 |.int _,_,_,h=>h
 |.str _,_,_,h=>h
 |.tup ds,_,j,h=>by
  unfold M.lt at j;obtain⟨a,xs,rfl,q,r⟩:=h.tup;exact qq6 q (qxa s ds xs j r)
 |.lst ds,_,j,h=>by
  unfold M.lt at j;obtain⟨a,xs,rfl,q,r⟩:=h.lst;exact qbk q (qxa s ds xs j r)
 |.loc l,_,j,h=>by
  unfold M.lt at j;obtain⟨a,e,rfl⟩:=h.loc;have j:l<m.length:=by simpa[Nat.blt_eq] using j
  have F:m[l]?=some m[l]:=by simp
  have z:=s l _ F;rw[e]at z;cases z;exact qf4 F
theorem qxa(s:Sub m m1):∀(ds:List D) (xs:List V),M.lts m.length ds=true->IsDs K m1 H ds xs->IsDs K m H ds xs
 |[],_,_,h=>h
 |d::ds,_,j,h=>by
  unfold M.lts at j;rw[Qqm]at j;obtain⟨x,r,rfl,q,t⟩:=h.cons;exact qzm (qyw s d x j.1 q) (qxa s ds r j.2 t)
end
theorem qvb(s:Sub m m1):∀(kvs:List (D×D)) (xs:List (Key×V)),(kvs.all λp=>M.lt m.length p.2)=true->IsKV K m1 H kvs xs->IsKV K m H kvs xs
 |[],_,_,h=>h
 |p::r,_,j,⟨k,v,z,e,L,F,J⟩=>by
  rw[Qxc,Qqm]at j;exact⟨k,v,z,e,L,qyw s _ _ j.1 F,qvb s r z j.2 J⟩
theorem qaf(s:Sub m m1):∀(fs:List (Str×D)) (ys:List (Str×V)),(fs.all λp=>M.lt m.length p.2)=true->IsFs K m1 H fs ys->IsFs K m H fs ys
 |[],_,_,h=>h
 |p::r,_,j,⟨v,z,e,F,J⟩=>by
  rw[Qxc,Qqm]at j;exact⟨v,z,e,qyw s _ _ j.1 F,qaf s r z j.2 J⟩
theorem ql6(s:Sub m m1){c:Cell}{a:Addr}(j:M.ltC m.length c=true)(h:IsC K m1 H c a):IsC K m H c a:=by
 cases c with
 |lst w ds=>
  cases w with
  |true=>obtain⟨xs,e,q⟩:=h; exact⟨xs,e,qxa s _ _ j q⟩
  |false=>obtain⟨xs,e,q⟩:=h; exact⟨xs,e,qxa s _ _ j q⟩
 |dic w kvs=>
  cases w with
  |true=>obtain⟨xs,e,q⟩:=h; exact⟨xs,e,qvb s _ _ j q⟩
  |false=>obtain⟨o,xs,e,q⟩:=h; exact⟨o,xs,e,qvb s _ _ j q⟩
 |obj C fs=>obtain⟨dx,ys,e,q⟩:=h; exact⟨dx,ys,e,qaf s _ _ j q⟩
def GcOk(st st0:Store):Prop:=(st0.take st.length).all (M.ltC st.length)=true\/st0.take st.length=st
theorem gc_el{st:Store}{p q:D×Store}(e:M.gcD st p=q):p=q\/(GcOk st p.2/\M.gcX st.length p=q):=by
 unfold M.gcD at e
 split at e
 ·rename_i h; exact .inr ⟨.inl h,e⟩
 ·split at e
  ·rename_i h; exact .inr ⟨.inr h,e⟩
  ·exact .inl e
theorem qjy{st0:Store}{n l:Nat}{c:Cell}(e:(st0.take n)[l]?=some c):l<n/\st0[l]?=some c:=by
 rw[Qx2]at e
 split at e
 ·rename_i h; exact⟨h,e⟩
 ·cases e
theorem Rel.cut{st st0:Store}(O:Rel K m st H)(F:Rel K m1 st0 H1)(s:Sub m m1)(h:GcOk st st0){H2:Hp}(t:Tr H1 H2)(L:∀(l:Nat) (c:Cell) (a:Addr),(st0.take st.length)[l]?=some c->m[l]?=some a->Wr c=true->H2 a=H1 a):Rel K m (st0.take st.length) H2:=by
 rcases h with h|h
 ·have Z:=O.len;have a0:m.length<=m1.length:=by
   rcases Qz8 m1.length m.length with z|z
   ·have J:m[m1.length]?=some (m[m1.length]'z):=by simp
    have:=(Qqv.mp (s _ _ J)).1;omega
   ·exact z
  have h1:=F.len;refine⟨by rw[Qq9]; omega,λl Y a c c' e1 J e3 e4 w U=>F.nd l Y a c c' (s _ _ e1) (s _ _ J) (qjy e3).2 (qjy e4).2 w U,λl c a e j=>?_⟩;refine qjx (Sub.refl m) t (ql6 s ?_ (F.cell l c a (qjy e).2 (s l a j))) λw=>L l c a e j w;have:=Qza.mp h c (Qqr e);rw[Z]; exact this
 ·rw[h];exact O.cutBack F s h t λl c a e j w=>L l c a (by rw[h]; exact e) j w
end
section
variable {X:Cx}
theorem qko{j:List (Addr×Obj)}{s:Qz}{J:L2.St}{H:Hp}{a:Addr}{xs:List V}(I:Inv X j J H s)(h:H a=some (.lst xs)):∃o,Inv X j J (upd H a (.frz o (.lst xs))) s:=by
 obtain⟨z,F,n,r,e⟩:=id (I.hok a _ h);refine⟨{ cls:=.type "list",data:=.seq F.toArray n },I.un (t':=s.toks) (h':=s.heap) ⟨λb o q _ _ _=>q,λb o q _ _ _=>⟨o.slots,q⟩,λb o q hn _=>?_,λb o q _=>⟨o,q⟩,λb ys q=>?_,λb o u q=>?_,λb ps q=>⟨#[],?_⟩⟩ ?_⟩
 ·rw[qzq (λz=>by subst z; rw[h]at hn; cases hn)];exact hn
 ·rw[qzq (qzo q h (by intro z; cases z))]; exact q
 ·rw[qzq (qzo q h (by intro z; cases z))]; exact q
 ·rw[qzq (qzo q h (by intro z; cases z)),q]; simp
 ·intro b u q
  by_cases L:b=a
  ·subst L;rw[qzx]at q;cases q;exact⟨e,z,F,n,r,e⟩
  ·rw[qzq L]at q;refine(I.hok b u q).stay (λc v _ w=>w) (λc w=>?_) λc ys w=>?_
   ·rw[qzq (qzo w h (by intro z; cases z))]; exact w
   ·rw[qzq (qzo w h (by intro z; cases z))]; exact w
theorem ql7{j:List (Addr×Obj)}{s:Qz}{F:L2.St}{H:Hp}{a:Addr}{xs:List (Key×V)}(I:Inv X j F H s)(h:H a=some (.dK xs)):∃o,s.heap.get? a=some o/\Inv X j F (upd H a (.frz o (.dK xs))) s:=by
 have ok:=I.hok a _ h;obtain⟨_,_,vs,_,o,es,O,J,_⟩:=id ok;refine⟨o,J,I.un (t':=s.toks) (h':=s.heap) ⟨λb o q _ _ _=>q,λb o q _ _ _=>⟨o.slots,q⟩,λb o q hn _=>?_,λb o q _=>⟨o,q⟩,λb ys q=>?_,λb o u q=>?_,λb ps q=>⟨#[],?_⟩⟩ ?_⟩
 ·rw[qzq (λz=>by subst z; rw[h]at hn; cases hn)];exact hn
 ·rw[qzq (qzo q h (by intro z; cases z))]; exact q
 ·rw[qzq (qzo q h (by intro z; cases z))]; exact q
 ·rw[qzq (qzo q h (by intro z; cases z)),q]; simp
 ·intro b u q
  by_cases L:b=a
  ·subst L;rw[qzx]at q;cases q;exact⟨J,ok⟩
  ·rw[qzq L]at q;refine(I.hok b u q).stay (λc v _ w=>w) (λc w=>?_) λc ys w=>?_
   ·rw[qzq (qzo w h (by intro z; cases z))]; exact w
   ·rw[qzq (qzo w h (by intro z; cases z))]; exact w
def NoFz(X:Cx)(a:Addr):Prop:=∀o u,X.H₀ a≠some (.frz o u)
theorem qle{j:List (Addr×Obj)}{s:Qz}{F:L2.St}{H:Hp}{a:Addr}{xs:List (Key×V)}(I:Inv X j F H s)(h:H a=some (.dK xs)):NoFz X a:=λo u z=>by
 have:=I.base.frzs a o u z;rw[h]at this;cases this
theorem qag{F:List (Addr×Obj)}{s:Qz}{L:L2.St}{H:Hp}{a:Addr}{o:Obj}{xs:List (Key×V)}(I:Inv X F L H s)(U:NoFz X a)(h:H a=some (.frz o (.dK xs))):Inv X F L (upd H a (.dK xs)) s:=by
 have ok:=I.hok a _ h;have j:∀{b:Addr},H b=none->(upd H a (.dK xs)) b=none:=λ{b} q=>by
  rw[qzq (λz=>by subst z; rw[h]at q; cases q)];exact q
 refine⟨I.ok,I.os,I.bare,⟨I.base.keep,I.base.slot,λb o q hn Y=>j (I.base.free b o q hn Y),I.base.there,λb ys q=>?_,λb o u q=>?_,λb ps q=>?_⟩,I.loc,I.cell,j I.free,λx c q=>j (I.freeC x c q),λp Z=>?_,?_,I.len⟩
 ·have:=I.base.tups b ys q;rw[qzq (qzo this h (by intro z; cases z))]; exact this
 ·have:=I.base.frzs b o u q
  by_cases J:b=a
  ·subst J; exact absurd q (U o u)
  ·rw[qzq J]; exact this
 ·obtain⟨more,this⟩:=I.base.tbls b ps q;exact⟨more,by rw[qzq (qzo this h (by intro z; cases z))]; exact this⟩
 ·obtain⟨p1,p2,O⟩:=I.pin p Z;exact⟨p1,j p2,O⟩
 ·intro b u q
  by_cases J:b=a
  ·subst J;rw[qzx]at q;cases q;exact ok.2
  ·rw[qzq J]at q;refine(I.hok b u q).stay (λc v _ w=>w) (λc w=>?_) λc ys w=>?_
   ·rw[qzq (qzo w h (by intro z; cases z))]; exact w
   ·rw[qzq (qzo w h (by intro z; cases z))]; exact w
theorem Tr.lay{H:Hp}{a:Addr}{o:Obj}{xs:List V}(j:H a=some (.lst xs)):Tr H (upd H a (.frz o (.lst xs))):=
 ⟨λb zs e=>by rw[qzq (qzo e j (by intro z; cases z))]; exact e,λb o u e=>by rw[qzq (qzo e j (by intro z; cases z))]; exact e⟩
theorem pe_gc{p:Qx}{f:Sl->Store->Option (D×Store)}(he:PE X p (tD X.K f)):PE X p (tD X.K λτ st=>(f τ st).map λq=>M.gcD st q):=by
 intro pins s σ H Q I h;refine h.el λm st τ d st' Y S0 e q=>?_;obtain⟨⟨U,st0⟩,e1,e2⟩:=mapD e;refine thn (he pins s σ H (λv H1=>∃m1,Sub m m1/\Tr H H1/\Rel X.K m1 st0 H1/\MS.IsD X.K m1 H1 U v) I ⟨m,st,τ,U,st0,Y,S0,e1,λv m1 H1 b1 F j J=>⟨m1,b1,F,j,J⟩⟩) λv s1 ⟨x,H1,Z,O,m1,b1,F,j,J⟩=>?_;have plain:(U,st0)=(d,st')->EP X pins σ Q v s1:=λz=>by
  cases z;exact⟨x,H1,Z,O,q x m1 H1 b1 F j J⟩
 rcases gc_el e2 with z|⟨ok,z⟩
 ·exact plain z
 ·unfold M.gcX at z
  split at z
  ·rename_i hn;cases z;exact⟨x,H1,Z,O,q x m H1 (Sub.refl m) F (Y.cut j b1 ok (Tr.refl H1) λ_ _ _ _ _ _=>rfl) (qdf _ _ hn J)⟩
  ·split at z
   ·rename_i l hd;simp only at hd
    split at z
    ·rename_i hl
     split at z
     ·rename_i ds hc
      split at z
      ·rename_i hn;cases z;subst hd;obtain⟨a,ha,rfl⟩:=J.loc;obtain⟨xs,hx,ix⟩:=j.cell l _ a hc ha;obtain⟨o,I2⟩:=qko Z hx;have L:=Tr.lay (o:=o) hx;refine⟨.ref a,_,I2,O,q _ m _ (Sub.refl m) (F.trans L) (Y.cut j b1 ok L λl' c a' e ea w=>?_) ?_⟩
       ·refine qzq λz=>?_;subst z;have h3:=qjy e;have:=j.nd l' l a' c _ (b1 l' a' ea) ha h3.2 hc w rfl;omega
       ·exact qbk (.inl ⟨o,qzx⟩) (qjs _ _ hn (qza (Sub.refl m1) L _ _ ix))
      ·exact plain z
     ·exact plain z
    ·exact plain z
   ·exact plain z
end
end MS
end
section
namespace MS
open PySem PySem.Spec PyProof.Rows L2
open M (D Cell Store Sl)
theorem qwv(l:Addr)(items:Array Value)(n:Nat)(b:Addr)(items2:Array Value)(U:Nat)(L:Option Addr)(j:Array (Option Value))(Y:¬(!items.isEmpty&&Builtin.List.listTooLong (items.size+items2.size))=true)(J:items.size<=sizeLine)(F:items.size+items2.size<=sizeLine+1):
  Meets (Zx.«list.extend» ⟨[.ref l,.ref b],[]⟩) (λ_ R s=>s.heap.get? l=some { cls:=.type "list",dict:=none,data:=.seq items n,slots:=#[] }/\s.heap.get? b=some { cls:=.type "list",dict:=L,data:=.seq items2 U,slots:=j }/\R (.ok (.ret Value.none)) { s with heap:=s.heap.update l (Obj.mapSeq λx=>x++items2),toks:=s.toks }):=
 .of_wp λprog w A R s h=>by
  obtain⟨hp,g,d,tk,os⟩:=s; obtain⟨O,Z,h⟩:=h; have f1:=AutoSeq1.idx_int; have f2:=AutoSeq1.sub_tuple_tuple; have f3:=AutoSeq1.sub_list_list; have f4:=AutoSeq1.sub_tuple_list; have f5:=AutoSeq1.sub_list_tuple;have z:(items++items2).size<=sizeLine+1:=by rw[Qjt]; exact F
  wp_walk using (wpAny_updateSeq O rfl (hz:=J) (_hz':=z)),Zy O,Zy Z; exact⟨_,rfl,h⟩
theorem qww(l:Addr)(items:Array Value)(n:Nat)(b:Addr)(items2:Array Value)(U:Nat)(L:Option Addr)(j:Array (Option Value))(Y:¬(!items.isEmpty&&Builtin.List.listTooLong (items.size+items2.size))=true)(J:items.size<=sizeLine)(F:items.size+items2.size<=sizeLine+1):
  Meets (Zx.«list.extend» ⟨[.ref l,.ref b],[]⟩) (λ_ R s=>s.heap.get? l=some { cls:=.type "list",dict:=none,data:=.seq items n,slots:=#[] }/\s.heap.get? b=some { cls:=.type "tuple",dict:=L,data:=.seq items2 U,slots:=j }/\R (.ok (.ret Value.none)) { s with heap:=s.heap.update l (Obj.mapSeq λx=>x++items2),toks:=s.toks }):=
 .of_wp λprog w A R s h=>by
  obtain⟨hp,g,d,tk,os⟩:=s; obtain⟨O,Z,h⟩:=h; have f1:=AutoSeq1.idx_int; have f2:=AutoSeq1.sub_tuple_tuple; have f3:=AutoSeq1.sub_list_list; have f4:=AutoSeq1.sub_tuple_list; have f5:=AutoSeq1.sub_list_tuple;have z:(items++items2).size<=sizeLine+1:=by rw[Qjt]; exact F
  wp_walk using (wpAny_updateSeq O rfl (hz:=J) (_hz':=z)),Zy O,Zy Z; exact⟨_,rfl,h⟩
section
variable {X:Cx}
theorem qbx:MtM X "list.extend" (λx xs H Q=>∃m st a ds d st',Rel X.K m st H/\MS.IsD X.K m H a x/\IsDs X.K m H ds xs/\M.mExtend st a ds=some (d,st')/\Post X.K m H d st' Q):=by
 intro pins s σ H x xs v us Q I rx rs h;obtain⟨m,st,a,ds,d,st',R0,i1,i2,e,q⟩:=h;unfold M.mExtend at e
 split at e
 ·obtain⟨a2,e1,e⟩:=qzy e;obtain⟨es,e2,e⟩:=qzy e
  split at e
  ·rename_i hl;cases e;obtain⟨p,ys,hm,rfl,U,ix,hs⟩:=R0.wlist e1 i1;obtain⟨y,rfl,iy⟩:=i2.one;have l1:=ix.length;have l2:=qqp;cases rx;obtain⟨u,rfl,ru⟩:=rs.one;obtain⟨z,j,n,r,a1,eo⟩:=I.lstM U
   split at e2
   ·rename_i ts;cases e2;obtain⟨b,zs,rfl,hq,iz⟩:=iy.tup;cases ru;obtain⟨its2,r2,⟨⟨a0,Y,Z,L⟩,h1,h2,n2,h3⟩,_⟩:=I.tuple hq;simp only at h2 h3;subst h2 h3;have l3:=iz.length;have l4:=r2.length;have O:j.toArray.size+its2.toArray.size<=sizeLine:=by rw[Qqw,Qqw]; omega
    have J:¬ (!j.toArray.isEmpty&&Builtin.List.listTooLong (j.toArray.size+its2.toArray.size))=true:=by
     rw[qvj O,Qx5];exact Qqe
    refine Q4 F.slot_list_extend ⟨_,eo,rfl⟩ F.entry_list_extend (F.args_list_extend_2 _ _) (qww p j.toArray n b its2.toArray n2 Y L J (by rw[Qqw]; omega) (by omega)) ⟨eo,h1,?_⟩;refine⟨.non,_,I.lset (its':=j++its2) U eo (by simp) (r.append r2) ?_,rfl,?_⟩
    ·rw[Qqo]; omega
    ·exact q _ m _ (Sub.refl m) (Tr.put U) (R0.put hs hm U (ix.append iz)) qyz
   ·obtain⟨b,zs,_,rfl,hq,iz⟩:=R0.seq e2 iy;cases ru;obtain⟨its2,r2,⟨⟨a0,Y,Z,L⟩,n2,h1,h2,h4,h3⟩,_⟩:=I.list hq;simp only at h2 h3;subst h2 h3;have l3:=iz.length;have l4:=r2.length;have O:j.toArray.size+its2.toArray.size<=sizeLine:=by rw[Qqw,Qqw]; omega
    have J:¬ (!j.toArray.isEmpty&&Builtin.List.listTooLong (j.toArray.size+its2.toArray.size))=true:=by
     rw[qvj O,Qx5];exact Qqe
    refine Q4 F.slot_list_extend ⟨_,eo,rfl⟩ F.entry_list_extend (F.args_list_extend_2 _ _) (qwv p j.toArray n b its2.toArray n2 Y L J (by rw[Qqw]; omega) (by omega)) ⟨eo,h1,?_⟩;refine⟨.non,_,I.lset (its':=j++its2) U eo (by simp) (r.append r2) ?_,rfl,?_⟩
    ·rw[Qqo]; omega
    ·exact q _ m _ (Sub.refl m) (Tr.put U) (R0.put hs hm U (ix.append iz)) qyz
  ·cases e
 ·cases e
end
end MS
end
section
namespace MS
open PySem PySem.Spec PyProof.Rows L2
open M (D Cell Store Sl)
section
variable {X:Cx}
noncomputable def Itd(a:Addr)(o:Obj)(xs:List (Key×V)):It:=
 ⟨λi H=>H a=some (.frz o (.dK xs))/\i<xs.length,λi H x H'=>H'=H/\∃p,xs[i]?=some p/\x=kV p.1,λi H=>H a=some (.frz o (.dK xs))/\xs.length<=i⟩
theorem qai{j:List (Addr×Obj)}{F:L2.St}{H:Hp}{s:Qz}{a:Addr}{o:Obj}{es:Array Qu}{ep:Nat}{xs:List (Key×V)}(I:Inv X j F H s)(h:H a=some (.frz o (.dK xs)))(hd:o.data=.dict es ep):∃vs,KV xs vs/\s.heap.DictAt (mixKind X.prog X.w) a vs ep:=by
 obtain⟨h1,_,_,vs,J,o',O,U,h2,L,z,r⟩:=I.hok a _ h;rw[h1]at h2;cases h2;rw[hd]at z;cases z;exact⟨vs,J,o,es,h1,L,hd,r⟩
theorem qb2{P:Program}{w:Qk}{K:Qqq}{tg:Qx}{es:Array Qu}{ep:Nat}(a it:Addr)(o:Obj)(xs:List (Key×V))(hd:o.data=.dict es ep):Turn P w K tg (Itd a o xs) [it] it (λi h=>h.IsKeyIter it a i xs.length ep) where
 mem:=by simp
 obj:=λi h st b F=>by
  have e:b=it:=by simpa using F
  subst e;obtain⟨o,e,c,d⟩:=st;exact⟨o,e,λv z=>by rw[d]at z; cases z⟩
 keep:=λi h h' st k=>st.at λo e=>k it (by simp) o e
 item:=by
  intro X hP Y hK hc i pins s σ H E I hf st Z;subst hP Y hK;obtain⟨hH,hi⟩:=Z;obtain⟨vs,O,da⟩:=qai I hH hd;obtain⟨f0,f1,f2,f3,f4,f5⟩:=hf it (by simp);have U:=O.length;obtain⟨⟨k,u⟩,hx⟩:∃q,vs[i]?=some q:=⟨vs[i]'(by omega),by simp⟩
  have hp:xs[i]?=some xs[i]:=by simp
  have hk:xs[i].1=k:=by
   have J:=congrArg (λl:List Key=>l[i]?) O.keys;simp only[Qqa,hx,hp,oMs,Option.some.injEq]at J;exact J
  rw[U]at st;refine wpAny_pyNext_dict_item st da hx λkey h' L st' sb=>?_;have I1:Inv X pins σ H { s with heap:=h' }:=I.turned (t':=s.toks) (λb o F e=>(sb.2 b F).trans e) f0 f1 f3 f4 f5;obtain⟨o1,e,c,d⟩:=id st';rw[<- U]at st';refine⟨key,rfl,qgw (s:={ s with heap:=h' }) e c d (by decide) ⟨kV xs[i].1,H,I1,?_,⟨rfl,xs[i],hp,rfl⟩,st',λb F=>(hf b F).1⟩⟩;rw[hk];rcases qzd L with⟨j,t,J,e2⟩|⟨z,t,J,e2⟩
  ·subst J e2; exact⟨t,rfl⟩
  ·subst J e2; exact⟨t,rfl⟩
 done:=by
  intro X hP Y hK hc i pins s σ H E I hf st Z;subst hP Y hK;obtain⟨hH,hi⟩:=Z;obtain⟨vs,O,da⟩:=qai I hH hd;obtain⟨f0,f1,f2,f3,f4,f5⟩:=hf it (by simp);have U:=O.length;rw[U]at st;exact wpAny_pyNext_dict_end (I.ok.hd hc) st da (Qzn.mpr (by omega)) λh' eb=>⟨rfl,I.turned (t':=s.toks) (λb o F e=>eb b o F e) f0 f1 f3 f4 f5⟩
 self:=λ_ _ _ _ _ st h=>wpAny_pyIter_keyiter st h
noncomputable def iDict(X:Cx)(tl:TE):TI:=λσ H R=>tl σ H λx H1=>∃a xs,x=.ref a/\H1 a=some (.dK xs)/\∀o,NoFz X a->R (Itd a o xs) (upd H1 a (.frz o (.dK xs)))
theorem qi3{U l:Qx}{L:TE}(hl:PE X l L):PI X U l (iDict X L):=by
 intro pins s σ H R I h;refine thn (hl pins s σ H _ I h) λv j ⟨x,H1,J,Y,a,xs,e,z,q⟩=>?_;subst e;cases Y;obtain⟨o,O,F⟩:=ql7 J z;obtain⟨_,lo,vs,Z,o',es,ep,h2,h3,hd,r⟩:=J.hok a _ z;rw[O]at h2;cases h2;have hn:=Z.length;refine wpAny_pyIter_dict lo (ep:=ep) ⟨o,es,O,h3,hd,r⟩ ?_;refine⟨j.heap.objs.size,[j.heap.objs.size],_,_,_,rfl,F.kept (t':=j.toks) λb o e=>Qqz _ e,qb2 a _ o xs hd,⟨_,Qql _ rfl,rfl,by rw[hn]; rfl⟩,λb hb=>?_,q o (qle J z)⟩;have e:b=j.heap.objs.size:=by simpa using hb
 subst e;exact F.fpOk (Qqj _) (F.hok.fresh (Qqj _))
noncomputable def thawE(X:Cx)(Dn:Ends):Ends:=
 ⟨λσ H=>∃a o xs,NoFz X a/\H a=some (.frz o (.dK xs))/\Dn.nx σ (upd H a (.dK xs)),λv H=>∃a o xs,NoFz X a/\H a=some (.frz o (.dK xs))/\Dn.rt v (upd H a (.dK xs)),λ_ _=>False,λ_ _=>False⟩
theorem qir{U l:Qx}{body:List Stmt}{O:TE}{g:TG}{tb:TS}{pos:Pos}(Z:PassesOwn (model X.prog X.w) X.A X.env X.xe)(hc:X.calm=true)(hl:PE X l O)(hg:PG X U g)(hb:PSs X body tb)(Y:∀x,foldedSetIterable l X.env x=pure x):
  PS X (.For U l body [] pos) (λL σ H=>tFor (iDict X O) g tb (thawE X L) σ H):=by
 intro pins s σ H L I h;refine thn (qhj Z hc (qi3 hl) hg hb Y pins s σ H (thawE X L) I h) λfl s1 q=>?_
 cases fl with
 |next=>
  obtain⟨j,H1,J,a,o,xs,F,e,q⟩:=q;exact⟨j,_,qag J F e,q⟩
 |ret u=>
  obtain⟨v,j,H1,J,r,a,o,xs,F,e,q⟩:=q;exact⟨v,j,_,qag J F e,r,q⟩
 |brk=>obtain⟨_,_,_,z⟩:=q; exact z.elim
 |cont=>obtain⟨_,_,_,z⟩:=q; exact z.elim
end
end MS
end
section
namespace ST
open PySem SetTable
noncomputable def adv(m:Nat)(p:Probe):Probe:=
 if p.more > 0 then { p with j:=p.j+1,more:=p.more - 1 } else
 { p with j:=(leap m p.i p.perturb).1,more:=runEnd m (leap m p.i p.perturb).1 - (leap m p.i p.perturb).1,i:=(leap m p.i p.perturb).1,perturb:=(leap m p.i p.perturb).2 }
noncomputable def qzn(m:Nat)(h:Int):Probe:={ j:=bits h % (m+1),more:=runEnd m (bits h % (m+1)) - bits h % (m+1),i:=bits h % (m+1),perturb:=bits h,dummy:=none }
noncomputable def stp(m:Nat):Nat->Probe->Probe
 |0,p=>p
 |n+1,p=>stp m n (adv m p)
theorem qqf(m:Nat):∀(a b:Nat) (p:Probe),stp m (a+b) p=stp m b (stp m a p)
 |0,b,p=>by rw[Qxl]; rfl
 |a+1,b,p=>by rw[Nat.add_right_comm]; exact qqf m a b (adv m p)
theorem qfw(m n:Nat)(p:Probe):stp m (n+1) p=adv m (stp m n p):=by rw[qqf]; rfl
noncomputable def runP(m i pt:Nat)(d:Option Nat):Probe:={ j:=i,more:=runEnd m i - i,i:=i,perturb:=pt,dummy:=d }
theorem qkc(m:Nat):∀(k:Nat) (p:Probe),p.more=k->stp m (k+1) p=runP m (leap m p.i p.perturb).1 (leap m p.i p.perturb).2 p.dummy
 |0,p,h=>by
  show adv m p=_;unfold adv;rw[Z2 (by omega)]; rfl
 |k+1,p,h=>by
  show stp m (k+1) (adv m p)=_;have e:adv m p={ p with j:=p.j+1,more:=p.more - 1 }:=by unfold adv; rw[Z3 (by omega)]
  rw[e,qkc m k _ (by show p.more - 1=k; omega)]
noncomputable def lp(m:Nat):Nat->Nat×Nat->Nat×Nat
 |0,q=>q
 |n+1,q=>lp m n (leap m q.1 q.2)
theorem more_le(m i:Nat):runEnd m i - i<=9:=by unfold runEnd; split<;>omega
theorem qy4(m:Nat)(d:Option Nat):∀(n i pt:Nat),∃N,N<=10*n/\stp m N (runP m i pt d)=runP m (lp m n (i,pt)).1 (lp m n (i,pt)).2 d
 |0,i,pt=>⟨0,Qqj _,rfl⟩
 |n+1,i,pt=>by
  obtain⟨N,j,e⟩:=qy4 m d n (leap m i pt).1 (leap m i pt).2;refine⟨(runP m i pt d).more+1+N,?_,?_⟩
  ·have:=more_le m i;show runEnd m i - i+1+N<=_;omega
  ·rw[qqf,qkc m _ _ rfl];exact e
theorem lp_pt(m:Nat):∀(n i pt:Nat),(lp m n (i,pt)).2=pt / 32 ^ n
 |0,i,pt=>by simp[lp]
 |n+1,i,pt=>by
  show(lp m n (leap m i pt)).2=_;have:leap m i pt=((leap m i pt).1,pt / 32):=rfl;rw[this,lp_pt m n,Nat.div_div_eq_div_mul,Nat.pow_succ,Qj4]
theorem qhc(m:Nat):∀(a b:Nat) (q:Nat×Nat),lp m (a+b) q=lp m b (lp m a q)
 |0,b,q=>by rw[Qxl]; rfl
 |a+1,b,q=>by rw[Nat.add_right_comm]; exact qhc m a b _
theorem lp_le(m:Nat):∀(n i pt:Nat),i<=m->(lp m n (i,pt)).1<=m
 |0,i,pt,h=>h
 |n+1,i,pt,h=>by
  show(lp m n (leap m i pt)).1<=m;exact lp_le m n _ _ (by exact Qxd (Qja _ (Qx3 _)))
noncomputable def lcg(m:Nat):Nat->Nat->Nat
 |0,i=>i
 |n+1,i=>lcg m n ((i*5+1) % (m+1))
theorem qc9(m:Nat):∀(n i:Nat),(lp m n (i,0)).1=lcg m n i
 |0,i=>rfl
 |n+1,i=>by
  show(lp m n (leap m i 0)).1=_;have:leap m i 0=((i*5+1) % (m+1),0):=by simp[leap]
  rw[this,qc9 m n]; rfl
theorem onto7:∀i,i<8->∀e,e<8->∃r,r<8/\lcg 7 r i=e:=by decide +kernel
theorem onto31:∀i,i<32->∀e,e<32->∃r,r<32/\lcg 31 r i=e:=by decide +kernel
theorem onto{m:Nat}(j:m=7\/m=31){i e:Nat}(hi:i<=m)(z:e<=m):∃r,r<=m/\lcg m r i=e:=by
 rcases j with rfl|rfl
 ·obtain⟨r,h,q⟩:=onto7 i (by omega) e (by omega); exact⟨r,by omega,q⟩
 ·obtain⟨r,h,q⟩:=onto31 i (by omega) e (by omega); exact⟨r,by omega,q⟩
theorem qy5{m:Nat}(L:m=7\/m=31){i pt e:Nat}(d:Option Nat)(hi:i<=m)(J:pt<2 ^ 64)(O:e<=m):∃n N,n<=m+13/\N<=10*n/\stp m N (runP m i pt d)=runP m e (lp m n (i,pt)).2 d/\(lp m n (i,pt)).1=e:=by
 have F:(lp m 13 (i,pt)).2=0:=by
  rw[lp_pt]; exact Nat.div_eq_of_lt (Qq2 J (by decide))
 obtain⟨r,Z,Y⟩:=onto L (lp_le m 13 i pt hi) O;have z:(lp m (13+r) (i,pt)).1=e:=by
  rw[qhc];have:lp m 13 (i,pt)=((lp m 13 (i,pt)).1,0):=by rw[<- F]
  rw[this,qc9]; exact Y
 obtain⟨N,U,j⟩:=qy4 m d (13+r) i pt;rw[z]at j;exact⟨13+r,N,by omega,U,j,z⟩
structure Okp (m:Nat) (p:Probe):Prop where
 i:p.i<=m
 pt:p.perturb<2 ^ 64
 more:p.more<=9
 dm:p.dummy=none
theorem Okp.start{m:Nat}(h:Int):Okp m (qzn m h):=by
 refine⟨Qxd (Qja _ (Qx3 _)),?_,more_le _ _,rfl⟩;show bits h<2 ^ 64;unfold bits;omega
theorem Okp.next{m:Nat}{p:Probe}(h:Okp m p):Okp m (adv m p):=by
 unfold adv
 split
 ·exact⟨h.i,h.pt,by have:=h.more; show p.more - 1<=9; omega,h.dm⟩
 ·refine⟨by show(leap m p.i p.perturb).1<=m; unfold leap; exact Qxd (Qja _ (Qx3 _)),?_,more_le _ _,h.dm⟩;show p.perturb / 32<2 ^ 64;exact Nat.lt_of_le_of_lt (Nat.div_le_self _ _) h.pt
theorem Okp.stp{m:Nat}:∀(n:Nat){p:Probe},Okp m p->Okp m (stp m n p)
 |0,_,h=>h
 |n+1,_,h=>Okp.stp n h.next
theorem hits{m:Nat}(j:m=7\/m=31){p:Probe}(h:Okp m p){e:Nat}(z:e<=m):∃N,N<10*turns m/\(stp m N p).j=e:=by
 have h1:=(h.stp (p.more+1))
 rw[qkc m _ p rfl]at h1;obtain⟨n,N,hn,J,F,_⟩:=qy5 j p.dummy h1.i h1.pt z;refine⟨p.more+1+N,?_,?_⟩
 ·have:=h.more;unfold turns; omega
 ·rw[qqf,qkc m _ p rfl];exact congrArg Probe.j F
end ST
end
section
namespace ST
open PySem SetTable
def Up(xs:Array Nat):Prop:=∀(i k a b:Nat),i<k->xs[i]?=some a->xs[k]?=some b->a<b
theorem qvo{xs:Array Nat}{j:Nat}(L:Up xs):∀(z lo hi:Nat),hi<=xs.size->lo<=hi->hi - lo<=z->(∀(i a:Nat),i<lo->xs[i]?=some a->a<j)->(∀(i a:Nat),hi<=i->xs[i]?=some a->j<=a)->
  (∀(i a:Nat),i<below.go xs j z lo hi->xs[i]?=some a->a<j)/\(∀(i a:Nat),below.go xs j z lo hi<=i->xs[i]?=some a->j<=a)/\below.go xs j z lo hi<=xs.size
 |0,lo,hi,h1,h2,h3,U,O=>by
  have:lo=hi:=by omega
  subst this;exact⟨U,O,h1⟩
 |z+1,lo,hi,h1,h2,h3,U,O=>by
  unfold below.go
  by_cases J:lo<hi
  ·rw[Z3 J];have hm:(lo+hi) / 2<xs.size:=by omega
   have e:xs[(lo+hi) / 2]?=some xs[(lo+hi) / 2]:=Qq5 hm;have eg:xs.getD ((lo+hi) / 2) j=xs[(lo+hi) / 2]:=by rw[Qz4,e]; rfl
   simp only[eg]
   split
   ·rename_i Z;refine qvo L z _ _ h1 (by omega) (by omega) (λi a Y F=>?_) O;rcases Qz8 i ((lo+hi) / 2) with h|h
    ·exact Nat.lt_trans (L i _ a _ h F e) Z
    ·have:i=(lo+hi) / 2:=by omega
     subst this;rw[e]at F; cases F; exact Z
   ·rename_i Z;refine qvo L z _ _ (by omega) (by omega) (by omega) U (λi a Y F=>?_);rcases Qz8 ((lo+hi) / 2) i with h|h
    ·have:=L _ i _ a h e F; omega
    ·have:i=(lo+hi) / 2:=by omega
     subst this;rw[e]at F; cases F; omega
  ·rw[Z2 J];have:lo=hi:=by omega
   subst this;exact⟨U,O,h1⟩
theorem qxr{xs:Array Nat}{j:Nat}(z:Up xs):(∀(i a:Nat),i<below xs j->xs[i]?=some a->a<j)/\(∀(i a:Nat),below xs j<=i->xs[i]?=some a->j<=a)/\below xs j<=xs.size:=
 qvo z xs.size 0 xs.size (Qqj _) (Qzu _) (by omega) (λi a h=>by omega) λi a h e=>by
  have:=(Qzi.mp e).1; omega
theorem below_at{xs:Array Nat}{i j:Nat}(z:Up xs)(h:xs[i]?=some j):below xs j=i:=by
 obtain⟨b1,b2,b3⟩:=qxr (j:=j) z;rcases Qju (below xs j) i with h1|h1|h1
 ·have F:below xs j<xs.size:=Nat.lt_trans h1 (Qzi.mp h).1;have e:xs[below xs j]?=some xs[below xs j]:=Qq5 F;have:=b2 _ _ (Qqj _) e;have:=z _ _ _ _ h1 e h;omega
 ·exact h1
 ·have:=b1 _ _ h1 h; omega
structure Tb (t:Qy):Prop where
 mask:t.mask=7\/t.mask=31
 dum:t.dummies=#[]
 up:Up t.place
 le:∀(i j:Nat),t.place[i]?=some j->j<=t.mask
 few:t.place.size<=t.mask
def Occ(t:Qy)(j:Nat):Prop:=∃i:Nat,t.place[i]?=some j
theorem qjc{t:Qy}(T:Tb t){i j:Nat}(h:t.place[i]?=some j):t.slot j=.live i:=by
 unfold slot;simp only[below_at T.up h,h,beq_self_eq_true,if_true]
theorem qa6{t:Qy}(T:Tb t){j:Nat}(h:¬ Occ t j):t.slot j=.empty:=by
 unfold slot;have:(t.place[below t.place j]?==some j)=false:=by
  cases e:t.place[below t.place j]?==some j with
  |false=>rfl
  |true=>exact absurd ⟨_,beq_iff_eq.mp e⟩ h
 have hd:has t.dummies j=false:=by rw[T.dum]; unfold has; simp
 simp[this,hd]
theorem qkp{m:Nat}:∀(l:List Nat) (lo:Nat),l.Pairwise (· < ·)->(∀a∈l,lo<=a)->(∀e,lo<=e->e<=m->e∈l)->lo<=m+1->m+1<=lo+l.length
 |[],lo,_,_,j,J=>by
  rcases Qz8 m lo with h|h
  ·simp; omega
  ·exact absurd (j lo (Qqj _) h) (by simp)
 |a::l,lo,h1,h2,j,J=>by
  rcases Qz8 m lo with h|h
  ·omega
  ·obtain⟨p1,p2⟩:=Qzt.mp h1;have F:a=lo:=by
    rcases Qqc.mp (j lo (Qqj _) h) with e|e
    ·exact e.symm
    ·have:=p1 lo e;have:=h2 a Qq0;omega
   subst F
   have:=qkp l (a+1) p2 (λb z=>p1 b z) (λe O L=>by
    rcases Qqc.mp (j e (by omega) L) with q|q
    ·omega
    ·exact q) (by omega)
   simp only[Qqh];omega
theorem Up.pairwise{xs:Array Nat}(h:Up xs):xs.toList.Pairwise (· < ·):=by
 rw[Qxt];intro i j hi F z;exact h i j _ _ z (by rw[<- Qqu,Qqg hi]) (by rw[<- Qqu,Qqg F])
theorem some_free{t:Qy}(T:Tb t):∃e,e<=t.mask/\¬ Occ t e:=by
 apply Classical.byContradiction;intro hn;have all:∀e,e<=t.mask->Occ t e:=λe j=>Classical.byContradiction λz=>hn ⟨e,j,z⟩
 have:=qkp (m:=t.mask) t.place.toList 0 T.up.pairwise (λa _=>Qzu _) (λe _ j=>by
  obtain⟨i,hi⟩:=all e j
  exact Qqr (by rw[Qqu]; exact hi)) (Qzu _)
 have:=T.few;rw[Qzb]at *;omega
theorem qdp{t:Qy}(T:Tb t){j:Nat->Int}{h:Int}:∀(z:Nat) (p:Probe) (N:Nat),p.dummy=none->N<z->¬ Occ t (stp t.mask N p).j->
  ∃n,(∀m,m<n->∃i:Nat,t.place[i]?=some (stp t.mask m p).j/\j i≠h)/\
   ((¬ Occ t (stp t.mask n p).j/\probe.go t j h z p=some (.empty (stp t.mask n p).j none))\/
    (∃i:Nat,t.place[i]?=some (stp t.mask n p).j/\j i=h/\probe.go t j h z p=some (.candidate (stp t.mask n p).j i (stp t.mask (n+1) p))))
 |0,p,N,_,hN,_=>by omega
 |z+1,p,N,hd,hN,U=>by
  by_cases J:Occ t p.j
  ·obtain⟨i,hi⟩:=J
   by_cases F:j i=h
   ·refine⟨0,λm O=>by omega,.inr ⟨i,hi,F,?_⟩⟩;unfold probe.go;rw[qjc T hi];simp only[F,beq_self_eq_true,if_true]
    rfl
   ·cases N with
    |zero=>exact absurd ⟨i,hi⟩ U
    |succ N=>
     have L:(adv t.mask p).dummy=none:=by unfold adv; split<;>exact hd
     obtain⟨n,Z,Y⟩:=qdp T z (adv t.mask p) N L (by omega) U;have eg:probe.go t j h (z+1) p=probe.go t j h z (adv t.mask p):=by
      conv=>lhs; unfold probe.go
      rw[qjc T hi];have:(j i==h)=false:=by simpa using F
      simp only[this,Qqf,if_false]
      rfl
     refine⟨n+1,λm O=>?_,?_⟩
     ·cases m with
      |zero=>exact⟨i,hi,F⟩
      |succ m=>exact Z m (by omega)
     ·rw[eg];exact Y
  ·refine⟨0,λm O=>by omega,.inl ⟨J,?_⟩⟩;unfold probe.go;rw[qa6 T J];show some (Met.empty p.j p.dummy)=_;rw[hd]; rfl
theorem qa9{t:Qy}(T:Tb t){j:Nat->Int}{h:Int}{p:Probe}(z:Okp t.mask p):
  ∃n,(∀m,m<n->∃i:Nat,t.place[i]?=some (stp t.mask m p).j/\j i≠h)/\
   ((¬ Occ t (stp t.mask n p).j/\t.probe j h p=some (.empty (stp t.mask n p).j none))\/
    (∃i:Nat,t.place[i]?=some (stp t.mask n p).j/\j i=h/\t.probe j h p=some (.candidate (stp t.mask n p).j i (stp t.mask (n+1) p)))):=by
 obtain⟨e,F,hf⟩:=some_free T;obtain⟨N,J,L⟩:=hits T.mask z F;exact qdp T _ p N z.dm J (by rw[L]; exact hf)
end ST
end
section
namespace ST
open PySem SetTable
section
variable {α:Type}
theorem qqj(xs:Array α)(p:Nat)(x:α)(z:p<=xs.size)(i:Nat):(insertAt xs p x)[i]?=if i<p then xs[i]? else if i=p then some x else xs[i - 1]?:=by
 unfold insertAt;rw[Array.getElem?_append,Array.getElem?_push,Qka,Qka];simp only[Array.size_push,Array.size_extract];have e:min p xs.size=p:=by omega
 simp only[e,Nat.sub_zero,Qxl]
 by_cases h1:i<p
 ·rw[Z3 (by omega),Z2 (by omega),Z3 h1,Z3 h1]
 ·by_cases h2:i=p
  ·subst h2;rw[Z3 (by omega),Z3 rfl,Z2 h1,Z3 rfl]
  ·rw[Z2 (by omega),Z2 h1,Z2 h2]
   by_cases j:i - (p+1)<min xs.size xs.size - p
   ·rw[Z3 j]; congr 1; omega
   ·rw[Z2 j];exact(Qkb (by omega)).symm
theorem qjj(xs:Array α)(p:Nat)(x:α)(j:p<=xs.size):(insertAt xs p x).size=xs.size+1:=by
 unfold insertAt;simp only[Qjt,Array.size_push,Array.size_extract];omega
theorem ql8{xs:Array α}{p:Nat}{x y:α}(z:p<=xs.size):y∈(insertAt xs p x).toList↔y∈xs.toList\/y=x:=by
 unfold insertAt;simp only[Array.toList_append,Array.toList_push,Array.toList_extract,Qqt,Qqb,List.extract_eq_drop_take,Nat.sub_zero,Qje];have e:xs.toList.take p++xs.toList.drop p=xs.toList:=Qjw p _;have j:(xs.toList.drop p).take (xs.size - p)=xs.toList.drop p:=Qx9 (by simp);rw[j]
 conv=>rhs; rw[<- e,Qqt]
 constructor
 ·rintro ((h|h)|h)
  ·exact .inl (.inl h)
  ·exact .inr h
  ·exact .inl (.inr h)
 ·rintro ((h|h)|h)
  ·exact .inl (.inl h)
  ·exact .inr h
  ·exact .inl (.inr h)
end
def Reach(t:Qy)(h:Int)(j:Nat):Prop:=∃n,(stp t.mask n (qzn t.mask h)).j=j/\∀m,m<n->Occ t (stp t.mask m (qzn t.mask h)).j
structure SI {α:Type}(t:Qy) (es:Array (Int×α)):Prop where
 tb:Tb t
 sz:t.place.size=es.size
 reach:∀(i j:Nat) (e:Int×α),t.place[i]?=some j->es[i]?=some e->Reach t e.1 j
theorem qcn{t:Qy}(T:Tb t)(j:Nat):t.put j=({ t with place:=insertAt t.place (below t.place j) j },below t.place j):=by
 unfold put;have hd:has t.dummies j=false:=by rw[T.dum]; unfold has; simp
 simp only[hd,Qqf,if_false]
theorem put_ok{α:Type}{t:Qy}{es:Array (Int×α)}(I:SI t es){j:Nat}{h:Int}{x:α}(hj:j<=t.mask)(hf:¬ Occ t j)(hr:Reach t h j)(hs:es.size+1<=t.mask):
  SI (t.put j).1 (insertAt es (t.put j).2 (h,x)):=by
 obtain⟨b1,b2,b3⟩:=qxr (j:=j) I.tb.up;have U:below t.place j<=es.size:=by rw[<- I.sz]; exact b3
 rw[qcn I.tb];have oc:∀j',Occ t j'->Occ { t with place:=insertAt t.place (below t.place j) j } j':=λj' ⟨i,hi⟩=>by
  by_cases h1:i<below t.place j
  ·exact⟨i,by show(insertAt _ _ _)[i]?=_; rw[qqj _ _ _ b3,Z3 h1]; exact hi⟩
  ·exact⟨i+1,by show(insertAt _ _ _)[i+1]?=_; rw[qqj _ _ _ b3,Z2 (by omega),Z2 (by omega)]; exact hi⟩
 have Y:∀h' j',Reach t h' j'->Reach { t with place:=insertAt t.place (below t.place j) j } h' j':=λh' j' ⟨n,e,q⟩=>⟨n,e,λm hm=>oc _ (q m hm)⟩
 refine⟨⟨I.tb.mask,I.tb.dum,?_,?_,?_⟩,?_,?_⟩
 ·intro i k a b a0 J F;have J:(insertAt t.place (below t.place j) j)[i]?=some a:=J;have F:(insertAt t.place (below t.place j) j)[k]?=some b:=F;rw[qqj _ _ _ b3]at J F;have ne:∀(Z c:Nat),t.place[Z]?=some c->c≠j:=λZ c e z=>hf ⟨Z,by rw[<- z]; exact e⟩
  split at J
  ·split at F
   ·exact I.tb.up _ _ _ _ a0 J F
   ·split at F
    ·cases F; exact b1 _ _ (by assumption) J
    ·exact I.tb.up _ _ _ _ (by omega) J F
  ·split at J
   ·cases J;rw[Z2 (by omega),Z2 (by omega)]at F;have:=b2 _ _ (by omega) F;have:=ne _ _ F;omega
   ·rw[Z2 (by omega),Z2 (by omega)]at F;exact I.tb.up _ _ _ _ (by omega) J F
 ·intro i j' e;have e:(insertAt t.place (below t.place j) j)[i]?=some j':=e;rw[qqj _ _ _ b3]at e
  split at e
  ·exact I.tb.le _ _ e
  ·split at e
   ·cases e; exact hj
   ·exact I.tb.le _ _ e
 ·show(insertAt t.place (below t.place j) j).size<=t.mask;rw[qjj _ _ _ b3,I.sz]; exact hs
 ·show(insertAt t.place (below t.place j) j).size=_;rw[qjj _ _ _ b3,qjj _ _ _ U,I.sz]
 ·intro i j' e O L;have O:(insertAt t.place (below t.place j) j)[i]?=some j':=O;have L:(insertAt es (below t.place j) (h,x))[i]?=some e:=L;rw[qqj _ _ _ b3]at O;rw[qqj _ _ _ U]at L
  split at O
  ·rename_i h1;rw[Z3 h1]at L;exact Y _ _ (I.reach _ _ _ O L)
  ·rename_i h1;rw[Z2 h1]at L
   split at O
   ·rename_i h2;rw[Z3 h2]at L;cases O; cases L;exact Y _ _ hr
   ·rename_i h2;rw[Z2 h2]at L;exact Y _ _ (I.reach _ _ _ O L)
theorem qet{α:Type}{t:Qy}{es:Array (Int×α)}(I:SI t es){h:Int}{n:Nat}{bad:Nat->Prop}(hb:∀m,m<n->∃i:Nat,t.place[i]?=some (stp t.mask m (qzn t.mask h)).j/\bad i)(L:¬ Occ t (stp t.mask n (qzn t.mask h)).j):
  ∀(i:Nat) (e:Int×α),es[i]?=some e->e.1=h->bad i:=λi e O Z=>by
 have hi:i<t.place.size:=by rw[I.sz]; exact(Qzi.mp O).1
 have z:t.place[i]?=some t.place[i]:=Qq5 hi;obtain⟨J,j,F⟩:=I.reach _ _ _ z O;rw[Z]at j F;rcases Qju n J with h1|h1|h1
 ·exact absurd (F n h1) L
 ·subst h1; exact absurd ⟨i,by rw[j]; exact z⟩ L
 ·obtain⟨Y,U,b⟩:=hb J h1;rw[j]at U;have:Y=i:=(below_at I.tb.up U).symm.trans (below_at I.tb.up z);rw[<- this]; exact b
theorem qgc{α:Type}(led:Bool):SI (α:=α) (PySem.SetTable.fresh 0 0 led) #[]:=
 ⟨⟨.inl rfl,rfl,λi k a b _ h=>by simp[PySem.SetTable.fresh]at h,λi j h=>by simp[PySem.SetTable.fresh]at h,by simp[PySem.SetTable.fresh]⟩,rfl,λi j e h=>by simp[PySem.SetTable.fresh]at h⟩
end ST
end
section
namespace ST
open PySem SetTable
def OcO(ow:Array (Option Nat))(j:Nat):Prop:=∃k,ow[j]?=some (some k)
theorem getD_none{z:Array (Option Nat)}{j:Nat}(F:j<z.size):(z.getD j (some 0)).isNone=true↔¬ OcO z j:=by
 have e:z[j]?=some z[j]:=Qq5 F;rw[Qz4,e];show(z[j]).isNone=true↔_
 cases h:z[j] with
 |none=>simp[OcO,e,h]
 |some k=>simp[OcO,e,h]
theorem qk8(m i pt:Nat)(d:Option Nat):∀k,k<=runEnd m i - i->(stp m k (runP m i pt d)).j=i+k/\(stp m k (runP m i pt d)).more=runEnd m i - i - k
 |0,_=>⟨rfl,rfl⟩
 |k+1,h=>by
  obtain⟨h1,h2⟩:=qk8 m i pt d k (by omega);rw[qfw];have e:adv m (stp m k (runP m i pt d))={ stp m k (runP m i pt d) with j:=(stp m k (runP m i pt d)).j+1,more:=(stp m k (runP m i pt d)).more - 1 }:=by
   conv=>lhs; unfold adv
   rw[Z3 (by omega)]
  rw[e];exact⟨by show(stp m k (runP m i pt d)).j+1=_; omega,by show(stp m k (runP m i pt d)).more - 1=_; omega⟩
theorem qje{m i:Nat}(h:i<=m):i<=runEnd m i/\runEnd m i<=m:=by unfold runEnd; split<;>omega
theorem qbd{p:Nat->Bool}{n k:Nat}(h:(List.range n).find? p=some k):k<n/\p k=true/\∀j,j<k->p j=false:=by
 have h1:=List.find?_some h;have h2:=Qj1 h;refine⟨Qxv.mp h2,h1,λj z=>?_⟩;rw[List.find?_range_eq_some]at h;have:=h.2.2 j z;simpa using this
theorem qds{m:Nat}{F:Array (Option Nat)}(hs:F.size=m+1):∀(z i pt J:Nat),i<=m->J<z->¬ OcO F (lp m J (i,pt)).1->
  ∃n j,layClean.free m F z i pt=some j/\(stp m n (runP m i pt none)).j=j/\j<=m/\¬ OcO F j/\∀k,k<n->OcO F (stp m k (runP m i pt none)).j
 |0,i,pt,J,_,hn,_=>by omega
 |z+1,i,pt,J,hi,hn,he=>by
  unfold layClean.free;obtain⟨r1,r2⟩:=qje hi
  cases hf:(List.range (runEnd m i+1 - i)).find? λk=>(F.getD (i+k) (some 0)).isNone with
  |some k=>
   obtain⟨f1,f2,f3⟩:=qbd hf;refine⟨k,i+k,rfl,(qk8 m i pt none k (by omega)).1,by omega,(getD_none (by omega)).mp f2,λU L=>?_⟩;rw[(qk8 m i pt none U (by omega)).1];have:=f3 U L;apply Classical.byContradiction;intro O;rw[(getD_none (by omega)).mpr O]at this;cases this
  |none=>
   have all:∀k,k<runEnd m i+1 - i->OcO F (i+k):=λk L=>by
    have:=List.find?_eq_none.mp hf k (Qxv.mpr L);apply Classical.byContradiction;intro O;exact this ((getD_none (by omega)).mpr O)
   cases J with
   |zero=>exact absurd (all 0 (by omega)) he
   |succ J=>
    have hl:(leap m i pt).1<=m:=Qxd (Qja _ (Qx3 _));obtain⟨n,j,q1,q2,q3,Z,Y⟩:=qds hs z (leap m i pt).1 (leap m i pt).2 J hl (by omega) he;refine⟨(runEnd m i - i)+1+n,j,q1,?_,q3,Z,λk L=>?_⟩
    ·rw[qqf,qkc m (runEnd m i - i) (runP m i pt none) rfl]; exact q2
    ·rcases Qz8 k (runEnd m i - i+1) with h|h
     ·rw[(qk8 m i pt none k (by omega)).1]; exact all k (by omega)
     ·have e:k=(runEnd m i - i)+1+(k - (runEnd m i - i+1)):=by omega
      rw[e,qqf,qkc m (runEnd m i - i) (runP m i pt none) rfl];exact Y _ (by omega)
structure FI (m:Nat) (ow:Array (Option Nat)) (hs:List Int):Prop where
 size:ow.size=m+1
 val:∀(j k:Nat),ow[j]?=some (some k)->k<hs.length
 sur:∀k,k<hs.length->∃j:Nat,ow[j]?=some (some k)
 reach:∀(j k:Nat) (h:Int),ow[j]?=some (some k)->hs[k]?=some h->∃n,(stp m n (qzn m h)).j=j/\∀q,q<n->OcO ow (stp m q (qzn m h)).j
 cnt:ow.toList.countP Option.isSome=hs.length
theorem FI.zero(m:Nat):FI m (Array.replicate (m+1) none) [] where
 size:=by simp
 val:=λj k h=>by
  rw[Qj7]at h
  split at h<;>simp at h
 sur:=λk h=>by simp at h
 reach:=λj k x h=>by
  rw[Qj7]at h
  split at h<;>simp at h
 cnt:=by rw[Array.toList_replicate]; simp
theorem FI.some_free{m:Nat}{z:Array (Option Nat)}{J:List Int}(I:FI m z J)(h:J.length<=m):∃e,e<=m/\¬ OcO z e:=by
 apply Classical.byContradiction;intro hn;have all:∀x∈z.toList,Option.isSome x=true:=λx O=>by
  obtain⟨j,U,e⟩:=Qz6 O;have F:j<z.size:=by simpa using U
  have:OcO z j:=Classical.byContradiction λY=>hn ⟨j,by have:=I.size; omega,Y⟩;obtain⟨k,L⟩:=this;rw[Qq5 F]at L;rw[Array.getElem_toList]at e;rw[<- e,Option.some.inj L]; rfl
 have:=List.countP_eq_length.mpr all;have e1:=I.cnt;have Z:z.toList.length=m+1:=(Qzb).trans I.size;omega
theorem FI.more{m:Nat}(hm:m=7\/m=31){J:Array (Option Nat)}{L:List Int}(I:FI m J L)(hl:L.length<=m)(h:Int):
  ∃j,layClean.free m J (turns m) (bits h % (m+1)) (bits h)=some j/\FI m (J.setIfInBounds j (some L.length)) (L++[h]):=by
 obtain⟨e,he,hf⟩:=I.some_free hl;have ok:=Okp.start (m:=m) h;obtain⟨n',_,a4,_,_,e1⟩:=qy5 hm none ok.i ok.pt he;have e1:(lp m n' (bits h % (m+1),bits h)).1=e:=e1;obtain⟨n,j,q1,q2,q3,q4,q5⟩:=qds I.size (turns m) (bits h % (m+1)) (bits h) n' ok.i (by unfold turns; omega) (by rw[e1]; exact hf);refine⟨j,q1,?_⟩;have Y:j<J.size:=by rw[I.size]; omega
 have Z:∀j',(J.setIfInBounds j (some L.length))[j']?=if j=j' then some (some L.length) else J[j']?:=λj'=>by
  rw[Array.getElem?_setIfInBounds]
  by_cases h:j=j'
  ·subst h; rw[Z3 rfl,Z3 Y,Z3 rfl]
  ·rw[Z2 h,Z2 h]
 have oc:∀j',OcO J j'->OcO (J.setIfInBounds j (some L.length)) j':=λj' ⟨k,F⟩=>by
  unfold OcO;rw[Z]
  by_cases h:j=j'
  ·exact⟨_,Z3 h⟩
  ·rw[Z2 h]; exact⟨k,F⟩
 refine⟨by rw[Array.size_setIfInBounds]; exact I.size,λj' k F=>?_,λk F=>?_,λj' k h' F hh=>?_,?_⟩
 ·rw[Z]at F;rw[Qqo,Qzo]
  split at F
  ·cases F; omega
  ·have:=I.val _ _ F; omega
 ·rw[Qqo,Qzo]at F;rcases Qz8 k L.length with h1|h1
  ·obtain⟨j',U⟩:=I.sur k h1;refine⟨j',?_⟩;rw[Z,Z2 (λz=>q4 (by rw[z]; exact⟨k,U⟩))]; exact U
  ·have:k=L.length:=by omega
   subst this;exact⟨j,by rw[Z,Z3 rfl]⟩
 ·rw[Z]at F
  split at F
  ·rename_i a3;cases F;rw[Qzw (Qqj _),Nat.sub_self]at hh;cases hh;exact⟨n,by rw[<- a3]; exact q2,λq hq=>oc _ (q5 q hq)⟩
  ·have a0:=I.val _ _ F;rw[Qq3 a0]at hh;obtain⟨n1,a1,a2⟩:=I.reach _ _ _ F hh;exact⟨n1,a1,λq hq=>oc _ (a2 q hq)⟩
 ·rw[Array.toList_setIfInBounds,List.countP_set (by simpa using Y)];have O:(J.toList[j]'(by simpa using Y)).isSome=false:=by
   cases e:J.toList[j]'(by simpa using Y) with
   |none=>rfl
   |some k=>exact absurd ⟨k,by rw[<- Qqu,Qqg (by simpa using Y),e]⟩ q4
  simp only[O,I.cnt];simp
theorem qaa{m:Nat}(U:m=7\/m=31):∀(l:List Int) (J:Array (Option Nat)) (z:List Int),FI m J z->z.length+l.length<=m+1->
  ∃F,l.foldl (λL h=>do let (owner,k) <- L; let j <- layClean.free m owner (turns m) (bits h % (m+1)) (bits h); pure (owner.setIfInBounds j (some k),k+1)) (some (J,z.length))=some (F,z.length+l.length)/\FI m F (z++l)
 |[],J,z,I,_=>⟨J,rfl,by rw[Qzv]; exact I⟩
 |h::l,J,z,I,Y=>by
  simp only[Qqh]at Y;obtain⟨j,e,I'⟩:=I.more U (by omega) h;obtain⟨F,Z,O⟩:=qaa U l _ _ I' (by simp; omega);refine⟨F,?_,by simpa using O⟩;rw[Qxs];have:(do let (owner,k) <- (some (J,z.length):Option (Array (Option Nat)×Nat)); let j <- layClean.free m owner (turns m) (bits h % (m+1)) (bits h); pure (owner.setIfInBounds j (some k),k+1))=some (J.setIfInBounds j (some z.length),z.length+1):=by
   show(layClean.free m J (turns m) (bits h % (m+1)) (bits h)).bind _=_;rw[e]; rfl
  rw[this];have el:z.length+1=(z++[h]).length:=by simp
  rw[el,Z];simp; omega
theorem lay_ok{m:Nat}(F:m=7\/m=31)(z:Array Int)(J:z.size<=m+1):∃j,layClean m z=some j/\FI m j z.toList:=by
 obtain⟨j,e,I⟩:=qaa F z.toList _ [] (FI.zero m) (by simpa using J);refine⟨j,?_,by simpa using I⟩;unfold layClean;rw[<- Array.foldl_toList];exact congrArg (Option.map (·.1)) e
end ST
end
section
namespace ST
open PySem SetTable
noncomputable def qzl(m:Nat)(ow:Array (Option Nat)):List (Nat×Nat):=(List.range (m+1)).filterMap λj=>(ow.getD j none).map (j,·)
theorem qxk{m:Nat}{z:Array (Option Nat)}{L:List Int}(I:FI m z L){q:Nat×Nat}:q∈qzl m z↔z[q.1]?=some (some q.2):=by
 unfold qzl;rw[Qxu];constructor
 ·rintro⟨j,J,e⟩;have F:j<z.size:=by rw[I.size]; exact Qxv.mp J
  rw[Qz4,Qq5 F]at e
  cases h:z[j] with
  |none=>rw[h]at e; cases e
  |some k=>
   rw[h]at e;cases e;rw[Qq5 F,h]
 ·intro e;have J:q.1<z.size:=(Qzi.mp e).1;refine⟨q.1,Qxv.mpr (by rw[<- I.size]; exact J),?_⟩;rw[Qz4,e]
  rfl
theorem qll(m:Nat)(F:Array (Option Nat)):(qzl m F).Pairwise λa b=>a.1<b.1:=by
 unfold qzl;refine List.Pairwise.filterMap _ (R:=λa b=>a<b) (λa L h b z U j=>?_) (List.pairwise_lt_range)
 cases e:F.getD a none with
 |none=>rw[e]at z; cases z
 |some k=>
  cases J:F.getD L none with
  |none=>rw[J]at j; cases j
  |some O=>
   rw[e]at z; rw[J]at j;cases z; cases j;exact h
theorem qvv{m:Nat}{z:Array (Option Nat)}{F:List Int}(I:FI m z F):(qzl m z).length=F.length:=by
 unfold qzl;rw[List.length_filterMap_eq_countP,<- I.cnt];have e:z.toList=(List.range (m+1)).map λj=>z.getD j none:=by
  apply Qj0;intro j;rw[Qqu,Qqa];rcases Qz8 j (m+1) with h|h
  ·rw[Qxn h];have J:j<z.size:=by rw[I.size]; exact h
   rw[Qq5 J];show _=some (z.getD j none);rw[Qz4,Qq5 J]; rfl
  ·rw[Qkb (by rw[I.size]; exact h),Qzp (by simpa using h)]; rfl
 rw[e,List.countP_map];refine List.countP_congr λj _=>?_;simp
theorem qaz{α:Type}(es:Array α):∀(l:List Nat),(∀k∈l,k<es.size)->(l.filterMap λk=>es[k]?).length=l.length/\∀i:Nat,(l.filterMap λk=>es[k]?)[i]?=l[i]?.bind λk=>es[k]?
 |[],_=>⟨rfl,λi=>by simp⟩
 |k::l,h=>by
  obtain⟨h1,h2⟩:=qaz es l λz j=>h z (Qqn _ j);have j:k<es.size:=h k Qq0;have e:es[k]?=some es[k]:=Qq5 j;rw[Qz5,e];refine⟨by simp[h1],λi=>?_⟩
  cases i with
  |zero=>simp[e]
  |succ i=>simp only[Qkj]; exact h2 i
theorem qlp{α:Type}{m f mv:Nat}{led plain:Bool}(hm:m=7\/m=31)(es:Array (Int×α))(hl:es.size<=m):
  ∃t J,laid m f mv led plain (es.map (·.1))=some (t,J)/\SI t (J.filterMap (es[·]?))/\(J.filterMap (es[·]?)).size=es.size/\(∀e,e∈(J.filterMap (es[·]?)).toList↔e∈es.toList)/\t.mask=m:=by
 obtain⟨F,e,I⟩:=lay_ok hm (es.map (·.1)) (by rw[Array.size_map]; omega);have L:(es.map (·.1)).toList.length=es.size:=by simp
 have il:∀k∈(qzl m F).map (·.2),k<es.size:=λk Y=>by
  obtain⟨q,Z,rfl⟩:=Qqk.mp Y;rw[<- L];exact I.val _ _ ((qxk I).mp Z)
 obtain⟨p1,p2⟩:=qaz es _ il;have tl:(((qzl m F).map (·.2)).toArray.filterMap (es[·]?)).toList=((qzl m F).map (·.2)).filterMap λk=>es[k]?:=by simp
 have at_:∀i:Nat,(((qzl m F).map (·.2)).toArray.filterMap (es[·]?))[i]?=((qzl m F)[i]?.map (·.2)).bind λk=>es[k]?:=λi=>by
  rw[<- Qqu,tl,p2,Qqa]
 have pl:∀i:Nat,((qzl m F).map (·.1)).toArray[i]?=(qzl m F)[i]?.map (·.1):=λi=>by simp
 have oc:∀j,OcO F j->Occ { mask:=m,place:=((qzl m F).map (·.1)).toArray,dummies:=#[],finger:=f,led:=led,moves:=mv,plain:=plain } j:=λj ⟨k,Y⟩=>by
  obtain⟨i,hi,e⟩:=Qz6 ((qxk I (q:=(j,k))).mpr Y);refine⟨i,?_⟩;show((qzl m F).map (·.1)).toArray[i]?=_;rw[pl,Qqg hi,e]; rfl
 have ns:(((qzl m F).map (·.2)).toArray.filterMap (es[·]?)).size=es.size:=by
  rw[<- Qzb,tl,p1,Qqx,qvv I,L]
 refine⟨{ mask:=m,place:=((qzl m F).map (·.1)).toArray,dummies:=#[],finger:=f,led:=led,moves:=mv,plain:=plain },((qzl m F).map (·.2)).toArray,?_,⟨⟨hm,rfl,?_,?_,?_⟩,?_,?_⟩,ns,?_,rfl⟩
 ·unfold laid;rw[e]; rfl
 ·intro i k a b a3 ha hb;have ha:((qzl m F).map (·.1)).toArray[i]?=some a:=ha;have hb:((qzl m F).map (·.1)).toArray[k]?=some b:=hb;rw[pl]at ha hb;obtain⟨x,O,rfl⟩:=Qqi.mp ha;obtain⟨y,hy,rfl⟩:=Qqi.mp hb;obtain⟨h1,e1⟩:=Qqv.mp O;obtain⟨h2,e2⟩:=Qqv.mp hy;have:=Qxt.mp (qll m F) i k h1 h2 a3;rw[e1,e2]at this;exact this
 ·intro i j U;have U:((qzl m F).map (·.1)).toArray[i]?=some j:=U;rw[pl]at U;obtain⟨x,O,rfl⟩:=Qqi.mp U;have:=(qxk I).mp (Qqr O);have:=(Qzi.mp this).1;rw[I.size]at this;show x.1<=m;omega
 ·show((qzl m F).map (·.1)).toArray.size<=m;rw[Qqw,Qqx,qvv I,L]; exact hl
 ·show((qzl m F).map (·.1)).toArray.size=_;rw[Qqw,Qqx,qvv I,L,ns]
 ·intro i j x U O;have U:((qzl m F).map (·.1)).toArray[i]?=some j:=U;rw[pl]at U;rw[at_]at O;obtain⟨q,Z,rfl⟩:=Qqi.mp U;rw[Z]at O;have O:es[q.2]?=some x:=O;have ho:=(qxk I).mp (Qqr Z);obtain⟨n,a1,a2⟩:=I.reach q.1 q.2 x.1 ho (by rw[Qqu,Array.getElem?_map,O]; rfl);exact⟨n,a1,λz hz=>oc _ (a2 z hz)⟩
 ·intro x;rw[tl,Qxu];constructor
  ·rintro⟨k,_,Y⟩;exact Qqr (by rw[Qqu]; exact Y)
  ·intro O;obtain⟨k,Y,e'⟩:=Qz6 O;have a0:k<(es.map (·.1)).toList.length:=by rw[L]; simpa using Y
   obtain⟨j,U⟩:=I.sur k a0;refine⟨k,Qqk.mpr ⟨(j,k),(qxk I).mpr U,rfl⟩,?_⟩;rw[<- Qqu,Qqg Y,e']
end ST
end
section
namespace ST
open PySem SetTable
theorem qco{t:Qy}(T:Tb t){j:Nat->Int}{h:Int}{p:Probe}(z:Okp t.mask p){met:Option Met}(F:t.probe j h p=met):
  ∃n,(∀m,m<n->∃i:Nat,t.place[i]?=some (stp t.mask m p).j/\j i≠h)/\
   ((¬ Occ t (stp t.mask n p).j/\met=some (.empty (stp t.mask n p).j none))\/
    (∃i:Nat,t.place[i]?=some (stp t.mask n p).j/\j i=h/\met=some (.candidate (stp t.mask n p).j i (stp t.mask (n+1) p)))):=by
 subst F;exact qa9 T z
theorem SI.fits{α:Type}{t:Qy}{es:Array (Int×α)}(I:SI t es):t.fits es.size=true:=by
 unfold SetTable.fits SetTable.fill;rw[I.tb.dum];have:=I.tb.few;simp[I.sz];rw[<- I.sz]; exact this
theorem Tb.stays{t:Qy}(T:Tb t):t.gaveWay=false:=by
 unfold SetTable.gaveWay;rcases T.mask with h|h<;>rw[h]<;>rfl
section
variable {prog:Program}{w:Qk}{A:Qv}{E:Value->Qz->Prop}{s:Qz}{K:Type} [DecidableEq K]{knd:KeyKind prog w K}
theorem qkq(n:Nat){v:Value}(h:carriedByValue v=true):Zh n v=pure false:=by
 cases v with
 |ref a=>simp[carriedByValue]at h
 |_=>unfold Zh; rfl
theorem qkv{ks:List K}{b:Addr}{Q:Bool->Qz->Prop}(L:IsTupleKey knd s.heap ks b)(h:Q false s):wpAny (model prog w) A (Zh 8 (.ref b)) Q E s:=by
 have hT:=L.typeIs;obtain⟨o,z,n,O,Z,hd,hi⟩:=L;unfold Zh;refine Qq (wpAny_typeOf hT ?_);dsimp only;refine Qq ?_;refine Qj ?_;simp only[Qjq,Qqf,if_false];refine Qq (Qi O hd ?_);refine Qq ?_;show wpAny _ _ (forIn z _ _) _ _ s;rw[<- Array.forIn_toList];refine wpAny_forIn_list _ (λrest r s'=>r.1=none/\s'=s/\∀v∈rest,carriedByValue v=true) _ ?_ ?_ _ _ ⟨rfl,rfl,hi.byValue⟩
 ·rintro v rest r s' ⟨J,rfl,j⟩;rw[qkq _ (j v Qq0)];refine Qq (Qj ?_);simp only[Qqf,if_false];exact Qj ⟨rfl,rfl,λu F=>j u (Qqn _ F)⟩
 ·rintro⟨Y,U⟩ s' ⟨J,rfl,_⟩;simp only at J;subst J;exact Qj h
theorem qht{x:Addr}{ks:List K}{l:List Value}{Q:Bool->Qz->Prop}(L:IsTupleKey knd s.heap ks x)(Y:∀y∈l,∃b k,y=.ref b/\IsTupleKey knd s.heap k b)(h:Q false s):
  wpAny (model prog w) A (searchCouldBeSeen (.ref x) l) Q E s:=by
 unfold searchCouldBeSeen;refine Qq ?_;refine wpAny_forIn_list _ (λrest r s'=>r.1=none/\s'=s/\∀y∈rest,∃b k,y=.ref b/\IsTupleKey knd s.heap k b) _ ?_ ?_ _ _ ⟨rfl,rfl,Y⟩
 ·rintro y rest r s' ⟨J,rfl,j⟩;obtain⟨b,k,rfl,U⟩:=j y Qq0;have go:∀{r':MProd (Option Bool) PUnit},r'.1=none->(λ(r:ForInStep (MProd (Option Bool) PUnit)) F=>match r with|.done r=>r.1=none/\F=s'/\True|.yield r=>r.1=none/\F=s'/\True) (.yield r') s':=λh=>⟨h,rfl,trivial⟩
  dsimp only;have Z:(carriedByValue (Value.ref x)&&carriedByValue (Value.ref b))=false:=rfl;simp only[Z,Bool.or_false]
  by_cases O:(x==b)=true
  ·rw[Z3 O];exact Qj ⟨rfl,rfl,λu z=>j u (Qqn _ z)⟩
  ·rw[Z2 O];refine Qq (wpAny_eqIsQuiet_tuple L ?_);simp only[Qjq,Qqf,if_false];refine Qq (wpAny_eqIsQuiet_tuple U ?_);simp only[Qjq,Qqf,if_false];refine Qq (qkv L ?_);simp only[Qqf,if_false];refine Qq (qkv U ?_);simp only[Qqf,if_false];exact Qj ⟨rfl,rfl,λu z=>j u (Qqn _ z)⟩
 ·rintro⟨r1,r2⟩ s' ⟨J,rfl,_⟩;simp only at J;subst J;exact Qj h
end
section
variable {prog:Program}{w:Qk}{A:Qv}{E:Value->Qz->Prop}{s:Qz}
theorem ints_of{ks:List Int}{vs:List Value}(h:ItemsAre (intKind prog w) ks vs):∀v∈vs,∃i t,v=.int i t:=by
 induction h with
 |nil=>intro v j; simp at j
 |@cons k F ks vs h1 _ z=>
  intro v j;rcases Qqc.mp j with rfl|j
  ·obtain⟨t,e⟩:=Value.isInt_shape (show Value.isInt k v=true from h1);exact⟨k,t,e⟩
  ·exact z v j
theorem qau{ks:List Int}{b:Addr}{Q:Bool->Qz->Prop}(O:IsTupleKey (intKind prog w) s.heap ks b)(h:Q true s):wpAny (model prog w) A (hashByValue 8 (.ref b)) Q E s:=by
 have hT:=O.typeIs;obtain⟨o,z,n,U,hc,hd,hi⟩:=O;unfold hashByValue;refine Qq (wpAny_specialOf hT F.slot_tuple_hash.lookup ?_);dsimp only;refine Qq (Qi U hd ?_);refine Qq ?_;show wpAny _ _ (forIn z _ _) _ _ s;rw[<- Array.forIn_toList];refine wpAny_forIn_list _ (λrest r s'=>r.1=none/\s'=s/\∀v∈rest,∃i t,v=.int i t) _ ?_ ?_ _ _ ⟨rfl,rfl,ints_of hi⟩
 ·rintro v rest r s' ⟨L,rfl,j⟩;obtain⟨i,t,rfl⟩:=j v Qq0;have e:hashByValue 7 (.int i t)=pure true:=by simp[hashByValue]
  rw[e];refine Qq (Qj ?_);simp only[Qjq,Qqf,if_false];exact Qj ⟨rfl,rfl,λu J=>j u (Qqn _ J)⟩
 ·rintro⟨Z,Y⟩ s' ⟨L,rfl,_⟩;simp only at L;subst L;exact Qj h
def Els(prog:Program)(w:Qk)(h:Heap)(es:Array (Int×Value)):Prop:=∀(i:Nat) (e:Int×Value),es[i]?=some e->∃b k,e=(tupleKeyHash (intKind prog w) k,.ref b)/\IsTupleKey (intKind prog w) h k b
def Bad(prog:Program)(w:Qk)(h:Heap)(es:Array (Int×Value))(k:List Int)(i:Nat):Prop:=∀(e:Int×Value) (b:Addr) (k':List Int),es[i]?=some e->e.2=.ref b->IsTupleKey (intKind prog w) h k' b->k'≠k
theorem qv1{a:Addr}{o:Obj}{es:Array (Int×Value)}{ep:Nat}{t:Qy}{x:Addr}{k:List Int}{Q:SetFound->Qz->Prop}(hu:A.units<cLine)(ho:s.heap.get? a=some o)(hd:o.data=.set es ep t)(I:SI t es)(Y:Els prog w s.heap es)
  (hx:IsTupleKey (intKind prog w) s.heap k x)
  (hf:∀n,(∀m,m<n->∃i:Nat,t.place[i]?=some (stp t.mask m (qzn t.mask (tupleKeyHash (intKind prog w) k))).j/\Bad prog w s.heap es k i)->¬ Occ t (stp t.mask n (qzn t.mask (tupleKeyHash (intKind prog w) k))).j->
   Q (.free (stp t.mask n (qzn t.mask (tupleKeyHash (intKind prog w) k))).j false) s)
  (ht:(∃(i:Nat) (b:Addr) (g:Int),es[i]?=some (g,.ref b)/\IsTupleKey (intKind prog w) s.heap k b)->Q (.there none) s)
  (N:Nat) (hN:¬ Occ t (stp t.mask N (qzn t.mask (tupleKeyHash (intKind prog w) k))).j) :
  ∀(F j:Nat) (J:Option Probe),J.getD (t.probeStart (tupleKeyHash (intKind prog w) k))=stp t.mask j (qzn t.mask (tupleKeyHash (intKind prog w) k))->j<=N->N - j<F->
   (∀m,m<j->∃i:Nat,t.place[i]?=some (stp t.mask m (qzn t.mask (tupleKeyHash (intKind prog w) k))).j/\Bad prog w s.heap es k i)->
   wpAny (model prog w) A (Zu a (.ref x) (tupleKeyHash (intKind prog w) k) true F J) Q E s
 |0,j,_,_,_,a8,_=>by omega
 |F+1,j,J,a7,hle,a8,a4=>by
  unfold Zu;refine Qq (Q9 ho hd I.fits ?_);dsimp only;rw[I.tb.stays];simp only[Qqf,if_false];rw[a7];generalize hm:SetTable.probe t _ _ _=met;have a6:Okp t.mask (stp t.mask j (qzn t.mask (tupleKeyHash (intKind prog w) k))):=(Okp.start _).stp j;obtain⟨n,p1,p2⟩:=qco I.tb a6 hm;have a5:∀m,m<n->∃i:Nat,t.place[i]?=some (stp t.mask (j+m) (qzn t.mask (tupleKeyHash (intKind prog w) k))).j/\Bad prog w s.heap es k i:=λm a1=>by
   obtain⟨i,i1,i2⟩:=p1 m a1;refine⟨i,by rw[qqf]; exact i1,λe b k' U hb b0 z=>i2 ?_⟩;obtain⟨b',b5,e',q⟩:=Y i e U;have:(es[i]?.map (·.1)).getD 0=tupleKeyHash (intKind prog w) k:=by
    rw[U,e'];rw[e']at hb;cases hb;rw[q.inj b0,z]; rfl
   exact this
  have O:∀m,m<j+n->∃i:Nat,t.place[i]?=some (stp t.mask m (qzn t.mask (tupleKeyHash (intKind prog w) k))).j/\Bad prog w s.heap es k i:=λm a1=>by
   rcases Qz8 m j with h|h
   ·exact a4 m h
   ·obtain⟨i,i1,i2⟩:=a5 (m - j) (by omega);rw[show j+(m - j)=m by omega]at i1;exact⟨i,i1,i2⟩
  rw[<- qqf]at p2;rcases p2 with⟨q1,rfl⟩|⟨i,q1,q2,rfl⟩
  ·dsimp only;exact Qj (hf _ O q1)
  ·dsimp only;have hi:i<es.size:=by rw[<- I.sz]; exact(Qzi.mp q1).1
   have U:es[i]?=some es[i]:=Qq5 hi;obtain⟨b,k',e',hb⟩:=Y i _ U;rw[e']at U;have b6:j+n<N:=by
    rcases Qju (j+n) N with h|h|h
    ·exact h
    ·exact absurd ⟨i,by rw[<- h]; exact q1⟩ hN
    ·obtain⟨Z,i1,_⟩:=O N h;exact absurd ⟨Z,i1⟩ hN
   have rest:wpAny (model prog w) A (do
     let L <- holding [Value.ref b] (eqBool (.ref b) (.ref x))
     let (b4,_,t') <- setState a
     if true&&L then return .there none
     let some same:=t'.sameMemory t.moves t.mask|unsupported "set.changed-during-lookup:is-the-new-block-at-the-old-address"
     let a0 <- match (if same then t'.slot (stp t.mask (j+n) (qzn t.mask (tupleKeyHash (intKind prog w) k))).j else .empty) with
      |.live Z=>match b4[Z]? with
       |some (_,y')=>do pure (if <- isSame y' (.ref b) then some Z else none)
       |none=>pure none
      |_=>pure none
     match a0 with
     |none=>rule "set.search.anew"; Zu a (.ref x) (tupleKeyHash (intKind prog w) k) true F none
     |some Z=>if L then return .there (some Z) else Zu a (.ref x) (tupleKeyHash (intKind prog w) k) true F (some (stp t.mask (n+1) (stp t.mask j (qzn t.mask (tupleKeyHash (intKind prog w) k)))))) Q E s:=by
    refine Qq (Q3 (wpAny_eqBool_tuple hu hb hx ?_));refine Qq (Q9 ho hd I.fits ?_);dsimp only
    by_cases hk:k'=k
    ·subst hk;simp only[decide_true,Qkg,if_true];exact Qj (ht ⟨i,b,_,U,hb⟩)
    ·have ek:decide (k'=k)=false:=Z1 hk;simp only[ek,Qx5,Qqf,if_false];have em:t.sameMemory t.moves t.mask=some true:=by unfold SetTable.sameMemory; simp
     rw[em];dsimp only;simp only[if_true];rw[qjc I.tb q1];dsimp only;rw[U];dsimp only;refine Qq (wpAny_isSame_ref_self ?_);simp only[if_true];refine Qq (Qj ?_);dsimp only;refine qv1 hu ho hd I Y hx hf ht N hN F (j+n+1) _ ?_ (by omega) (by omega) λm a1=>?_
     ·show stp t.mask (n+1) (stp t.mask j _)=_;rw[<- qqf]; rfl
     ·rcases Qz8 m (j+n) with h|h
      ·exact O m h
      ·have:m=j+n:=by omega
       subst this;refine⟨i,q1,λe b1 k1 a3 b3 a9 z=>hk ?_⟩;rw[U]at a3;cases a3;cases b3;rw[hb.inj a9,z]
   have a2:∀y∈(es.filter (·.1==tupleKeyHash (intKind prog w) k)).toList.map (·.2),∃b k,y=.ref b/\IsTupleKey (intKind prog w) s.heap k b:=λy hy=>by
    obtain⟨e,h1,rfl⟩:=Qqk.mp hy;have h2:e∈es.toList:=by
     rw[Array.toList_filter]at h1;exact(Qzz.mp h1).1
    obtain⟨Z,b2,e1⟩:=Qz6 h2;obtain⟨b',k1,e2,q⟩:=Y Z e (by rw[<- Qqu,Qqg b2,e1]);exact⟨b',k1,by rw[e2],q⟩
   cases hl:t.led with
   |true=>
    simp only[Qjq,Qqf,if_false];rw[U];exact rest
   |false=>
    simp only[Qkd,if_true];refine Qq (qht hx a2 ?_);simp only[Qqf,if_false];rw[U];exact rest
end
end ST
end
section
namespace ST
open PySem SetTable
section
variable {prog:Program}{w:Qk}{A:Qv}{E:Value->Qz->Prop}{s:Qz}
def TS(prog:Program)(w:Qk)(h:Heap)(a:Addr)(S:List (List Int)):Prop:=∃o es ep t,h.get? a=some o/\o.ExactSet/\o.data=.set es ep t/\SI t es/\Els prog w h es/\es.size=S.length/\
 (∀k,k∈S↔∃g b,(g,Value.ref b)∈es.toList/\IsTupleKey (intKind prog w) h k b)/\(t.mask=7->es.size<=4)
theorem qdb{h h':Heap}{a b:Addr}{k:List Int}{o:Obj}{es:Array (Int×Value)}{ep:Nat}{t:Qy}(O:h.get? a=some o)(hd:o.data=.set es ep t)(L:Heap.SameBut a h h')(x:IsTupleKey (intKind prog w) h k b):IsTupleKey (intKind prog w) h' k b:=by
 obtain⟨o',j,n,F,U,z,hi⟩:=x;have J:b≠a:=by
  rintro rfl;obtain rfl:o'=o:=Option.some.inj (F.symm.trans O);rw[hd]at z; exact nomatch z
 exact⟨o',j,n,(L.2 b J).trans F,U,z,hi⟩
theorem qdv:SetTable.sizeAbove (SetTable.grown 5)=32:=by decide
theorem qfh{a:Addr}{o:Obj}{es:Array (Int×Value)}{ep:Nat}{t:Qy}{Q:Unit->Qz->Prop}(L:s.heap.get? a=some o)(hd:o.data=.set es ep t)(I:SI t es)(Y:es.size=5)
  (h:∀h' o' F J,Heap.SameBut a s.heap h'->h'.get? a=some o'->(o.ExactSet->o'.ExactSet)->o'.data=.set F (ep+1) J->SI J F->F.size=es.size->(∀e,e∈F.toList↔e∈es.toList)->J.mask=31->Q () { s with heap:=h' }) :
  wpAny (model prog w) A (setRelay a (SetTable.grown 5)) Q E s:=by
 unfold setRelay;refine Qq (Q9 L hd I.fits ?_);dsimp only;rw[Z2 (by rw[qdv]; decide)];obtain⟨J,j,O,I',z,mem,mk⟩:=qlp (f:=t.finger) (mv:=t.movedTo (SetTable.sizeAbove (SetTable.grown 5) - 1)) (led:=t.led) (plain:=t.plain) (m:=31) (.inr rfl) es (by omega);have er:t.relaid (es.map (·.1)) (SetTable.grown 5)=some (J,j):=by
  unfold SetTable.relaid;rw[qdv]at O ⊢;exact O
 rw[er];refine Qq ?_
 change wpAny _ _ (do
  let some (t,j):=(some (J,j):Option (Qy×Array Nat))|unsupported "internal:set-table-without-room"
  let F:=j.filterMap (es[·]?)
  if F.size != es.size then unsupported "internal:set-table-lost-an-element"
  pure (F,t)) _ _ _
 dsimp only;have Z:((j.filterMap (es[·]?)).size != es.size)=false:=by rw[z]; simp
 rw[Z];simp only[Qqf,if_false];refine Qj ?_;refine wpAny_storeSet_of L hd ?_ (by rw[z,Y,Q8]; decide);have U:(s.heap.update a (Obj.putSet (j.filterMap (es[·]?)) J)).get? a=some { o with data:=.set (j.filterMap (es[·]?)) (ep+1) J }:=by
  have:=Qjv (Obj.putSet (j.filterMap (es[·]?)) J) L (by rw[putSet_of _ _ hd]; rfl);rw[putSet_of _ _ hd]at this; exact this
 exact h _ _ _ _ (Heap.SameBut.update _ a _) U (λq=>q) rfl I' z mem mk
theorem ql1{m:Nat}(h:Int):(qzn m h).j+(qzn m h).more<=m:=by
 have hi:bits h % (m+1)<=m:=Qxd (Qja _ (Qx3 _));obtain⟨z,j⟩:=qje hi;show bits h % (m+1)+(runEnd m (bits h % (m+1)) - bits h % (m+1))<=m;omega
theorem j_next{m:Nat}{p:Probe}(h:p.j+p.more<=m):(adv m p).j+(adv m p).more<=m:=by
 unfold adv
 split
 ·show p.j+1+(p.more - 1)<=m; omega
 ·have hi:(leap m p.i p.perturb).1<=m:=Qxd (Qja _ (Qx3 _));obtain⟨z,j⟩:=qje hi;show(leap m p.i p.perturb).1+(runEnd m (leap m p.i p.perturb).1 - (leap m p.i p.perturb).1)<=m;omega
theorem j_stp{m:Nat}:∀(n:Nat){p:Probe},p.j+p.more<=m->(stp m n p).j+(stp m n p).more<=m
 |0,_,h=>h
 |n+1,_,h=>j_stp n (j_next h)
theorem add_ok{a x:Addr}{S:List (List Int)}{k:List Int}{Q:Bool->Qz->Prop}(hu:A.units<cLine)(hT:TS prog w s.heap a S)(hx:IsTupleKey (intKind prog w) s.heap k x)(hl:S.length<=15)
  (h:∀b h',Heap.SameBut a s.heap h'->TS prog w h' a (if k∈S then S else S++[k])->Q b { s with heap:=h' }) :
  wpAny (model prog w) A (setAddHashed a (.ref x) (tupleKeyHash (intKind prog w) k)) Q E s:=by
 have c6:=hT;obtain⟨o,es,ep,t,ho,b3,hd,I,Z,a7,J,h4⟩:=hT;have a3:∀{e:Int×Value},e∈es.toList->∃i:Nat,es[i]?=some e:=λ{e} he=>by
  obtain⟨i,hi,e1⟩:=Qz6 he;exact⟨i,by rw[<- Qqu,Qqg hi,e1]⟩
 unfold setAddHashed setAddHashedIn;refine Q3 (Qq (Q9 ho hd I.fits ?_));dsimp only;have eb:byScan (.ref x) es=false:=rfl;rw[eb];simp only[Qqf,if_false];obtain⟨fr,c2,c3⟩:=some_free I.tb;obtain⟨N,hN,eN⟩:=hits I.tb.mask (Okp.start (tupleKeyHash (intKind prog w) k)) c2;refine Qq ?_;unfold setSearch;refine qv1 hu ho hd I Z hx (λn a2 U=>?_) (λb8=>?_) N (by rw[eN]; exact c3) 100000 0 none rfl (Qzu _) ?_ (λm Y=>by omega)
 ·-- c9 element is new
  dsimp only;have a9:k ∉ S:=λhk=>by
   obtain⟨g,b,Y,hb⟩:=(J k).mp hk;obtain⟨i,hi⟩:=a3 Y;obtain⟨b',k',e',c5⟩:=Z i _ hi;have e1:g=tupleKeyHash (intKind prog w) k':=congrArg Prod.fst e';have e2:b=b':=Value.ref.inj (congrArg Prod.snd e');subst e2;obtain rfl:=hb.inj c5;exact qet I a2 U i _ hi e1 _ b k hi rfl hb rfl
  have c0:es.size+1<=t.mask:=by
   rcases I.tb.mask with q|q
   ·have:=h4 q; omega
   ·omega
  have b0:(stp t.mask n (qzn t.mask (tupleKeyHash (intKind prog w) k))).j<=t.mask:=Qzh (Qj8 _ _) (j_stp n (ql1 _));generalize hj:(stp t.mask n (qzn t.mask (tupleKeyHash (intKind prog w) k))).j=j at *;have I1:SI (t.put j).1 (insertAt es (t.put j).2 (tupleKeyHash (intKind prog w) k,Value.ref x)):=put_ok I b0 U ⟨n,hj,λm Y=>by obtain⟨i,hi,_⟩:=a2 m Y; exact⟨i,hi⟩⟩ c0;refine Qq (Q9 ho hd I.fits ?_);dsimp only;have a8:(t.put j).2<=es.size:=by rw[qcn I.tb,<- I.sz]; exact(qxr I.tb.up).2.2
  have O:(t.put j).1.mask=t.mask:=by rw[qcn I.tb]
  have z:(insertAt es (t.put j).2 (tupleKeyHash (intKind prog w) k,Value.ref x)).size=es.size+1:=qjj _ _ _ a8;have a0:∀e,e∈(insertAt es (t.put j).2 (tupleKeyHash (intKind prog w) k,Value.ref x)).toList↔e∈es.toList\/e=(tupleKeyHash (intKind prog w) k,Value.ref x):=λe=>ql8 a8;have b5:∀(h':Heap) (F:Array (Int×Value)),Heap.SameBut a s.heap h'->(∀e,e∈F.toList↔e∈es.toList\/e=(tupleKeyHash (intKind prog w) k,Value.ref x))->
    Els prog w h' F/\∀k',k'∈S++[k]↔∃g b,(g,Value.ref b)∈F.toList/\IsTupleKey (intKind prog w) h' k' b:=λh' F sb Y=>by
   have kp:∀{b:Addr}{k':List Int},IsTupleKey (intKind prog w) s.heap k' b->IsTupleKey (intKind prog w) h' k' b:=λq=>qdb ho hd sb q;refine⟨λi e he=>?_,λk'=>?_⟩
   ·rcases (Y e).mp (Qqr (by rw[Qqu]; exact he)) with q|q
    ·obtain⟨i',a4⟩:=a3 q;obtain⟨b,k',e',hb⟩:=Z i' _ a4;exact⟨b,k',e',kp hb⟩
    ·exact⟨x,k,q,kp hx⟩
   ·constructor
    ·intro hk;rcases Qqt.mp hk with q|q
     ·obtain⟨g,b,q1,q2⟩:=(J k').mp q;exact⟨g,b,(Y _).mpr (.inl q1),kp q2⟩
     ·rw[Qqb]at q;subst q;exact⟨_,x,(Y _).mpr (.inr rfl),kp hx⟩
    ·rintro⟨g,b,q1,q2⟩;rcases (Y _).mp q1 with q|q
     ·obtain⟨i',a4⟩:=a3 q;obtain⟨b',d0,e',hb⟩:=Z i' _ a4;have e2:b=b':=Value.ref.inj (congrArg Prod.snd e');subst e2;obtain rfl:=q2.inj (kp hb);exact Qzf _ ((J k').mpr ⟨g,b,q,hb⟩)
     ·have e2:b=x:=Value.ref.inj (congrArg Prod.snd q);subst e2;obtain rfl:=q2.inj (kp hx);exact Qqs _ (by simp)
  have a1:∀(b:Bool) (L:Qy),SI L (insertAt es (t.put j).2 (tupleKeyHash (intKind prog w) k,Value.ref x))->L.mask=t.mask->
    wpAny (model prog w) A (do
     storeSet a (insertAt es (t.put j).2 (tupleKeyHash (intKind prog w) k,Value.ref x)) L
     if (!false&&L.tooFull)=true then do
      setRelay a (SetTable.grown (es.size+1))
      pure true
     else pure true) Q E s:=λb L I2 c1=>by
   refine Qq (wpAny_storeSet_of ho hd ?_ (by rw[z,Q8]; omega));have hg:(s.heap.update a (Obj.putSet (insertAt es (t.put j).2 (tupleKeyHash (intKind prog w) k,Value.ref x)) L)).get? a=some { o with data:=.set (insertAt es (t.put j).2 (tupleKeyHash (intKind prog w) k,Value.ref x)) (ep+1) L }:=by
    have:=Qjv (Obj.putSet (insertAt es (t.put j).2 (tupleKeyHash (intKind prog w) k,Value.ref x)) L) ho (by rw[putSet_of _ _ hd]; rfl);rw[putSet_of _ _ hd]at this; exact this
   have sb:=Heap.SameBut.update s.heap a (Obj.putSet (insertAt es (t.put j).2 (tupleKeyHash (intKind prog w) k,Value.ref x)) L);obtain⟨fe,fm⟩:=b5 _ _ sb a0;have b4:L.tooFull=decide ((es.size+1)*5 >= t.mask*3):=by
    unfold SetTable.tooFull SetTable.fill;rw[I2.tb.dum,I2.sz,z,c1]; rfl
   rw[b4]
   by_cases b1:(es.size+1)*5 >= t.mask*3
   ·have m7:t.mask=7:=by
     rcases I.tb.mask with q|q
     ·exact q
     ·omega
    have e5:es.size+1=5:=by have:=h4 m7; omega
    simp only[Z0 b1,Qkd,Qkg,if_true];rw[e5];refine Qq (qfh (s:={ s with heap:=_ }) hg rfl I2 (by rw[z,e5]) λh' o' F t' b6 b9 b2 c4 I' z' a6 b7=>Qj ?_);have a5:=sb.trans b6;obtain⟨c8,c7⟩:=b5 h' F a5 λe=>(a6 e).trans (a0 e);refine h true h' a5 ?_;rw[Z2 a9];exact⟨o',F,_,t',b9,b2 b3,c4,I',c8,by rw[z',z,a7]; simp,c7,λq=>by rw[b7]at q; cases q⟩
   ·simp only[Z1 b1,Qkd,Qx5,Qqf,if_false];refine Qj (h true _ sb ?_);rw[Z2 a9];exact⟨_,_,_,L,hg,b3,rfl,I2,fe,by rw[z,a7]; simp,fm,λq=>by rw[z]; omega⟩
  cases d1:(t.put j).1.plain with
  |true=>
   simp only[if_true];refine Qq (qau hx ?_);simp only[if_true];exact a1 true _ I1 O
  |false=>
   simp only[Qqf,if_false];refine Qq (Qj ?_);simp only[if_true];exact a1 true _ I1 O
 ·-- it is there
  dsimp only;refine Qj ?_;obtain⟨i,b,g,hi,hb⟩:=b8;have hk:k∈S:=(J k).mpr ⟨g,b,Qqr (by rw[Qqu]; exact hi),hb⟩;have e:s={ s with heap:=s.heap }:=by cases s; rfl
  rw[e];exact h false s.heap (Heap.SameBut.refl a s.heap) (by rw[Z3 hk]; exact c6)
 ·have:t.mask<=31:=by rcases I.tb.mask with q|q<;>omega
  unfold SetTable.turns at hN;omega
end
end ST
end
section
namespace ST
open PySem SetTable PyProof.Rows
noncomputable def addK(S:List (List Int))(k:List Int):List (List Int):=if k∈S then S else S++[k]
noncomputable def distinct(ks:List (List Int)):List (List Int):=ks.foldl addK []
theorem qml(S:List (List Int))(k:List Int):(addK S k).length<=S.length+1:=by unfold addK; split<;>simp
theorem foldK_le:∀(l S:List (List Int)),(l.foldl addK S).length<=S.length+l.length
 |[],S=>by simp
 |k::l,S=>by
  have:=foldK_le l (addK S k);have:=qml S k;rw[Qxs,Qqh]; omega
section
variable {prog:Program}{w:Qk}{A:Qv}{R:Result->Qz->Prop}{I:Addr}{fp wr:List Addr}{G:Array GenState->Array GenState->Prop}{n:Nat}{P:Nat->Value->Prop}{St:Nat->Qz->Prop}
theorem TS.keeps{h h':Heap}{a:Addr}{S:List (List Int)}(x:TS prog w h a S)(hk:∀b o,(b=a\/∃k,IsTupleKey (intKind prog w) h k b)->h.get? b=some o->h'.get? b=some o):TS prog w h' a S:=by
 obtain⟨o,es,ep,t,ho,Z,hd,I,J,U,F,h4⟩:=x;have kp:∀{b:Addr}{z:List Int},IsTupleKey (intKind prog w) h z b->IsTupleKey (intKind prog w) h' z b:=λ{b z} q=>by
  obtain⟨o',j,n,Y,r⟩:=id q;exact⟨o',j,n,hk b o' (.inr ⟨z,q⟩) Y,r⟩
 refine⟨o,es,ep,t,hk a o (.inl rfl) ho,Z,hd,I,λi e he=>?_,U,λk=>?_,h4⟩
 ·obtain⟨b,k,e',q⟩:=J i e he;exact⟨b,k,e',kp q⟩
 ·rw[F k];constructor
  ·rintro⟨g,b,L,O⟩; exact⟨g,b,L,kp O⟩
  ·rintro⟨g,b,L,O⟩;obtain⟨i,hi,e1⟩:=Qz6 L;obtain⟨b',z,e',q⟩:=J i (g,.ref b) (by rw[<- Qqu,Qqg hi,e1]);have e2:b=b':=Value.ref.inj (congrArg Prod.snd e');subst e2;obtain rfl:=O.inj (kp q);exact⟨g,b,L,q⟩
theorem qli(hu:A.in1.units<cLine)(W:WalksS prog w A.in1 I fp wr G n P St)(S:Addr)(b1:S ∉ fp)(a2:∀b∈wr,∀s i,St i s->¬ ∃k,IsTupleKey (intKind prog w) s.heap k b)
  (ks:List (List Int)) (hn:ks.length=n) (c5:n<=16) (a3:∀i v,P i v->∃b,v=.ref b) (Kp:Qz->Prop) (b9:∀s i b,Kp s->P i (.ref b)->∃k,ks[i]?=some k/\IsTupleKey (intKind prog w) s.heap k b)
  (a8:∀s s',Kp s->(∀b o,(∃k,IsTupleKey (intKind prog w) s.heap k b)->s.heap.get? b=some o->s'.heap.get? b=some o)->Kp s') :
  ∀(k i:Nat) (s:Qz),n - i=k->i<=n->St i s->Kp s->TS prog w s.heap S ((ks.take i).foldl addK [])->
   (∀s',Moved (S::wr) G s s'->TS prog w s'.heap S (distinct ks)->R (.ok (.ret .none)) s')->
   Ze (model prog w) A (.builtin "set.update.loop" ⟨[.ref S,.ref I],[]⟩) R s:=by
 have c2:S ∉ wr:=λh=>b1 (W.sub _ h);have U:∀b∈wr,b∈S::wr:=λb j=>Qqn _ j
 have a1:∀{s s':Qz}{i:Nat}{L:List (List Int)},St i s->Moved wr G s s'->TS prog w s.heap S L->TS prog w s'.heap S L:=λ{s s' i L} st Y x=>x.keeps λb o j ho=>Y.heap b o (λhw=>by
  rcases j with rfl|j
  ·exact c2 hw
  ·exact a2 b hw s i st j) ho
 intro k
 induction k with
 |zero=>
  intro i s hk hi J b4 hS hR;have c0:i=n:=by omega
  subst c0;refine codeAny_builtin F.entry_set_update_loop ?_;rw[Around.under_plainId F.plain_set_update_loop _];show wpAny _ A.in1 (pyNext (.ref I) >>= _) _ _ s;refine Qq (W.done s _ _ J λs' Y=>?_);show wpAny _ A.in1 (ret Value.none) _ _ s';refine Qj (hR s' (Y.mono U) (a1 J Y ?_));rw[<- hn,Qxz]at hS;exact hS
 |succ k ih=>
  intro i s hk hi J b4 hS hR;have a6:i<n:=by omega
  refine codeAny_builtin F.entry_set_update_loop ?_;rw[Around.under_plainId F.plain_set_update_loop _];show wpAny _ A.in1 (pyNext (.ref I) >>= _) _ _ s;refine Qq (W.item i s _ _ a6 J λv s' hP a4 Y=>?_);obtain⟨b,rfl⟩:=a3 i v hP;have Z:Kp s':=a8 s s' b4 λb' o j ho=>Y.heap b' o (λhw=>a2 b' hw s i J j) ho;obtain⟨key,a9,j⟩:=b9 s' i b Z hP;have b3:=a1 J Y hS;show wpAny _ A.in1 (holding [Value.ref b] (setAdd S (.ref b)) >>= _) _ _ s';refine Qq (Q3 ?_);unfold setAdd;refine Q3 ?_;refine Qq (wpAny_pyHash_tuple hu j ?_);have a7:((ks.take i).foldl addK []).length<=15:=by
   have:=foldK_le (ks.take i) [];rw[Qq9]at this;simp at this;omega
  have b8:(ks.take (i+1)).foldl addK []=addK ((ks.take i).foldl addK []) key:=by
   rw[Qjf,a9,List.foldl_append]; rfl
  refine add_ok (s:={ s' with toks:=s'.toks+(key.length+1) }) hu b3 j a7 λ_ h' a0 c4=>?_;have c3:TS prog w h' S ((ks.take (i+1)).foldl addK []):=by rw[b8]; exact c4
  have b6:∀{b':Addr},(∃k,IsTupleKey (intKind prog w) s'.heap k b')->b'≠S:=λ{b'} ⟨k',q⟩ z=>by
   obtain⟨o,es,ep,t,ho,_,hd,_⟩:=b3;obtain⟨o',b7,m,O,_,b0,_⟩:=q;rw[z]at O;obtain rfl:o'=o:=Option.some.inj (O.symm.trans ho);rw[hd]at b0; exact nomatch b0
  refine Qj ⟨plainId_quiet F.plain_set_update_loop _,ih (i+1) _ (by omega) a6 (W.frame _ s' _ _ a4 (Qj8 _ _) λb j o e=>?_) (a8 s' _ Z λb' o c1 O=>(a0.2 b' (b6 c1)).trans O) c3 λb5 a5 b2=>?_⟩
  ·rw[a0.2 b (λh:b=S=>b1 (by rw[<- h]; exact j))]; exact e
  ·refine hR b5 (Moved.trans W.gtrans ((Y.mono U).then_heap (Qj8 _ _) λb o j e=>?_) a5) b2;rw[a0.2 b (λh:b=S=>j (by rw[h]; exact Qq0))]; exact e
end
end ST
end
section
namespace ST
open PySem SetTable
theorem qe6:isSubtype (.type "tuple") (.type "set")=pure false:=by rw[isSubtype_type]; kernel_rfl
theorem qw3:isSubtype (.type "tuple") (.type "frozenset")=pure false:=by rw[isSubtype_type]; kernel_rfl
noncomputable abbrev bare(led:Bool):Obj:={ cls:=.type "set",dict:=none,data:=.set #[] 0 (.fresh 0 0 led) }
def Cells(prog:Program)(w:Qk)(h:Heap)(items:Array Value)(ks:List (List Int)):Prop:=∀(i:Nat) (v:Value),items[i]?=some v->∃b k,v=.ref b/\ks[i]?=some k/\IsTupleKey (intKind prog w) h k b
section
variable {prog:Program}{w:Qk}{E:Value->Qz->Prop}
theorem qgj{B:Qv}{j:Heap}{led:Bool}{l:Addr}{items:Array Value}{ks:List (List Int)}{s:Qz}{Z:Fin->Qz->Prop}(calm:B.handled=none)(room:B.units+4<cLine)(tup:j.IsTuple l items)(F:Cells prog w j items ks)
  (n1:ks.length=items.size) (n2:items.size<=16) (hs:s.heap=j.push (bare led))
  (done:∀h1 k1,TS prog w h1 j.objs.size (distinct ks)->(∀b o,b<j.objs.size->j.get? b=some o->h1.get? b=some o)->Z (.done (.ret .none)) { s with heap:=h1,toks:=k1 }) :
  wpAny (model prog w) B (Zx.«set.__init__» ⟨[.ref j.objs.size,.ref l],[]⟩) Z E s:=by
 obtain⟨hp,gs,dr,tk,os⟩:=s;dsimp only at hs done;subst hs;obtain⟨⟨tc,td,b0,b1⟩,t1,t2,nl,t3⟩:=id tup;dsimp only at t2 t3;subst t2 t3;have a4:(j.push (bare led)).get? j.objs.size=some (bare led):=Qql _ rfl;have a8:=Qqz (bare led) t1;have a1:=qe6;have a2:=qw3;have a3:(Value.type "tuple" == Value.type "dict")=false:=by decide
 have b3:Shared.TypeIs ⟨j.push (bare led),gs,dr,tk,os⟩ (.ref j.objs.size) "set":=⟨_,a4,rfl⟩
 have L:(j.push (bare led)).IsTuple l items:=⟨_,a8,rfl,nl,rfl⟩
 unfold Zx.«set.__init__» noKeywords Builtin.Frozenset.updateFrom;generalize ei:pyIter=a9
 wp_walk
 subst ei;refine wpAny_pyIter_tuple L (Qq (wpAny_runValue ?_));have a0:l<j.objs.size:=Qqd t1;have sz:(j.push (bare led)).objs.size=j.objs.size+1:=Qxw ..;have nI:l≠(j.push (bare led)).objs.size:=by rw[sz]; exact Qq4 (Qjs a0)
 have nS:j.objs.size ∉ [(j.push (bare led)).objs.size,l]:=by
  rw[sz];simp only[Qqc,Qzc,or_false,not_or];exact⟨Qq4 (Qzs _),Qj3 a0⟩
 refine qli (by show B.units+1<cLine; omega) ((Walks.tuple (by simp[calm]) _ l nI items).toS) j.objs.size nS ?J ks n1 n2 (λi v hv=>?isRef)
  (λz=>∀(i:Nat) (b:Addr),items[i]?=some (.ref b)->∃k,ks[i]?=some k/\IsTupleKey (intKind prog w) z.heap k b) (λz i b q hp=>q i b hp) ?stay items.size 0 _ rfl (Qzu _) ⟨⟨_,Qql _ rfl,rfl,rfl⟩,?Y⟩ ?keys ?empty ?fin
 case isRef=>obtain⟨b,_,e,_⟩:=F i v hv; exact⟨b,e⟩
 case Y=>obtain⟨ob,e1,e2⟩:=L; exact⟨ob,Qqz _ e1,e2⟩
 case J=>
  rintro b O z i ⟨⟨ob,u1,_,u3⟩,_⟩ ⟨_,oc,_,_,U,_,v3,_⟩;rw[Qqb.mp O,u1]at U;cases U;rw[u3]at v3;cases v3
 case stay=>
  intro z1 z2 q keep i b O;obtain⟨k,e,y⟩:=q i b O;obtain⟨oc,it,m,U,r⟩:=id y;exact⟨k,e,oc,it,m,keep b oc ⟨k,y⟩ U,r⟩
 case keys=>
  intro i b O;obtain⟨b',k,e,ek,oc,it,m,U,r⟩:=F i _ O;cases e;exact⟨k,ek,oc,it,m,Qqz _ (Qqz _ U),r⟩
 case empty=>exact⟨_,#[],0,_,Qqz _ a4,⟨rfl,rfl,rfl⟩,rfl,qgc led,λi e he=>by simp at he,rfl,λk=>by simp,λ_=>by simp⟩
 case fin=>
  intro z mv q;obtain⟨h1,b4,dr',a5,b2⟩:=z;obtain⟨m1,rfl,rfl,rfl,_⟩:=mv;refine Qj (Qj (done h1 a5 q λb o O e=>m1 b o ?_ (Qqz _ (Qqz _ e))));have a7:b≠j.objs.size:=Qq4 O;have a6:b≠(j.push (bare led)).objs.size:=by rw[sz]; exact Qq4 (Qjs O)
  simp only[Qqc,Qzc,or_false,not_or];exact⟨a7,a6⟩
end
end ST
end
section
namespace ST
open PySem SetTable
section
variable {prog:Program}{w:Qk}{A:Qv}{E:Value->Qz->Prop}{s:Qz}
theorem TS.size{h:Heap}{a:Addr}{S:List (List Int)}(x:TS prog w h a S)(L:S.length<=16):∃o es z t,h.get? a=some o/\o.ExactSet/\o.data=.set es z t/\t.fits es.size=true/\(es.size:Int)<2 ^ 63/\es.size=S.length:=by
 obtain⟨o,es,z,t,J,j,hd,I,_,F,_⟩:=x;exact⟨o,es,z,t,J,j,hd,I.fits,by omega,F⟩
theorem set_call{l:Addr}{items:Array Value}{ks:List (List Int)}{Q:Value->Qz->Prop}(calm:A.handled=none)(room:A.units+12<cLine)(tup:s.heap.IsTuple l items)(Y:Cells prog w s.heap items ks)(n1:ks.length=items.size)(n2:items.size<=16)
  (k:∀h1 U,TS prog w h1 s.heap.objs.size (distinct ks)->(∀b o,b<s.heap.objs.size->s.heap.get? b=some o->h1.get? b=some o)->Q (.ref s.heap.objs.size) { s with heap:=h1,toks:=U }) :
  wpAny (model prog w) A (call (.type "set") [.ref l]) Q E s:=by
 have O:=F.called_set;obtain⟨_,_,f1⟩:=O.mro;have f2:=O.made;have f3:=O.sub;have f4:=O.notType;have f5:=O.canCreate;have f6:=F.typeCall_set_1 (.ref l);refine wpAny_call (codeAny_of_tree (show wpAny _ _ (callAny (.type "set") _) _ _ _ from Qj ⟨Code.quiet_builtin _ (by decide +kernel),codeAny_builtin F.entry_type_call ?_⟩));rw[Around.under_plain (weight_type_call_type "set" [.ref l] []) rfl]
 repeat (any_goals (first|assumption|wp_step))
 refine Za (code_set_new_1 (.ref l) (E:=E) (Q₁:=λob z=>∃J,ob=.ref s.heap.objs.size/\z={ s with heap:=s.heap.push (bare J) }) λJ=>⟨J,rfl,rfl⟩) λr z L=>?_
 match r,L with
 |.error _,L=>exact L
 |.ok .next,L=>exact L.elim
 |.ok .brk,L=>exact L.elim
 |.ok .cont,L=>exact L.elim
 |.ok (.ret ob),L=>
  obtain⟨J,rfl,rfl⟩:=L;have Z:Shared.TypeIs { s with heap:=s.heap.push (bare J) } (.ref s.heap.objs.size) "set":=⟨_,Qql _ rfl,rfl⟩
  have f7:=O.init.lookup;have f8:=O.init.bind (.ref s.heap.objs.size)
  repeat (any_goals (first|assumption|wp_step))
  refine Za (codeAny_call_builtin (R:=wants (λr z=>r=.none/\∃h1 U,z={ s with heap:=h1,toks:=U }/\TS prog w h1 s.heap.objs.size (distinct ks)/\∀b o,b<s.heap.objs.size->s.heap.get? b=some o->h1.get? b=some o) E) O.init.plain F.entry_set_init (check_set_init_1 Z ?_)) λr2 z2 j=>?_
  ·exact qgj (led:=J) (by simp[calm]) (by show A.units+1+1+4<cLine; omega) tup Y n1 n2 rfl λh1 U q keep=>⟨rfl,h1,U,rfl,q,keep⟩
  ·match r2,j with
   |.error _,j=>exact j
   |.ok .next,j=>exact j.elim
   |.ok .brk,j=>exact j.elim
   |.ok .cont,j=>exact j.elim
   |.ok (.ret _),j=>
    obtain⟨rfl,h1,U,rfl,q,keep⟩:=j
    repeat (any_goals (first|assumption|wp_step))
    exact k h1 U q keep
end
end ST
end
section
namespace MS
open PySem PySem.Spec PyProof.Rows L2
noncomputable def setO(a:Addr)(n:Nat):HO:=.ext λh=>∃o es ep t,h.get? a=some o/\o.ExactSet/\o.data=.set es ep t/\t.fits es.size=true/\(es.size:Int)<2 ^ 63/\es.size=n
def qmm(K:Qqq)(H:Hp):List V->List (List Int)->Prop:=Paired λy k=>∃q,y=.ref q/\SqT K H q (k.map V.int)
theorem items_int{prog:Program}{w:Qk}:∀{k:List Int}{j:List Value},Vals (k.map V.int) j->ItemsAre (intKind prog w) k j
 |[],_,h=>by cases h; exact .nil
 |i::k,_,h=>by
  cases h with
  |cons r t=>
   obtain⟨z,rfl⟩:=r;exact .cons (intKind_is _ _ _ _) (items_int t)
section
variable {X:Cx}
theorem qik{j:List (Addr×Obj)}{F:L2.St}{H:Hp}{s:Qz}(I:Inv X j F H s){q:Addr}{k:List Int}(h:SqT X.K H q (k.map V.int)):IsTupleKey (intKind X.prog X.w) s.heap k q:=by
 obtain⟨z,r,⟨o,J,L,n,hd⟩,_⟩:=I.tuple h;exact⟨o,z.toArray,n,J,L,hd,items_int r⟩
theorem qap{j:List (Addr×Obj)}{F:L2.St}{H:Hp}{s:Qz}(I:Inv X j F H s):∀{ys:List V}{ks:List (List Int)}{z:List Value},qmm X.K H ys ks->Vals ys z->
  ∀(i:Nat) (v:Value),z[i]?=some v->∃b k,v=.ref b/\ks[i]?=some k/\IsTupleKey (intKind X.prog X.w) s.heap k b
 |_,_,_,.nil,r,i,v,e=>by cases r; simp at e
 |_,_,_,.cons (a:=y) (b:=k) h t,r,i,v,e=>by
  cases r with
  |cons L J=>
   obtain⟨q,rfl,O⟩:=h
   cases i with
   |zero=>
    simp at e;subst e;cases L;exact⟨q,k,rfl,rfl,qik I O⟩
   |succ i=>
    simp only[Qkj]at e ⊢;exact qap I t J i v e
theorem qej(calm:X.A.handled=none)(room:X.A.units+64<cLine):qqc X (.type "set") (λxs H Q=>∃p ys ks,xs=[.ref p]/\SqT X.K H p ys/\qmm X.K H ys ks/\ys.length<=16/\∀l,H l=none->Q (.ref l) (upd H l (setO l (ST.distinct ks).length))):=by
 intro pins s σ H xs us Q I r h;obtain⟨p,ys,ks,rfl,hq,U,hl,q⟩:=h;obtain⟨u,rfl,rx⟩:=vals1 r;cases rx;obtain⟨j,r',⟨o,ho,z,n,hd⟩,hz⟩:=I.tuple hq;have l1:=r'.length;have l2:ys.length=ks.length:=Paired.length U;refine ST.set_call (items:=j.toArray) (ks:=ks) calm (by omega) ⟨o,ho,z,n,hd⟩ (λi v e=>qap I U r' i v (by simpa using e)) (by simp; omega) (by simp; omega) λh1 k1 T keep=>?_;have le:=ST.foldK_le ks []
 obtain⟨O,es,ep,t,Y,a2,a3,a4,a5,a6⟩:=T.size (by
  show(ks.foldl ST.addK []).length<=16
  simp at le; omega)
 refine⟨.ref s.heap.objs.size,_,I.laid (t':=k1) (λb o e=>keep b o (Qqd e) e) (Qqj _) ?_,rfl,q _ (I.hok.fresh (Qqj _))⟩;exact⟨⟨O,es,ep,t,Y,a2,a3,a4,a5,a6⟩,⟨O,Y⟩,λh2 h3 ⟨L,F,J,Z,b1,b2⟩ kp=>⟨L,F,J,Z,kp L b1,b2⟩⟩
theorem qea:qqc X (.builtin "len") (λxs H Q=>∃p n,xs=[.ref p]/\H p=some (setO p n)/\Q (.int n) H):=by
 intro pins s σ H xs Z Q I r h;obtain⟨p,n,rfl,z,q⟩:=h;obtain⟨u,rfl,j⟩:=vals1 r;cases j;obtain⟨⟨o,es,ep,t,Y,U,O,L,J,F⟩,_⟩:=(show ObjOk X.prog X.w H s.heap p (setO p n) from I.hok p _ z)
 refine call_len_set Y U O L J ?_;exact⟨.int n,H,I.kept (t':=s.toks+1+1) (λb o e=>e),⟨_,by rw[F]⟩,q⟩
end
end MS
end
section
namespace MS
open PySem PySem.Spec PyProof.Rows L2
open M (D Store)
section
variable {X:Cx}
theorem qab{K:Qqq}{m:List Addr}{H:Hp}:∀{ds:List D}{xs:List V}{k:List Int},IsDs K m H ds xs->(ds.mapM λd=>match d with|.int i=>some i|_=>none)=some k->xs=k.map V.int
 |[],xs,k,h,e=>by
  simp at e;subst e;exact Qz0.mp h.length.symm
 |d::ds,xs,k,h,e=>by
  rw[Qke]at e
  cases d with
  |int i=>
   obtain⟨x,r,rfl,h1,h2⟩:=h.cons
   cases j:(ds.mapM λd=>match d with|M.D.int i=>some i|_=>none) with
   |none=>rw[j]at e; cases e
   |some z=>
    rw[j]at e;cases e;rw[h1.int,qab h2 j]; rfl
  |_=>cases e
theorem qda{K:Qqq}{m:List Addr}{H:Hp}:∀{ds:List D}{xs:List V}{ks:List (List Int)},IsDs K m H ds xs->ds.mapM M.keyD=some ks->qmm K H xs ks
 |[],xs,ks,h,e=>by
  simp at e;subst e;rw[Qz0.mp h.length.symm];exact .nil
 |d::ds,xs,ks,h,e=>by
  rw[Qke]at e
  cases d with
  |tup cs=>
   obtain⟨x,r,rfl,h1,h2⟩:=h.cons
   cases j:M.keyD (.tup cs) with
   |none=>rw[j]at e; cases e
   |some k=>
    cases z:ds.mapM M.keyD with
    |none=>rw[j,z]at e; cases e
    |some J=>
     rw[j,z]at e;cases e;obtain⟨F,ys,rfl,O,L⟩:=h1.tup;refine .cons ⟨F,rfl,?_⟩ (qda h2 z);rw[<- qab L j]; exact O
  |_=>cases e
end
end MS
end
section
namespace MS
open PySem PySem.Spec PyProof.Rows L2
open M (D Cell Store Sl E S T Src Fn Out R)
theorem qke{X:Cx}{elt Z F:Qx}{U:List Qx}{j:Scope}{pos L O:Pos}{N:List Str}{src:List (Option Nat)}{wi:TI}{g:TG}{tt:TT}{te:TE}{i:Nat}{x:Str}(hc:X.calm=true)(S:CompScope X N src j)(hi:PI X Z F wi)
  (hg:∀C fp s H,PG (qzh X N j C fp s H) Z g) (ht:∀C fp s H,qeu (qzh X N j C fp s H) U tt) (he:∀C fp s H,PE (qzh X N j C fp s H) elt te)
  (hs:∀x,foldedSetIterable F X.env x=pure x) (hN:X.N.Nodup) (hx:X.N[i]?=some x) (hl:Loc X.env.scope x) (hf:X.fn x=true\/X.env.scope.names.lookup x=some .local)
  (a3:swapsWith (.ListComp elt [⟨Z,F,U,0⟩] j O) (some (.Name x L)) pos.line X.env=pure true) :
  PS X (.Assign [.Name x L] (.ListComp elt [⟨Z,F,U,0⟩] j O) pos) (tAsg (qic src wi g tt te) (qyy i)):=by
 intro pins s σ H D I h;rw[exec_Assign_Name_used _ _ _ _ a3];refine Qq (wpAny_standAt (Qq ?_));show wpAny _ X.A (do let _ <- comprehension (.ListComp elt [⟨Z,F,U,0⟩] j O) j X.env _ (newList []) false (eval F X.env) (some (assign (.Name x L) X.env))) _ _ s;refine Qq (Qf (wpAny_comprehension_free (use:=some (assign (.Name x L) X.env)) (Q:=λ_ s'=>SP X pins D .next s') rfl hs (qwm S I) S.kind S.loc (thn (hi pins s σ H _ I h) λv s1 h1=>thn h1 λa8 s2 h2=>?_)) (λ_ s' hq=>Qj (Qj hq)) λ_ _ e=>e);obtain⟨it,fp,tn,J,H2,e,I2,T,a0,f2,W,w0,Y⟩:=h2;subst e;refine qkr (Ex:=λ_ _=>NoX) hc I2 T a0 f2 S (λC=>hg C fp s2 H2) (λC=>ht C fp s2 H2) (λ_ C=>he C fp s2 H2) (λ_ _ _ _ _ z=>z.elim) W w0 Y ?_;intro Dd C s' H' a9 a6 nD I' fC hm;obtain⟨m',hn⟩:=hm;obtain⟨c0,c1,c2,c3,c4,c5⟩:=fC;show wpAny _ X.A (assign (.Name x L) X.env (.ref Dd)) _ _ _;refine wpAny_assign_Name (qvp I' hN hx hl (show RelV (.ref Dd) (.ref Dd) from rfl) (λa2 a7 a4=>?_) hf);obtain⟨a,sb,ha⟩:=a4;have a5:C≠a:=by
  rcases ha with z|z
  ·rw[z]; exact c1
  ·exact λq=>c4 x a z q.symm
 refine⟨m',hn.sameBut sb a5,λh' a1=>?_⟩;exact⟨_,_,a7.turned (t':=a2.toks) (λb o hb e=>(a1.2 b hb).trans e) c0 c1 c3 c4 c5,a6 Dd nD⟩
noncomputable def iSeq(K:Qqq)(tl:TE):TI:=λσ H R=>tl σ H λx H1=>(∃a,x=.ref a/\(((∃xs,SqL K H1 a xs)/\R (Itl K a) H1)\/((∃xs,SqT K H1 a xs)/\R (Itt K a) H1)))
theorem pi_seq{X:Cx}{U l:Qx}{O:TE}(hl:PE X l O):PI X U l (iSeq X.K O):=by
 intro pins s σ H R I h;refine thn (hl pins s σ H _ I h) λv j ⟨x,H1,z,Z,q1⟩=>?_;obtain⟨a,e,q⟩:=q1;subst e;cases Z;rcases q with⟨⟨xs,J⟩,q⟩|⟨⟨xs,J⟩,q⟩
 ·obtain⟨F,Y,p,hz⟩:=z.list J;refine Zg p.isList ?_;refine⟨j.heap.objs.size,[j.heap.objs.size],_,_,H1,rfl,z.kept (t':=j.toks) λb o e=>Qqz _ e,qb1 a _,⟨_,Qql _ rfl,rfl,rfl⟩,λb L=>?_,q⟩;have e:b=j.heap.objs.size:=by simpa using L
  subst e;exact z.fpOk (Qqj _) (z.hok.fresh (Qqj _))
 ·obtain⟨F,Y,p,hz⟩:=z.tuple J;refine wpAny_pyIter_tuple (show j.heap.IsTuple a F.toArray from p) ?_;refine⟨j.heap.objs.size,[j.heap.objs.size],_,_,H1,rfl,z.kept (t':=j.toks) λb o e=>Qqz _ e,qa0 a _,⟨_,Qql _ rfl,rfl,rfl⟩,λb L=>?_,q⟩;have e:b=j.heap.objs.size:=by simpa using L
  subst e;exact z.fpOk (Qqj _) (z.hok.fresh (Qqj _))
structure Glo where
 cs:List (Str×D)
 ds:List (Str×List Str×List D)
 /-- a method's place among the functions,its class,its name -/
 ms:List (Nat×Addr×Str)
 /-- the classes -/
 cl:List (Str×Addr)
 /-- attributes of instances -/
 ats:List (Addr×Str)
structure Ctx where
 N:List Str
 sc:Scope
 fns:List Str
 glo:Glo
noncomputable def qmh:M.B->String
 |.len=>"len"
 |.min=>"min"
 |.max=>"max"
 |.tuple=>"tuple"
 |.list=>"list"
 |.all=>"all"
 |.sorted=>"sorted"
 |.any=>"any"
noncomputable def bOk:M.B->Bool
 |.len=>true
 |.min=>true
 |.max=>true
 |.tuple=>true
 |.list=>true
 |.all=>true
 |.sorted=>true
 |.any=>true
noncomputable def qq5(scope sc:Scope):Scope:={ scope with names:=scope.names.map λ(n,k)=>if (k==NameKind.free&&sc.kind==.function&&sc.names.lookup n==some .cell) then(n,NameKind.cell) else(n,k) }
noncomputable def tlOk(N:List Str)(sc:Scope)(t:T):Bool:=t.slots.all λi=>match N[i]? with
 |some x=>sc.names.lookup x==some .local
 |none=>false
theorem qk2{N:List Str}{sc:Scope}{t:T}(h:tlOk N sc t=true):∀i∈t.slots,∀x,N[i]?=some x->sc.names.lookup x=some .local:=by
 intro i hi x j;unfold tlOk at h;have:=Qza.mp h i hi;rw[j]at this;simpa using this
noncomputable def qc6(x:Str):Bool:=!x.cps.toList.contains 46
def MTree(pa:Qx)(m:Str)(apos:Pos)(ps:List Qx)(pos:Pos):Prop:=∀env,∃pl:Sem Bool,eval (.Call (.Attribute pa m apos) ps [] pos) env=(do
 let ov <- eval pa env
 standAt apos.atName
 let (f,first) <- holding [ov] (Zs ov m pl)
 callWith pos f first (backTo pos (starEach ps env)) (backToKw pos (keywordEach [] env)))
def Star(p:Qx):Prop:=∀es env,starEach (p::es) env=(false,eval p env)::starEach es env
inductive CkTys (c:Ctx):List M.Ty->List Qx->Prop
 |nil:CkTys c [] []
 |cons {t ts ps pos} (ht:t≠.non) (hg:c.sc.names.lookup (Str.ofString t.name)=some .globalImplicit) (h:CkTys c ts ps):CkTys c (t::ts) (.Name (Str.ofString t.name) pos::ps)
inductive CkTs (c:Ctx):List Nat->List Qx->Prop
 |nil:CkTs c [] []
 |cons {i x pos is es} (hN:c.N[i]?=some x) (hl:c.sc.names.lookup x=some .local\/c.sc.names.lookup x=some .cell) (h:CkTs c is es):CkTs c (i::is) (.Name x pos::es)
inductive CkT (c:Ctx):T->Qx->Prop
 |tup {is es k pos} (h:CkTs c is es):CkT c (.tup is) (.Tuple es k pos)
 |var {i x pos} (hN:c.N[i]?=some x) (hl:c.sc.names.lookup x=some .local\/c.sc.names.lookup x=some .cell):CkT c (.var i) (.Name x pos)
noncomputable def gcOk:Qx->Bool
 |.Call _ _ _ _=>true
 |.ListComp _ _ _ _=>true
 |.List _ _=>true
 |.BinOp _ _ _ _=>true
 |.Subscript _ _ _=>true
 |_=>false
inductive CkL (R:E->Qx->Prop):List E->List Qx->Prop
 |nil:CkL R [] []
 |cons {e es p ps} (h:R e p) (t:CkL R es ps):CkL R (e::es) (p::ps)
inductive CkP (R:E->Qx->Prop):List E->List (Option Qx)->List Qx->Prop
 |nil:CkP R [] [] []
 |cons {k v es pk pv ks vs} (hk:R k pk) (hv:R v pv) (t:CkP R es ks vs):CkP R (k::v::es) (some pk::ks) (pv::vs)
inductive CkO (R:E->Qx->Prop):Option E->Option Qx->Prop
 |none:CkO R none none
 |some {e p} (h:R e p):CkO R (some e) (some p)
inductive CkI (R:E->Qx->Prop):Ctx->Qx->E->Qx->Prop
 |rng1 {c tg a pa p0 pos} (hg:c.sc.names.lookup ("range" : Str)=some .globalImplicit) (ha:R a pa):CkI R c tg (.rng1 a) (.Call (.Name "range" p0) [pa] [] pos)
 |rng2 {c tg a b pa pb p0 pos} (hg:c.sc.names.lookup ("range" : Str)=some .globalImplicit) (ha:R a pa) (hb:R b pb):CkI R c tg (.rng2 a b) (.Call (.Name "range" p0) [pa,pb] [] pos)
 |zip {c es k tp a b pa pb p0 pos} (hg:c.sc.names.lookup ("zip" : Str)=some .globalImplicit) (ha:R a pa) (hb:R b pb):CkI R c (.Tuple es k tp) (.zip a b) (.Call (.Name "zip" p0) [pa,pb] [] pos)
 |seq {c tg e p} (h:R e p):CkI R c tg e p
inductive CkF (R:Ctx->E->Qx->Prop):Ctx->E->Qx->Prop
 |var {c i x pos} (hN:c.N[i]?=some x) (hv:Vis c.sc x) (hd:(x==("__debug__" : Str))=false) (hcd:(x==("__classdict__" : Str))=false):CkF R c (.var i) (.Name x pos)
 |int {c i j pos}:CkF R c (.lit (.int i)) (.Constant (.int i) j pos)
 |bl {c i j pos}:CkF R c (.lit (.bl i)) (.Constant (.bool i) j pos)
 |non {c j pos}:CkF R c (.lit .non) (.Constant .none j pos)
 |str {c i j pos}:CkF R c (.lit (.str i)) (.Constant (.str i) j pos)
 |glo {c x d pos} (hg:c.sc.names.lookup x=some .globalImplicit) (hm:(x,d)∈c.glo.cs) (hd:(x==("__debug__" : Str))=false):CkF R c (.glo x d) (.Name x pos)
 |bin {c op a b pa pb pos} (ha:R c a pa) (hb:R c b pb):CkF R c (.bin op a b) (.BinOp pa op pb pos)
 |lenset {c a pa p0 p1 pos1 pos} (hg:c.sc.names.lookup ("len" : Str)=some .globalImplicit) (hs:c.sc.names.lookup ("set" : Str)=some .globalImplicit) (ha:R c a pa):CkF R c (.lenset a) (.Call (.Name "len" p0) [.Call (.Name "set" p1) [pa] [] pos1] [] pos)
 |neg {c a pa pos} (ha:R c a pa):CkF R c (.neg a) (.UnaryOp .USub pa pos)
 |not {c a pa pos} (ha:R c a pa):CkF R c (.not a) (.UnaryOp .Not pa pos)
 |cmp {c op a b pa pb pos} (ha:R c a pa) (hb:R c b pb) (hm:Q1 op pb=false):CkF R c (.cmp op a b) (.Compare pa [op] [pb] pos)
 |cmp2 {c op op' a b d pa pb pd pos} (ha:R c a pa) (hb:R c b pb) (hd:R c d pd) (hm:lastMarks [op,op'] [pb,pd]=false):CkF R c (.cmp2 op op' a b d) (.Compare pa [op,op'] [pb,pd] pos)
 |and2 {c a b pa pb pos} (ha:R c a pa) (hb:R c b pb):CkF R c (.and a b) (.BoolOp .And [pa,pb] pos)
 |andN {c a b pa pb pd r pos} (ha:R c a pa) (hb:R c b (.BoolOp .And (pb::pd::r) pos)):CkF R c (.and a b) (.BoolOp .And (pa::pb::pd::r) pos)
 |or2 {c a b pa pb pos} (ha:R c a pa) (hb:R c b pb):CkF R c (.or a b) (.BoolOp .Or [pa,pb] pos)
 |orN {c a b pa pb pd r pos} (ha:R c a pa) (hb:R c b (.BoolOp .Or (pb::pd::r) pos)):CkF R c (.or a b) (.BoolOp .Or (pa::pb::pd::r) pos)
 |ite {c q a b pq pa pb pos} (hq:R c q pq) (ha:R c a pa) (hb:R c b pb):CkF R c (.ite q a b) (.IfExp pq pa pb pos)
 |tup {c es ps k pos} (h:CkL (R c) es ps):CkF R c (.tup es) (.Tuple ps k pos)
 |lst {c es ps pos} (h:CkL (R c) es ps):CkF R c (.lst es) (.List ps pos)
 |idx {c a b pa pb pos} (ha:R c a pa) (hb:R c b pb) (hs:qe0 pb):CkF R c (.idx a b) (.Subscript pa pb pos)
 |call {c f x es p ps p0 pos} (hg:c.sc.names.lookup x=some .globalImplicit) (hf:c.fns[f]?=some x) (hd:(x==("__debug__" : Str))=false) (hn:qc6 x=true) (h:CkL (R c) es (p::ps)):CkF R c (.call f es) (.Call (.Name x p0) (p::ps) [] pos)
 |bcall {c b es p ps p0 pos} (hg:c.sc.names.lookup (Str.ofString (qmh b))=some .globalImplicit) (hb:bOk b=true) (h:CkL (R c) es (p::ps)):CkF R c (.bcall b es) (.Call (.Name (Str.ofString (qmh b)) p0) (p::ps) [] pos)
 |isi1 {c t a pa p0 p1 pos} (hg:c.sc.names.lookup ("isinstance" : Str)=some .globalImplicit) (ht:t≠.non) (hgt:c.sc.names.lookup (Str.ofString t.name)=some .globalImplicit) (ha:R c a pa):CkF R c (.isi a [t] false) (.Call (.Name "isinstance" p0) [pa,.Name (Str.ofString t.name) p1] [] pos)
 |isiN {c ts a pa p0 ps k p1 pos} (hl:ts.length<=1000) (hg:c.sc.names.lookup ("isinstance" : Str)=some .globalImplicit) (ht:CkTys c ts ps) (ha:R c a pa):CkF R c (.isi a ts true) (.Call (.Name "isinstance" p0) [pa,.Tuple ps k p1] [] pos)
 |append {c a e pa pe apos cpos} (ha:R c a pa) (he:R c e pe) (hb:∀env,attributeBase pa "append" env (eval pa env)=eval pa env) (hl:(apos.endLine==cpos.line)=true):CkF R c (.meth a .append [e]) (.Call (.Attribute pa "append" apos) [pe] [] cpos)
 |extend {c a e pa pe apos cpos} (ha:R c a pa) (he:R c e pe) (hb:∀env,attributeBase pa "extend" env (eval pa env)=eval pa env) (hl:(apos.endLine==cpos.line)=true):CkF R c (.meth a .extend [e]) (.Call (.Attribute pa "extend" apos) [pe] [] cpos)
 |gc {c a p} (hp:gcOk p=true) (hg:∀b,a≠.gc b) (ha:R c a p):CkF R c (.gc a) p
 |comp {c t it elt sr tg iter pelt scope pos N} (hk:scope.kind=.function) (hcell:∀y∈scope.names,y.2≠.cell) (hfree:∀y∈scope.names,y.2=.free->c.sc.names.lookup y.1=some .cell\/c.sc.names.lookup y.1=some .free) (hloc:∀y∈scope.names,y.2=.local->scope.names.lookup y.1=some .local) (hlen:sr.length=N.length) (hsrc:∀(j i:Nat),sr[j]?=some (some i)->∃x,N[j]?=some x/\c.N[i]?=some x/\scope.names.lookup x=some .free) (hnd:N.Nodup) (hs:∀env x,foldedSetIterable iter env x=pure x) (hi:CkI (R c) c tg it iter) (ht:CkT ⟨N,qq5 scope c.sc,c.fns,c.glo⟩ t tg) (htl:tlOk N (qq5 scope c.sc) t=true) (he:R ⟨N,qq5 scope c.sc,c.fns,c.glo⟩ elt pelt):CkF R c (.comp t it none elt sr) (.ListComp pelt [⟨tg,iter,[],0⟩] scope pos)
 |compIf {c t it q elt sr tg iter pq pelt scope pos N} (hk:scope.kind=.function) (hcell:∀y∈scope.names,y.2≠.cell) (hfree:∀y∈scope.names,y.2=.free->c.sc.names.lookup y.1=some .cell\/c.sc.names.lookup y.1=some .free) (hloc:∀y∈scope.names,y.2=.local->scope.names.lookup y.1=some .local) (hlen:sr.length=N.length) (hsrc:∀(j i:Nat),sr[j]?=some (some i)->∃x,N[j]?=some x/\c.N[i]?=some x/\scope.names.lookup x=some .free) (hnd:N.Nodup) (hs:∀env x,foldedSetIterable iter env x=pure x) (hi:CkI (R c) c tg it iter) (ht:CkT ⟨N,qq5 scope c.sc,c.fns,c.glo⟩ t tg) (htl:tlOk N (qq5 scope c.sc) t=true) (hq:R ⟨N,qq5 scope c.sc,c.fns,c.glo⟩ q pq) (he:R ⟨N,qq5 scope c.sc,c.fns,c.glo⟩ elt pelt):CkF R c (.comp t it (some q) elt sr) (.ListComp pelt [⟨tg,iter,[pq],0⟩] scope pos)
 |dic0 {c pos}:CkF R c (.dic []) (.Dict [] [] pos)
 |dic {c es k v ks vs pos} (h:CkP (R c) es (k::ks) (v::vs)) (h15:(k::ks).length<=15):CkF R c (.dic es) (.Dict (k::ks) (v::vs) pos)
 |didx {c a b pa pb pos} (ha:R c a pa) (hb:R c b pb) (hs:NoSl pb):CkF R c (.didx a b) (.Subscript pa pb pos)
 |din {c a b pa pb pos} (ha:R c a pa) (hb:R c b pb) (hm:Q1 .In pb=false):CkF R c (.din false a b) (.Compare pa [.In] [pb] pos)
 |dnin {c a b pa pb pos} (ha:R c a pa) (hb:R c b pb) (hm:Q1 .NotIn pb=false):CkF R c (.din true a b) (.Compare pa [.NotIn] [pb] pos)
 |gidx {c x ks ds b pb p0 pos} (hg:c.sc.names.lookup x=some .globalImplicit) (hm:(x,ks,ds)∈c.glo.ds) (hd:(x==("__debug__" : Str))=false) (hb:R c b pb) (hs:NoSl pb):CkF R c (.gidx x ks ds b) (.Subscript (.Name x p0) pb pos)
 |gin {c x ks ds b pb p0 pos} (hg:c.sc.names.lookup x=some .globalImplicit) (hm:(x,ks,ds)∈c.glo.ds) (hd:(x==("__debug__" : Str))=false) (hb:R c b pb):CkF R c (.gin false x ks b) (.Compare pb [.In] [.Name x p0] pos)
 |gnin {c x ks ds b pb p0 pos} (hg:c.sc.names.lookup x=some .globalImplicit) (hm:(x,ks,ds)∈c.glo.ds) (hd:(x==("__debug__" : Str))=false) (hb:R c b pb):CkF R c (.gin true x ks b) (.Compare pb [.NotIn] [.Name x p0] pos)
 |sli {c a lo hi pa pl ph p2 pos} (ha:R c a pa) (hl:CkO (R c) lo pl) (hh:CkO (R c) hi ph):CkF R c (.sli a lo hi) (.Subscript pa (.Slice pl ph none p2) pos)
 |attr {c C a f pa pos} (ha:R c a pa) (hc:(C,f)∈c.glo.ats) (hb:∀env,attributeBase pa f env (eval pa env)=eval pa env):CkF R c (.attr C a f) (.Attribute pa f pos)
 |mcall {c C f m x cn a es pa ps apos pos} (ha:R c a pa) (hf:c.fns[f]?=some x) (hm:(f,C,m)∈c.glo.ms) (hc:(cn,C)∈c.glo.cl) (h:CkL (R c) es ps) (ht:MTree pa m apos ps pos):CkF R c (.mcall C f m a es) (.Call (.Attribute pa m apos) ps [] pos)
 |new {c C f x cn es p ps p0 pos} (hg:c.sc.names.lookup cn=some .globalImplicit) (hf:c.fns[f]?=some x) (hm:(f,C,("__init__" : Str))∈c.glo.ms) (hc:(cn,C)∈c.glo.cl) (hd:(cn==("__debug__" : Str))=false) (h:CkL (R c) es (p::ps)):CkF R c (.new C f es) (.Call (.Name cn p0) (p::ps) [] pos)
section
variable {R R':E->Qx->Prop}(k:∀{e p},R e p->R' e p)
include k
theorem CkL.mono:∀{es:List E}{ps:List Qx},CkL R es ps->CkL R' es ps
 |_,_,.nil=>.nil
 |_,_,.cons h t=>.cons (k h) (mono t)
theorem CkP.mono:∀{es:List E}{ks:List (Option Qx)}{ps:List Qx},CkP R es ks ps->CkP R' es ks ps
 |_,_,_,.nil=>.nil
 |_,_,_,.cons h h' t=>.cons (k h) (k h') (mono t)
theorem CkO.mono{o:Option E}{p:Option Qx}(h:CkO R o p):CkO R' o p:=by
 cases h with
 |none=>exact .none
 |some h=>exact .some (k h)
theorem CkI.mono{c:Ctx}{J:Qx}{e:E}{p:Qx}(h:CkI R c J e p):CkI R' c J e p:=by
 cases h with
 |rng1 j z=>exact .rng1 j (k z)
 |rng2 j z F=>exact .rng2 j (k z) (k F)
 |zip j z F=>exact .zip j (k z) (k F)
 |seq h=>exact .seq (k h)
end
theorem CkF.mono{R R':Ctx->E->Qx->Prop}(k:∀{c e p},R c e p->R' c e p){c:Ctx}{e:E}{p:Qx}(h:CkF R c e p):CkF R' c e p:=by
 cases h with
 |var hN hv hd a4=>exact .var hN hv hd a4
 |int=>exact .int
 |bl=>exact .bl
 |non=>exact .non
 |str=>exact .str
 |glo F J hd=>exact .glo F J hd
 |bin j z=>exact .bin (k j) (k z)
 |lenset F Y j=>exact .lenset F Y (k j)
 |neg j=>exact .neg (k j)
 |not j=>exact .not (k j)
 |cmp j z J=>exact .cmp (k j) (k z) J
 |cmp2 j z hd J=>exact .cmp2 (k j) (k z) (k hd) J
 |and2 j z=>exact .and2 (k j) (k z)
 |andN j z=>exact .andN (k j) (k z)
 |or2 j z=>exact .or2 (k j) (k z)
 |orN j z=>exact .orN (k j) (k z)
 |ite hq j z=>exact .ite (k hq) (k j) (k z)
 |tup h=>exact .tup (CkL.mono k h)
 |lst h=>exact .lst (CkL.mono k h)
 |idx j z Y=>exact .idx (k j) (k z) Y
 |call F hf hd hn h=>exact .call F hf hd hn (CkL.mono k h)
 |bcall F z h=>exact .bcall F z (CkL.mono k h)
 |isi1 F ht a3 j=>exact .isi1 F ht a3 (k j)
 |isiN hl F ht j=>exact .isiN hl F ht (k j)
 |append j he z hl=>exact .append (k j) (k he) z hl
 |extend j he z hl=>exact .extend (k j) (k he) z hl
 |gc hp F j=>exact .gc hp F (k j)
 |comp hk O L Z a0 U a2 Y hi ht a1 he=>exact .comp hk O L Z a0 U a2 Y (CkI.mono k hi) ht a1 (k he)
 |compIf hk O L Z a0 U a2 Y hi ht a1 hq he=>exact .compIf hk O L Z a0 U a2 Y (CkI.mono k hi) ht a1 (k hq) (k he)
 |dic0=>exact .dic0
 |dic h a5=>exact .dic (CkP.mono k h) a5
 |didx j z Y=>exact .didx (k j) (k z) Y
 |din j z J=>exact .din (k j) (k z) J
 |dnin j z J=>exact .dnin (k j) (k z) J
 |gidx F J hd z Y=>exact .gidx F J hd (k z) Y
 |gin F J hd z=>exact .gin F J hd (k z)
 |gnin F J hd z=>exact .gnin F J hd (k z)
 |sli j hl hh=>exact .sli (k j) (CkO.mono k hl) (CkO.mono k hh)
 |attr j hc z=>exact .attr (k j) hc z
 |mcall j hf J hc h ht=>exact .mcall (k j) hf J hc (CkL.mono k h) ht
 |new F hf J hc hd h=>exact .new F hf J hc hd (CkL.mono k h)
def CkE(c:Ctx)(e:E)(p:Qx):Prop:=∀R:Ctx->E->Qx->Prop,(∀c e p,CkF R c e p->R c e p)->R c e p
theorem CkE.mk{c:Ctx}{e:E}{p:Qx}(h:CkF CkE c e p):CkE c e p:=λR k=>k c e p (h.mono λq=>q R k)
theorem CkE.out{c:Ctx}{e:E}{p:Qx}(h:CkE c e p):CkF CkE c e p:=h (CkF CkE) λ_ _ _ q=>q.mono CkE.mk
noncomputable abbrev CkEs(c:Ctx):=CkL (CkE c)
theorem CkE.and2{c a b z j pos}(J:CkE c a z)(F:CkE c b j):CkE c (.and a b) (.BoolOp .And [z,j] pos):=.mk (.and2 J F)
theorem CkE.andN{c a b F z j r pos}(L:CkE c a F)(J:CkE c b (.BoolOp .And (z::j::r) pos)):CkE c (.and a b) (.BoolOp .And (F::z::j::r) pos):=.mk (.andN L J)
theorem CkE.or2{c a b z j pos}(J:CkE c a z)(F:CkE c b j):CkE c (.or a b) (.BoolOp .Or [z,j] pos):=.mk (.or2 J F)
theorem CkE.orN{c a b F z j r pos}(L:CkE c a F)(J:CkE c b (.BoolOp .Or (z::j::r) pos)):CkE c (.or a b) (.BoolOp .Or (F::z::j::r) pos):=.mk (.orN L J)
mutual
inductive CkS:Ctx->S->Stmt->Prop
 |set {c i e x p pos pos'} (hN:c.N[i]?=some x) (hl:c.sc.names.lookup x=some .local\/c.sc.names.lookup x=some .cell) (h:CkE c e p) (hs:∀env,swapsWith p (some (.Name x pos')) pos.line env=pure false):CkS c (.set (.var i) e) (.Assign [.Name x pos'] p pos)
 |setC {c i e x p pos pos'} (hN:c.N[i]?=some x) (hl:c.sc.names.lookup x=some .local\/c.sc.names.lookup x=some .cell) (h:CkE c e p) (hc:∃elt gs sc q,p=.ListComp elt gs sc q) (hs:∀env:Env,env.scope=c.sc->(swapsWith p (some (.Name x pos')) pos.line env=pure false\/swapsWith p (some (.Name x pos')) pos.line env=pure true)):CkS c (.set (.var i) e) (.Assign [.Name x pos'] p pos)
 |dset {c a i e pa pi pe tpos pos} (ha:CkE c a pa) (hi:CkE c i pi) (he:CkE c e pe) (hs:∀env,swapsWith pe (some (.Subscript pa pi tpos)) pos.line env=pure false):CkS c (.dset a i e) (.Assign [.Subscript pa pi tpos] pe pos)
 |setT {c is e es k p pos tpos} (ht:CkTs c is es) (h:CkE c e p) (hs:∀env,swapsWithSole [.Tuple es k tpos] p pos.line env=pure false) (hw:∀env,swappedStores [.Tuple es k tpos] p env=pure none) (h1:∀env,(assignEach [.Tuple es k tpos] env).map (·.2)=[assign (.Tuple es k tpos) env]) :
   CkS c (.set (.tup is) e) (.Assign [.Tuple es k tpos] p pos)
 |expr {c e p pos} (h:CkE c e p) (hs:∀env,swapsWith p none pos.line env=pure false):CkS c (.expr e) (.Expr p pos)
 |ret {c e p pos} (h:CkE c e p):CkS c (.ret e) (.Return (some p) pos)
 |ite {c q a b pq pa pb pos} (hq:CkE c q pq) (ha:CkSs c a pa) (hb:CkSs c b pb):CkS c (.ite q a b) (.If pq pa pb pos)
 |forr {c t it body tg iter pb pos} (ht:CkT c t tg) (hi:CkI (CkE c) c tg it iter) (hs:∀env x,foldedSetIterable iter env x=pure x) (hb:CkSs c body pb):CkS c (.forr t it body) (.For tg iter pb [] pos)
 |setA {c C a f e pa pe tpos pos} (ha:CkE c a pa) (he:CkE c e pe) (hc:(C,f)∈c.glo.ats) (hs:∀env,swapsWith pe (some (.Attribute pa f tpos)) pos.line env=pure false):CkS c (.setA C a f e) (.Assign [.Attribute pa f tpos] pe pos)
 |ford {c t a body tg pa pb pos} (ht:CkT c t tg) (ha:CkE c a pa) (hs:∀env x,foldedSetIterable pa env x=pure x) (hb:CkSs c body pb):CkS c (.ford t a body) (.For tg pa pb [] pos)
 |bad {c p}:CkS c .bad p
inductive CkSs:Ctx->List S->List Stmt->Prop
 |nil {c}:CkSs c [] []
 |cons {c s ss p ps} (h:CkS c s p) (t:CkSs c ss ps):CkSs c (s::ss) (p::ps)
 |doc {c ss x j pos pos' ps} (t:CkSs c ss ps):CkSs c ss (.Expr (.Constant (.str x) j pos) pos'::ps)
end
theorem CkE.star{c:Ctx}{e:E}{p:Qx}(h:CkE c e p):Star p:=by
 cases h.out with
 |gc j z F=>
  cases p with
  |Call=>exact λ_ _=>rfl
  |ListComp=>exact λ_ _=>rfl
  |List=>exact λ_ _=>rfl
  |BinOp=>exact λ_ _=>rfl
  |Subscript=>exact λ_ _=>rfl
  |_=>cases j
 |_=>exact λ_ _=>rfl
noncomputable def spN(K:Qqq)(fns:List Fn)(n f:Nat):Sp:=λvs H Q _=>∃m st ds d st',Rel K m st H/\IsDs K m H ds vs/\M.callD fns n f ds st=some (d,st')/\Post K m H d st' Q
def Lc(K:Qqq)(mg:Str->Option Value)(glo:Glo)(f:Nat)(x:Str)(fa:Addr):Prop:=(qc6 x=true->mg x=some (.ref fa))/\∀C m,(f,C,m)∈glo.ms->Meth K C m fa
def FTab(P:Program)(w:Qk)(K:Qqq)(mg:Str->Option Value)(base:Heap)(glo:Glo)(fns:List Fn)(names:List Str)(n:Nat):Prop:=∀(f:Nat) (x:Str),names[f]?=some x->∃(fa:Addr) (fd:Qo) (ps:List Str),
 Lc K mg glo f x fa/\FnOk P w K mg base CX0 (2*n) fa fd ps (spN K fns n f)/\Qzl K (.ref fa)=true/\Binds K fd ps []
noncomputable abbrev bNm:List Str:=["len","min","max","tuple","list","all","sorted","isinstance","range","int","bool","str","zip","any","set"]
structure Mo (K:Qqq) (mg:Str->Option Value) (glo:Glo) (prm:Qr):Prop where
 cls:∀cn C,(cn,C)∈glo.cl->mg cn=some (.ref C)/\Cls K C/\PySem.W.makesIn K C=true/\Qzl K (.ref C)=true
 ats:∀C f,(C,f)∈glo.ats->Cls K C/\NoAttr K C f
 gds:∀x ks ds,(x,ks,ds)∈glo.ds->∃a,mg x=some (.ref a)/\FDict prm K a ks ds
 glo:∀x d,(x,d)∈glo.cs->∃u v,mg x=some u/\RelV v u/\∀m H,IsD K m H d v
 no:∀x∈bNm,mg x=none
structure Good (fns:List Fn) (dl:Nat) (c:Ctx) (X:Cx):Prop where
 room:Room (2*dl+1) X.A
 calm:X.calm=true
 N:X.N=c.N
 sc:X.env.scope=c.sc
 nd:c.N.Nodup
 kind:c.sc.kind=.function
 tab:FTab X.prog X.w X.K X.mg X.base c.glo fns c.fns dl
 mo:Mo X.K X.mg c.glo X.w.params
 xe:X.xe=λ_ _=>False
theorem Good.no{fns:List Fn}{dl:Nat}{c:Ctx}{X:Cx}(G:Good fns dl c X){x:Str}(h:bNm.contains x=true):X.mg x=none:=G.mo.no x (List.contains_iff_mem.mp h)
end MS
end
section
namespace MS
open PySem PySem.Spec PyProof.Rows L2
open M (D Cell Store Sl E S T Src Fn Out R)
theorem qjh{c:Ctx}:∀{es:List E}{ps:List Qx},CkEs c es ps->∀(pos:Pos) (env:Env),(backTo pos (starEach ps env)).any (·.1)=false
 |_,_,.nil,_,_=>rfl
 |_,_,.cons h t,pos,env=>by
  rw[h.star];show(false||(backTo pos (starEach _ env)).any (·.1))=false;rw[qjh t pos env]
  rfl
theorem Good.gl{fns:List Fn}{dl:Nat}{c:Ctx}{X:Cx}(G:Good fns dl c X){x:Str}(h:c.sc.names.lookup x=some .globalImplicit):Gl X x:=by
 show X.env.scope.names.lookup x=_;rw[G.sc]; exact h
theorem qa8{j sc:Scope}{env:Env}(h:env.scope=sc):relabel j env=qq5 j sc:=by
 unfold relabel qq5 Env.kindOf;rw[h]
theorem Good.inner{fns:List Fn}{dl:Nat}{c:Ctx}{X:Cx}(G:Good fns dl c X){N:List Str}{j:Scope}{C:Addr}{J:List Addr}{s:Qz}{H:Hp}(F:j.kind=.function)(z:N.Nodup):Good fns dl ⟨N,qq5 j c.sc,c.fns,c.glo⟩ (qzh X N j C J s H):=
 ⟨G.room,G.calm,rfl,qa8 G.sc,z,F,G.tab,G.mo,rfl⟩
noncomputable def IsRow(K:Qqq)(m:List Addr)(H:Hp)(k:RK)(a:Addr):D->Prop
 |.tup ds=>k=.tup/\∃xs,SqT K H a xs/\IsDs K m H ds xs
 |.loc l=>k=.lst/\m[l]?=some a
 |.lst ds=>k=.lst/\∃xs,SqF K H a xs/\IsDs K m H ds xs
 |_=>False
theorem IsRow.mono{K:Qqq}{m j:List Addr}{H H':Hp}{k:RK}{a:Addr}{d:D}(h:IsRow K m H k a d)(b:Sub m j)(t:Tr H H'):IsRow K j H' k a d:=by
 cases d with
 |tup ds=>obtain⟨e,xs,q,r⟩:=h; exact⟨e,xs,t.sqT q,qza b t ds xs r⟩
 |loc l=>exact⟨h.1,b l a h.2⟩
 |lst ds=>obtain⟨e,xs,q,r⟩:=h; exact⟨e,xs,t.sqF q,qza b t ds xs r⟩
 |_=>exact h.elim
theorem IsRow.sq{K:Qqq}{m:List Addr}{st:Store}{H:Hp}{k:RK}{a:Addr}{d:D}{ds:List D}(h:IsRow K m H k a d)(J:Rel K m st H)(e:M.rowAt st d=some ds):∃xs,k.sq K H a xs/\IsDs K m H ds xs:=by
 cases d with
 |tup es=>
  cases e;obtain⟨rfl,xs,q,r⟩:=h;exact⟨xs,q,r⟩
 |loc l=>
  obtain⟨rfl,F⟩:=h;obtain⟨L,xs,j,z,q,r⟩:=J.list e (qf4 F);cases z;exact⟨xs,q,r⟩
 |lst es=>
  cases e;obtain⟨rfl,xs,q,r⟩:=h;exact⟨xs,q.sq,r⟩
 |_=>exact h.elim
theorem qac{K:Qqq}{m:List Addr}{st:Store}{H:Hp}{d:D}{v:V}{ds:List D}(j:MS.IsD K m H d v)(F:Rel K m st H)(e:M.rowAt st d=some ds):∃k a,v=.ref a/\IsRow K m H k a d/\∃xs,k.sq K H a xs:=by
 cases d with
 |tup es=>
  obtain⟨a,xs,rfl,q,r⟩:=j.tup;exact⟨.tup,a,rfl,⟨rfl,xs,q,r⟩,xs,q⟩
 |loc l=>
  obtain⟨a,xs,z,rfl,q,r⟩:=F.list e j;exact⟨.lst,a,rfl,⟨rfl,z⟩,xs,q⟩
 |lst es=>
  obtain⟨a,xs,rfl,q,r⟩:=j.lst;exact⟨.lst,a,rfl,⟨rfl,xs,q,r⟩,xs,q.sq⟩
 |_=>cases e
theorem IsRow.sq'{K:Qqq}{m:List Addr}{st:Store}{H:Hp}{a:Addr}{d:D}{ds:List D}(h:IsRow K m H .lst a d)(j:Rel K m st H)(e:M.seqAt st d=some ds):∃xs,SqL K H a xs/\IsDs K m H ds xs:=by
 cases d with
 |loc l=>exact h.sq j e
 |lst l=>exact h.sq j e
 |_=>cases e
theorem qwb{K:Qqq}{m:List Addr}{st:Store}{H:Hp}{d:D}{v:V}{ds:List D}(j:MS.IsD K m H d v)(F:Rel K m st H)(e:M.seqAt st d=some ds):∃a,v=.ref a/\IsRow K m H .lst a d/\∃xs,SqL K H a xs:=by
 cases d with
 |loc l=>
  obtain⟨a,xs,z,rfl,q,r⟩:=F.list e j;exact⟨a,rfl,⟨rfl,z⟩,xs,q⟩
 |lst l=>
  obtain⟨a,xs,rfl,q,r⟩:=j.lst;exact⟨a,rfl,⟨rfl,xs,q,r⟩,xs,q.sq⟩
 |_=>cases e
noncomputable def IsSrc(K:Qqq)(m:List Addr)(H:Hp):Src->It->Prop
 |.rng lo n,J=>J=Itr lo n
 |.tup ds,J=>∃a xs,J=Itt K a/\SqT K H a xs/\IsDs K m H ds xs
 |.lst d,J=>∃a,IsRow K m H .lst a d/\J=Itl K a
 |.zip x y,J=>∃(k1 k2:RK) (a b:Addr),J=Itz K k1 k2 a b/\IsRow K m H k1 a x/\IsRow K m H k2 b y
theorem IsSrc.mono{K:Qqq}{m j:List Addr}{H H':Hp}{s:Src}{J:It}(h:IsSrc K m H s J)(b:Sub m j)(t:Tr H H'):IsSrc K j H' s J:=by
 cases s with
 |rng lo n=>exact h
 |tup ds=>obtain⟨a,xs,e,q,r⟩:=h; exact⟨a,xs,e,t.sqT q,qza b t ds xs r⟩
 |lst l=>obtain⟨a,e,q⟩:=h; exact⟨a,e.mono b t,q⟩
 |zip x y=>obtain⟨F,z,a,L,e,h1,h2⟩:=h; exact⟨F,z,a,L,e,h1.mono b t,h2.mono b t⟩
theorem IsSrc.done{K:Qqq}{m:List Addr}{st:Store}{H:Hp}{s:Src}{J:It}{i:Nat}(h:IsSrc K m H s J)(L:Rel K m st H)(e:s.at st i=some none):J.stop i H:=by
 cases s with
 |rng lo n=>
  cases h;simp only[Src.at]at e
  split at e
  ·cases e
  ·rename_i q;exact Nat.not_lt.mp q
 |tup ds=>
  obtain⟨a,xs,rfl,q,r⟩:=h;simp only[Src.at,Option.some.injEq]at e;exact⟨xs,q,by rw[<- r.length]; exact Qzn.mp e⟩
 |lst l=>
  obtain⟨a,ha,rfl⟩:=h;simp only[Src.at]at e;obtain⟨ds,F,z⟩:=mapD e;obtain⟨xs,q,r⟩:=ha.sq' L F;exact⟨xs,q,by rw[<- r.length]; exact Qzn.mp z⟩
 |zip x y=>
  obtain⟨k1,k2,a,b,rfl,h1,h2⟩:=h;simp only[Src.at]at e;obtain⟨ds,F,e⟩:=qzy e;obtain⟨es,z,j⟩:=mapD e;obtain⟨xs,q1,Z⟩:=h1.sq L F;obtain⟨ys,q2,Y⟩:=h2.sq L z;refine⟨xs,ys,q1,q2,?_⟩;unfold M.pairAt at j;rw[<- Z.length,<- Y.length]
  cases U:ds[i]? with
  |none=>exact .inl (Qzn.mp U)
  |some d1=>
   cases O:es[i]? with
   |none=>exact .inr (Qzn.mp O)
   |some d2=>rw[U,O]at j; cases j
theorem IsSrc.next{K:Qqq}{m:List Addr}{st:Store}{H:Hp}{s:Src}{J:It}{i:Nat}{d:D}(h:IsSrc K m H s J)(Z:Rel K m st H)(e:s.at st i=some (some d)):J.go i H/\∀x H',J.yld i H x H'->Same H H'/\MS.IsD K m H' d x:=by
 cases s with
 |rng lo n=>
  cases h;simp only[Src.at,Option.some.injEq]at e
  split at e
  ·rename_i q;cases e;refine⟨q,?_⟩;rintro x H' ⟨rfl,rfl⟩;exact⟨λ_ _ z=>z,mkInt _⟩
  ·cases e
 |tup ds=>
  obtain⟨a,xs,rfl,q,r⟩:=h;simp only[Src.at,Option.some.injEq]at e;obtain⟨x,ex,F⟩:=r.get e;refine⟨⟨xs,x,q,ex⟩,?_⟩;rintro y H' ⟨rfl,z⟩;have:=z xs q;rw[ex]at this;cases this;exact⟨λ_ _ z=>z,F⟩
 |lst l=>
  obtain⟨a,ha,rfl⟩:=h;simp only[Src.at]at e;obtain⟨ds,Y,U⟩:=mapD e;obtain⟨xs,q,r⟩:=ha.sq' Z Y;obtain⟨x,ex,F⟩:=r.get U;refine⟨⟨xs,x,q,ex⟩,?_⟩;rintro y H' ⟨rfl,z⟩;have:=z xs q;rw[ex]at this;cases this;exact⟨λ_ _ z=>z,F⟩
 |zip u v=>
  obtain⟨k1,k2,a,b,rfl,h1,h2⟩:=h;simp only[Src.at]at e;obtain⟨ds,Y,e⟩:=qzy e;obtain⟨es,U,j⟩:=mapD e;obtain⟨xs,q1,r1⟩:=h1.sq Z Y;obtain⟨ys,q2,r2⟩:=h2.sq Z U;unfold M.pairAt at j
  cases L:ds[i]? with
  |none=>rw[L]at j; cases j
  |some d1=>
   cases O:es[i]? with
   |none=>rw[L,O]at j; cases j
   |some d2=>
    rw[L,O]at j;cases j;obtain⟨x,ex,F⟩:=r1.get L;obtain⟨y,ey,iy⟩:=r2.get O;refine⟨⟨xs,ys,x,y,q1,q2,ex,ey⟩,?_⟩;rintro w H' ⟨p,x',y',rfl,hp,rfl,f1,f2⟩;have g1:=f1 xs q1;rw[ex]at g1;cases g1;have g2:=f2 ys q2;rw[ey]at g2;cases g2;have sm:=qzj (o:=.tup [x,y]) hp;exact⟨sm,qq6 (SqT.of qzx) (qza (Sub.refl _) (Tr.of_same sm) _ _ (qzm F (qzm iy qqx)))⟩
noncomputable def tI(K:Qqq)(f:Sl->Store->Option (Src×Store)):TI:=λσ H R=>∃m st τ s st',Rel K m st H/\SlotOk K m H τ σ/\f τ st=some (s,st')/\∀m' H' J,Sub m m'->Tr H H'->Rel K m' st' H'->IsSrc K m' H' s J->R J H'
theorem tI.el{K:Qqq}{f:Sl->Store->Option (Src×Store)}{j:L2.St}{H:Hp}{Q:It->Hp->Prop}{P:Prop}(h:tI K f j H Q)(k:∀m st τ s st',Rel K m st H->SlotOk K m H τ j->f τ st=some (s,st')->(∀m' H' J,Sub m m'->Tr H H'->Rel K m' st' H'->IsSrc K m' H' s J->Q J H')->P):P:=by
 rcases h with⟨m,st,τ,d,st',a,b,c,e⟩
 exact k m st τ d st' a b c e
theorem _root_.L2.PI.imp{X:Cx}{j e:Qx}{t t':TI}(h:PI X j e t)(f:∀σ H R,t' σ H R->t σ H R):PI X j e t':=λpins s σ H Q I q=>h pins s σ H Q I (f σ H Q q)
def PostO(K:Qqq)(m:List Addr)(H:Hp)(o:Out)(st':Store)(Dn:Ends):Prop:=∀m' H',Sub m m'->Tr H H'->Rel K m' st' H'->match o with
 |.nx τ=>∀σ',SlotOk K m' H' τ σ'->Dn.nx σ' H'
 |.rt d=>∀v,IsD K m' H' d v->Dn.rt v H'
 |.bk τ=>∀σ',SlotOk K m' H' τ σ'->Dn.bk σ' H'
 |.ct τ=>∀σ',SlotOk K m' H' τ σ'->Dn.ct σ' H'
theorem PostO.mono{K:Qqq}{m z:List Addr}{H F:Hp}{o:Out}{j:Store}{Dn:Ends}(p:PostO K m H o j Dn)(s:Sub m z)(t:Tr H F):PostO K z F o j Dn:=λm' H' s' J r=>p m' H' (s.trans s') (t.trans J) r
noncomputable def tS(K:Qqq)(f:Sl->Store->Option (Out×Store)):TS:=λDn σ H=>∃m st τ o st',Rel K m st H/\SlotOk K m H τ σ/\f τ st=some (o,st')/\PostO K m H o st' Dn
theorem tS.el{K:Qqq}{f:Sl->Store->Option (Out×Store)}{j:L2.St}{H:Hp}{z:Ends}{P:Prop}(h:tS K f z j H)(k:∀m st τ o st',Rel K m st H->SlotOk K m H τ j->f τ st=some (o,st')->PostO K m H o st' z->P):P:=by
 rcases h with⟨m,st,τ,d,st',a,b,c,e⟩
 exact k m st τ d st' a b c e
structure AllOk (fns:List Fn) (dl n:Nat):Prop where
 e:∀c X,Good fns dl c X->∀e p,CkE c e p->PE X p (tD X.K λτ st=>(M.rn fns dl n).ev τ st e)
 t:∀c X,Good fns dl c X->∀e p,CkE c e p->PT X p (tTs X.K λτ st=>(M.rn fns dl n).tst τ st e)
 w:∀c X,Good fns dl c X->∀e op ps pos,CkE c e (.BoolOp op ps pos)->PW X (.BoolOp op ps pos) (tTs X.K λτ st=>(M.rn fns dl n).tst τ st e)
 s:∀c X,Good fns dl c X->(∀x,X.fn x=true)->∀ss ps,CkSs c ss ps->PSs X ps (tS X.K λτ st=>(M.rn fns dl n).ex τ st ss)
theorem qbn(fns:List Fn)(dl:Nat):AllOk fns dl 0 where
 e:=λc X G e p h pins s σ H Q I q=>by obtain⟨m,st,τ,d,st',_,_,z,_⟩:=q; cases z
 t:=λc X G e p h pins s σ H Q I q=>by obtain⟨m,st,τ,d,st',_,_,z,_⟩:=q; cases z
 w:=λc X G e J ps pos h j pins s σ H Q I q=>by obtain⟨m,st,τ,d,st',_,_,z,_⟩:=q; cases z
 s:=λc X G hf F ps h pins s σ H Q I q=>by obtain⟨m,st,τ,d,st',_,_,z,_⟩:=q; cases z
section
variable {fns:List Fn}{dl n:Nat}{c:Ctx}{X:Cx}
theorem qz2(A:AllOk fns dl n)(G:Good fns dl c X):∀{es:List E}{ps:List Qx},CkEs c es ps->PA X ps (tL X.K λτ st=>M.evs ((M.rn fns dl n).ev τ) es st)
 |_,_,.nil=>pa_nil.imp λ_ _ _ h=>tL_nil h
 |_,_,.cons (e:=e) (es:=es) h t=>(qqo (A.e c X G _ _ h) (qz2 A G t) (h.star _ _)).imp λ_ _ _ q=>
   qia (fa:=λτ st=>(M.rn fns dl n).ev τ st e) (fr:=λτ st=>M.evs ((M.rn fns dl n).ev τ) es st) q
noncomputable def qhk:E->Bool
 |.rng1 _=>false
 |.rng2 _ _=>false
 |.zip _ _=>false
 |_=>true
theorem CkF.plain{R:Ctx->E->Qx->Prop}{c:Ctx}{e:E}{p:Qx}(h:CkF R c e p):qhk e=true:=by cases h<;>rfl
theorem qcb{e:E}(h:qhk e=true)(r:R)(τ:Sl)(st:Store):M.src r τ st e=(r.ev τ st e).bind λp=>match p.1 with
   |.tup ds=>some (.tup ds,p.2)
   |d=>(M.seqAt p.2 d).map λ_=>(.lst d,p.2):=by
 cases e with
 |rng1 _=>cases h
 |rng2 _ _=>cases h
 |zip _ _=>cases h
 |_=>rfl
theorem qjo(A:AllOk fns dl n)(G:Good fns dl c X){it:E}{tg Y:Qx}(h:CkI (CkE c) c tg it Y):PI X tg Y (tI X.K λτ st=>M.src (M.rn fns dl n) τ st it):=by
 have seq:∀{e p},CkE c e p->(∀τ st,M.src (M.rn fns dl n) τ st e=((M.rn fns dl n).ev τ st e).bind λp=>match p.1 with
   |.tup ds=>some (.tup ds,p.2)
   |d=>(M.seqAt p.2 d).map λ_=>(.lst d,p.2))->PI X tg p (tI X.K λτ st=>M.src (M.rn fns dl n) τ st e):=by
  intro e p he a0;refine(pi_seq (A.e c X G e p he)).imp λσ H R q=>?_;refine q.el λm st τ s st' R0 S0 z q=>?_;have z:=(a0 τ st).symm.trans z;obtain⟨d,s1,e2,z⟩:=qzc z;refine⟨m,st,τ,d,s1,R0,S0,e2,λx m1 H1 b1 O J U=>?_⟩
  cases d with
  |tup ds=>
   cases z;obtain⟨a,xs,rfl,hq,Z⟩:=U.tup;exact⟨a,rfl,.inr ⟨⟨xs,hq⟩,q m1 H1 _ b1 O J ⟨a,xs,rfl,hq,Z⟩⟩⟩
  |loc l=>
   obtain⟨ds,e3,e4⟩:=mapD z;cases e4;obtain⟨a,rfl,L,xs,hq⟩:=qwb U J e3;exact⟨a,rfl,.inl ⟨⟨xs,hq⟩,q m1 H1 _ b1 O J ⟨a,L,rfl⟩⟩⟩
  |lst l=>
   obtain⟨ds,e3,e4⟩:=mapD z;cases e4;obtain⟨a,rfl,L,xs,hq⟩:=qwb U J e3;exact⟨a,rfl,.inl ⟨⟨xs,hq⟩,q m1 H1 _ b1 O J ⟨a,L,rfl⟩⟩⟩
  |_=>cases z
 cases h with
 |@rng1 _ a pa p0 pos hg L=>
  refine(qcs (G.gl hg) (G.no rfl) (qz2 A G (.cons L .nil)) (by rw[L.star]; rfl)).imp λσ H R q=>?_;refine q.el λm st τ s st' R0 S0 z q=>?_
  have z:(((M.rn fns dl n).ev τ st a).bind λp=>match p.1 with
   |.int n=>if M.big n then none else some (Src.rng 0 n.toNat,p.2)
   |_=>none)=some (s,st'):=z
  obtain⟨d,s1,e2,z⟩:=qzc z
  cases d with
  |int k=>
   dsimp only at z
   split at z
   ·cases z
   ·rename_i F;cases z;unfold M.big at F;simp only[Qzy,decide_eq_true_eq,not_or]at F;refine⟨m,st,τ,[.int k],st',R0,S0,?_,λxs m1 H1 b1 O J U=>?_⟩
    ·show(((M.rn fns dl n).ev τ st a).bind λp=>(some (([]:List D),p.2)).bind λq=>some (p.1::q.1,q.2))=_;rw[e2]; rfl
    ·obtain⟨x,rfl,Z⟩:=U.one;cases Z.int;exact⟨k,rfl,by omega,by omega,q m1 H1 _ b1 O J rfl⟩
  |_=>cases z
 |@rng2 _ a b pa pb p0 pos hg L F=>
  refine(qcr (G.gl hg) (G.no rfl) (qz2 A G (.cons L (.cons F .nil))) (by rw[L.star,F.star]; rfl) (by rw[F.star]; rfl)).imp λσ H R q=>?_;refine q.el λm st τ s st' R0 S0 z q=>?_
  have z:(((M.rn fns dl n).ev τ st a).bind λp=>((M.rn fns dl n).ev τ p.2 b).bind λq=>match p.1,q.1 with
   |.int i,.int j=>if M.big i||M.big j then none else some (Src.rng i (j - i).toNat,q.2)
   |_,_=>none)=some (s,st'):=z
  obtain⟨d,s1,e2,z⟩:=qzc z;obtain⟨d',s2,e3,z⟩:=qzc z;dsimp only at z
  split at z
  ·rename_i i j _
   split at z
   ·cases z
   ·rename_i F;cases z;unfold M.big at F;simp only[Qzy,decide_eq_true_eq,not_or]at F;refine⟨m,st,τ,[.int i,.int j],st',R0,S0,?_,λxs m1 H1 b1 O J U=>?_⟩
    ·show(((M.rn fns dl n).ev τ st a).bind λp=>(((M.rn fns dl n).ev τ p.2 b).bind λp=>(some (([]:List D),p.2)).bind λq=>some (p.1::q.1,q.2)).bind λq=>some (p.1::q.1,q.2))=_;rw[e2];show(((M.rn fns dl n).ev τ s1 b).bind λp=>(some (([]:List D),p.2)).bind λq=>some (p.1::q.1,q.2)).bind _=_;rw[e3]; rfl
    ·obtain⟨x,y,rfl,Z,iy⟩:=U.two;cases Z.int;cases iy.int;exact⟨i,j,rfl,⟨by omega,by omega,by omega,by omega⟩,q m1 H1 _ b1 O J rfl⟩
  ·cases z
 |@zip ts k tp a b pa pb p0 pos hg L F=>
  refine(pi_zip (G.gl hg) (G.no rfl) (qz2 A G (.cons L (.cons F .nil))) (by rw[L.star,F.star]; rfl) (by rw[F.star]; rfl)).imp λσ H R q=>?_;obtain⟨m,st,τ,s,st',R0,S0,z,q⟩:=q;have z:(((M.rn fns dl n).ev τ st a).bind λp=>((M.rn fns dl n).ev τ p.2 b).bind λq=>(M.rowAt q.2 p.1).bind λ_=>(M.rowAt q.2 q.1).map λ_=>(Src.zip p.1 q.1,q.2))=some (s,st'):=z;obtain⟨d,s1,e2,z⟩:=qzc z;obtain⟨d',s2,e3,z⟩:=qzc z;obtain⟨ds,e4,z⟩:=qzy z;obtain⟨es,e5,e6⟩:=mapD z;cases e6;refine⟨m,st,τ,[d,d'],s2,R0,S0,?_,λxs m1 H1 b1 O J U=>?_⟩
  ·show(((M.rn fns dl n).ev τ st a).bind λp=>(((M.rn fns dl n).ev τ p.2 b).bind λp=>(some (([]:List D),p.2)).bind λq=>some (p.1::q.1,q.2)).bind λq=>some (p.1::q.1,q.2))=_;rw[e2];show(((M.rn fns dl n).ev τ s1 b).bind λp=>(some (([]:List D),p.2)).bind λq=>some (p.1::q.1,q.2)).bind _=_;rw[e3]; rfl
  ·obtain⟨x,y,rfl,Z,iy⟩:=U.two;obtain⟨k1,a1,rfl,h1,w1⟩:=qac Z J e4;obtain⟨k2,a2,rfl,h2,w2⟩:=qac iy J e5;exact⟨k1,k2,a1,a2,rfl,w1,w2,q m1 H1 _ b1 O J ⟨k1,k2,a1,a2,rfl,h1,h2⟩⟩
 |@seq _ e p he=>
  exact seq he (qcb he.out.plain _)
theorem po_ok(A:AllOk fns dl n)(G:Good fns dl c X){o:Option E}{p:Option Qx}(h:CkO (CkE c) o p):PO X p (λσ H Q=>∃m st τ l st',Rel X.K m st H/\SlotOk X.K m H τ σ/\M.part (M.rn fns dl n) τ st o=some (l,st')/\∀m' H',Sub m m'->Tr H H'->Rel X.K m' st' H'->Q l H'):=by
 cases h with
 |none=>
  intro pins s σ H Q I q;obtain⟨m,st,τ,l,st',z,J,e,k⟩:=q;cases e;exact qi2 pins s σ H Q I (k m H (Sub.refl m) (Tr.refl H) z)
 |@some e p h=>
  intro pins s σ H Q I q;obtain⟨m,st,τ,l,st',z,J,j,k⟩:=q
  have j:(((M.rn fns dl n).ev τ st e).bind λp=>match p.1 with
   |.int i=>some (some i,p.2)
   |_=>none)=some (l,st'):=j
  obtain⟨d,L,U,F⟩:=qzc j
  cases d with
  |int i=>
   cases F;exact qi1 (A.e c X G e p h) pins s σ H Q I ⟨m,st,τ,.int i,L,z,J,U,λv m' H' b t Y O=>⟨i,O.int,k m' H' b t Y⟩⟩
  |_=>cases F
noncomputable def gIs:List Nat->TGs
 |[]=>gNil
 |i::is=>gCons (qyy i) (gIs is)
noncomputable def gT(K:Qqq):T->TG
 |.var i=>qyy i
 |.tup is=>gTup K is.length (gIs is)
theorem qhl{K:Qqq}{m:List Addr}{H:Hp}{Q:L2.St->Hp->Prop}:∀{is:List Nat}{ds:List D}{xs:List V}{τ τ':Sl}{z:L2.St},IsDs K m H ds xs->SlotOk K m H τ z->M.setIs is ds τ=some τ'->(∀j,SlotOk K m H τ' j->Q j H)->gIs is xs z H Q
 |[],[],xs,τ,τ',z,F,S0,e,k=>by
  cases e;exact⟨F.nil,k z S0⟩
 |i::is,d::ds,xs,τ,τ',z,F,S0,e,k=>by
  obtain⟨x,r,rfl,q,t⟩:=F.cons;unfold M.setIs at e
  split at e
  ·exact⟨x,r,rfl,qhl t (S0.put q) e k⟩
  ·cases e
 |[],_::_,_,_,_,_,_,_,e,_=>by cases e
 |_::_,[],_,_,_,_,_,_,e,_=>by cases e
theorem qv0:∀{is:List Nat}{ds:List D}{τ τ':Sl},M.setIs is ds τ=some τ'->is.length=ds.length
 |[],[],_,_,_=>rfl
 |i::is,d::ds,τ,τ',e=>by
  unfold M.setIs at e
  split at e
  ·rw[Qqh,Qqh,qv0 e]
  ·cases e
 |[],_::_,_,_,e=>by cases e
 |_::_,[],_,_,e=>by cases e
theorem qgb{K:Qqq}{m:List Addr}{H:Hp}{Q:L2.St->Hp->Prop}{t:T}{d:D}{v:V}{τ τ':Sl}{z:L2.St}(J:IsD K m H d v)(L:SlotOk K m H τ z)(e:M.setT t d τ=some τ')(k:∀j,SlotOk K m H τ' j->Q j H):gT K t v z H Q:=by
 cases t with
 |var i=>
  have e:(if i<τ.length then some (τ.set i (some d)) else none)=some τ':=e
  split at e
  ·cases e;exact k _ (L.put J)
  ·cases e
 |tup O=>
  cases d with
  |tup ds=>
   obtain⟨a,xs,rfl,U,F⟩:=J.tup;have e:M.setIs O ds τ=some τ':=e;exact⟨a,xs,rfl,U,by rw[<- F.length,qv0 e],qhl F L e k⟩
  |_=>cases e
theorem qxs(G:Good fns dl c X){i:Nat}{x:Str}(h:c.N[i]?=some x):X.N[i]?=some x:=by rw[G.N]; exact h
theorem qeo:Qa ("any" : Str)=some (.builtin "any"):=by decide +kernel
theorem qep:Qa ("all" : Str)=some (.builtin "all"):=by decide +kernel
theorem qen:Qa ("int" : Str)=some (.type "int"):=by decide +kernel
theorem qbm:Qa ("bool" : Str)=some (.type "bool"):=by decide +kernel
theorem qeh:Qa ("str" : Str)=some (.type "str"):=by decide +kernel
theorem qws:Qa ("isinstance" : Str)=some (.builtin "isinstance"):=by decide +kernel
theorem qwp:Qa ("sorted" : Str)=some (.builtin "sorted"):=by decide +kernel
theorem qei:Qa ("set" : Str)=some (.type "set"):=by decide +kernel
theorem qwr:Qa ("len" : Str)=some (.builtin "len"):=by decide +kernel
theorem qel:Qa ("min" : Str)=some (.builtin "min"):=by decide +kernel
theorem qem:Qa ("max" : Str)=some (.builtin "max"):=by decide +kernel
theorem qkt:Qa ("list" : Str)=some (.type "list"):=by decide +kernel
theorem qj6:Qa ("tuple" : Str)=some (.type "tuple"):=by decide +kernel
theorem ty_ok(G:Good fns dl c X){t:M.Ty}{pos:Pos}(z:t≠.non)(j:c.sc.names.lookup (Str.ofString t.name)=some .globalImplicit):PE X (.Name (Str.ofString t.name) pos) (tC (.ty t.name)):=by
 cases t with
 |non=>exact absurd rfl z
 |bl=>exact qjg (G.gl j) (G.no rfl) qbm rfl (by decide) (by decide)
 |int=>exact qjg (G.gl j) (G.no rfl) qen rfl (by decide) (by decide)
 |str=>exact qjg (G.gl j) (G.no rfl) qeh rfl (by decide) (by decide)
 |tup=>exact qjg (G.gl j) (G.no rfl) qj6 rfl (by decide) (by decide)
 |lst=>exact qjg (G.gl j) (G.no rfl) qkt rfl (by decide) (by decide)
noncomputable def tCs:List V->TA
 |[]=>tNil
 |v::vs=>qib (tC v) (tCs vs)
theorem qcj:∀(vs:List V) (j:L2.St) (H:Hp) (Q:List V->Hp->Prop),Q vs H->tCs vs j H Q
 |[],_,_,_,h=>h
 |v::vs,j,H,Q,h=>qcj vs j H (λxs H2=>Q (v::xs) H2) h
theorem qgu(G:Good fns dl c X):∀{j:List M.Ty}{ps:List Qx},CkTys c j ps->PA X ps (tCs (j.map λt=>V.ty t.name))/\∀t∈j,t≠.non
 |_,_,.nil=>⟨pa_nil,λ_ h=>nomatch h⟩
 |_,_,.cons F L h=>by
  obtain⟨h1,h2⟩:=qgu G h;refine⟨qqo (ty_ok G F L) h1 rfl,λt J=>?_⟩;rcases Qqc.mp J with z|z
  ·rw[z]; exact F
  ·exact h2 t z
end
end MS
end
section
namespace MS
open PySem PySem.Spec PyProof.Rows L2
open M (D Cell Store Sl E S T Src Fn Out R)
section
variable {fns:List Fn}{dl n:Nat}{c:Ctx}{X:Cx}
theorem qh3:UnR X (unaryOp .USub) (rU1 X.K λst d=>match d with|.int i=>some (.int (-i),st)|_=>none):=by
 intro pins s σ H x v Q I j h;refine h.el λm st a d st' F z e q=>?_
 cases a with
 |int i=>
  cases e;exact un_neg pins s σ H x v Q I j ⟨i,z.int,q.here F (mkInt _)⟩
 |_=>cases e
theorem qq1(G:Good fns dl c X){N:List Str}{sr:List (Option Nat)}{scope:Scope}(Y:scope.kind=.function)(F:∀y∈scope.names,y.2≠.cell)(z:∀y∈scope.names,y.2=.free->c.sc.names.lookup y.1=some .cell\/c.sc.names.lookup y.1=some .free)
  (L:∀y∈scope.names,y.2=.local->scope.names.lookup y.1=some .local) (O:sr.length=N.length) (J:∀(j i:Nat),sr[j]?=some (some i)->∃x,N[j]?=some x/\c.N[i]?=some x/\scope.names.lookup x=some .free):CompScope X N sr scope:=
 ⟨Y,F,λy U hf=>by
  have:=z y U hf;show X.env.scope.names.lookup y.1=_\/X.env.scope.names.lookup y.1=_;rw[G.sc]; exact this,L,O,λj i h=>by
  obtain⟨x,a,b,d⟩:=J j i h
  exact⟨x,a,qxs G b,d⟩⟩
theorem qgx{K:Qqq}{m:List Addr}{H:Hp}{τ:Sl}{F:L2.St}(sr:List (Option Nat))(h:SlotOk K m H τ F):SlotOk K m H (M.inner sr τ) (qq3 sr F):=by
 refine⟨by unfold M.inner qq3; rw[Qqx,Qqx],λj d e=>?_⟩;unfold M.inner at e;rw[Qqa]at e;unfold qq3;rw[Qqa]
 cases q:sr[j]? with
 |none=>rw[q]at e; cases e
 |some o=>
  rw[q]at e
  cases o with
  |none=>cases e
  |some i=>
   have hi:τ[i]?=some (some d):=by
    cases z:τ[i]? with
    |none=>simp[z]at e
    |some w=>
     cases w with
     |none=>simp[z]at e
     |some w=>simpa[z] using e
   obtain⟨v,a,b⟩:=h.at_ i d hi;refine⟨v,?_,b⟩;simp[a]
theorem qk3{K:Qqq}{r:R}{t:T}{it elt:E}{q:Option E}{sr:List (Option Nat)}{tt:TT}{σ:L2.St}{H:Hp}{Q:VK}
  (a4:∀σ H (Q:Bool->Hp->Prop),(match q with
   |none=>Q true H
   |some c=>tTs K (λτ st=>r.tst τ st c) σ H Q)->tt σ H Q)
  (h:tD K (λτ st=>M.stepEv r τ st (.comp t it q elt sr)) σ H Q) :
  qic sr (tI K λτ st=>M.src r τ st it) (gT K t) tt (tD K λτ st=>r.ev τ st elt) σ H Q:=by
 refine h.el λm st τ d st' R0 S0 e a1=>?_;have e:((M.src r τ st it).bind λp=>(M.loopC p.1 (M.turnC r t q elt) (p.1.size p.2+1) 0 [] (M.inner sr τ) p.2).map λq=>M.alloc q.2 (.lst true q.1))=some (d,st'):=e;obtain⟨p,e1,e⟩:=qzy e;obtain⟨res,e2,e3⟩:=mapD e;refine⟨m,st,τ,p.1,p.2,R0,S0,e1,λm1 H1 J b1 t1 R1 hJ=>?_⟩
 refine⟨λi' k a2 a0 H'=>∃m2 L Z F,Sub m1 m2/\Tr H1 H'/\Rel K m2 L H'/\SlotOk K m2 H' Z a0/\IsDs K m2 H' F a2/\M.loopC p.1 (M.turnC r t q elt) k i' F Z L=some res,
  ⟨_,m1,p.2,M.inner sr τ,[],Sub.refl _,Tr.refl _,R1,qgx sr (S0.mono b1 t1),qqx,e2⟩,?_⟩
 rintro j k a2 a0 H' ⟨m2,L,Z,F,b2,t2,R2,S2,ia,O⟩
 cases k with
 |zero=>cases O
 |succ k=>
  have O:(p.1.at L j).bind (λo=>match o with
   |none=>if M.lim<F.length then none else some (F,L)
   |some d=>if M.lim<=F.length then none else(M.turnC r t q elt Z L d).bind λz=>M.loopC p.1 (M.turnC r t q elt) k (j+1) (match z.1 with|some x=>F++[x]|none=>F) z.2.1 z.2.2)=some res:=O
  obtain⟨o,e5,O⟩:=qzy O;have l1:=ia.length;have l2:=qqp
  cases o with
  |none=>
   dsimp only at O
   split at O
   ·cases O
   ·rename_i hl;cases O;refine .inl ⟨(hJ.mono b2 t2).done R2 e5,by omega,λpp hp=>?_⟩;cases e3;exact a1 _ (m2++[pp]) _ (b1.trans (b2.trans (Sub.app _ _))) (t1.trans (t2.trans (Tr.of_same (qzj hp)))) (R2.new hp ia) R2.newLoc
  |some d'=>
   dsimp only at O
   split at O
   ·cases O
   ·rename_i hl;obtain⟨a5,hy⟩:=(hJ.mono b2 t2).next R2 e5;refine .inr ⟨a5,by omega,λx H2 a3=>?_⟩;obtain⟨sm,ix⟩:=hy x H2 a3;have t2:=t2.trans (Tr.of_same sm);have R2:=R2.same sm;have S2:=S2.mono (Sub.refl _) (Tr.of_same sm);have ia:=qza (Sub.refl _) (Tr.of_same sm) _ _ ia;obtain⟨z,U,O⟩:=qzy O;unfold M.turnC at U;obtain⟨a7,e7,U⟩:=qzy U;refine qgb ix S2 e7 λa8 S3=>?_
    ·refine a4 _ _ _ ?_
     cases q with
     |none=>
      dsimp only at U ⊢;obtain⟨y,e8,e9⟩:=mapD U;cases e9;rw[Z3 rfl];refine⟨m2,L,_,y.1,y.2,R2,S3,e8,λv m3 H3 b3 Y R3 i3=>⟨k,Qzs k,m3,y.2,_,F++[y.1],b2.trans b3,t2.trans Y,R3,S3.mono b3 Y,(qza b3 Y _ _ ia).append (qzm i3 qqx),O⟩⟩
     |some cq=>
      dsimp only at U ⊢;obtain⟨bb,e8,U⟩:=qzy U;refine⟨m2,L,_,bb.1,bb.2,R2,S3,e8,λm3 H3 b3 Y R3=>?_⟩
      cases hb:bb.1 with
      |true=>
       rw[hb,Z3 rfl]at U;rw[Z3 rfl];obtain⟨y,e9,a6⟩:=mapD U;cases a6;refine⟨m3,bb.2,_,y.1,y.2,R3,S3.mono b3 Y,e9,λv m4 H4 b4 t4 R4 i4=>⟨k,Qzs k,m4,y.2,_,F++[y.1],b2.trans (b3.trans b4),t2.trans (Y.trans t4),R4,S3.mono (b3.trans b4) (Y.trans t4),(qza (b3.trans b4) (Y.trans t4) _ _ ia).append (qzm i4 qqx),O⟩⟩
      |false=>
       rw[hb,Z2 Qqe]at U;cases U;rw[Z2 Qqe];exact⟨k,Qzs k,m3,bb.2,_,F,b2.trans b3,t2.trans Y,R3,S3.mono b3 Y,qza b3 Y _ _ ia,O⟩
theorem qka(G:Good fns dl c X):∀{is:List Nat}{es:List Qx},CkTs c is es->(∀i∈is,∀x,c.N[i]?=some x->X.fn x=true\/c.sc.names.lookup x=some .local)->PGs X es (gIs is)/\(assignEach es X.env).length=is.length/\(assignEach es X.env).findIdx? (·.1)=none
 |_,_,.nil,_=>⟨qi4,rfl,rfl⟩
 |_,_,.cons (i:=i) (x:=x) (pos:=pos) (is:=is) (es:=es) z F h,hf=>by
  obtain⟨h1,h2,O⟩:=qka G h λj J=>hf j (Qqn _ J);have L:PG X (.Name x pos) (qyy i):=qct (by rw[G.N]; exact G.nd) (qxs G z) (by show X.env.scope.names.lookup x=_\/_=_; rw[G.sc]; exact F) (by rw[G.sc]; exact hf i Qq0 x z);refine⟨qfp L h1 rfl,?_,?_⟩
  ·show(assignEach es X.env).length+1=is.length+1;rw[h2]
  ·show List.findIdx? (·.1) ((false,assign (.Name x pos) X.env)::assignEach es X.env)=none;rw[List.findIdx?_cons,O]
   rfl
theorem qz7(G:Good fns dl c X){t:T}{j:Qx}(h:CkT c t j)(z:∀i∈t.slots,∀x,c.N[i]?=some x->X.fn x=true\/c.sc.names.lookup x=some .local):PG X j (gT X.K t):=by
 cases h with
 |@var i x pos F J=>exact qct (by rw[G.N]; exact G.nd) (qxs G F) (by show X.env.scope.names.lookup x=_\/_=_; rw[G.sc]; exact J) (by rw[G.sc]; exact z i (by simp[T.slots]) x F)
 |@tup O es k pos h=>
  obtain⟨h1,h2,L⟩:=qka G h z;exact pg_tup G.calm h1 h2 L
noncomputable def qh7(r:R)(K:Qqq):List E->List (TE×TE)
 |k::v::es=>(tD K λτ st=>r.ev τ st k,tD K λτ st=>r.ev τ st v)::qh7 r K es
 |_=>[]
noncomputable def twos:List V->List (V×V)
 |x::y::r=>(x,y)::twos r
 |_=>[]
theorem qv8(A:AllOk fns dl n)(G:Good fns dl c X){pos:Pos}:∀{es:List E}{ks:List (Option Qx)}{vs:List Qx},CkP (CkE c) es ks vs->PPs X pos ks vs (qh7 (M.rn fns dl n) X.K es)/\ks.all (·.isSome)=true/\ks.length=vs.length
 |_,_,_,.nil=>⟨qi0,rfl,rfl⟩
 |_,_,_,.cons z j t=>by
  obtain⟨h1,h2,F⟩:=qv8 A G (pos:=pos) t;refine⟨qfm (A.e c X G _ _ z) (A.e c X G _ _ j) h1,?_,?_⟩
  ·rw[Qxc,h2]; rfl
  ·rw[Qqh,Qqh,F]
theorem qv7{r:R}{K:Qqq}:∀{es:List E}{ks:List (Option Qx)}{vs:List Qx}{c:Ctx}{m:List Addr}{st j:Store}{H:Hp}{τ:Sl}{F:L2.St}{ds:List D}{Q:List (V×V)->Hp->Prop},CkP (CkE c) es ks vs->Rel K m st H->SlotOk K m H τ F->M.evs (r.ev τ) es st=some (ds,j)->
  (∀xs m' H',Sub m m'->Tr H H'->Rel K m' j H'->IsDs K m' H' ds xs->Q (twos xs) H')->qyu (qh7 r K es) F H Q
 |_,_,_,c,m,st,j,H,τ,F,ds,Q,.nil,U,S0,e,q=>by
  cases e;exact q [] m H (Sub.refl m) (Tr.refl H) U qqx
 |_,_,_,c,m,st,j,H,τ,F,ds,Q,.cons (k:=k) (v:=v) (es:=es) hk hv t,U,S0,e,q=>by
  have e:((r.ev τ st k).bind λp=>((r.ev τ p.2 v).bind λZ=>(M.evs (r.ev τ) es Z.2).bind λq=>some (Z.1::q.1,q.2)).bind λq=>some (p.1::q.1,q.2))=some (ds,j):=e;obtain⟨d1,Y,e1,e⟩:=qzc e;obtain⟨w,z,e⟩:=qzy e;obtain⟨d2,s2,e3,z⟩:=qzc z;obtain⟨u,e4,z⟩:=qzy z;cases z;cases e;refine⟨m,st,τ,d1,Y,U,S0,e1,λx m1 H1 b1 O R1 i1=>⟨m1,Y,τ,d2,s2,R1,S0.mono b1 O,e3,λy m2 H2 b2 L R2 i2=>?_⟩⟩;refine qv7 t R2 (S0.mono (b1.trans b2) (O.trans L)) e4 λxs m3 H3 b3 J R3 ix=>?_;exact q (x::y::xs) m3 H3 (b1.trans (b2.trans b3)) (O.trans (L.trans J)) R3 (qzm (qzk (b2.trans b3) (L.trans J) _ _ i1) (qzm (qzk b3 J _ _ i2) ix))
theorem qaj{K:Qqq}{m:List Addr}{H:Hp}:∀{ds:List D}{xs:List V}{kvs:List (D×D)},IsDs K m H ds xs->M.pairUp ds=some kvs->∃ys:List (Key×V),IsKV K m H kvs ys/\twos xs=ys.map λF=>(kV F.1,F.2)
 |[],xs,kvs,z,e=>by
  cases e;rw[z.nil];exact⟨[],rfl,rfl⟩
 |[d],xs,kvs,z,e=>by cases e
 |d::d'::ds,xs,kvs,z,e=>by
  have e:(if M.isKey d then(M.pairUp ds).map ((d,d')::·) else none)=some kvs:=e
  split at e
  ·rename_i hk;obtain⟨kr,e1,e2⟩:=mapD e;subst e2;obtain⟨x,xr,rfl,Y,U⟩:=z.cons;obtain⟨y,J,rfl,O,L⟩:=U.cons;obtain⟨k,j⟩:=qxy hk;have Z:=qlt j Y;subst Z;obtain⟨ys,h1,h2⟩:=qaj L e1;refine⟨(k,y)::ys,⟨k,y,ys,rfl,j,O,h1⟩,?_⟩;show(kV k,y)::twos J=_;rw[h2]
   rfl
  ·cases e
theorem e_ok(A:AllOk fns dl n)(G':Good fns dl c X){e:E}{p:Qx}(h:CkE c e p):PE X p (tD X.K λτ st=>M.stepEv (M.rn fns dl n) τ st e):=by
 have G:=G';have hu:X.A.units+64<cLine:=G'.room.units
 cases h.out with
 |@var i x pos hN hv hd d4=>
  refine(pe_var (qxs G hN) (by rw[G.sc]; exact hv) hd d4).imp λσ H Q h=>?_;refine h.el λm st τ d st' U J e q=>?_;simp only[M.stepEv]at e
  split at e
  ·rename_i d' d0;cases e;obtain⟨v,a,b⟩:=J.at_ i d d0;exact⟨v,a,q.here U b⟩
  ·cases e
 |int=>exact pe_int.imp λσ H Q ⟨m,st,τ,d,st',U,J,e,q⟩=>by cases e; exact q.here U (mkInt _)
 |bl=>exact pe_bl.imp λσ H Q ⟨m,st,τ,d,st',U,J,e,q⟩=>by cases e; exact q.here U (mkBl _)
 |non=>exact pe_non.imp λσ H Q ⟨m,st,τ,d,st',U,J,e,q⟩=>by cases e; exact q.here U qyz
 |str=>exact pe_str.imp λσ H Q ⟨m,st,τ,d,st',U,J,e,q⟩=>by cases e; exact q.here U (mkStr _)
 |@glo x d pos hg hm hd=>
  obtain⟨u,v,h1,h2,h3⟩:=G.mo.glo x d hm;exact(qw7 (G.gl hg) h1 h2 hd).imp λσ H Q ⟨m,st,τ,d,st',U,J,e,q⟩=>by cases e; exact q.here U (h3 m H)
 |@bin op a b pa pb pos Y Z=>
  exact(pe_op (qla op) (A.e c X G a pa Y) (A.e c X G b pb Z)).imp λσ H Q h=>qcq (fa:=λτ st=>(M.rn fns dl n).ev τ st a) (fb:=λτ st=>(M.rn fns dl n).ev τ st b) (g:=λst x y=>M.binop st op x y) h
 |@lenset a pa p0 p1 d8 pos hg hs Y=>
  refine(qz3 qea (G.gl hg) (G.no rfl) qwr (qqo (qjf (qej G.room.hd G.room.units) (G.gl hs) (G.no rfl) qei (qqo (A.e c X G a pa Y) pa_nil (Y.star _ _)) (by decide) (by decide) (Y.star _ _) rfl) pa_nil rfl) (by decide) (by decide) rfl rfl).imp λσ H Q h=>?_;refine h.el λm st τ d st' U J e j=>?_;obtain⟨d1,s1,e1,e⟩:=qzc e;obtain⟨d2,e2,e3⟩:=mapD e;cases e3;refine⟨m,st,τ,d1,s1,U,J,e1,λx m1 H1 b1 L O ix=>?_⟩
  cases d1 with
  |tup ds=>
   obtain⟨ks,k1,k2⟩:=Qx6.mp (show(ds.mapM M.keyD).bind _=some _ from e2)
   split at k2
   ·rename_i d6;cases k2;obtain⟨pt,ys,rfl,hq,iy⟩:=ix.tup;refine⟨pt,ys,ks,rfl,hq,qda iy k1,by rw[<- iy.length]; exact d6,λl hl=>?_⟩;refine⟨l,_,rfl,qzx,?_⟩;have sm:=qzj (o:=setO l (ST.distinct ks).length) hl;exact j _ m1 _ b1 (L.trans (Tr.of_same sm)) (O.same sm) (mkInt _)
   ·cases k2
  |_=>cases e2
 |@neg a pa pos Y=>
  exact(pe_un qh3 (A.e c X G a pa Y)).imp λσ H Q h=>tD_un (fa:=λτ st=>(M.rn fns dl n).ev τ st a) h
 |@not a pa pos Y=>
  refine(pe_not (A.e c X G a pa Y)).imp λσ H Q h=>?_;refine h.el λm st τ d st' U J e q=>?_;obtain⟨d1,s1,e1,e⟩:=qzc e;refine⟨m,st,τ,d1,s1,U,J,e1,λv m1 H1 b1 L O i1=>?_⟩
  cases d1 with
  |bl k=>
   cases e;exact⟨k,i1.bl,q _ m1 H1 b1 L O (mkBl _)⟩
  |_=>cases e
 |@cmp op a b pa pb pos Y Z hm=>
  exact(qlz (qxl hu op) (A.e c X G a pa Y) (A.e c X G b pb Z) hm).imp λσ H Q h=>qcq (fa:=λτ st=>(M.rn fns dl n).ev τ st a) (fb:=λτ st=>(M.rn fns dl n).ev τ st b) (g:=λst x y=>(M.cmpD st op x y).map λk=>(.bl k,st)) h
 |@cmp2 op c3 a b d pa pb pd pos Y Z hd hm=>
  refine(qf1 (qxl hu op) (qxl hu c3) (A.e c X G a pa Y) (A.e c X G b pb Z) (A.e c X G d pd hd) hm).imp λσ H Q h=>?_;refine h.el λm st τ dd st' U J e q=>?_;obtain⟨d1,s1,e1,e⟩:=qzc e;obtain⟨d2,s2,e2,e⟩:=qzc e;obtain⟨k,e3,e⟩:=qzy e
  refine⟨m,st,τ,d1,s1,U,J,e1,λx m1 H1 b1 L O i1=>⟨m1,s1,τ,d2,s2,O,J.mono b1 L,e2,λy m2 H2 b2 t2 R2 i2=>
   ⟨m2,s2,d1,d2,.bl k,s2,R2,qzk b2 t2 _ _ i1,i2,by show Option.map _ (M.cmpD s2 op d1 d2)=_; rw[e3]; rfl,λz m3 H3 b3 t3 R3 i3=>⟨k,i3.bl,?_⟩⟩⟩⟩
  cases k with
  |true=>
   rw[Z3 rfl]at e ⊢;obtain⟨d3,s3,e4,e⟩:=qzc e
   exact⟨m3,s2,τ,d3,s3,R3,J.mono (b1.trans (b2.trans b3)) (L.trans (t2.trans t3)),e4,λy' m4 H4 b4 t4 R4 i4=>
    ⟨m4,s3,d2,d3,dd,st',R4,qzk (b3.trans b4) (t3.trans t4) _ _ i2,i4,e,q.mono (b1.trans (b2.trans (b3.trans b4))) (L.trans (t2.trans (t3.trans t4)))⟩⟩
  |false=>
   rw[Z2 Qqe]at e ⊢;cases e;exact q _ m3 H3 (b1.trans (b2.trans b3)) (L.trans (t2.trans t3)) R3 (mkBl _)
 |@and2 a b pa pb pos Y Z=>
  refine(qhy (A.e c X G a pa Y) (qhw (A.e c X G b pb Z))).imp λσ H Q h=>?_;refine h.el λm st τ d st' U J e q=>?_;obtain⟨d1,s1,e1,e⟩:=qzc e;refine⟨m,st,τ,d1,s1,U,J,e1,λv m1 H1 b1 L O i1=>?_⟩
  cases d1 with
  |bl k=>
   cases k with
   |true=>exact⟨true,i1.bl,by rw[Z3 rfl]; exact⟨m1,s1,τ,d,st',O,J.mono b1 L,e,q.mono b1 L⟩⟩
   |false=>cases e; exact⟨false,i1.bl,by rw[Z2 Qqe]; exact q _ m1 H1 b1 L O (mkBl _)⟩
  |_=>cases e
 |@andN a b pa pb pd r pos Y Z=>
  refine(qhy (A.e c X G a pa Y) (A.e c X G b _ Z)).imp λσ H Q h=>?_;refine h.el λm st τ d st' U J e q=>?_;obtain⟨d1,s1,e1,e⟩:=qzc e;refine⟨m,st,τ,d1,s1,U,J,e1,λv m1 H1 b1 L O i1=>?_⟩
  cases d1 with
  |bl k=>
   cases k with
   |true=>exact⟨true,i1.bl,by rw[Z3 rfl]; exact⟨m1,s1,τ,d,st',O,J.mono b1 L,e,q.mono b1 L⟩⟩
   |false=>cases e; exact⟨false,i1.bl,by rw[Z2 Qqe]; exact q _ m1 H1 b1 L O (mkBl _)⟩
  |_=>cases e
 |@or2 a b pa pb pos Y Z=>
  refine(pe_or (A.e c X G a pa Y) (qhw (A.e c X G b pb Z))).imp λσ H Q h=>?_;refine h.el λm st τ d st' U J e q=>?_;obtain⟨d1,s1,e1,e⟩:=qzc e;refine⟨m,st,τ,d1,s1,U,J,e1,λv m1 H1 b1 L O i1=>?_⟩
  cases d1 with
  |bl k=>
   cases k with
   |false=>exact⟨false,i1.bl,by rw[Z2 Qqe]; exact⟨m1,s1,τ,d,st',O,J.mono b1 L,e,q.mono b1 L⟩⟩
   |true=>cases e; exact⟨true,i1.bl,by rw[Z3 rfl]; exact q _ m1 H1 b1 L O (mkBl _)⟩
  |_=>cases e
 |@orN a b pa pb pd r pos Y Z=>
  refine(pe_or (A.e c X G a pa Y) (A.e c X G b _ Z)).imp λσ H Q h=>?_;refine h.el λm st τ d st' U J e q=>?_;obtain⟨d1,s1,e1,e⟩:=qzc e;refine⟨m,st,τ,d1,s1,U,J,e1,λv m1 H1 b1 L O i1=>?_⟩
  cases d1 with
  |bl k=>
   cases k with
   |false=>exact⟨false,i1.bl,by rw[Z2 Qqe]; exact⟨m1,s1,τ,d,st',O,J.mono b1 L,e,q.mono b1 L⟩⟩
   |true=>cases e; exact⟨true,i1.bl,by rw[Z3 rfl]; exact q _ m1 H1 b1 L O (mkBl _)⟩
  |_=>cases e
 |@ite q a b pq pa pb pos hq Y Z=>
  refine(qft (A.t c X G q pq hq) (A.e c X G a pa Y) (A.e c X G b pb Z)).imp λσ H Q h=>?_;refine h.el λm st τ d st' U J e j=>?_;obtain⟨bb,e1,e⟩:=qzy e;refine⟨m,st,τ,bb.1,bb.2,U,J,e1,λm1 H1 b1 L O=>?_⟩
  cases Z:bb.1 with
  |true=>
   rw[Z,Z3 rfl]at e;rw[Z3 rfl];exact⟨m1,bb.2,τ,d,st',O,J.mono b1 L,e,j.mono b1 L⟩
  |false=>
   rw[Z,Z2 Qqe]at e;rw[Z2 Qqe];exact⟨m1,bb.2,τ,d,st',O,J.mono b1 L,e,j.mono b1 L⟩
 |@tup es ps k pos hs=>
  refine(qhv (qz2 A G hs)).imp λσ H Q h=>?_;refine h.el λm st τ d st' U J e j=>?_;obtain⟨p,e1,e⟩:=qzy e
  split at e
  ·cases e
  ·rename_i hl;cases e;refine⟨m,st,τ,p.1,p.2,U,J,e1,λxs m1 H1 b1 L O ix=>?_⟩;have l1:=ix.length;have l2:=qqp;refine⟨by omega,λpp hp=>?_⟩;have sm:=qzj (o:=.tup xs) hp;exact j _ m1 _ b1 (L.trans (Tr.of_same sm)) (O.same sm) (qq6 (SqT.of qzx) (qza (Sub.refl _) (Tr.of_same sm) _ _ ix))
 |@lst es ps pos hs=>
  refine(pe_lst (qz2 A G hs)).imp λσ H Q h=>?_;refine h.el λm st τ d st' U J e j=>?_;obtain⟨p,e1,e⟩:=qzy e
  split at e
  ·cases e
  ·rename_i hl;cases e;refine⟨m,st,τ,p.1,p.2,U,J,e1,λxs m1 H1 b1 L O ix=>?_⟩;have l1:=ix.length;have l2:=qqp;refine⟨by omega,λpp hp=>?_⟩;exact j _ (m1++[pp]) _ (b1.trans (Sub.app _ _)) (L.trans (Tr.of_same (qzj hp))) (O.new hp ix) O.newLoc
 |@idx a b pa pb pos Y Z hs=>
  exact(pe_ix ix_D (A.e c X G a pa Y) (A.e c X G b pb Z) hs).imp λσ H Q h=>qcq (fa:=λτ st=>(M.rn fns dl n).ev τ st a) (fb:=λτ st=>(M.rn fns dl n).ev τ st b) (g:=λst x y=>(M.idxD st x y).map λd=>(d,st)) h
 |@call f x es p ps p0 pos hg hf hd hn hs=>
  obtain⟨fa,fd,a8,hm,F,hk,Z⟩:=G'.tab f x hf;have hp:Star p:=by cases hs with|cons h _=>exact h.star
  have ht:(backTo pos (starEach ps X.env)).any (·.1)=false:=by cases hs with|cons _ t=>exact qjh t pos X.env
  refine(qlq F (G.room.mono (by omega)) (G.gl hg) (hm.1 hn) hk Z .nil qf2 (qz2 A G hs) hd (hp _ _) ht).imp λσ H Q h=>?_;refine h.el λm st τ d st' U J e j=>?_;obtain⟨q,e1,e⟩:=qzy e;refine⟨m,st,τ,q.1,q.2,U,J,e1,λxs m1 H1 b1 L O ix=>?_⟩;show spN X.K fns dl f (xs++[]) H1 Q E0;have e:(M.rn fns dl n).call f q.1 q.2=some (d,st'):=e;rw[M.runK_call]at e;rw[Qzv];exact⟨m1,q.2,q.1,d,st',O,ix,e,j.mono b1 L⟩
 |@bcall b es p ps p0 pos hg e5 hs=>
  have hp:Star p:=by cases hs with|cons h _=>exact h.star
  have ht:(backTo pos (starEach ps X.env)).any (·.1)=false:=by cases hs with|cons _ t=>exact qjh t pos X.env
  have hA:=qz2 A G hs
  cases b with
  |len=>exact(qz3 qeb (G.gl hg) (G.no rfl) qwr hA (by decide) (by decide) (hp _ _) ht).imp λσ H Q h=>qql (fa:=λτ st=>M.evs ((M.rn fns dl n).ev τ) es st) (g:=M.bLen) h
  |min=>exact(qz3 (qek G.calm) (G.gl hg) (G.no rfl) qel hA (by decide) (by decide) (hp _ _) ht).imp λσ H Q h=>qql (fa:=λτ st=>M.evs ((M.rn fns dl n).ev τ) es st) (g:=M.bMin) h
  |max=>exact(qz3 (qew G.calm) (G.gl hg) (G.no rfl) qem hA (by decide) (by decide) (hp _ _) ht).imp λσ H Q h=>qql (fa:=λτ st=>M.evs ((M.rn fns dl n).ev τ) es st) (g:=M.bMax) h
  |tuple=>exact(qjf qyf (G.gl hg) (G.no rfl) qj6 hA (by decide) (by decide) (hp _ _) ht).imp λσ H Q h=>qql (fa:=λτ st=>M.evs ((M.rn fns dl n).ev τ) es st) (g:=M.bTuple) h
  |list=>exact(qjf (qbl G.room.hd) (G.gl hg) (G.no rfl) qkt hA (by decide) (by decide) (hp _ _) ht).imp λσ H Q h=>qql (fa:=λτ st=>M.evs ((M.rn fns dl n).ev τ) es st) (g:=M.bList) h
  |any=>exact(qz3 (qee G.calm) (G.gl hg) (G.no rfl) qeo hA (by decide) (by decide) (hp _ _) ht).imp λσ H Q h=>qql (fa:=λτ st=>M.evs ((M.rn fns dl n).ev τ) es st) (g:=M.bAny) h
  |all=>exact(qz3 (qef G.calm) (G.gl hg) (G.no rfl) qep hA (by decide) (by decide) (hp _ _) ht).imp λσ H Q h=>qql (fa:=λτ st=>M.evs ((M.rn fns dl n).ev τ) es st) (g:=M.bAll) h
  |sorted=>exact(qz3 (qwo G.room.hd) (G.gl hg) (G.no rfl) qwp hA (by decide) (by decide) (hp _ _) ht).imp λσ H Q h=>qql (fa:=λτ st=>M.evs ((M.rn fns dl n).ev τ) es st) (g:=M.bSorted) h
 |@isi1 t a pa p0 p1 pos hg ht c8 Y=>
  refine(qz3 (qed t ht) (G.gl hg) (G.no rfl) qws (qqo (A.e c X G a pa Y) (qqo (ty_ok G ht c8) pa_nil rfl) (Y.star _ _)) (by decide) (by decide) (Y.star _ _) rfl).imp λσ H Q h=>?_;refine h.el λm st τ d st' U J e j=>?_;obtain⟨d1,s1,e1,e⟩:=qzc e;obtain⟨nm,e2,e3⟩:=mapD e;cases e3;refine⟨m,st,τ,d1,s1,U,J,e1,λx m1 H1 b1 L O ix=>?_⟩;refine⟨m1,s1,d1,nm,x,rfl,O,ix,e2,j _ m1 H1 b1 L O ?_⟩;have:([t].any λt=>M.tyIs t nm)=M.tyIs t nm:=by simp
  rw[this];exact mkBl _
 |@isiN ts a pa p0 ps k p1 pos a1 hg ht Y=>
  obtain⟨h1,h2⟩:=qgu G ht;refine(qz3 (qec ts h2) (G.gl hg) (G.no rfl) qws (qqo (A.e c X G a pa Y) (qqo (qhv h1) pa_nil rfl) (Y.star _ _)) (by decide) (by decide) (Y.star _ _) rfl).imp λσ H Q h=>?_;refine h.el λm st τ d st' U J e j=>?_;obtain⟨d1,s1,e1,e⟩:=qzc e;obtain⟨nm,e2,e3⟩:=mapD e;cases e3;refine⟨m,st,τ,d1,s1,U,J,e1,λx m1 H1 b1 L O ix=>?_⟩;refine qcj _ σ H1 _ ⟨?_,λpp hp=>?_⟩
  ·rw[Qqx];exact Qxf (qcc a1)
  ·have sm:=qzj (o:=.tup (ts.map λt=>V.ty t.name)) hp;exact⟨m1,s1,d1,nm,x,pp,rfl,qzx,O.same sm,qzk (Sub.refl _) (Tr.of_same sm) _ _ ix,e2,j _ m1 _ b1 (L.trans (Tr.of_same sm)) (O.same sm) (mkBl _)⟩
 |@append a e pa pe apos cpos Y he Z hl=>
  refine(pe_bm PySem.F.plainAttrs_list PySem.F.slot_list_append PySem.F.type_list_append qbj (A.e c X G a _ Y) (qz2 A G (.cons he .nil)) (Z X.env) (by rw[he.star]; rfl) hl (he.star _ _) rfl).imp λσ H Q h=>?_;refine h.el λm st τ d st' U J e0 j=>?_;obtain⟨d1,s1,e1,e0⟩:=qzc e0
  split at e0
  ·rename_i hm;obtain⟨q,e2,e0⟩:=qzy e0;refine⟨m,st,τ,d1,s1,U,J,e1,λv m1 H1 b1 L O i1=>⟨?_,m1,s1,τ,q.1,q.2,O,J.mono b1 L,e2,λxs m2 H2 b2 t2 R2 i2=>⟨m2,q.2,d1,q.1,d,st',R2,qzk b2 t2 _ _ i1,i2,e0,j.mono (b1.trans b2) (L.trans t2)⟩⟩⟩
   cases d1 with
   |loc l=>
    have hm:(true&&(M.seqAt s1 (.loc l)).isSome)=true:=hm;rw[Qjn]at hm;obtain⟨ds,a3⟩:=Qze.mp hm;obtain⟨a',xs,_,rfl,hq,_⟩:=O.seq a3 i1;exact .inl ⟨rfl,xs,hq⟩
   |lst l=>
    have hm:(true&&(M.seqAt s1 (.lst l)).isSome)=true:=hm;rw[Qjn]at hm;obtain⟨ds,a3⟩:=Qze.mp hm;obtain⟨a',xs,_,rfl,hq,_⟩:=O.seq a3 i1;exact .inl ⟨rfl,xs,hq⟩
   |_=>cases hm
  ·cases e0
 |@extend a e pa pe apos cpos Y he Z hl=>
  refine(pe_bm PySem.F.plainAttrs_list PySem.F.slot_list_extend PySem.F.type_list_extend qbx (A.e c X G a _ Y) (qz2 A G (.cons he .nil)) (Z X.env) (by rw[he.star]; rfl) hl (he.star _ _) rfl).imp λσ H Q h=>?_;refine h.el λm st τ d st' U J e0 j=>?_;obtain⟨d1,s1,e1,e0⟩:=qzc e0
  split at e0
  ·rename_i hm;obtain⟨q,e2,e0⟩:=qzy e0;refine⟨m,st,τ,d1,s1,U,J,e1,λv m1 H1 b1 L O i1=>⟨?_,m1,s1,τ,q.1,q.2,O,J.mono b1 L,e2,λxs m2 H2 b2 t2 R2 i2=>⟨m2,q.2,d1,q.1,d,st',R2,qzk b2 t2 _ _ i1,i2,e0,j.mono (b1.trans b2) (L.trans t2)⟩⟩⟩
   cases d1 with
   |loc l=>
    have hm:(true&&(M.seqAt s1 (.loc l)).isSome)=true:=hm;rw[Qjn]at hm;obtain⟨ds,a3⟩:=Qze.mp hm;obtain⟨a',xs,_,rfl,hq,_⟩:=O.seq a3 i1;exact .inl ⟨rfl,xs,hq⟩
   |lst l=>
    have hm:(true&&(M.seqAt s1 (.lst l)).isSome)=true:=hm;rw[Qjn]at hm;obtain⟨ds,a3⟩:=Qze.mp hm;obtain⟨a',xs,_,rfl,hq,_⟩:=O.seq a3 i1;exact .inl ⟨rfl,xs,hq⟩
   |_=>cases hm
  ·cases e0
 |@gc a p hp hg Y=>exact(pe_gc (A.e c X G a _ Y)).imp λ_ _ _ h=>h
 |@dic0 pos=>
  refine pe_dnewK.imp λσ H Q h=>?_;refine h.el λm st τ d st' U J e j=>?_;have e0:M.wdicAt (st++[Cell.dic true []]) st.length=some []:=by simp[M.wdicAt]
  have e:(match M.wdicAt (st++[Cell.dic true []]) st.length with
   |some []=>(M.pairUp []).bind λkvs=>if kvs.length<=15 then some (D.loc st.length,(st++[Cell.dic true []]).set st.length (Cell.dic true (M.dall kvs))) else none
   |_=>none)=some (d,st'):=e
  rw[e0]at e;have e2:(st++[Cell.dic true []]).set st.length (.dic true [])=st++[.dic true []]:=by simp
  have e:some (D.loc st.length,(st++[Cell.dic true []]).set st.length (.dic true []))=some (d,st'):=e;rw[e2]at e;cases e;intro pp hp;exact j _ (m++[pp]) _ (Sub.app _ _) (Tr.of_same (qzj hp)) (U.newD (kvs:=[]) (xs:=[]) hp rfl) U.newLoc
 |@dic es k v ks vs pos hP d7=>
  obtain⟨h1,h2,h3⟩:=qv8 A G (pos:=pos) hP;refine(qi8 h1 h2 h3 (by simp) d7).imp λσ H Q h=>?_;refine h.el λm st τ d st' U J e j=>?_
  have e:((M.evs ((M.rn fns dl n).ev τ) es (st++[.dic true []])).bind λp=>match M.wdicAt p.2 st.length with
   |some []=>(M.pairUp p.1).bind λkvs=>if kvs.length<=15 then some (D.loc st.length,p.2.set st.length (.dic true (M.dall kvs))) else none
   |_=>none)=some (d,st'):=e
  obtain⟨p,e1,e⟩:=qzy e
  split at e
  ·rename_i c1;obtain⟨kvs,e2,e⟩:=qzy e
   split at e
   ·rename_i hl;cases e;intro pp hp;have sm:=qzj (o:=.dK []) hp;refine qv7 hP (U.newD (kvs:=[]) (xs:=[]) hp rfl) (J.mono (Sub.app _ _) (Tr.of_same sm)) e1 λxs m1 H1 b1 L O ix=>?_;obtain⟨ys,c0,c5⟩:=qaj ix e2;have a0:MS.IsD X.K m1 H1 (.loc st.length) (.ref pp):=qzk b1 (Tr.refl H1) _ _ (U.newLoc (p:=pp));obtain⟨a',c2,d5,ea,hH,b9,c6⟩:=O.wdict c1 a0;cases ea;have c4:c2=[]:=b9;subst c4;have l1:=c0.length;refine⟨hH,ys,c5,by omega,?_⟩;exact j _ m1 _ ((Sub.app _ _).trans b1) ((Tr.of_same sm).trans (L.trans (Tr.putD hH))) (O.putD c6 d5 hH (c0.merge (show IsKV X.K m1 H1 [] [] from rfl))) (qzk (Sub.refl _) (Tr.putD hH) _ _ a0)
   ·cases e
  ·cases e
 |@didx a b pa pb pos Y Z hs=>exact qf0 (by omega) (A.e c X G a pa Y) (A.e c X G b pb Z) hs
 |@din a b pa pb pos Y Z hm=>exact qaq (qvq (by omega) false (A.e c X G a pa Y) (A.e c X G b pb Z)) hm
 |@dnin a b pa pb pos Y Z hm=>exact qaq (qvq (by omega) true (A.e c X G a pa Y) (A.e c X G b pb Z)) hm
 |@gidx x ks ds b pb p0 pos hg hm hd Z hs=>
  obtain⟨ad,h1,h2⟩:=G.mo.gds x ks ds hm;exact qfu (G.gl hg) h1 h2 hd (A.e c X G b pb Z) hs
 |@gin x ks ds b pb p0 pos hg hm hd Z=>
  obtain⟨ad,h1,h2⟩:=G.mo.gds x ks ds hm;exact qaq (qvz false (G.gl hg) h1 h2 hd (A.e c X G b pb Z)) rfl
 |@gnin x ks ds b pb p0 pos hg hm hd Z=>
  obtain⟨ad,h1,h2⟩:=G.mo.gds x ks ds hm;exact qaq (qvz true (G.gl hg) h1 h2 hd (A.e c X G b pb Z)) rfl
 |@sli a lo hi pa pl ph p2 pos Y hl hh=>
  refine(qfr sl_D (A.e c X G a pa Y) (po_ok A G hl) (po_ok A G hh)).imp λσ H Q h=>?_;refine h.el λm st τ d st' U J e j=>?_;have e:(((M.rn fns dl n).ev τ st a).bind λp=>(M.part (M.rn fns dl n) τ p.2 lo).bind λl=>(M.part (M.rn fns dl n) τ l.2 hi).bind λh=>M.sliD h.2 p.1 l.1 h.1)=some (d,st'):=e;obtain⟨d1,s1,e1,e⟩:=qzc e;obtain⟨l,e2,e⟩:=qzy e;obtain⟨u,e3,e⟩:=qzy e
  exact⟨m,st,τ,d1,s1,U,J,e1,λx m1 H1 b1 L O i1=>⟨m1,s1,τ,l.1,l.2,O,J.mono b1 L,e2,λm2 H2 b2 t2 R2=>⟨m2,l.2,τ,u.1,u.2,R2,J.mono (b1.trans b2) (L.trans t2),e3,λm3 H3 b3 t3 R3=>
   ⟨m3,u.2,d1,d,st',R3,qzk (b2.trans b3) (t2.trans t3) _ _ i1,e,j.mono (b1.trans (b2.trans b3)) (L.trans (t2.trans t3))⟩⟩⟩⟩
 |@comp t it elt sr tg b7 a6 a9 pos N hk a4 a2 a0 a1 a7 a5 hs hi ht b0 he=>
  have S:=qq1 G hk a4 a2 a0 a1 a7;exact(qcu (tt:=λ_ H Q=>Q true H) G.calm S (qjo A G hi) (λC fp s H=>qz7 (G.inner hk a5) ht λi b5 x hx=>.inr (qk2 b0 i b5 x hx)) (λC fp s H=>qyt) (λC fp s H=>A.e _ _ (G.inner hk a5) elt a6 he) (hs X.env)).imp λσ H Q h=>
   qk3 (λ_ _ _ q=>q) h
 |@compIf t it q elt sr tg b7 pq a6 a9 pos N hk a4 a2 a0 a1 a7 a5 hs hi ht b0 hq he=>
  have S:=qq1 G hk a4 a2 a0 a1 a7;exact(qcu G.calm S (qjo A G hi) (λC fp s H=>qz7 (G.inner hk a5) ht λi b5 x hx=>.inr (qk2 b0 i b5 x hx)) (λC fp s H=>qys (A.t _ _ (G.inner hk a5) q pq hq)) (λC fp s H=>A.e _ _ (G.inner hk a5) elt a6 he) (hs X.env)).imp λσ H Q h=>
   qk3 (λ_ _ _ q=>q) h
 |@attr C a f pa pos Y hc Z=>
  obtain⟨h1,h2⟩:=G.mo.ats C f hc;refine(pe_fld (A.e c X G a pa Y) (Z X.env)).imp λσ H Q h=>?_;refine h.el λm st τ d st' U J e j=>?_;obtain⟨d1,s1,e1,e⟩:=qzc e;obtain⟨fs,e2,e⟩:=qzy e;obtain⟨d2,e3,e4⟩:=mapD e;cases e4;refine⟨m,st,τ,d1,s1,U,J,e1,λx m1 H1 b1 L O ix=>?_⟩;obtain⟨l,p,dx,ys,rfl,_,rfl,hH,b6,_⟩:=O.inst e2 ix;rcases b6.get f with⟨z,_⟩|⟨d',v,z1,z2,iv⟩
  ·rw[z]at e3; cases e3
  ·rw[z1]at e3;cases e3;exact⟨p,C,dx,ys,v,rfl,hH,h1,h2,z2,j _ m1 H1 b1 L O iv⟩
 |@mcall C f m' x cn a es pa ps apos pos Y hf hm hc hs ht=>
  obtain⟨fa,fd,a8,hl,F,hk,Z⟩:=G'.tab f x hf;obtain⟨_,hC,_,_⟩:=G.mo.cls cn C hc;have hM:=hl.2 C m' hm;obtain⟨pl,ht⟩:=ht X.env;have key:∀σ H Q,tD X.K (λτ st=>M.stepEv (M.rn fns dl n) τ st (.mcall C f m' a es)) σ H Q->qiy C m' (spN X.K fns dl f) [] E0 (tD X.K λτ st=>(M.rn fns dl n).ev τ st a) (tL X.K λτ st=>M.evs ((M.rn fns dl n).ev τ) es st) σ H Q:=by
   intro σ H Q h;refine h.el λm st τ d st' U J e j=>?_;obtain⟨d1,s1,e1,e⟩:=qzc e;obtain⟨fs,e2,e⟩:=qzy e;refine⟨m,st,τ,d1,s1,U,J,e1,λv m1 H1 b1 L O ix=>?_⟩;obtain⟨l,p,dx,ys,rfl,_,rfl,hH,b6,_⟩:=O.inst e2 ix;dsimp only at e
   split at e
   ·cases e
   ·rename_i b8;obtain⟨q,e3,e⟩:=qzy e;rcases b6.get m' with⟨_,z⟩|⟨d',v,z1,_,_⟩
    ·refine⟨p,dx,ys,rfl,hH,z,m1,s1,τ,q.1,q.2,O,J.mono b1 L,e3,λxs m2 H2 b2 t2 R2 i2=>?_⟩;have e:(M.rn fns dl n).call f (.loc l::q.1) q.2=some (d,st'):=e;rw[M.runK_call]at e;show spN X.K fns dl f (.ref p::(xs++[])) H2 Q E0;rw[Qzv];exact⟨m2,q.2,_,d,st',R2,qzm (qzk b2 t2 _ _ ix) i2,e,j.mono (b1.trans b2) (L.trans t2)⟩
    ·rw[z1]at b8;exact absurd rfl b8
  have hr:Room (2*dl) X.A:=G.room.mono (by omega)
  cases hs with
  |nil=>
   refine(qfs (A.e c X G a pa Y) hC hM F hr Z .nil qf2 ht).imp λσ H Q h=>?_
   ·obtain⟨m,st,τ,d1,s1,U,J,e1,k⟩:=key σ H Q h;refine⟨m,st,τ,d1,s1,U,J,e1,λv m1 H1 b1 L O ix=>?_⟩;obtain⟨p,dx,ys,rfl,hH,z,m2,s2,d9,ds,s3,R2,S2,e2,k2⟩:=k v m1 H1 b1 L O ix;cases e2;exact⟨p,dx,ys,rfl,hH,z,k2 [] m2 H1 (Sub.refl _) (Tr.refl _) R2 qqx⟩
  |cons h1 h2=>exact(qi5 (A.e c X G a pa Y) hC hM F hr Z .nil qf2 (qz2 A G (.cons h1 h2)) (h1.star _ _) (qjh h2 pos X.env) ht).imp key
 |@new C f x cn es p ps p0 pos hg hf hm hc hd hs=>
  obtain⟨fa,fd,a8,hl,F,hk,Z⟩:=G'.tab f x hf;obtain⟨h1,_,h3,h4⟩:=G.mo.cls cn C hc;have hM:=hl.2 C _ hm;have hp:Star p:=by cases hs with|cons h _=>exact h.star
  have ht:(backTo pos (starEach ps X.env)).any (·.1)=false:=by cases hs with|cons _ t=>exact qjh t pos X.env
  refine(qi6 ⟨h3,hM.at_,hM.fn,h4⟩ F G.room (G.gl hg) h1 Z .nil qf2 (qz2 A G hs) hd (hp _ _) ht).imp λσ H Q h=>?_;refine h.el λm st τ d st' U J e j=>?_;obtain⟨q,e1,e⟩:=qzy e;obtain⟨w,e2,e⟩:=qzy e;refine⟨m,st,τ,q.1,q.2,U,J,e1,λxs m1 H1 b1 L O ix x dx hx c9 c7=>?_⟩;have e2:(M.rn fns dl n).call f (.loc q.2.length::q.1) (q.2++[.obj C []])=some w:=e2;rw[M.runK_call]at e2;obtain⟨sm,R2⟩:=O.newI (C:=C) hx c9 c7;have lc:=O.newLoc (p:=x) (H':=upd (upd H1 dx (.own x)) x (.ins C dx []))
  split at e
  ·rename_i hn;cases e;rw[Qzv];refine⟨m1++[x],_,_,w.1,w.2,R2,qzm lc (qza (Sub.app m1 [x]) (Tr.of_same sm) _ _ ix),e2,λv m2 H2 b2 t2 R3 iv=>?_⟩;have hw:w.1=.non:=by
    cases hq:w.1 with
    |non=>rfl
    |_=>rw[hq]at hn; cases hn
   rw[hw]at iv;exact⟨iv.non,j _ m2 H2 (b1.trans ((Sub.app m1 [x]).trans b2)) (L.trans ((Tr.of_same sm).trans t2)) R3 (qzk b2 t2 _ _ lc)⟩
  ·cases e
end
end MS
end
section
namespace MS
open PySem PySem.Spec PyProof.Rows L2
open M (D Cell Store Sl E S T Src Fn Out R)
section
variable {fns:List Fn}{dl n:Nat}{c:Ctx}{X:Cx}
theorem qkw{K:Qqq}{r:R}{e:E}{z:L2.St}{H:Hp}{Q:Bool->Hp->Prop}(U:∀τ st,M.stepTst r τ st e=(r.ev τ st e).bind λp=>(M.truth p.2 p.1).map λk=>(k,p.2))
  (h:tTs K (λτ st=>M.stepTst r τ st e) z H Q):(tD K λτ st=>r.ev τ st e) z H λx H'=>∃k,TruV K x H' k/\Q k H':=by
 refine h.el λm st τ d st' R0 S0 j q=>?_;have j:=(U τ st).symm.trans j;obtain⟨d1,L,e1,j⟩:=qzc j;obtain⟨k,Z,Y⟩:=mapD j;cases Y;exact⟨m,st,τ,d1,L,R0,S0,e1,λx m1 H1 b1 J F O=>⟨_,qh6 F O Z,q m1 H1 b1 J F⟩⟩
theorem qe7{K:Qqq}{r:R}{e:E}{f:Sl->Store->Option (D×Store)}{z:L2.St}{H:Hp}{Q:Bool->Hp->Prop}(O:∀τ st,M.stepTst r τ st e=(f τ st).bind λp=>(M.truth p.2 p.1).map λk=>(k,p.2))(U:∀τ st d st',f τ st=some (d,st')->∃k,d=.bl k)
  (h:tTs K (λτ st=>M.stepTst r τ st e) z H Q):tB (tD K f) z H Q:=by
 refine h.el λm st τ d st' R0 Y j q=>?_;have j:=(O τ st).symm.trans j;obtain⟨d1,s1,F,j⟩:=qzc j;obtain⟨k,rfl⟩:=U _ _ _ _ F;cases j;exact⟨m,st,τ,_,_,R0,Y,F,λx m1 H1 b1 J Z L=>⟨_,L.bl,q m1 H1 b1 J Z⟩⟩
theorem qho{r:R}{τ:Sl}{st j:Store}{neg:Bool}{a b:E}{d:D}(h:M.dinR r τ st neg a b=some (d,j)):∃k,d=.bl k:=by
 unfold M.dinR at h;obtain⟨Y,J,U,h⟩:=qzc h;obtain⟨z,F,O,h⟩:=qzc h
 cases z with
 |loc l=>
  obtain⟨kvs,L,h⟩:=qzy h
  split at h
  ·cases h; exact⟨_,rfl⟩
  ·cases h
 |_=>cases h
theorem qhh{r:R}{τ:Sl}{st j:Store}{neg:Bool}{ks:List Str}{b:E}{d:D}(h:M.ginR r τ st neg ks b=some (d,j)):∃k,d=.bl k:=by
 unfold M.ginR at h;obtain⟨F,J,L,h⟩:=qzc h
 cases F with
 |str z=>cases h; exact⟨_,rfl⟩
 |_=>cases h
theorem qg0{K:Qqq}{r:R}{a b:E}{F:L2.St}{H:Hp}{Q:Bool->Hp->Prop}(h:tTs K (λτ st=>M.stepTst r τ st (.and a b)) F H Q):tAnd (tTs K λτ st=>r.tst τ st a) (tTs K λτ st=>r.tst τ st b) F H Q:=by
 refine h.el λm st τ d st' R0 L j q=>?_;have j:((r.tst τ st a).bind λp=>if p.1 then r.tst τ p.2 b else some (false,p.2))=some (d,st'):=j;obtain⟨p,Z,j⟩:=qzy j;refine⟨m,st,τ,p.1,p.2,R0,L,Z,λm1 H1 b1 z O=>?_⟩
 cases J:p.1 with
 |true=>
  rw[J,Z3 rfl]at j;rw[Z3 rfl];exact⟨m1,p.2,τ,d,st',O,L.mono b1 z,j,λY H2 b2 U R2=>q Y H2 (b1.trans b2) (z.trans U) R2⟩
 |false=>
  rw[J,Z2 Qqe]at j;cases j;rw[Z2 Qqe];exact q m1 H1 b1 z O
theorem tt_or{K:Qqq}{r:R}{a b:E}{F:L2.St}{H:Hp}{Q:Bool->Hp->Prop}(h:tTs K (λτ st=>M.stepTst r τ st (.or a b)) F H Q):tOr (tTs K λτ st=>r.tst τ st a) (tTs K λτ st=>r.tst τ st b) F H Q:=by
 refine h.el λm st τ d st' R0 L j q=>?_;have j:((r.tst τ st a).bind λp=>if p.1 then some (true,p.2) else r.tst τ p.2 b)=some (d,st'):=j;obtain⟨p,Z,j⟩:=qzy j;refine⟨m,st,τ,p.1,p.2,R0,L,Z,λm1 H1 b1 z O=>?_⟩
 cases J:p.1 with
 |false=>
  rw[J,Z2 Qqe]at j;rw[Z2 Qqe];exact⟨m1,p.2,τ,d,st',O,L.mono b1 z,j,λY H2 b2 U R2=>q Y H2 (b1.trans b2) (z.trans U) R2⟩
 |true=>
  rw[J,Z3 rfl]at j;cases j;rw[Z3 rfl];exact q m1 H1 b1 z O
theorem qvt{K:Qqq}{m F:List Addr}{H Z Y:Hp}{τ:Sl}{σ σ':L2.St}{i:Nat}{O d:D}(S0:SlotOk K m H τ σ)(U:SlotOk K F Z (τ.set i (some O)) σ')(s:Sub m F)(t:Tr Z Y)(hd:∀v,MS.IsD K F Z O v->MS.IsD K m Y d v):SlotOk K m Y (τ.set i (some d)) σ':=by
 refine⟨by have:=U.len; rwa [Qz3]at this ⊢,λj e z=>?_⟩
 by_cases J:i=j
 ·subst J;have hi:i<τ.length:=by
   have:=(Qqv.mp z).1;rwa [Qz3]at this
  rw[Qq8 hi]at z;cases z;obtain⟨v,L,q⟩:=U.at_ i O (Qq8 hi);exact⟨v,L,hd v q⟩
 ·rw[Qqp J]at z;obtain⟨v0,_,q0⟩:=S0.at_ j e z;obtain⟨v,L,q⟩:=U.at_ j e (by rw[Qqp J]; exact z);exact⟨v,L,qzk (Sub.refl m) t _ _ (qjq s _ _ _ q0 q)⟩
theorem qfl{p:Stmt}{f:Sl->Store->Option (D×Store)}{i:Nat}(h:PS X p (tS X.K λτ st=>(f τ st).bind λq=>(M.setT (.var i) q.1 τ).map λτ'=>(Out.nx τ',q.2))):
  PS X p (tS X.K λτ st=>((f τ st).map λq=>M.gcD st q).bind λq=>(M.setT (.var i) q.1 τ).map λτ'=>(Out.nx τ',q.2)):=by
 intro pins s σ H Dn I q;refine q.el λm st τ o st' R0 S0 e F=>?_;obtain⟨d,s1,e1,e⟩:=qzc e;obtain⟨⟨Z,st0⟩,e2,e3⟩:=mapD e1;obtain⟨τ',O,e5⟩:=mapD e;cases e5;have O:(if i<τ.length then some (τ.set i (some d)) else none)=some τ':=O
 split at O
 case isFalse=>cases O
 case isTrue hi=>
  cases O;refine thn (h pins s σ H ⟨λj H1=>∃m1,Sub m m1/\Tr H H1/\Rel X.K m1 st0 H1/\SlotOk X.K m1 H1 (τ.set i (some Z)) j,λ_ _=>False,λ_ _=>False,λ_ _=>False⟩ I ⟨m,st,τ,.nx (τ.set i (some Z)),st0,R0,S0,by show(f τ st).bind _=_; rw[e2]; show Option.map _ (if i<τ.length then some (τ.set i (some Z)) else none)=_; rw[Z3 hi]; rfl,λm1 H1 b t R j U=>⟨m1,b,t,R,U⟩⟩) λfl s2 hf=>?_
  cases fl with
  |next=>
   obtain⟨j,H1,I1,m1,b1,t1,J,U⟩:=hf;have plain:(Z,st0)=(d,s1)->SP X pins Dn .next s2:=λz=>by
    cases z;exact⟨j,H1,I1,F m1 H1 b1 t1 J j U⟩
   rcases gc_el e3 with z|⟨ok,z⟩
   ·exact plain z
   ·unfold M.gcX at z
    split at z
    ·rename_i hn;cases z;exact⟨j,H1,I1,F m H1 (Sub.refl m) t1 (R0.cut J b1 ok (Tr.refl H1) λ_ _ _ _ _ _=>rfl) j (qvt S0 U b1 (Tr.refl H1) λv q=>qdf _ _ hn q)⟩
    ·split at z
     ·rename_i l hd;simp only at hd
      split at z
      ·rename_i hl
       split at z
       ·rename_i ds hc
        split at z
        ·rename_i hn;cases z;subst hd;obtain⟨a,ha⟩:=J.addr hc;obtain⟨xs,hx,ix⟩:=J.cell l _ a hc ha;obtain⟨o,I2⟩:=qko I1 hx;have Y:=Tr.lay (o:=o) hx;refine⟨j,_,I2,F m _ (Sub.refl m) (t1.trans Y) (R0.cut J b1 ok Y λl' c a' e ea w=>?_) j (qvt S0 U b1 Y λv q=>?_)⟩
         ·refine qzq λz=>?_;subst z;have h3:=qjy e;have:=J.nd l' l a' c _ (b1 l' a' ea) ha h3.2 hc w rfl;omega
         ·obtain⟨a',L,rfl⟩:=q.loc;rw[ha]at L;cases L;exact qbk (.inl ⟨o,qzx⟩) (qjs _ _ hn (qza (Sub.refl m1) Y _ _ ix))
        ·exact plain z
       ·exact plain z
      ·exact plain z
     ·exact plain z
  |brk=>obtain⟨_,_,_,z⟩:=hf; exact z.elim
  |cont=>obtain⟨_,_,_,z⟩:=hf; exact z.elim
  |ret u=>obtain⟨_,_,_,_,_,z⟩:=hf; exact z.elim
theorem w_ok(A:AllOk fns dl n)(U:Good fns dl c X){e:E}{op:BoolOp}{ps:List Qx}{pos:Pos}(h:CkE c e (.BoolOp op ps pos)):PW X (.BoolOp op ps pos) (tTs X.K λτ st=>M.stepTst (M.rn fns dl n) τ st e):=by
 have G:=U
 cases h.out with
 |@and2 a b z J pos j F=>exact(qhq (A.t c X G a z j) (qio (A.t c X G b J F))).imp λσ H Q h=>qg0 h
 |@andN a b z J L r pos j F=>exact(qhq (A.t c X G a z j) (A.w c X G b _ _ _ F)).imp λσ H Q h=>qg0 h
 |@or2 a b z J pos j F=>exact(pw_or (A.t c X G a z j) (pw_or1 (A.t c X G b J F))).imp λσ H Q h=>tt_or h
 |@orN a b z J L r pos j F=>exact(pw_or (A.t c X G a z j) (A.w c X G b _ _ _ F)).imp λσ H Q h=>tt_or h
 |gc O Y j=>cases O
theorem t_ok(A:AllOk fns dl n)(G':Good fns dl c X){e:E}{p:Qx}(h:CkE c e p):PT X p (tTs X.K λτ st=>M.stepTst (M.rn fns dl n) τ st e):=by
 have G:=G';have hu:X.A.units+64<cLine:=G'.room.units;have hA:=A.e c X G e p h
 cases h.out with
 |@not a Z pos F=>
  refine(pt_not (A.t c X G a Z F)).imp λσ H Q h=>?_;refine h.el λm st τ d st' R0 S0 e0 q=>?_;obtain⟨p,e1,e2⟩:=mapD e0;cases e2;exact⟨m,st,τ,p.1,p.2,R0,S0,e1,λm1 H1 b1 Y R1=>q m1 H1 b1 Y R1⟩
 |and2 F j=>exact(w_ok A G' (.and2 F j)).pt
 |andN F j=>exact(w_ok A G' (.andN F j)).pt
 |or2 F j=>exact(w_ok A G' (.or2 F j)).pt
 |orN F j=>exact(w_ok A G' (.orN F j)).pt
 |@cmp op a b Z O pos F j U=>
  refine(qip (qxl hu op) (A.e c X G a Z F) (A.e c X G b O j) U).imp λσ H Q h=>?_;refine h.el λm st τ d st' R0 S0 e0 q=>?_;obtain⟨d1,s1,e1,e0⟩:=qzc e0;obtain⟨L,J,e2,e0⟩:=qzc e0;obtain⟨k,e3,e4⟩:=mapD e0;cases e4
  exact⟨m,st,τ,d1,s1,R0,S0,e1,λx m1 H1 b1 Y R1 i1=>⟨m1,s1,τ,L,J,R1,S0.mono b1 Y,e2,λy m2 H2 b2 t2 R2 i2=>
   ⟨m2,J,d1,L,.bl d,J,R2,qzk b2 t2 _ _ i1,i2,by show Option.map _ (M.cmpD J op d1 L)=_; rw[show M.cmpD J op d1 L=some d from e3]; rfl,λz m3 H3 b3 t3 R3 i3=>⟨d,i3.bl,q m3 H3 (b1.trans (b2.trans b3)) (Y.trans (t2.trans t3)) R3⟩⟩⟩⟩
 |@cmp2 op a0 a b d Z O pd pos F j hd U=>
  refine(qfi (qxl hu op) (qxl hu a0) (A.e c X G a Z F) (A.e c X G b O j) (A.e c X G d pd hd) U).imp λσ H Q h=>?_;refine h.el λm st τ dd st' R0 S0 e q=>?_;obtain⟨d1,s1,e1,e⟩:=qzc e;obtain⟨L,J,e2,e⟩:=qzc e;obtain⟨k,e3,e⟩:=qzy e
  refine⟨m,st,τ,d1,s1,R0,S0,e1,λx m1 H1 b1 Y R1 i1=>⟨m1,s1,τ,L,J,R1,S0.mono b1 Y,e2,λy m2 H2 b2 t2 R2 i2=>
   ⟨m2,J,d1,L,.bl k,J,R2,qzk b2 t2 _ _ i1,i2,by show Option.map _ (M.cmpD J op d1 L)=_; rw[show M.cmpD J op d1 L=some k from e3]; rfl,λz m3 H3 b3 t3 R3 i3=>⟨k,i3.bl,?_⟩⟩⟩⟩
  cases k with
  |true=>
   rw[Z3 rfl]at e ⊢;obtain⟨d3,s3,e4,e⟩:=qzc e;obtain⟨k',e5,e6⟩:=mapD e;cases e6
   exact⟨m3,J,τ,d3,s3,R3,S0.mono (b1.trans (b2.trans b3)) (Y.trans (t2.trans t3)),e4,λy' m4 H4 b4 t4 R4 i4=>
    ⟨m4,s3,L,d3,.bl dd,s3,R4,qzk (b3.trans b4) (t3.trans t4) _ _ i2,i4,by show Option.map _ (M.cmpD s3 a0 L d3)=_; rw[show M.cmpD s3 a0 L d3=some dd from e5]; rfl,
     λz m5 H5 b5 t5 R5 i5=>⟨dd,i5.bl,q m5 H5 (b1.trans (b2.trans (b3.trans (b4.trans b5)))) (Y.trans (t2.trans (t3.trans (t4.trans t5)))) R5⟩⟩⟩
  |false=>
   rw[Z2 Qqe]at e ⊢;cases e;exact⟨false,rfl,q m3 H3 (b1.trans (b2.trans b3)) (Y.trans (t2.trans t3)) R3⟩
 |ite hq F j=>exact λpins s σ H Q I q=>by obtain⟨m,st,τ,d,st',_,_,z,_⟩:=q; cases z
 |@din a b Z O pos F j U=>exact(qy8 (qvq (by omega) false (A.e c X G a Z F) (A.e c X G b O j)) U).imp λσ H Q h=>qe7 (λ_ _=>rfl) (λ_ _ _ _ z=>qho z) h
 |@dnin a b Z O pos F j U=>exact(qy8 (qvq (by omega) true (A.e c X G a Z F) (A.e c X G b O j)) U).imp λσ H Q h=>qe7 (λ_ _=>rfl) (λ_ _ _ _ z=>qho z) h
 |@gin x ks ds b O p0 pos hg U hd j=>
  obtain⟨ad,h1,h2⟩:=G.mo.gds x ks ds U;exact(qy8 (qvz false (G.gl hg) h1 h2 hd (A.e c X G b O j)) rfl).imp λσ H Q h=>qe7 (λ_ _=>rfl) (λ_ _ _ _ z=>qhh z) h
 |@gnin x ks ds b O p0 pos hg U hd j=>
  obtain⟨ad,h1,h2⟩:=G.mo.gds x ks ds U;exact(qy8 (qvz true (G.gl hg) h1 h2 hd (A.e c X G b O j)) rfl).imp λσ H Q h=>qe7 (λ_ _=>rfl) (λ_ _ _ _ z=>qhh z) h
 |gc hp hg F=>
  cases p with
  |Call=>exact(qqt hA λ_=>rfl).imp λσ H Q h=>qkw (λ_ _=>rfl) h
  |ListComp=>exact(qqt hA λ_=>rfl).imp λσ H Q h=>qkw (λ_ _=>rfl) h
  |List=>exact(qqt hA λ_=>rfl).imp λσ H Q h=>qkw (λ_ _=>rfl) h
  |BinOp=>exact(qqt hA λ_=>rfl).imp λσ H Q h=>qkw (λ_ _=>rfl) h
  |Subscript=>exact(qqt hA λ_=>rfl).imp λσ H Q h=>qkw (λ_ _=>rfl) h
  |_=>cases hp
 |_=>exact(qqt hA λ_=>rfl).imp λσ H Q h=>qkw (λ_ _=>rfl) h
theorem S_nx{K:Qqq}{m:List Addr}{H:Hp}{τ:Sl}{j:Store}{J:Ends}{F:L2.St}(p:PostO K m H (.nx τ) j J){z:List Addr}{H':Hp}(b:Sub m z)(t:Tr H H')(O:Rel K z j H')(L:SlotOk K z H' τ F):J.nx F H':=p z H' b t O F L
theorem qy3{K:Qqq}{r:R}{i:Nat}{e:E}{L:TE}{Z:Ends}{z:L2.St}{H:Hp}(F:∀Q,(tD K λτ st=>r.ev τ st e) z H Q->L z H Q)(h:tS K (λτ st=>M.stepEx r τ st (.set (.var i) e)) Z z H):tAsg L (qyy i) Z z H:=by
 refine h.el λm st τ o st' R0 Y J q=>?_;obtain⟨U,s1,e1,J⟩:=qzc J;obtain⟨τ',j,e3⟩:=mapD J;cases e3;have j:(if i<τ.length then some (τ.set i (some U)) else none)=some τ':=j
 split at j
 ·cases j;exact F _ ⟨m,st,τ,U,s1,R0,Y,e1,λx m1 H1 b1 O R1 i1=>S_nx q b1 O R1 ((Y.mono b1 O).put i1)⟩
 ·cases j
theorem qce(IH:∀j,j<=n->AllOk fns dl j)(G:Good fns dl c X)(hf:∀x,X.fn x=true){i:Nat}{e:E}{x:Str}{p:Qx}{pos O:Pos}(hi:c.N[i]?=some x)(hl:c.sc.names.lookup x=some .local\/c.sc.names.lookup x=some .cell)(he:CkE c e p)(hg:∀a,e≠.gc a)(hc:∃elt gs sc q,p=.ListComp elt gs sc q)(hs:∀env:Env,env.scope=c.sc->(swapsWith p (some (.Name x O)) pos.line env=pure false\/swapsWith p (some (.Name x O)) pos.line env=pure true)):
  PS X (.Assign [.Name x O] p pos) (tS X.K λτ st=>M.stepEx (M.rn fns dl n) τ st (.set (.var i) e)):=by
 have A:=IH n (Qqj n);have hN:X.N.Nodup:=by rw[G.N]; exact G.nd
 have loc:∀{x:Str},(c.sc.names.lookup x=some .local\/c.sc.names.lookup x=some .cell)->Loc X.env.scope x:=λ{x} h=>by show X.env.scope.names.lookup x=_\/_=_; rw[G.sc]; exact h
 rcases hs X.env G.sc with z|z
 ·exact(qhx hN (qxs G hi) (loc hl) (A.e c X G e p he) z (.inl (hf x))).imp λD σ H h=>qy3 (λ_ q=>q) h
 ·cases n with
  |zero=>exact λpins s σ H Dn I q=>by obtain⟨m,st,τ,d,st',_,_,w,_⟩:=q; cases w
  |succ n=>
   have A1:=IH n (Qxx n);have G1:=G;obtain⟨elt,gs,sc,q,rfl⟩:=hc
   cases he.out with
   |@comp t it a0 sr tg a6 a5 a1 cpos N hk J F Y Z U L a4 hit ht a2 he=>
    have SC:=qq1 G1 hk J F Y Z U;exact(qke (tt:=λ_ H Q=>Q true H) G1.calm SC (qjo A1 G1 hit) (λC fp s H=>qz7 (G1.inner hk L) ht λi a3 x hx=>.inr (qk2 a2 i a3 x hx)) (λC fp s H=>qyt) (λC fp s H=>A1.e _ _ (G1.inner hk L) a0 _ he) (a4 X.env) hN (qxs G hi) (loc hl) (.inl (hf x)) z).imp λD σ H h=>
     qy3 (λQ q=>qk3 (λ_ _ _ q=>q) q) h
   |@compIf t it cq a0 sr tg a6 pq a5 a1 cpos N hk J F Y Z U L a4 hit ht a2 hq he=>
    have SC:=qq1 G1 hk J F Y Z U;exact(qke G1.calm SC (qjo A1 G1 hit) (λC fp s H=>qz7 (G1.inner hk L) ht λi a3 x hx=>.inr (qk2 a2 i a3 x hx)) (λC fp s H=>qys (A1.t _ _ (G1.inner hk L) cq pq hq)) (λC fp s H=>A1.e _ _ (G1.inner hk L) a0 _ he) (a4 X.env) hN (qxs G hi) (loc hl) (.inl (hf x)) z).imp λD σ H h=>
     qy3 (λQ q=>qk3 (λ_ _ _ q=>q) q) h
   |gc hp a7 ha=>exact(hg _ rfl).elim
theorem s1_ok(IH:∀j,j<=n->AllOk fns dl j)(G:Good fns dl c X)(hf:∀x,X.fn x=true){s:S}{p:Stmt}(h:CkS c s p):PS X p (tS X.K λτ st=>M.stepEx (M.rn fns dl n) τ st s):=by
 have A:=IH n (Qqj n);have hN:X.N.Nodup:=by rw[G.N]; exact G.nd
 have loc:∀{x:Str},(c.sc.names.lookup x=some .local\/c.sc.names.lookup x=some .cell)->Loc X.env.scope x:=λ{x} h=>by show X.env.scope.names.lookup x=_\/_=_; rw[G.sc]; exact h
 cases h with
 |@set i e x p pos pos' hi hl he hs=>exact(qhx hN (qxs G hi) (loc hl) (A.e c X G e p he) (hs X.env) (.inl (hf x))).imp λD σ H h=>qy3 (λ_ q=>q) h
 |@setC i e x p pos pos' hi hl he hc hs=>
  by_cases b6:∃a,e=.gc a
  ·obtain⟨a,rfl⟩:=b6
   cases he.out with
   |gc hp hg ha=>
    cases n with
    |zero=>exact λpins s σ H Dn I q=>by obtain⟨m,st,τ,d,st',_,_,w,_⟩:=q; cases w
    |succ n=>exact(qfl (qce (λj hj=>IH j (Qjr hj)) G hf hi hl ha hg hc hs)).imp λ_ _ _ q=>q
  ·exact qce IH G hf hi hl he (λa z=>b6 ⟨a,z⟩) hc hs
 |@setT is e es k p pos tpos ht he hs hw h1=>
  refine(ps_asg (A.e c X G e p he) (qz7 (t:=.tup is) G (.tup ht) λi _ x _=>.inl (hf x)) (hs X.env) (hw X.env) (h1 X.env)).imp λDn σ H h=>?_;refine h.el λm st τ o st' R0 S0 L q=>?_;obtain⟨d1,s1,e1,L⟩:=qzc L;obtain⟨F,e2,e3⟩:=mapD L;cases e3;exact⟨m,st,τ,d1,s1,R0,S0,e1,λx m1 H1 b1 Z R1 i1=>qgb i1 (S0.mono b1 Z) e2 λa5 S1=>S_nx q b1 Z R1 S1⟩
 |@dset a i e pa pi pe tpos pos ha hi he hs=>
  refine(qit (by have:=G.room.units; omega) (A.e c X G a pa ha) (A.e c X G i pi hi) (A.e c X G e pe he) (hs X.env)).imp λDn σ H h=>?_;refine h.el λm st τ o st' R0 S0 L q=>?_;obtain⟨d1,s1,e1,L⟩:=qzc L;obtain⟨d2,s2,e2,L⟩:=qzc L;obtain⟨d3,s3,e3,L⟩:=qzc L
  cases d2 with
  |loc l=>
   have L:((M.wdicAt s3 l).bind λkvs=>if M.isKey d3&&decide (kvs.length<M.lim) then some (Out.nx τ,s3.set l (.dic true (M.dput kvs d3 d1))) else none)=some (o,st'):=L;obtain⟨kvs,U,L⟩:=qzy L
   split at L
   ·rename_i hk;cases L;rw[Qqm,decide_eq_true_eq]at hk;obtain⟨k,b5⟩:=qxy hk.1;refine⟨m,st,τ,d1,s1,R0,S0,e1,λx m1 H1 b1 Z R1 i1=>⟨m1,s1,τ,.loc l,s2,R1,S0.mono b1 Z,e2,λy m2 H2 b2 O R2 i2=>⟨m2,s2,τ,d3,s3,R2,S0.mono (b1.trans b2) (Z.trans O),e3,λz m3 H3 b3 t3 R3 i3=>?_⟩⟩⟩;obtain⟨a',xs,a6,rfl,hH,b0,a9⟩:=R3.wdict U (qzk b3 t3 _ _ i2);have hz:=qlt b5 i3;subst hz;have l1:=b0.length;have l2:=qqp;refine⟨a',_,rfl,DPut.k hH (by omega),?_⟩;have iv:=qzk (b2.trans b3) (O.trans t3) _ _ i1;exact S_nx q (b1.trans (b2.trans b3)) (Z.trans (O.trans (t3.trans (Tr.putD hH)))) (R3.putD a9 a6 hH (b0.put b5 iv)) (S0.mono (b1.trans (b2.trans b3)) (Z.trans (O.trans (t3.trans (Tr.putD hH)))))
   ·cases L
  |_=>cases L
 |@expr e p pos he hs=>
  refine(qis (A.e c X G e p he) (hs X.env)).imp λDn σ H h=>?_;refine h.el λm st τ o st' R0 S0 L q=>?_;obtain⟨p,e1,e2⟩:=mapD L;cases e2;exact⟨m,st,τ,p.1,p.2,R0,S0,e1,λx m1 H1 b1 Z R1 i1=>S_nx q b1 Z R1 (S0.mono b1 Z)⟩
 |@ret e p pos he=>
  refine(ps_ret (A.e c X G e p he)).imp λDn σ H h=>?_;refine h.el λm st τ o st' R0 S0 L q=>?_;obtain⟨p,e1,e2⟩:=mapD L;cases e2;exact⟨m,st,τ,p.1,p.2,R0,S0,e1,λx m1 H1 b1 Z R1 i1=>q m1 H1 b1 Z R1 x i1⟩
 |@ite q a b pq pa pb pos hq ha hb=>
  refine(ps_if (A.t c X G q pq hq) (A.s c X G hf a pa ha) (A.s c X G hf b pb hb)).imp λDn σ H h=>?_;refine h.el λm st τ o st' R0 S0 L Y=>?_;obtain⟨p,e1,L⟩:=qzy L;refine⟨m,st,τ,p.1,p.2,R0,S0,e1,λm1 H1 b1 Z R1=>?_⟩
  cases hp:p.1 with
  |true=>
   rw[hp,Z3 rfl]at L;rw[Z3 rfl];exact⟨m1,p.2,τ,o,st',R1,S0.mono b1 Z,L,Y.mono b1 Z⟩
  |false=>
   rw[hp,Z2 Qqe]at L;rw[Z2 Qqe];exact⟨m1,p.2,τ,o,st',R1,S0.mono b1 Z,L,Y.mono b1 Z⟩
 |@forr t it body tg c0 pb pos ht hi hs hb=>
   refine(qhj (by rw[G.xe]; exact PassesOwn.never) G.calm (qjo A G hi) (qz7 G ht λi _ x _=>.inl (hf x)) (A.s c X G hf body pb hb) (hs X.env)).imp λDn σ H h=>?_;refine h.el λm st τ o st' R0 S0 L Y=>?_;obtain⟨p,e1,L⟩:=qzy L;refine⟨m,st,τ,p.1,p.2,R0,S0,e1,λm1 H1 J b1 Z R1 hJ=>?_⟩
   refine⟨λj k a5 H'=>∃m2 a0 a1,Sub m1 m2/\Tr H1 H'/\Rel X.K m2 a0 H'/\SlotOk X.K m2 H' a1 a5/\M.loop p.1 (λτ st d=>(M.setT t d τ).bind λF=>(M.rn fns dl n).ex F st body) k j a1 a0=some (o,st'),
    ⟨_,m1,p.2,τ,Sub.refl _,Tr.refl _,R1,S0.mono b1 Z,L⟩,?_⟩
   rintro j k a5 H' ⟨m2,a0,a1,b2,O,R2,S2,U⟩
   cases k with
   |zero=>cases U
   |succ k=>
    have U:(p.1.at a0 j).bind (λo=>match o with
     |none=>some (Out.nx a1,a0)
     |some d=>((M.setT t d a1).bind λF=>(M.rn fns dl n).ex F a0 body).bind λz=>match z.1 with
      |.nx F=>M.loop p.1 (λτ st d=>(M.setT t d τ).bind λF=>(M.rn fns dl n).ex F st body) k (j+1) F z.2
      |.ct F=>M.loop p.1 (λτ st d=>(M.setT t d τ).bind λF=>(M.rn fns dl n).ex F st body) k (j+1) F z.2
      |.bk F=>some (.nx F,z.2)
      |.rt v=>some (.rt v,z.2))=some (o,st'):=U
    obtain⟨oo,e5,U⟩:=qzy U
    cases oo with
    |none=>
     cases U;exact .inl ⟨(hJ.mono b2 O).done R2 e5,S_nx Y (b1.trans b2) (Z.trans O) R2 S2⟩
    |some d=>
     obtain⟨b9,hy⟩:=(hJ.mono b2 O).next R2 e5;dsimp only at U;obtain⟨z,e6,U⟩:=qzy U;obtain⟨a3,e7,e6⟩:=qzy e6;refine .inr ⟨b9,λa4 H3=>∃m3 a8 a3,Sub m1 m3/\Tr H1 H3/\Rel X.K m3 a8 H3/\SlotOk X.K m3 H3 a3 a4/\M.loop p.1 (λτ st d=>(M.setT t d τ).bind λF=>(M.rn fns dl n).ex F st body) k (j+1) a3 a8=some (o,st'),λa4 H3 w3=>⟨k,Qzs k,w3⟩,λx H2 b8=>?_⟩;obtain⟨sm,ix⟩:=hy x H2 b8;have O:=O.trans (Tr.of_same sm);have R2:=R2.same sm;have S2:=S2.mono (Sub.refl _) (Tr.of_same sm);refine qgb ix S2 e7 λa4 S3=>?_;refine⟨m2,a0,_,z.1,z.2,R2,S3,e6,λm3 H3 b3 t3 R3=>?_⟩
     cases hz:z.1 with
     |nx a2=>
      rw[hz]at U;exact λa7 S4=>⟨m3,z.2,a2,b2.trans b3,O.trans t3,R3,S4,U⟩
     |ct a2=>
      rw[hz]at U;exact λa7 S4=>⟨m3,z.2,a2,b2.trans b3,O.trans t3,R3,S4,U⟩
     |bk a2=>
      rw[hz]at U;cases U;exact λa7 S4=>S_nx Y (b1.trans (b2.trans b3)) (Z.trans (O.trans t3)) R3 S4
     |rt v=>
      rw[hz]at U;cases U;exact λw iw=>Y m3 H3 (b1.trans (b2.trans b3)) (Z.trans (O.trans t3)) R3 w iw
 |bad=>exact λpins s σ H Dn I q=>by obtain⟨m,st,τ,d,st',_,_,z,_⟩:=q; cases z
 |@setA C a f e pa pe tpos pos ha he hc hs=>
  obtain⟨h1,h2⟩:=G.mo.ats C f hc;refine(ps_fld (A.e c X G a pa ha) (A.e c X G e pe he) (hs X.env)).imp λDn σ H h=>?_;refine h.el λm st τ o st' R0 S0 L q=>?_;obtain⟨d1,s1,e1,L⟩:=qzc L;obtain⟨d2,s2,e2,L⟩:=qzc L;obtain⟨fs,e3,L⟩:=qzy L;refine⟨m,st,τ,d1,s1,R0,S0,e1,λx m1 H1 b1 Z R1 i1=>⟨m1,s1,τ,d2,s2,R1,S0.mono b1 Z,e2,λy m2 H2 b2 O R2 i2=>?_⟩⟩;obtain⟨l,p,dx,ys,rfl,hl,rfl,hH,b7,a9⟩:=R2.inst e3 i2;dsimp only at L
  split at L
  ·rename_i c1;cases L;have l1:=b7.length;exact⟨p,C,dx,ys,rfl,hH,h1,h2,by omega,S_nx q (b1.trans b2) (Z.trans (O.trans (Tr.putI hH))) (R2.putI a9 hl hH (b7.put (qzk b2 O _ _ i1))) (S0.mono (b1.trans b2) (Z.trans (O.trans (Tr.putI hH))))⟩
  ·cases L
 |@ford t a body tg pa pb pos ht ha hs hb=>
  refine(qir (by rw[G.xe]; exact PassesOwn.never) G.calm (A.e c X G a pa ha) (qz7 G ht λi _ x _=>.inl (hf x)) (A.s c X G hf body pb hb) (hs X.env)).imp λDn σ H h=>?_;refine h.el λm st τ o st' R0 S0 L Y=>?_;obtain⟨d1,s1,e1,L⟩:=qzc L
  cases d1 with
  |loc l=>
   have L:((M.wdicAt s1 l).bind λkvs=>(M.loop (.tup (M.keysOf kvs)) (λτ st d=>(M.setT t d τ).bind λF=>(M.rn fns dl n).ex F st body) (kvs.length+1) 0 τ (s1.set l (.dic false kvs))).bind λq=>
    match q.2[l]? with
    |some (.dic false b4)=>some (q.1,q.2.set l (.dic true b4))
    |_=>none)=some (o,st'):=L
   obtain⟨kvs,e2,L⟩:=qzy L;obtain⟨w,e3,L⟩:=qzy L
   split at L
   case h_2=>cases L
   case h_1 b4 hw=>
   cases L;refine⟨m,st,τ,.loc l,s1,R0,S0,e1,λx m1 H1 b1 Z R1 i1=>?_⟩;obtain⟨a',xs,a6,rfl,hH,b0,a9⟩:=R1.wdict e2 i1;refine⟨a',xs,rfl,hH,λob nf=>?_⟩;have R2:=R1.ice (o:=ob) a9 a6 hH b0;have ti:=Tr.ice (o:=ob) hH;have IK:=b0.keys;have lk:=IK.length;rw[Qqx]at lk;have fz:∀{H':Hp},Tr (upd H1 a' (.frz ob (.dK xs))) H'->H' a'=some (.frz ob (.dK xs)):=λO=>O.frz a' ob _ qzx
   refine⟨λj k a5 H'=>∃m2 a0 a1,Sub m1 m2/\Tr (upd H1 a' (.frz ob (.dK xs))) H'/\Rel X.K m2 a0 H'/\SlotOk X.K m2 H' a1 a5/\M.loop (.tup (M.keysOf kvs)) (λτ st d=>(M.setT t d τ).bind λF=>(M.rn fns dl n).ex F st body) k j a1 a0=some w,
    ⟨_,m1,_,τ,Sub.refl _,Tr.refl _,R2,S0.mono b1 (Z.trans ti),e3⟩,?_⟩
   rintro j k a5 H' ⟨m2,a0,a1,b2,O,R3,S2,U⟩
   cases k with
   |zero=>cases U
   |succ k=>
    have U:(some (M.keysOf kvs)[j]?:Option (Option D)).bind (λo=>match o with
     |none=>some (Out.nx a1,a0)
     |some d=>((M.setT t d a1).bind λF=>(M.rn fns dl n).ex F a0 body).bind λz=>match z.1 with
      |.nx F=>M.loop (.tup (M.keysOf kvs)) (λτ st d=>(M.setT t d τ).bind λF=>(M.rn fns dl n).ex F st body) k (j+1) F z.2
      |.ct F=>M.loop (.tup (M.keysOf kvs)) (λτ st d=>(M.setT t d τ).bind λF=>(M.rn fns dl n).ex F st body) k (j+1) F z.2
      |.bk F=>some (.nx F,z.2)
      |.rt v=>some (.rt v,z.2))=some w:=U
    rw[oBs]at U
    cases e5:(M.keysOf kvs)[j]? with
    |none=>
     rw[e5]at U;cases U;refine .inl ⟨⟨fz O,by rw[<- lk]; exact Qzn.mp e5⟩,a',ob,xs,nf,fz O,?_⟩;exact S_nx Y (b1.trans b2) (Z.trans (Tr.thaw hH O)) (R3.thaw hw (b2 l a' a6) (fz O)) (S2.monoW (Sub.refl _) (Tw.thaw (fz O)))
    |some d=>
     rw[e5]at U;dsimp only at U;have hj:=(Qqv.mp e5).1;obtain⟨z,e6,U⟩:=qzy U;obtain⟨a3,e7,e6⟩:=qzy e6;refine .inr ⟨⟨fz O,by omega⟩,λa4 H3=>∃m3 a8 a3,Sub m1 m3/\Tr (upd H1 a' (.frz ob (.dK xs))) H3/\Rel X.K m3 a8 H3/\SlotOk X.K m3 H3 a3 a4/\M.loop (.tup (M.keysOf kvs)) (λτ st d=>(M.setT t d τ).bind λF=>(M.rn fns dl n).ex F st body) k (j+1) a3 a8=some w,λa4 H3 w3=>⟨k,Qzs k,w3⟩,?_⟩;rintro x H2 ⟨rfl,p,hp,rfl⟩;obtain⟨x',ex,ix⟩:=IK.get e5;rw[Qqa,hp]at ex;cases ex;refine qgb (qzk b2 (ti.trans O) _ _ ix) S2 e7 λa4 S3=>?_;refine⟨m2,a0,_,z.1,z.2,R3,S3,e6,λm3 H3 b3 t3 R4=>?_⟩
     cases hz:z.1 with
     |nx a2=>
      rw[hz]at U;exact λa7 S4=>⟨m3,z.2,a2,b2.trans b3,O.trans t3,R4,S4,U⟩
     |ct a2=>
      rw[hz]at U;exact λa7 S4=>⟨m3,z.2,a2,b2.trans b3,O.trans t3,R4,S4,U⟩
     |bk a2=>
      rw[hz]at U;cases U;exact λa7 S4=>⟨a',ob,xs,nf,fz (O.trans t3),S_nx Y (b1.trans (b2.trans b3)) (Z.trans (Tr.thaw hH (O.trans t3))) (R4.thaw hw ((b2.trans b3) l a' a6) (fz (O.trans t3))) (S4.monoW (Sub.refl _) (Tw.thaw (fz (O.trans t3))))⟩
     |rt v=>
      rw[hz]at U;cases U;exact λv' iv=>⟨a',ob,xs,nf,fz (O.trans t3),Y m3 _ (b1.trans (b2.trans b3)) (Z.trans (Tr.thaw hH (O.trans t3))) (R4.thaw hw ((b2.trans b3) l a' a6) (fz (O.trans t3))) v' (qqb (Sub.refl _) (Tw.thaw (fz (O.trans t3))) _ _ iv)⟩
  |_=>cases L
theorem qid(IH:∀j,j<=n->AllOk fns dl j)(G:Good fns dl c X)(U:∀x,X.fn x=true):∀{ss:List S}{ps:List Stmt},CkSs c ss ps->PSs X ps (tS X.K λτ st=>M.exs (M.stepEx (M.rn fns dl n)) ss τ st)
 |_,_,.nil=>pss_nil.imp λDn σ H h=>by
  refine h.el λm st τ o st' Z Y z q=>?_;cases z;exact q m H (Sub.refl m) (Tr.refl H) Z _ Y
 |_,_,.doc t=>(qy9 ps_doc (qid IH G U t)).imp λDn σ H h=>h
 |_,_,.cons (s:=s) (ss:=ss) h t=>(qy9 (s1_ok IH G U h) (qid IH G U t)).imp λDn σ H hq=>by
  refine hq.el λm st τ o st' Z Y z q=>?_;obtain⟨p,e1,z⟩:=qzy z;refine⟨m,st,τ,p.1,p.2,Z,Y,e1,λm1 H1 b1 F L=>?_⟩
  cases J:p.1 with
  |nx O=>
   rw[J]at z;exact λa0 S1=>⟨m1,p.2,O,o,st',L,S1,z,q.mono b1 F⟩
  |rt d=>
   rw[J]at z;cases z;exact q m1 H1 b1 F L
  |bk d=>
   rw[J]at z;cases z;exact q m1 H1 b1 F L
  |ct d=>
   rw[J]at z;cases z;exact q m1 H1 b1 F L
end
theorem allOk(fns:List Fn)(dl:Nat):∀n j,j<=n->AllOk fns dl j:=by
 intro n
 induction n with
 |zero=>intro j h; rw[Nat.le_zero.mp h]; exact qbn fns dl
 |succ n F=>
  intro j h;rcases Qz8 j (n+1) with z|z
  ·exact F j (by omega)
  ·have e:j=n+1:=by omega
   subst e;have A:=F n (Qqj n);exact⟨λc X G e p h=>e_ok A G h,λc X G e p h=>t_ok A G h,λc X G e L ps pos h=>w_ok A G h,λc X G hf J ps h=>qid F G hf h⟩
structure FText (K:Qqq) (mg:Str->Option Value) (fns:List Fn) (names:List Str) (glo:Glo) (f:Nat) (x:Str):Prop where
 ex:∃(nm:Str) (fa:Addr) (fd:Qo) (st:Stmt) (N ps:List Str) (F:Fn),fns[f]?=some F/\Fun K nm x st fa fd/\Lc K mg glo f x fa/\Binds K fd ps []/\FnScope N ps (qzv st)/\CkSs ⟨N,qzv st,names,glo⟩ F.body (qzt st)/\F.np=ps.length/\F.nl=N.length
theorem qhm{P:Program}{w:Qk}{K:Qqq}{mg:Str->Option Value}{base:Heap}{fns:List Fn}{names:List Str}{glo:Glo}{n f:Nat}{nm x:Str}{fa:Addr}{fd:Qo}{st:Stmt}{N ps:List Str}{F:Fn}(ih:FTab P w K mg base glo fns names n)(Mg:Mo K mg glo w.params)
  (hF:fns[f]?=some F) (Y:Fun K nm x st fa fd) (J:FnScope N ps (qzv st)) (a2:CkSs ⟨N,qzv st,names,glo⟩ F.body (qzt st)) (a0:F.np=ps.length) (a1:F.nl=N.length):FnOk P w K mg base CX0 (2*(n+1)) fa fd ps (spN K fns (n+1) f):=by
 have O:∀{ds:List D}{st0 st':Store}{d:D},M.callD fns (n+1) f ds st0=some (d,st')->ds.length=F.np/\((M.Lv fns n).ex (ds.map some++List.replicate (F.nl - ds.length) none) st0 F.body).bind (λp=>match p.1 with
   |.rt d=>some (d,p.2)
   |.nx _=>some (D.non,p.2)
   |_=>none)=some (d,st'):=λ{ds st0 st' d} e=>by
  have e:M.stepCall fns (M.Lv fns n) f ds st0=some (d,st'):=e;unfold M.stepCall at e;rw[hF]at e;dsimp only at e
  split at e
  ·rename_i hl;exact⟨hl,e⟩
  ·cases e
 refine Y.ok J (λvs H Q E h=>?_) (λa3 A outer s H vs Q E hr h=>?_)
 ·obtain⟨m,st0,ds,d,st',_,U,e,_⟩:=h;rw[<- U.length,(O e).1,a0]
 ·obtain⟨m,st0,ds,d,st',R0,U,e,q⟩:=h;obtain⟨hl,e⟩:=O e;obtain⟨p,e1,j⟩:=qzy e;obtain⟨k,e1⟩:=M.lim1_is e1;have G:Good fns n ⟨N,qzv st,names,glo⟩ (cxOf CX0 P w K mg base N x (qzv st) fa a3 A outer s H E).nox:=⟨hr,rfl,rfl,rfl,J.nd,J.kind,ih,Mg,rfl⟩
  refine⟨_,(allOk fns n k k (Qqj k)).s _ _ G (λ_=>rfl) F.body (qzt st) a2,?_⟩;refine⟨m,st0,ds.map some++List.replicate (F.nl - ds.length) none,p.1,p.2,R0,⟨?_,λi d0 hi=>?_⟩,e1,λm1 H1 b1 t1 R1=>?_⟩
  ·unfold L2.start;rw[Qqo,Qqo,Qqx,Qqx,Qxb,Qxb,a1,U.length]
  ·unfold L2.start
   by_cases L:i<ds.length
   ·rw[Qq3 (by simpa using L),Qqa]at hi;have e3:ds[i]?=some d0:=by
     cases z:ds[i]? with
     |none=>rw[z]at hi; cases hi
     |some y=>rw[z]at hi; cases hi; rfl
    obtain⟨v,e4,iv⟩:=U.get e3;refine⟨v,?_,iv⟩;rw[Qq3 (by rw[Qqx,<- U.length]; exact L),Qqa,e4]
    rfl
   ·rw[Qzw (by simpa using L),Qxk]at hi
    split at hi<;>cases hi
  ·cases Z:p.1 with
   |rt d1=>
    rw[Z]at j;cases j;exact λv iv=>q v m1 H1 b1 t1 R1 iv
   |nx a4=>
    rw[Z]at j;cases j;exact λa5 S1=>q _ m1 H1 b1 t1 R1 qyz
   |bk d1=>rw[Z]at j; cases j
   |ct d1=>rw[Z]at j; cases j
theorem tab_ok{P:Program}{w:Qk}{K:Qqq}{mg:Str->Option Value}{base:Heap}{fns:List Fn}{names:List Str}{glo:Glo}(T:∀f x,names[f]?=some x->FText K mg fns names glo f x)(Mg:Mo K mg glo w.params):
  ∀n,FTab P w K mg base glo fns names n:=by
 intro n
 induction n with
 |zero=>
  intro f x U;obtain⟨nm,fa,fd,st,N,ps,F,hF,j,Y,Z,z,O,J,L⟩:=(T f x U).ex;refine⟨fa,fd,ps,Y,?_,j.kp,Z⟩;refine⟨λvs H Q E h=>?_,λA outer s H a0 us vs Q E hr he a1 hv h=>?_⟩
  ·obtain⟨m,st,ds,d,st',_,_,e,_⟩:=h; cases e
  ·obtain⟨m,st,ds,d,st',_,_,e,_⟩:=h; cases e
 |succ n ih=>
  intro f x U;obtain⟨nm,fa,fd,st,N,ps,F,hF,j,Y,Z,z,O,J,L⟩:=(T f x U).ex;exact⟨fa,fd,ps,Y,qhm ih Mg hF j z O J L,j.kp,Z⟩
noncomputable def qfc(K:Qqq):Sp:=λvs H Q _=>∃(a:Addr) (ns:List Int),vs=[.ref a]/\SqF K H a (ns.map V.int)/\ns.length<=63/\∀H',Q (.bl true) H'
theorem law_sp{K:Qqq}{fns:List Fn}{n f:Nat}(h:∀ns:List Int,ns.length<=63->∃st',M.callD fns n f [.lst (ns.map D.int)] []=some (.bl true,st'))(vs:List V)(H:Hp)(Q:VK)(E:XK)(q:qfc K vs H Q E):spN K fns n f vs H Q E:=by
 obtain⟨a,ns,rfl,F,z,k⟩:=q;obtain⟨st',e⟩:=h ns z;refine⟨[],[],[.lst (ns.map D.int)],.bl true,st',⟨rfl,λl U b c Z j L J Y w O=>?_,λl c b j L=>?_⟩,qzm (qbk F (qjt ns)) qqx,e,λv m' H' _ _ _ i=>?_⟩
 ·simp at J
 ·simp at j
 ·rw[i.bl]; exact k H'
theorem qlb{K:Qqq}{H:Hp}{a:Addr}{xs:List V}(j:Only H)(h:SqL K H a xs):SqF K H a xs:=by
 rcases h with (h|⟨o,h⟩)|h
 ·rcases j a with z|⟨ob,ys,z⟩
  ·rw[h]at z; cases z
  ·rw[h]at z; cases z
 ·exact .inl ⟨o,h⟩
 ·exact .inr h
theorem walk_law{l:PySem.W.OpenLaw}{k:Nat}{q:Program}{loose:List Str}{XP:(Str->Option Value)->Heap->Prop}{YP:Qk->Heap->Prop}{d:DefRec}{K:Qr->Qqq}{x:Str}(L:l.most=some 63)(j:d.params.defaults=[])(J:Room k Zp)
  (U:∀(w:Qk) (h:Heap),YP w h->(K w.params).In h)
  (F:∀(w:Qk) (mg:Str->Option Value) (fa:Addr) (h:Heap),(K w.params).In h->h.Ns mainGlobals mg->mg d.name=some (.ref fa)->
   ∃fd:Qo,(∀(s:Qz) (u:Value),BindsTo s fd ⟨[u],[]⟩ [(x,u)])/\∀base:Heap,(K w.params).In base->base.Ns mainGlobals mg->FnOk l.prog w (K w.params) mg base CX0 k fa fd [x] (qfc (K w.params))) :
  PySem.W.WalkO q loose XP YP l.row.toRowW d [] (λf vs=>PySem.call f vs):=
 L2.walk_of (n:=63) (k:=k) (x:=x) (CX:=λ_=>CX0) (sp:=λw=>qfc (K w.params)) L (by decide) j J U F (λ_ _ a ns O Z Y=>⟨a,ns,rfl,qlb Z Y,O,λ_=>rfl⟩) λ_ _ _ _ _ z=>z
theorem qfv(elt:Qx)(z:List Comprehension)(sc:Scope)(q:Pos)(t:Str)(p:Pos)(j:Nat)(env:Env):swapsWith (.ListComp elt z sc q) (some (.Name t p)) j env=pure false\/swapsWith (.ListComp elt z sc q) (some (.Name t p)) j env=pure true:=by
 have e:swapsWith (.ListComp elt z sc q) (some (.Name t p)) j env=pure (env.blockKind==.function&&env.kindOf t==some .local&&p.line==q.line && !(sc.names.any λ(n,k)=>n==t&&(k==.local||k==.cell))):=rfl;rw[e]
 cases (env.blockKind==.function&&env.kindOf t==some .local&&p.line==q.line && !(sc.names.any λ(n,k)=>n==t&&(k==.local||k==.cell))) with
 |false=>exact .inl rfl
 |true=>exact .inr rfl
inductive ClK (K:Qqq) (cn:Str) (C:Addr):Prop
 |mk (a:Qx4 K mainGlobals cn=some (some (.ref C))) (pg:PySem.W.plainGet K C Str.empty=true) (hd:PySem.W.hasDictIn K C=true) (po:PySem.W.plainOver K C=true) (sa:PySem.W.findIn K (.ref C) "__setattr__" = some (some (.builtin "object.__setattr__"))) (mk:PySem.W.makesIn K C=true) (kp:Qzl K (.ref C)=true):ClK K cn C
theorem ClK.cls{K:Qqq}{j:Str}{C:Addr}(h:ClK K j C):Cls K C:=by
 cases h with
 |mk a pg hd po sa mk kp=>exact⟨pg,hd,po,sa⟩
theorem ClK.mo{K:Qqq}{j:Str}{C:Addr}{h:Heap}{mg:Str->Option Value}(q:ClK K j C)(X:K.In h)(G:h.Ns mainGlobals mg):mg j=some (.ref C)/\Cls K C/\PySem.W.makesIn K C=true/\Qzl K (.ref C)=true:=by
 have c:=q.cls
 cases q with
 |mk a pg hd po sa mk kp=>exact⟨Qjz X G a,c,mk,kp⟩
end MS
end
section
namespace MS
open PySem PySem.Spec PyProof.Rows L2
open M (D Cell Store Sl E S T Src Fn Out R)
noncomputable def sq(a b:Str):Bool:=a.cps.toList==b.cps.toList
theorem qqm{a b:Str}(h:sq a b=true):a=b:=by
 obtain⟨⟨a⟩⟩:=a;obtain⟨⟨b⟩⟩:=b;have:a=b:=by simpa[sq] using h
 rw[this]
theorem qw5(a:Str):sq a a=true:=by simp[sq]
theorem qa4{a b:Str}(h:(!sq a b)=true):(a==b)=false:=by
 cases e:a==b with
 |false=>rfl
 |true=>
  rw[beq_iff_eq]at e;rw[e,qw5]at h;cases h
noncomputable def gd{α:Type}(b:Bool)(x:Option α):Option α:=bif b then x else none
theorem gd_iff{α:Type}{b:Bool}{x:Option α}{e:α}:gd b x=some e↔b=true/\x=some e:=by cases b<;>simp[gd]
noncomputable def lk:List (Str×Qh)->Str->Option Qh
 |[],_=>none
 |(y,k)::r,x=>bif sq x y then some k else lk r x
theorem qwk:∀{l:List (Str×Qh)}{x:Str},lk l x=l.lookup x
 |[],_=>rfl
 |(y,k)::r,x=>by
  unfold lk;rw[Qzj]
  cases e:sq x y with
  |true=>rw[qqm e,beq_self_eq_true]; rfl
  |false=>
   have:(x==y)=false:=by
    cases j:x==y with
    |false=>rfl
    |true=>rw[beq_iff_eq]at j; rw[j,qw5]at e; cases e
   rw[this];exact qwk
noncomputable def ixS(x:Str):List Str->Option Nat
 |[]=>none
 |y::r=>bif sq y x then some 0 else(ixS x r).map (· + 1)
theorem ixS_eq{x:Str}:∀{N:List Str}{i:Nat},ixS x N=some i->N[i]?=some x
 |[],_,h=>nomatch h
 |y::r,i,h=>by
  unfold ixS at h
  cases e:sq y x with
  |true=>rw[e]at h; cases h; rw[qqm e]; rfl
  |false=>
   rw[e]at h;obtain⟨j,z,rfl⟩:=Qqi.mp (show(ixS x r).map (· + 1)=some i from h);exact(ixS_eq z :)
noncomputable def kG:Option Qh->Bool
 |some .globalImplicit=>true
 |_=>false
noncomputable def kL:Option Qh->Bool
 |some .local=>true
 |some .cell=>true
 |_=>false
noncomputable def kV:Option Qh->Bool
 |some .local=>true
 |some .cell=>true
 |some .free=>true
 |_=>false
theorem kG_eq{o:Option Qh}(h:kG o=true):o=some .globalImplicit:=by
 unfold kG at h; split at h
 ·rfl
 ·cases h
theorem kL_eq{o:Option Qh}(h:kL o=true):o=some .local\/o=some .cell:=by
 unfold kL at h; split at h
 ·exact .inl rfl
 ·exact .inr rfl
 ·cases h
theorem ql0{o:Option Qh}(h:kV o=true):o=some .local\/o=some .cell\/o=some .free:=by
 unfold kV at h; split at h
 ·exact .inl rfl
 ·exact .inr (.inl rfl)
 ·exact .inr (.inr rfl)
 ·cases h
noncomputable def isG(c:Ctx)(x:Str):Bool:=kG (lk c.sc.names x)
noncomputable def isL(c:Ctx)(x:Str):Bool:=kL (lk c.sc.names x)
theorem qqa{c:Ctx}{x:Str}(h:isG c x=true):c.sc.names.lookup x=some .globalImplicit:=qwk▸kG_eq h
theorem qae{c:Ctx}{x:Str}(h:isL c x=true):c.sc.names.lookup x=some .local\/c.sc.names.lookup x=some .cell:=qwk▸kL_eq h
noncomputable def noD(x:Str):Bool:=!sq x ("__debug__" : Str)
noncomputable def shOk:Qx->Bool
 |.Starred ..=>false
 |.Slice ..=>false
 |.Set ..=>false
 |.SetComp ..=>false
 |.DictComp ..=>false
 |.Call (.Name _ _) [] _ _=>false
 |_=>true
noncomputable def swOk:Qx->Bool
 |.ListComp ..=>false
 |.SetComp ..=>false
 |.DictComp ..=>false
 |_=>true
theorem sw_ok{p:Qx}(h:swOk p=true)(t:Option Qx)(l:Nat)(env:Env):swapsWith p t l env=pure false:=by
 cases p<;>first|rfl|cases h
theorem sh_sw{p:Qx}(h:shOk p=true){a i:Qx}{tp:Pos}(l:Nat)(env:Env):swapsWith p (some (.Subscript a i tp)) l env=pure false:=by
 cases p<;>first|rfl|cases h
theorem sh_swA{p:Qx}(h:shOk p=true){a:Qx}{f:Str}{tp:Pos}(l:Nat)(env:Env):swapsWith p (some (.Attribute a f tp)) l env=pure false:=by
 cases p<;>first|rfl|cases h
theorem sh_swT{p:Qx}(h:shOk p=true){es:List Qx}{k:Nat}{tp:Pos}(l:Nat)(env:Env):swapsWith p (some (.Tuple es k tp)) l env=pure false:=by
 cases p<;>first|rfl|cases h
theorem qig{p:Qx}(h:shOk p=true)(o i:Value):subscripted p false o i=operate [o,i] (Zk o i):=by
 cases p<;>first|rfl|cases h
theorem qff{p:Qx}(h:shOk p=true)(op:Qt):Q1 op p=false:=by
 cases p<;>first|rfl|cases h
theorem qih{p:Qx}(h:shOk p=true)(env:Env)(x:Value):foldedSetIterable p env x=pure x:=by
 cases p<;>first|rfl|cases h
theorem qw6{p:Qx}(h:shOk p=true)(a:Str)(env:Env)(w:Sem Value):attributeBase p a env w=w:=by
 cases p with
 |Call f ps ks pos=>
  cases f with
  |Name x q=>
   cases ps with
   |nil=>cases h
   |cons _ _=>rfl
  |_=>rfl
 |_=>rfl
theorem qg8{env:Env}{pos:Pos}:∀{ps:List Qx},ps.all shOk=true->(backTo pos (starEach ps env)).all (λx=>!x.1)=true
 |[],_=>rfl
 |p::r,h=>by
  rw[Qxc,Qqm]at h;have e:backTo pos (starEach (p::r) env)=(false,eval p env)::backTo pos (starEach r env):=by
   cases p<;>first|rfl|cases h.1
  rw[e,Qxc,qg8 h.2]
  rfl
theorem sh_mt{z:Qx}(h:shOk z=true){m:Str}{j:Pos}{ps:List Qx}{pos:Pos}(F:ps.all shOk=true)(L:ps.length<30)(J:(j.endLine==pos.line)=true):MTree z m j ps pos:=by
 intro env;refine⟨(do return (<- importBound z env).getD true),?_⟩
 have e:eval (.Call (.Attribute z m j) ps [] pos) env=(do
  let ov <- attributeBase z m env (eval z env)
  standAt j.atName
  methodCall z m j pos env ov (ps.length+0) (backTo pos (starEach ps env)) (backToKw pos (keywordEach [] env))):=rfl
 have f:methodCallForm (ps.length+0) (backTo pos (starEach ps env)) (backToKw pos (keywordEach [] env))=true:=by
  unfold methodCallForm;rw[qg8 F];simpa[keywordEach,backToKw] using L
 rw[e,qw6 h];unfold methodCall calleeOf methodCallPos;rw[f,J]
 rfl
end MS
end
section
namespace MS
open PySem PySem.Spec PyProof.Rows L2
open M (D Cell Store Sl E S T Src Fn Out R)
abbrev TrE:=Ctx->Qx->Option E
noncomputable def qb5(c:Ctx)(x:Str):Option E:=
 bif isG c x then(c.glo.cs.find? λq=>sq q.1 x).bind λq=>gd (noD x) (some (.glo q.1 q.2))
 else(ixS x c.N).bind λi=>gd (kV (lk c.sc.names x)&&noD x && !sq x ("__classdict__" : Str)) (some (.var i))
noncomputable def trL(f:Qx->Option E):List Qx->Option (List E)
 |[]=>some []
 |p::r=>(f p).bind λe=>(trL f r).map (e::·)
noncomputable def trP(f:Qx->Option E):List (Option Qx)->List Qx->Option (List E)
 |[],[]=>some []
 |some k::ks,v::vs=>(f k).bind λa=>(f v).bind λb=>(trP f ks vs).map λr=>a::b::r
 |_,_=>none
noncomputable def trO(f:Qx->Option E):Option Qx->Option (Option E)
 |none=>some none
 |some p=>(f p).map some
noncomputable def qga(c:Ctx):Qx->Option (Str×List Str×List D)
 |.Name x _=>gd (isG c x&&noD x) (c.glo.ds.find? λq=>sq q.1 x)
 |_=>none
noncomputable def inNeg:Qt->Option Bool
 |.In=>some false
 |.NotIn=>some true
 |_=>none
noncomputable def qix(o:Nat)(f:Qx->Option E)(c:Ctx)(a:Qx)(op:Qt)(b:Qx):Option E:=
 match inNeg op with
 |some neg=>match qga c b with
  |some q=>(f a).map λx=>.gin neg q.1 q.2.1 x
  |none=>(f a).bind λx=>(f b).map λy=>bif o==1 then .din neg x y else .cmp op x y
 |none=>(f a).bind λx=>(f b).map λy=>.cmp op x y
noncomputable def qh8(o:Nat)(f:Qx->Option E)(c:Ctx)(a:Qx):Qx->Option E
 |.Slice lo hi none _=>(f a).bind λx=>(trO f lo).bind λl=>(trO f hi).map λh=>.sli x l h
 |b=>match qga c a with
  |some q=>(f b).map λy=>.gidx q.1 q.2.1 q.2.2 y
  |none=>(f a).bind λx=>(f b).map λy=>bif o==1 then .didx x y else .idx x y
noncomputable def bOf(x:Str):Option M.B:=[M.B.len,.min,.max,.tuple,.list,.all,.sorted,.any].find? λb=>sq (Str.ofString (qmh b)) x
noncomputable def tyOf(x:Str):Option M.Ty:=[M.Ty.bl,.int,.str,.tup,.lst].find? λt=>sq (Str.ofString t.name) x
noncomputable def qe8(c:Ctx):List Qx->Option (List M.Ty)
 |[]=>some []
 |.Name x _::r=>(tyOf x).bind λt=>gd (isG c x) ((qe8 c r).map (t::·))
 |_=>none
noncomputable def mOf(x:Str):Option M.Mt:=[(M.Mt.append,("append" : Str)),(.extend,"extend")].findSome? λq=>bif sq q.2 x then some q.1 else none
noncomputable def qiz(f:Qx->Option E)(c:Ctx)(a:Qx):Qx->Option E
 |.Name x _=>(tyOf x).bind λt=>gd (isG c x) ((f a).map λe=>.isi e [t] false)
 |.Tuple ps _ _=>(qe8 c ps).bind λts=>gd (decide (ts.length<=1000)) ((f a).map λe=>.isi e ts true)
 |_=>none
noncomputable def qiq(f:Qx->Option E)(c:Ctx)(x:Str)(p:Qx)(r:List Qx):Option E:=
 match ixS x c.fns with
 |some k=>gd (qc6 x) ((trL f (p::r)).map (.call k))
 |none=>match c.glo.cl.find? λq=>sq q.1 x with
  |some q=>(c.glo.ms.find? λz=>z.2.1==q.2&&sq z.2.2 ("__init__" : Str)).bind λz=>gd (c.fns[z.1]?).isSome ((trL f (p::r)).map (.new q.2 z.1))
  |none=>match r with
   |[t]=>bif sq x ("isinstance" : Str) then qiz f c p t else(bOf x).bind λb=>gd (bOk b) ((trL f (p::r)).map (.bcall b))
   |_=>(bOf x).bind λb=>gd (bOk b) ((trL f (p::r)).map (.bcall b))
noncomputable def qdj(c:Ctx)(x:Str):List Qx->Option Qx
 |[.Call (.Name y _) [a] [] _]=>gd (sq x ("len" : Str)&&sq y ("set" : Str)&&isG c y) (some a)
 |_=>none
noncomputable def qb7(o:Nat)(f:Qx->Option E)(c:Ctx)(a:Qx)(m:Str)(apos:Pos)(ps:List Qx)(pos:Pos):Option E:=
 gd (apos.endLine==pos.line) (bif Nat.ble 3 o then
  (c.glo.ms.find? λz=>z.2.1==o - 3&&sq z.2.2 m).bind λz=>(c.glo.cl.find? λq=>q.2==o - 3).bind λ_=>
   gd ((c.fns[z.1]?).isSome&&decide (ps.length<30)) ((f a).bind λe=>(trL f ps).map λes=>.mcall z.2.1 z.1 z.2.2 e es)
 else match ps with
  |[p]=>(mOf m).bind λk=>(f a).bind λe=>(f p).map λy=>.meth e k [y]
  |_=>none)
noncomputable def trT(c:Ctx):Qx->Option T
 |.Name x _=>(ixS x c.N).bind λi=>gd (isL c x) (some (.var i))
 |.Tuple es _ _=>(trTs es).map .tup
 |_=>none
where trTs:List Qx->Option (List Nat)
 |[]=>some []
 |.Name x _::r=>(ixS x c.N).bind λi=>gd (isL c x) ((trTs r).map (i::·))
 |_=>none
noncomputable def trI(f:Qx->Option E)(c:Ctx)(tg:Qx):Qx->Option E
 |.Call (.Name x p) ps [] pos=>
  bif isG c x&&sq x ("range" : Str) then match ps with
   |[a]=>(f a).map .rng1
   |[a,b]=>(f a).bind λx=>(f b).map λy=>.rng2 x y
   |_=>none
  else bif isG c x&&sq x ("zip" : Str) then match ps,tg with
   |[a,b],.Tuple _ _ _=>(f a).bind λx=>(f b).map λy=>.zip x y
   |_,_=>none
  else f (.Call (.Name x p) ps [] pos)
 |e=>f e
noncomputable def ndB:List Str->Bool
 |[]=>true
 |x::r=>!(r.any (sq x))&&ndB r
noncomputable def inN(sc:Scope):List Str:=(sc.names.filter λy=>y.2==.local && !sq y.1 (".0" : Str)).map (·.1)++(sc.names.filter λy=>y.2==.free).map (·.1)
noncomputable def inS(sc:Scope)(N:List Str):List (Option Nat):=(inN sc).map λx=>bif kV (lk sc.names x) && !kL (lk sc.names x) then ixS x N else none
noncomputable def compOk(c:Ctx)(sc:Scope):Bool:=sc.kind==.function&&sc.names.all (λy=>y.2 != .cell)&&sc.names.all (λy=>y.2 != .free||(kV (lk c.sc.names y.1)&&lk c.sc.names y.1 != some .local))&&sc.names.all (λy=>y.2 != .local||lk sc.names y.1==some .local)&&ndB (inN sc)
noncomputable def qb9(R:TrE)(c:Ctx)(elt tg iter:Qx)(ifs:List Qx)(sc:Scope):Option E:=
 gd (compOk c sc&&shOk iter) ((trI (R c) c tg iter).bind λi=>(trT ⟨inN sc,qq5 sc c.sc,c.fns,c.glo⟩ tg).bind λt=>gd (tlOk (inN sc) (qq5 sc c.sc) t)
  (match ifs with
  |[]=>(R ⟨inN sc,qq5 sc c.sc,c.fns,c.glo⟩ elt).map λe=>.comp t i none e (inS sc c.N)
  |[q]=>(R ⟨inN sc,qq5 sc c.sc,c.fns,c.glo⟩ q).bind λk=>(R ⟨inN sc,qq5 sc c.sc,c.fns,c.glo⟩ elt).map λe=>.comp t i (some k) e (inS sc c.N)
  |_=>none))
noncomputable def trC:Const->Option E
 |.int i=>some (.lit (.int i))
 |.bool i=>some (.lit (.bl i))
 |.none=>some (.lit .non)
 |.str i=>some (.lit (.str i))
 |_=>none
noncomputable def trU(f:Qx->Option E)(a:Qx):UnaryOp->Option E
 |.USub=>(f a).map .neg
 |.Not=>(f a).map .not
 |_=>none
noncomputable def bo:BoolOp->E->E->E
 |.And=>.and
 |.Or=>.or
noncomputable def trBo(f:Qx->Option E)(op:BoolOp)(pos:Pos):List Qx->Option E
 |[a,b]=>(f a).bind λx=>(f b).map λy=>bo op x y
 |a::b::d::r=>(f a).bind λx=>(f (.BoolOp op (b::d::r) pos)).map λy=>bo op x y
 |_=>none
noncomputable def trCp(o:Nat)(f:Qx->Option E)(c:Ctx)(a:Qx):List Qt->List Qx->Option E
 |[op],[b]=>qix o f c a op b
 |[op,op'],[b,d]=>(f a).bind λx=>(f b).bind λy=>(f d).map λz=>.cmp2 op op' x y z
 |_,_=>none
noncomputable def trCl(o:Nat)(f:Qx->Option E)(c:Ctx)(pos:Pos):Qx->List Qx->List Keyword->Option E
 |.Name x _,p::r,[]=>gd (isG c x&&noD x) (match qdj c x (p::r) with
  |some a=>(f a).map .lenset
  |none=>qiq f c x p r)
 |.Attribute a m apos,ps,[]=>qb7 o f c a m apos ps pos
 |_,_,_=>none
noncomputable def trDi(f:Qx->Option E):List (Option Qx)->List Qx->Option E
 |[],[]=>some (.dic [])
 |k::ks,v::vs=>gd (decide ((k::ks).length<=15)) ((trP f (k::ks) (v::vs)).map .dic)
 |_,_=>none
noncomputable def trLc(R:TrE)(c:Ctx)(elt:Qx)(sc:Scope):List Comprehension->Option E
 |[⟨tg,iter,ifs,k⟩]=>gd (k==0) (qb9 R c elt tg iter ifs sc)
 |_=>none
noncomputable def trX(o:Nat)(R:TrE)(c:Ctx):Qx->Option E
 |.Name x _=>qb5 c x
 |.Constant k _ _=>trC k
 |.BinOp a op b _=>(R c a).bind λx=>(R c b).map λy=>.bin op x y
 |.UnaryOp op a _=>trU (R c) a op
 |.BoolOp op ps pos=>trBo (R c) op pos ps
 |.Compare a os bs _=>trCp o (R c) c a os bs
 |.IfExp q a b _=>(R c q).bind λx=>(R c a).bind λy=>(R c b).map λz=>.ite x y z
 |.Tuple ps _ _=>(trL (R c) ps).map .tup
 |.List ps _=>(trL (R c) ps).map .lst
 |.Subscript a b _=>qh8 o (R c) c a b
 |.Call g ps ks pos=>trCl o (R c) c pos g ps ks
 |.Attribute a f _=>gd (Nat.ble 3 o) ((c.glo.ats.find? λz=>z.1==o - 3&&sq z.2 f).bind λz=>(R c a).map λe=>.attr z.1 e z.2)
 |.Dict ks vs _=>trDi (R c) ks vs
 |.ListComp elt gs sc _=>trLc R c elt sc gs
 |_=>none
noncomputable def isGc:E->Bool
 |.gc _=>true
 |_=>false
noncomputable def pk(p:Pos):Nat:=(p.line*1000+p.col)*1000+p.endCol
noncomputable def trF(o:Nat->Nat)(R:TrE):TrE:=λc p=>gd (shOk p) (match o (pk p.pos) with
 |n=>(trX (n / 2) R c p).map λe=>bif (n % 2==1)&&gcOk p && !isGc e then .gc e else e)
noncomputable def trE(o:Nat->Nat):Nat->TrE
 |0=>λ_ _=>none
 |n+1=>trF o (trE o n)
end MS
end
section
namespace MS
open PySem PySem.Spec PyProof.Rows L2
open M (D Cell Store Sl E S T Src Fn Out R)
theorem bD{α j:Type}{o:Option α}{f:α->Option j}{b:j}(h:o.bind f=some b):∃a,o=some a/\f a=some b:=Qx6.mp h
theorem mD{α j:Type}{o:Option α}{f:α->j}{b:j}(h:o.map f=some b):∃a,o=some a/\f a=b:=Qqi.mp h
theorem gD{α:Type}{b:Bool}{x:Option α}{e:α}(h:gd b x=some e):b=true/\x=some e:=gd_iff.mp h
theorem aD{a b:Bool}(h:(a&&b)=true):a=true/\b=true:=(Qqm _ _).mp h
theorem fD{α:Type}{p:α->Bool}{l:List α}{a:α}(h:l.find? p=some a):a∈l/\p a=true:=⟨Qj1 h,List.find?_some h⟩
def TrO(R:TrE):Prop:=∀{c:Ctx}{p:Qx}{e:E},R c p=some e->CkE c e p/\shOk p=true
abbrev Fo(c:Ctx)(f:Qx->Option E):Prop:=∀{p:Qx}{e:E},f p=some e->CkE c e p/\shOk p=true
theorem qb4{c:Ctx}{x:Str}{pos:Pos}{e:E}(h:qb5 c x=some e):CkE c e (.Name x pos):=by
 unfold qb5 at h
 cases g:isG c x with
 |true=>
  rw[g]at h;obtain⟨q,z,h⟩:=bD h;obtain⟨hd,h⟩:=gD h;cases h;obtain⟨F,j⟩:=fD z;cases qqm j;exact .mk (.glo (qqa g) F (qa4 hd))
 |false=>
  rw[g]at h;obtain⟨i,hi,h⟩:=bD h;obtain⟨hd,h⟩:=gD h;cases h;obtain⟨hd,h2⟩:=aD hd;obtain⟨hd,h1⟩:=aD hd;rw[qwk]at hd;exact .mk (.var (ixS_eq hi) (ql0 hd) (qa4 h1) (qa4 h2))
section
variable {c:Ctx}{f:Qx->Option E}(hf:Fo c f)
include hf
theorem qxt:∀{ps:List Qx}{es:List E},trL f ps=some es->CkL (CkE c) es ps/\ps.all shOk=true
 |[],_,h=>by cases h; exact⟨.nil,rfl⟩
 |p::r,es,h=>by
  obtain⟨e,j,h⟩:=bD h;obtain⟨t,z,rfl⟩:=mD h;obtain⟨h1,h2⟩:=qxt z;exact⟨.cons (hf j).1 h1,by rw[Qxc,(hf j).2,h2]; rfl⟩
theorem qg3:∀{ks:List (Option Qx)}{vs:List Qx}{es:List E},trP f ks vs=some es->CkP (CkE c) es ks vs
 |[],[],_,h=>by cases h; exact .nil
 |some k::ks,v::vs,es,h=>by
  obtain⟨a,F,h⟩:=bD h;obtain⟨b,z,h⟩:=bD h;obtain⟨t,j,rfl⟩:=mD h;exact .cons (hf F).1 (hf z).1 (qg3 j)
 |none::_,_,_,h=>by unfold trP at h; cases h
 |some _::_,[],_,h=>by unfold trP at h; cases h
 |[],_::_,_,h=>by unfold trP at h; cases h
theorem qg4{p:Option Qx}{e:Option E}(h:trO f p=some e):CkO (CkE c) e p:=by
 cases p with
 |none=>cases h; exact .none
 |some p=>
  obtain⟨e,j,rfl⟩:=mD h;exact .some (hf j).1
theorem qah{b:Qx}{q:Str×List Str×List D}(h:qga c b=some q):∃pos,b=.Name q.1 pos/\c.sc.names.lookup q.1=some .globalImplicit/\(q.1,q.2.1,q.2.2)∈c.glo.ds/\(q.1==("__debug__" : Str))=false:=by
 unfold qga at h
 split at h
 ·rename_i x pos;obtain⟨h1,h⟩:=gD h;obtain⟨h1,h2⟩:=aD h1;obtain⟨z,j⟩:=fD h;have:=qqm j;subst this;exact⟨pos,rfl,qqa h1,z,qa4 h2⟩
 ·cases h
theorem qfx{o:Nat}{a b:Qx}{op:Qt}{pos:Pos}{e:E}(h:qix o f c a op b=some e):CkE c e (.Compare a [op] [b] pos):=by
 have plain:∀{op e},((f a).bind λx=>(f b).map λy=>E.cmp op x y)=some e->CkE c e (.Compare a [op] [b] pos):=λ{op e} h=>by
  obtain⟨x,z,h⟩:=bD h;obtain⟨y,j,rfl⟩:=mD h;exact .mk (.cmp (hf z).1 (hf j).1 (qff (hf j).2 _))
 unfold qix at h
 split at h
 ·rename_i neg hn
  split at h
  ·rename_i q L;obtain⟨p0,rfl,h1,h2,J⟩:=qah hf L;obtain⟨x,z,rfl⟩:=mD h
   cases op<;>first|(cases hn; fail)|skip
   all_goals first|(cases hn; done)|skip
   ·cases hn; exact .mk (.gin h1 h2 J (hf z).1)
   ·cases hn; exact .mk (.gnin h1 h2 J (hf z).1)
  ·cases F:o==1 with
   |false=>rw[F]at h; exact plain h
   |true=>
    rw[F]at h;obtain⟨x,z,h⟩:=bD h;obtain⟨y,j,rfl⟩:=mD h
    cases op<;>first|(cases hn; done)|skip
    ·cases hn; exact .mk (.din (hf z).1 (hf j).1 (qff (hf j).2 _))
    ·cases hn; exact .mk (.dnin (hf z).1 (hf j).1 (qff (hf j).2 _))
 ·exact plain h
theorem qe9{o:Nat}{a b:Qx}{pos:Pos}{e:E}(h:qh8 o f c a b=some e):CkE c e (.Subscript a b pos):=by
 unfold qh8 at h
 split at h
 ·obtain⟨x,j,h⟩:=bD h;obtain⟨l,J,h⟩:=bD h;obtain⟨k,L,rfl⟩:=mD h;exact .mk (.sli (hf j).1 (qg4 hf J) (qg4 hf L))
 ·split at h
  ·rename_i q F;obtain⟨p0,rfl,h1,h2,O⟩:=qah hf F;obtain⟨x,j,rfl⟩:=mD h;exact .mk (.gidx h1 h2 O (hf j).1 (qig (hf j).2))
  ·obtain⟨x,j,h⟩:=bD h;obtain⟨y,z,rfl⟩:=mD h
   cases U:o==1 with
   |false=>exact .mk (.idx (hf j).1 (hf z).1 (qig (hf z).2))
   |true=>exact .mk (.didx (hf j).1 (hf z).1 (qig (hf z).2))
omit hf in
theorem qb0{x:Str}{t:M.Ty}(h:tyOf x=some t):t≠.non/\Str.ofString t.name=x:=by
 obtain⟨h1,h2⟩:=fD h;refine⟨?_,qqm h2⟩;rintro rfl;simp at h1
omit hf in
theorem qyo:∀{ps:List Qx}{z:List M.Ty},qe8 c ps=some z->CkTys c z ps
 |[],_,h=>by cases h; exact .nil
 |p::r,z,h=>by
  unfold qe8 at h
  split at h
  ·rename_i j; cases j
  ·rename_i j;cases j;obtain⟨t,J,h⟩:=bD h;obtain⟨g,h⟩:=gD h;obtain⟨z,F,rfl⟩:=mD h;obtain⟨h1,rfl⟩:=qb0 J;exact .cons h1 (qqa g) (qyo F)
  ·cases h
theorem qfz{a t:Qx}{p0 pos:Pos}{e:E}(g:c.sc.names.lookup ("isinstance" : Str)=some .globalImplicit)(h:qiz f c a t=some e):CkE c e (.Call (.Name "isinstance" p0) [a,t] [] pos):=by
 unfold qiz at h
 split at h
 ·obtain⟨t,j,h⟩:=bD h;obtain⟨F,h⟩:=gD h;obtain⟨e,z,rfl⟩:=mD h;obtain⟨h1,rfl⟩:=qb0 j;exact .mk (.isi1 g h1 (qqa F) (hf z).1)
 ·obtain⟨J,j,h⟩:=bD h;obtain⟨F,h⟩:=gD h;obtain⟨e,z,rfl⟩:=mD h;exact .mk (.isiN (of_decide_eq_true F) g (qyo j) (hf z).1)
 ·cases h
theorem bc_ok{x:Str}{ps:List Qx}{p:Qx}{p0 pos:Pos}{e:E}(g:isG c x=true)(h:((bOf x).bind λb=>gd (bOk b) ((trL f (p::ps)).map (.bcall b)))=some e):CkE c e (.Call (.Name x p0) (p::ps) [] pos):=by
 obtain⟨b,z,h⟩:=bD h;obtain⟨h1,h⟩:=gD h;obtain⟨es,j,rfl⟩:=mD h;have:=qqm (fD z).2;subst this;exact .mk (.bcall (qqa g) h1 (qxt hf j).1)
theorem qfq{x:Str}{r:List Qx}{p:Qx}{p0 pos:Pos}{e:E}(g:isG c x=true)(hd:noD x=true)(h:qiq f c x p r=some e):CkE c e (.Call (.Name x p0) (p::r) [] pos):=by
 unfold qiq at h
 split at h
 ·rename_i k hk;obtain⟨h1,h⟩:=gD h;obtain⟨es,J,rfl⟩:=mD h;exact .mk (.call (qqa g) (ixS_eq hk) (qa4 hd) h1 (qxt hf J).1)
 ·split at h
  ·rename_i q hq;obtain⟨z,U,h⟩:=bD h;obtain⟨h1,h⟩:=gD h;obtain⟨es,J,rfl⟩:=mD h;obtain⟨y,Y⟩:=Qze.mp h1;obtain⟨hm,Z⟩:=fD hq;obtain⟨F,j⟩:=fD U;obtain⟨ha,hb⟩:=aD j;have:=qqm Z;subst this;obtain⟨zf,O,zm⟩:=z;have L:=qqm hb;have e2:O=q.2:=eq_of_beq ha;dsimp only at L;subst L e2;exact .mk (.new (qqa g) Y F hm (qa4 hd) (qxt hf J).1)
  ·split at h
   ·rename_i t
    cases hi:sq x ("isinstance" : Str) with
    |true=>
     rw[hi]at h;have:=qqm hi;subst this;exact qfz hf (qqa g) h
    |false=>rw[hi]at h; exact bc_ok hf g h
   ·exact bc_ok hf g h
omit hf in
theorem qdx{x:Str}{ps:List Qx}{a:Qx}(h:qdj c x ps=some a):x=("len" : Str)/\∃q j,ps=[.Call (.Name "set" q) [a] [] j]/\c.sc.names.lookup ("set" : Str)=some .globalImplicit:=by
 unfold qdj at h
 split at h
 ·rename_i y q z j;obtain⟨h1,h⟩:=gD h;cases h;obtain⟨h1,g⟩:=aD h1;have h1:=aD h1;have:=qqm h1.2;subst this;exact⟨qqm h1.1,q,j,rfl,qqa g⟩
 ·cases h
theorem qb6{o:Nat}{a:Qx}{m:Str}{j pos:Pos}{ps:List Qx}{e:E}(h:qb7 o f c a m j ps pos=some e):CkE c e (.Call (.Attribute a m j) ps [] pos):=by
 unfold qb7 at h;obtain⟨hl,h⟩:=gD h
 cases ho:Nat.ble 3 o with
 |true=>
  rw[ho]at h;obtain⟨z,hz,h⟩:=bD h;obtain⟨q,O,h⟩:=bD h;obtain⟨h1,h⟩:=gD h;obtain⟨h1,h2⟩:=aD h1;obtain⟨x,F,h⟩:=bD h;obtain⟨es,he,rfl⟩:=mD h;obtain⟨y,L⟩:=Qze.mp h1;obtain⟨hm,U⟩:=fD hz;obtain⟨a0,Z⟩:=fD O;obtain⟨ha,hb⟩:=aD U;obtain⟨zf,zc,zm⟩:=z;obtain⟨qx,qc⟩:=q;have e1:=qqm hb;have e2:zc=o - 3:=eq_of_beq ha;have e3:qc=o - 3:=eq_of_beq Z;dsimp only at e1;subst e1;rw[<- e2]at e3;subst e3;exact .mk (.mcall (hf F).1 L hm a0 (qxt hf he).1 (sh_mt (hf F).2 (qxt hf he).2 (of_decide_eq_true h2) hl))
 |false=>
  rw[ho]at h;dsimp only[cond]at h
  split at h
  ·rename_i p;obtain⟨k,J,h⟩:=bD h;obtain⟨x,F,h⟩:=bD h;obtain⟨y,L,rfl⟩:=mD h;have B:∀(s:Str) (env:Env),attributeBase a s env (eval a env)=eval a env:=λs env=>qw6 (hf F).2 _ _ _;obtain⟨q,O,J⟩:=List.exists_of_findSome?_eq_some J;obtain⟨k',s⟩:=q
   cases Y:sq s m with
   |false=>rw[Y]at J; cases J
   |true=>
    rw[Y]at J;cases J;have:=qqm Y;subst this;simp only[Qqc,Prod.mk.injEq,Qzc,or_false]at O;rcases O with⟨rfl,rfl⟩|⟨rfl,rfl⟩
    ·exact .mk (.append (hf F).1 (hf L).1 (B _) hl)
    ·exact .mk (.extend (hf F).1 (hf L).1 (B _) hl)
  ·cases h
omit hf in
theorem qw4:∀{es:List Qx}{is:List Nat},trT.trTs c es=some is->CkTs c is es
 |[],_,h=>by cases h; exact .nil
 |p::r,is,h=>by
  unfold trT.trTs at h
  split at h
  ·rename_i j; cases j
  ·rename_i j;cases j;obtain⟨i,hi,h⟩:=bD h;obtain⟨g,h⟩:=gD h;obtain⟨F,z,rfl⟩:=mD h;exact .cons (ixS_eq hi) (qae g) (qw4 z)
  ·cases h
omit hf in
theorem qyp{p:Qx}{t:T}(h:trT c p=some t):CkT c t p:=by
 unfold trT at h
 split at h
 ·obtain⟨i,hi,h⟩:=bD h;obtain⟨g,h⟩:=gD h;cases h;exact .var (ixS_eq hi) (qae g)
 ·obtain⟨j,hi,rfl⟩:=mD h;exact .tup (qw4 hi)
 ·cases h
theorem qg5{J p:Qx}{e:E}(h:trI f c J p=some e):CkI (CkE c) c J e p/\shOk p=true:=by
 unfold trI at h
 split at h
 ·rename_i x q ps pos
  cases z:isG c x&&sq x ("range" : Str) with
  |true=>
   rw[z]at h;obtain⟨g,j⟩:=aD z;have:=qqm j;subst this;dsimp only[cond]at h
   split at h
   ·obtain⟨x,j,rfl⟩:=mD h;exact⟨.rng1 (qqa g) (hf j).1,rfl⟩
   ·obtain⟨x,j,h⟩:=bD h;obtain⟨y,F,rfl⟩:=mD h;exact⟨.rng2 (qqa g) (hf j).1 (hf F).1,rfl⟩
   ·cases h
  |false=>
   rw[z]at h
   cases z:isG c x&&sq x ("zip" : Str) with
   |true=>
    rw[z]at h;obtain⟨g,j⟩:=aD z;have:=qqm j;subst this;dsimp only[cond]at h
    split at h
    ·obtain⟨x,j,h⟩:=bD h;obtain⟨y,F,rfl⟩:=mD h;exact⟨.zip (qqa g) (hf j).1 (hf F).1,rfl⟩
    ·cases h
   |false=>
    rw[z]at h;exact⟨.seq (hf h).1,(hf h).2⟩
 ·exact⟨.seq (hf h).1,(hf h).2⟩
end
theorem qv9:∀{l:List Str},ndB l=true->l.Nodup
 |[],_=>.nil
 |x::r,h=>by
  obtain⟨h1,h2⟩:=aD h;refine Qzx.mpr ⟨λj=>?_,qv9 h2⟩;rw[Qjx.mpr ⟨x,j,qw5 x⟩]at h1;cases h1
theorem qb8{R:TrE}(hR:TrO R){c:Ctx}{elt tg U:Qx}{a1:List Qx}{sc:Scope}{pos:Pos}{e:E}(h:qb9 R c elt tg U a1 sc=some e):CkE c e (.ListComp elt [⟨tg,U,a1,0⟩] sc pos):=by
 unfold qb9 at h;obtain⟨O,h⟩:=gD h;obtain⟨O,a3⟩:=aD O;obtain⟨O,h5⟩:=aD O;obtain⟨O,h4⟩:=aD O;obtain⟨O,h3⟩:=aD O;obtain⟨h1,h2⟩:=aD O;obtain⟨i,hi,h⟩:=bD h;obtain⟨t,ht,h⟩:=bD h;obtain⟨a2,h⟩:=gD h;have hk:sc.kind=.function:=eq_of_beq h1;have L:∀y∈sc.names,y.2≠.cell:=λy hy=>by
  have:=Qza.mp h2 y hy;simpa using this
 have J:∀y∈sc.names,y.2=.free->c.sc.names.lookup y.1=some .cell\/c.sc.names.lookup y.1=some .free:=λy hy e=>by
  have:=Qza.mp h3 y hy;rw[e]at this;obtain⟨ha,F⟩:=aD (show(kV (lk c.sc.names y.1)&&lk c.sc.names y.1 != some .local)=true from this);rw[qwk]at ha F;rcases ql0 ha with z|z|z
  ·rw[z]at F; cases F
  ·exact .inl z
  ·exact .inr z
 have Z:∀y∈sc.names,y.2=.local->sc.names.lookup y.1=some .local:=λy hy e=>by
  have:=Qza.mp h4 y hy;rw[e]at this;rw[<- qwk];exact eq_of_beq (show(lk sc.names y.1==some .local)=true from this)
 have a0:(inS sc c.N).length=(inN sc).length:=by unfold inS; rw[Qqx]
 have Y:∀(j i:Nat),(inS sc c.N)[j]?=some (some i)->∃x,(inN sc)[j]?=some x/\c.N[i]?=some x/\sc.names.lookup x=some .free:=λj i hj=>by
  unfold inS at hj;rw[Qqa]at hj;obtain⟨x,hx,hj⟩:=mD hj;refine⟨x,hx,?_⟩
  cases F:kV (lk sc.names x) && !kL (lk sc.names x) with
  |false=>rw[F]at hj; cases hj
  |true=>
   rw[F]at hj;obtain⟨ha,F⟩:=aD F;refine⟨ixS_eq hj,?_⟩;rw[<- qwk];rcases ql0 ha with z|z|z
   ·rw[z]at F; cases F
   ·rw[z]at F; cases F
   ·exact z
 have hs:=λenv x=>qih a3 env x;have hI:=(qg5 (hR (c:=c)) hi).1
 split at h
 ·obtain⟨e,he,rfl⟩:=mD h;exact .mk (.comp hk L J Z a0 Y (qv9 h5) hs hI (qyp ht) a2 (hR he).1)
 ·obtain⟨k,a4,h⟩:=bD h;obtain⟨e,he,rfl⟩:=mD h;exact .mk (.compIf hk L J Z a0 Y (qv9 h5) hs hI (qyp ht) a2 (hR a4).1 (hR he).1)
 ·cases h
theorem bo_ok{c:Ctx}{op:BoolOp}{x y:E}{p q:Qx}{pos:Pos}(h:CkE c x p)(k:CkE c y q):CkE c (bo op x y) (.BoolOp op [p,q] pos):=by
 cases op with
 |And=>exact .mk (.and2 h k)
 |Or=>exact .mk (.or2 h k)
theorem boN_ok{c:Ctx}{op:BoolOp}{x y:E}{p a b:Qx}{r:List Qx}{pos:Pos}(h:CkE c x p)(k:CkE c y (.BoolOp op (a::b::r) pos)):CkE c (bo op x y) (.BoolOp op (p::a::b::r) pos):=by
 cases op with
 |And=>exact .mk (.andN h k)
 |Or=>exact .mk (.orN h k)
theorem trX_ok{o:Nat}{R:TrE}(j:TrO R){c:Ctx}{p:Qx}{e:E}(hp:shOk p=true)(h:trX o R c p=some e):CkE c e p:=by
 cases p with
 |Name x q=>exact qb4 h
 |Constant k _ _=>
  cases k with
  |int i=>cases h; exact .mk .int
  |bool i=>cases h; exact .mk .bl
  |none=>cases h; exact .mk .non
  |str i=>cases h; exact .mk .str
  |_=>cases h
 |BinOp a O b q=>
  obtain⟨x,F,h⟩:=bD h;obtain⟨y,J,rfl⟩:=mD h;exact .mk (.bin (j F).1 (j J).1)
 |UnaryOp O a q=>
  cases O with
  |USub=>
   obtain⟨x,F,rfl⟩:=mD h;exact .mk (.neg (j F).1)
  |Not=>
   obtain⟨x,F,rfl⟩:=mD h;exact .mk (.not (j F).1)
  |_=>cases h
 |BoolOp O ps q=>
  have h:trBo (R c) O q ps=some e:=h;unfold trBo at h
  split at h
  ·obtain⟨x,F,h⟩:=bD h;obtain⟨y,J,rfl⟩:=mD h;exact bo_ok (j F).1 (j J).1
  ·obtain⟨x,F,h⟩:=bD h;obtain⟨y,J,rfl⟩:=mD h;exact boN_ok (j F).1 (j J).1
  ·cases h
 |Compare a os bs q=>
  have h:trCp o (R c) c a os bs=some e:=h;unfold trCp at h
  split at h
  ·exact qfx j h
  ·obtain⟨x,F,h⟩:=bD h;obtain⟨y,J,h⟩:=bD h;obtain⟨z,L,rfl⟩:=mD h;exact .mk (.cmp2 (j F).1 (j J).1 (j L).1 (qff (j L).2 _))
  ·cases h
 |IfExp q a b _=>
  obtain⟨x,F,h⟩:=bD h;obtain⟨y,J,h⟩:=bD h;obtain⟨z,L,rfl⟩:=mD h;exact .mk (.ite (j F).1 (j J).1 (j L).1)
 |Tuple ps _ _=>
  obtain⟨x,F,rfl⟩:=mD h;exact .mk (.tup (qxt j F).1)
 |List ps _=>
  obtain⟨x,F,rfl⟩:=mD h;exact .mk (.lst (qxt j F).1)
 |Subscript a b _=>exact qe9 j h
 |Call g ps ks q=>
  have h:trCl o (R c) c q g ps ks=some e:=h;unfold trCl at h
  split at h
  ·obtain⟨h1,h⟩:=gD h;obtain⟨g,hd⟩:=aD h1
   split at h
   ·rename_i a Y;obtain⟨x,F,rfl⟩:=mD h;obtain⟨rfl,q,p',e,Z⟩:=qdx Y;cases e;exact .mk (.lenset (qqa g) Z (j F).1)
   ·exact qfq j g hd h
  ·exact qb6 j h
  ·cases h
 |Attribute a f _=>
  obtain⟨ho,h⟩:=gD h;obtain⟨z,L,h⟩:=bD h;obtain⟨x,F,rfl⟩:=mD h;obtain⟨hm,U⟩:=fD L;obtain⟨Y,hb⟩:=aD U;have:=qqm hb;subst this;exact .mk (.attr (j F).1 hm (λenv=>qw6 (j F).2 _ _ _))
 |Dict ks vs _=>
  have h:trDi (R c) ks vs=some e:=h;unfold trDi at h
  split at h
  ·cases h; exact .mk .dic0
  ·obtain⟨h1,h⟩:=gD h;obtain⟨x,F,rfl⟩:=mD h;exact .mk (.dic (qg3 j F) (of_decide_eq_true h1))
  ·cases h
 |ListComp elt gs sc _=>
  have h:trLc R c elt sc gs=some e:=h;unfold trLc at h
  split at h
  ·obtain⟨h1,h⟩:=gD h;have:=eq_of_beq h1;subst this;exact qb8 j h
  ·cases h
 |_=>cases h
theorem trF_ok{o:Nat->Nat}{R:TrE}(J:TrO R):TrO (trF o R):=λ{c p e} h=>by
 unfold trF at h;obtain⟨j,h⟩:=gD h;refine⟨?_,j⟩;obtain⟨x,z,rfl⟩:=mD h;have k:=trX_ok J j z
 cases F:(o (pk p.pos) % 2==1)&&gcOk p && !isGc x with
 |false=>exact k
 |true=>
  obtain⟨h1,h2⟩:=aD F;obtain⟨_,h1⟩:=aD h1;refine .mk (.gc h1 (λb e=>?_) k);rw[e]at h2;cases h2
theorem qyr{o:Nat->Nat}:∀n,TrO (trE o n)
 |0=>λh=>nomatch h
 |n+1=>trF_ok (qyr n)
end MS
end
section
namespace MS
open PySem PySem.Spec PyProof.Rows L2
open M (D Cell Store Sl E S T Src Fn Out R)
noncomputable def qhg:Qx->Bool
 |.ListComp ..=>true
 |_=>false
noncomputable def noTup:Qx->Bool
 |.Tuple ..=>false
 |.List ..=>true
 |_=>true
noncomputable def qij(o:Nat->Nat)(f:Qx->Option E)(c:Ctx)(p:Qx):Qx->Option S
 |.Name x _=>(ixS x c.N).bind λi=>gd (isL c x) ((f p).map λe=>.set (.var i) e)
 |.Tuple es _ _=>gd (noTup p) ((trT.trTs c es).bind λis=>(f p).map λe=>.set (.tup is) e)
 |.Subscript a i tp=>(f p).bind λe=>(f a).bind λx=>(f i).map λy=>.dset x y e
 |.Attribute a m tp=>(f p).bind λe=>gd (Nat.ble 3 (o (pk tp) / 2)) ((c.glo.ats.find? λz=>z.1==o (pk tp) / 2 - 3&&sq z.2 m).bind λz=>(f a).map λx=>.setA z.1 x z.2 e)
 |_=>none
noncomputable def trS1(o:Nat->Nat)(f:Qx->Option E)(B:List Stmt->List S)(c:Ctx):Stmt->Option S
 |.Assign [t] p _=>qij o f c p t
 |.Expr p _=>gd (swOk p) ((f p).map .expr)
 |.Return (some p) _=>(f p).map .ret
 |.If q a b _=>(f q).map λe=>.ite e (B a) (B b)
 |.For tg it b [] pos=>gd (shOk it) ((trT c tg).bind λt=>bif o (pk pos) / 2==1 then(f it).map λe=>.ford t e (B b) else(trI f c tg it).map λe=>.forr t e (B b))
 |_=>none
noncomputable def ql5:Stmt->Bool
 |.Expr (.Constant (.str _) _ _) _=>true
 |_=>false
noncomputable def trSL(g:Stmt->S):List Stmt->List S
 |[]=>[]
 |p::r=>bif ql5 p then trSL g r else g p::trSL g r
noncomputable def trSs(o:Nat->Nat)(f:TrE)(c:Ctx):Nat->List Stmt->List S
 |0,ps=>trSL (λ_=>.bad) ps
 |n+1,ps=>trSL (λp=>(trS1 o (f c) (trSs o f c n) c p).getD .bad) ps
theorem qk1{c:Ctx}{g:Stmt->S}(j:∀p,CkS c (g p) p):∀ps,CkSs c (trSL g ps) ps
 |[]=>.nil
 |p::r=>by
  unfold trSL
  cases hd:ql5 p with
  |false=>exact .cons (j p) (qk1 j r)
  |true=>
   unfold ql5 at hd
   split at hd
   ·exact .doc (qk1 j r)
   ·cases hd
theorem qfj{o:Nat->Nat}{f:Qx->Option E}{c:Ctx}(j:Fo c f){p t:Qx}{pos:Pos}{s:S}(h:qij o f c p t=some s):CkS c s (.Assign [t] p pos):=by
 unfold qij at h
 split at h
 ·rename_i x J;obtain⟨i,hi,h⟩:=bD h;obtain⟨Y,h⟩:=gD h;obtain⟨e,F,rfl⟩:=mD h
  cases L:qhg p with
  |true=>
   unfold qhg at L
   split at L
   ·exact .setC (ixS_eq hi) (qae Y) (j F).1 ⟨_,_,_,_,rfl⟩ λenv _=>qfv _ _ _ _ _ _ _ env
   ·cases L
  |false=>
   refine .set (ixS_eq hi) (qae Y) (j F).1 λenv=>sw_ok ?_ _ _ _;have:=(j F).2
   cases p<;>first|rfl|(cases L; done)|(cases this; done)
 ·rename_i es k J;obtain⟨hn,h⟩:=gD h;obtain⟨is,hi,h⟩:=bD h;obtain⟨e,F,rfl⟩:=mD h;refine .setT (qw4 hi) (j F).1 (λenv=>sh_swT (es:=es) (k:=k) (tp:=J) (j F).2 pos.line env) (λenv=>?_) (λenv=>rfl)
  cases p<;>first|rfl|cases hn
 ·rename_i a i J;obtain⟨e,F,h⟩:=bD h;obtain⟨x,U,h⟩:=bD h;obtain⟨y,hy,rfl⟩:=mD h;exact .dset (j U).1 (j hy).1 (j F).1 λenv=>sh_sw (j F).2 _ _
 ·rename_i a m J;obtain⟨e,F,h⟩:=bD h;obtain⟨_,h⟩:=gD h;obtain⟨z,Z,h⟩:=bD h;obtain⟨x,U,rfl⟩:=mD h;obtain⟨hm,O⟩:=fD Z;obtain⟨_,hb⟩:=aD O;have:=qqm hb;subst this;exact .setA (j U).1 (j F).1 hm λenv=>sh_swA (j F).2 _ _
 ·cases h
theorem qh9{o:Nat->Nat}{f:Qx->Option E}{B:List Stmt->List S}{c:Ctx}(z:Fo c f)(hB:∀ps,CkSs c (B ps) ps){p:Stmt}{s:S}(h:trS1 o f B c p=some s):CkS c s p:=by
 unfold trS1 at h
 split at h
 ·exact qfj z h
 ·obtain⟨h1,h⟩:=gD h;obtain⟨e,j,rfl⟩:=mD h;exact .expr (z j).1 λenv=>sw_ok h1 _ _ _
 ·obtain⟨e,j,rfl⟩:=mD h;exact .ret (z j).1
 ·obtain⟨e,j,rfl⟩:=mD h;exact .ite (z j).1 (hB _) (hB _)
 ·rename_i tg it b pos;obtain⟨h1,h⟩:=gD h;obtain⟨t,F,h⟩:=bD h
  cases J:o (pk pos) / 2==1 with
  |true=>
   rw[J]at h;obtain⟨e,j,rfl⟩:=mD h;exact .ford (qyp F) (z j).1 (λenv x=>qih h1 _ _) (hB _)
  |false=>
   rw[J]at h;obtain⟨e,j,rfl⟩:=mD h;exact .forr (qyp F) (qg5 z j).1 (λenv x=>qih h1 _ _) (hB _)
 ·cases h
theorem qk0{o:Nat->Nat}{f:TrE}(j:TrO f){c:Ctx}:∀n ps,CkSs c (trSs o f c n ps) ps
 |0,ps=>qk1 (λ_=>.bad) ps
 |n+1,ps=>qk1 (λp=>by
  cases h:trS1 o (f c) (trSs o f c n) c p with
  |none=>exact .bad
  |some s=>exact qh9 (j (c:=c)) (qk0 j n) h) ps
noncomputable def argN(st:Stmt):List Str:=(qqg st).args.map (·.arg)
noncomputable def locN(st:Stmt):List Str:=argN st++((qzv st).names.filter λy=>kL (some y.2) && !((argN st).any (sq y.1))).map (·.1)
noncomputable def trFn(o:Nat->Nat)(names:List Str)(glo:Glo)(st:Stmt):Fn:=
 ⟨(argN st).length,(locN st).length,trSs o (trE o 30) ⟨locN st,qzv st,names,glo⟩ 12 (qzt st)⟩
noncomputable def scOk(st:Stmt):Bool:=(qzv st).kind==.function && !(qzv st).isCoroutine && !(qzv st).isGenerator&&ndB (locN st)&&(argN st).all (λx=>kL (lk (qzv st).names x))&&(qzv st).names.all (λy=>y.2 != .free)
theorem qcg{st:Stmt}(h:scOk st=true):FnScope (locN st) (argN st) (qzv st):=by
 obtain⟨h,F⟩:=aD h;obtain⟨h,J⟩:=aD h;obtain⟨h,L⟩:=aD h;obtain⟨h,O⟩:=aD h;obtain⟨h1,h2⟩:=aD h;refine⟨eq_of_beq h1,by simpa using h2,by simpa using O,qv9 L,by unfold locN; rw[List.take_left],λx z=>?_,λy j=>?_⟩
 ·have:=kL_eq (Qza.mp J x z);rwa [qwk]at this
 ·simpa using Qza.mp F y j
end MS
end
section
namespace MS
open PySem PySem.Spec PyProof.Rows L2
open M (D Cell Store Sl E S T Src Fn Out R)
abbrev Orc:=List (Nat×List Nat)
abbrev Rw:=Option Addr×Str×Str×Stmt×Orc
noncomputable def orc:Orc->Nat->Nat
 |[],_=>0
 |(v,l)::r,k=>bif l.any (k.beq ·) then v else orc r k
noncomputable def msT:Nat->List Rw->List (Nat×Addr×Str)
 |_,[]=>[]
 |n,(some C,m,_)::r=>(n,C,m)::msT (n+1) r
 |n,(none,_)::r=>msT (n+1) r
noncomputable def fnsT(names:List Str)(glo:Glo)(t:List Rw):List Fn:=t.map λr=>trFn (orc r.2.2.2.2) names glo r.2.2.2.1
theorem ms_mem{q:Nat×Addr×Str}{t:List Rw}:∀{n:Nat},q∈msT n t->∃k r,q.1=n+k/\t[k]?=some r/\r.1=some q.2.1/\r.2.1=q.2.2:=by
 induction t with
 |nil=>exact λh=>nomatch h
 |cons a t j=>
  obtain⟨C,m,z⟩:=a;intro n h;have up:q∈msT (n+1) t->∃k r,q.1=n+k/\((C,m,z)::t)[k]?=some r/\r.1=some q.2.1/\r.2.1=q.2.2:=λh=>by
   obtain⟨k,r,e,w⟩:=j h;exact⟨k+1,r,by omega,w⟩
  cases C with
  |none=>exact up h
  |some C=>
   rcases Qqc.mp h with rfl|h
   ·exact⟨0,_,rfl,rfl,rfl,rfl⟩
   ·exact up h
abbrev Bd(r:Rw):Prop:=∀(kV doc pm:Value) (an:Option Addr) (cdv ct:Value) (us:List Value),us.length=(argN r.2.2.2.1).length->bindArgs (PySem.W.fnOf r.2.1 r.2.2.1 (qqg r.2.2.2.1) (qzt r.2.2.2.1) (qzv r.2.2.2.1) .none kV doc pm an cdv ct) ⟨us,[]⟩=pure ((argN r.2.2.2.1).zip us)
inductive RwK (K:Qqq):Rw->Prop
 |fn {x:Str}{st:Stmt}{o:Orc}{f:Addr}{od an:Option Addr}{sl:Array (Option Value)}{oc kV dc pm cd ct:Value}(a:Qx4 K mainGlobals x=some (some (.ref f))) (l:K.lookup f=some ⟨oc,od,.func (PySem.W.fnOf x x (qqg st) (qzt st) (qzv st) .none kV dc pm an cd ct),sl⟩) (c:PySem.W.codeIn K cd x=true) (k:Qzl K (.ref f)=true):RwK K (none,x,x,st,o)
 |me {C:Addr}{m x:Str}{st:Stmt}{o:Orc}{f:Addr}{od an:Option Addr}{sl:Array (Option Value)}{oc kV dc pm cd ct:Value}(a:PySem.W.findIn K (.ref C) m=some (some (.ref f))) (fn:PySem.W.isFn K (.ref f)=true) (l:K.lookup f=some ⟨oc,od,.func (PySem.W.fnOf m x (qqg st) (qzt st) (qzv st) .none kV dc pm an cd ct),sl⟩) (c:PySem.W.codeIn K cd x=true) (k:Qzl K (.ref f)=true):RwK K (some C,m,x,st,o)
noncomputable def rwOk(r:Rw):Bool:=scOk r.2.2.2.1&&(r.1.isNone||(qc6 r.2.2.1).not)
theorem qfk{K:Qqq}{h:Heap}{mg:Str->Option Value}{t:List Rw}{glo:Glo}(X:K.In h)(G:h.Ns mainGlobals mg)(j:glo.ms=msT 0 t)(L:∀r∈t,RwK K r)(U:∀r∈t,Bd r)(O:t.all rwOk=true)(f:Nat)(x:Str)(e:(t.map (·.2.2.1))[f]?=some x):FText K mg (fnsT (t.map (·.2.2.1)) glo t) (t.map (·.2.2.1)) glo f x:=by
 rw[Qqa]at e;obtain⟨r,F,rfl⟩:=mD e;have i:=Qqr F;have J:(fnsT (t.map (·.2.2.1)) glo t)[f]?=some (trFn (orc r.2.2.2.2) (t.map (·.2.2.1)) glo r.2.2.2.1):=by
  unfold fnsT;rw[Qqa,F]
  rfl
 have j:∀C m,(f,C,m)∈glo.ms->r.1=some C/\r.2.1=m:=λC m w=>by
  rw[j]at w;obtain⟨k,r',e,h1,h2⟩:=ms_mem w;obtain rfl:f=k:=e.trans (Qxl k);cases F.symm.trans h1;exact h2
 obtain⟨h1,h2⟩:=aD (Qza.mp O r i);have b:=U r i;have s:=qcg h1
 cases L r i with
 |fn a l c k=>exact⟨_,_,_,_,_,_,_,J,qwf l c k,⟨λ_=>Qjz X G a,λC m w=>nomatch (j C m w).1⟩,(qwf l c k).binds b,s,qk0 (qyr 30) 12 _,rfl,rfl⟩
 |@me C m x st o f od an sl oc kV dc Z cd ct a fn l c k=>
  refine⟨_,_,_,_,_,_,_,J,qwf l c k,⟨λz=>?_,λC m w=>?_⟩,(qwf l c k).binds b,s,qk0 (qyr 30) 12 _,rfl,rfl⟩
  ·have h2:(qc6 x).not=true:=h2;rw[z]at h2;cases h2
  ·obtain⟨e,Y⟩:=j C m w;cases e;cases Y;exact⟨a,fn,k⟩
inductive AtK:Value->D->Prop
 |int {i:Int}{t:Tok}:AtK (.int i t) (.int i)
 |str {s:Str}{t:Tok}:AtK (.str s t) (.str s)
inductive AtsK:List Value->List D->Prop
 |nil:AtsK [] []
 |cons {v:Value}{d:D}{vs:List Value}{ds:List D}(h:AtK v d) (t:AtsK vs ds):AtsK (v::vs) (d::ds)
inductive VaK (K:Qqq):Value->D->Prop
 |at {v:Value}{d:D}(h:AtK v d):VaK K v d
 |tup {a:Addr}{gd:Option Addr}{gn:Nat}{gs:Array (Option Value)}{vs:List Value}{ds:List D}(h:K.lookup a=some ⟨.type "tuple",gd,.seq vs.toArray gn,gs⟩) (q:AtsK vs ds) (n:Nat.ble vs.length sizeLine=true):VaK K (.ref a) (.tup ds)
inductive EnK (prm:Qr) (K:Qqq):List Qu->List Str->List D->Prop
 |nil:EnK prm K [] [] []
 |cons {k:Str}{t:Tok}{u:Value}{d:D}{es:List Qu}{ks:List Str}{ds:List D}(h:VaK K u d) (r:EnK prm K es ks ds):EnK prm K (⟨PyData.keyHash prm k,.str k t,u⟩::es) (k::ks) (d::ds)
abbrev Vof(K:Qqq)(u:Value)(d:D):Prop:=∃v,RelV v u/\∀m H,IsD K m H d v
theorem AtK.of{K:Qqq}{u:Value}{d:D}(h:AtK u d):Vof K u d:=by
 cases h with
 |int=>exact⟨.int _,⟨_,rfl⟩,λm H=>mkInt _⟩
 |str=>exact⟨.str _,⟨_,rfl⟩,λm H=>mkStr _⟩
theorem AtsK.of{K:Qqq}{us:List Value}{ds:List D}(h:AtsK us ds):∃vs,Vals vs us/\∀m H,IsDs K m H ds vs:=by
 induction h with
 |nil=>exact⟨[],.nil,λ_ _=>qqx⟩
 |cons h _ j=>
  obtain⟨v,a,b⟩:=h.of (K:=K);obtain⟨vs,c,d⟩:=j;exact⟨v::vs,.cons a c,λm H=>qzm (b m H) (d m H)⟩
theorem VaK.of{K:Qqq}{u:Value}{d:D}(h:VaK K u d):Vof K u d:=by
 cases h with
 |«at» h=>exact h.of
 |tup h q n=>
  obtain⟨vs,c,d⟩:=q.of (K:=K);exact⟨.ref _,rfl,λm H=>qq6 (.inr ⟨_,_,_,h,rfl,rfl,Nat.le_of_ble_eq_true n,c⟩) (d m H)⟩
theorem EnK.of{j:Qr}{K:Qqq}{es:List Qu}{ks:List Str}{ds:List D}(h:EnK j K es ks ds):∃z vs,EntOk j es ks z/\Vals vs z/\∀m H,IsDs K m H ds vs:=by
 induction h with
 |nil=>exact⟨[],[],.nil,.nil,λ_ _=>qqx⟩
 |cons h _ F=>
  obtain⟨v,a,b⟩:=h.of;obtain⟨z,vs,e,c,d⟩:=F;exact⟨_,v::vs,.cons e,.cons a c,λm H=>qzm (b m H) (d m H)⟩
inductive GlK (K:Qqq) (q:Str×D):Prop
 |mk {v:Value}(g:Qx4 K mainGlobals q.1=some (some v)) (h:VaK K v q.2):GlK K q
inductive GdK (prm:Qr) (K:Qqq) (q:Str×List Str×List D):Prop
 |mk {a:Addr}{es:List Qu}{ep:Nat}(g:Qx4 K mainGlobals q.1=some (some (.ref a))) (l:K.lookup a=some { cls:=.type "dict",data:=.dict es.toArray ep }) (h:EnK prm K es q.2.1 q.2.2) (n:(a==Qn)=false):GdK prm K q
noncomputable def gloOk(g:Glo):Bool:=(g.ats.all λq=>g.cl.any λz=>z.2==q.1)&&g.ds.all λq=>ndB q.2.1
theorem glo_mo{K:Qqq}{h:Heap}{mg:Str->Option Value}{prm:Qr}{glo:Glo}(X:K.In h)(G:h.Ns mainGlobals mg)(L:gloOk glo=true)(Y:∀q∈glo.ds,GdK prm K q)(U:∀q∈glo.cs,GlK K q)(j:∀q∈glo.cl,ClK K q.1 q.2)(O:∀q∈glo.ats,PySem.W.findIn K (.ref q.1) q.2=some none)(z:∀x∈bNm,Qx4 K mainGlobals x=some none):Mo K mg glo prm:=by
 obtain⟨c1,c2⟩:=aD L;refine⟨λZ C i=>(j _ i).mo X G,λC f i=>⟨?_,O _ i⟩,λx ks ds i=>?_,λx d i=>?_,λx i=>PySem.W.mg_none_of X G (z x i)⟩
 ·obtain⟨y,J,e⟩:=Qjx.mp (Qza.mp c1 _ i);have e:=eq_of_beq e;subst e;exact(j _ J).cls
 ·cases Y _ i with
  |mk g l q n=>
   obtain⟨F,vs,e,c,d⟩:=q.of;exact⟨_,Qjz X G g,⟨F,vs,_,_,l,e,c,d⟩,qv9 (Qza.mp c2 _ i),n⟩
 ·cases U _ i with
  |mk g q=>
   obtain⟨v,a,b⟩:=q.of;exact⟨_,v,Qjz X G g,a,b⟩
theorem law_mk{l:PySem.W.OpenLaw}{w:Qk}{K:Qqq}{h:Heap}{mg:Str->Option Value}{fa:Addr}{t:List Rw}{glo:Glo}{i n:Nat}{x y:Str}{st:Stmt}{o:Orc}(X:K.In h)(G:h.Ns mainGlobals mg)(J:mg x=some (.ref fa))(hi:t[i]?=some (none,x,x,st,o))(Z:argN st=[y])(hm:glo.ms=msT 0 t)(O:∀r∈t,Bd r)(hc:(t.all rwOk&&gloOk glo)=true)(ok:∀ns:List Int,ns.length<=63->∃st',M.callD (fnsT (t.map (·.2.2.1)) glo t) (n+1) i [.lst (ns.map D.int)] []=some (.bl true,st'))
  (L:∀r∈t,RwK K r) (h1:∀q∈glo.ds,GdK w.params K q) (h2:∀q∈glo.cs,GlK K q) (h3:∀q∈glo.cl,ClK K q.1 q.2) (h4:∀q∈glo.ats,PySem.W.findIn K (.ref q.1) q.2=some none) (z:∀x∈bNm,Qx4 K mainGlobals x=some none):∃fd:Qo,(∀(s:Qz) (v:Value),BindsTo s fd ⟨[v],[]⟩ [(y,v)])/\∀base:Heap,K.In base->base.Ns mainGlobals mg->FnOk l.prog w K mg base CX0 (2*(n+1)) fa fd [y] (qfc K):=by
 obtain⟨c1,c2⟩:=aD hc;have U:=glo_mo (mg:=mg) X G c2 h1 h2 h3 h4 z;have T:=qfk X G hm L O c1;have j:=Qqr hi;have b:=O _ j;have s:=qcg (aD (Qza.mp c1 _ j)).1
 cases L _ j with
 |fn a Y c k=>
  cases J.symm.trans (Qjz X G a);have F:=λbase=>(qhm (P:=l.prog) (base:=base) (n:=n) (f:=i) (tab_ok T U _) U (by unfold fnsT; rw[Qqa,hi]; rfl) (qwf Y c k) s (qk0 (qyr 30) 12 _) rfl rfl).imp (law_sp ok);have b:Bd (none,x,x,st,o):=b;dsimp only[Bd]at b;rw[Z]at F b;exact⟨_,λs v=>.of_eq (b _ _ _ _ _ _ [v] rfl),λbase _ _=>F base⟩
end MS
end
section
namespace K17
open PySem L2 MS
open M (D Fn)
noncomputable abbrev tF(x:Str)(i:Nat)(l:Orc):Rw:=(none,x,x,top i,l)
noncomputable abbrev tM(C:Addr)(m x:Str)(i j:Nat)(l:Orc):Rw:=(some C,m,x,cb (top i) j,l)
noncomputable def tab:List Rw:=[tF "inside" 14 [],
 tF "has_one" 15 [(1,[27015052])],
 tF "can_part" 16 [],
 tF "parted" 17 [],
 tF "counted" 20 [],
 tF "through" 21 [(1,[50011030])],
 tM 191 "__init__" "Claim.__init__" 23 0 [(388,[55008018,56008019,57008017,58008017,59008019,60008018])],
 tM 191 "piece" "Claim.piece" 23 1 [(388,[63042051,63054063,64008020,64023034])],
 tM 191 "state" "Claim.state" 23 3 [(388,[71011021,73017026,75011022])],
 tM 273 "__init__" "Claims.__init__" 24 0 [(552,[81008017,82008017,83008016])],
 tM 273 "names" "Claims.names" 24 1 [(552,[86020029])],
 tM 273 "named" "Claims.named" 24 2 [(2,[89011032,91015030]),(552,[89023032,91015024])],
 tM 273 "standing" "Claims.standing" 24 3 [(552,[94033041,94045054]),(2,[94045060]),(388,[94045071])],
 tM 273 "stake" "Claims.stake" 24 4 [(552,[97008017,97059068,98008037]),(2,[97008022]),(1,[97070075])],
 tM 273 "vest" "Claims.vest" 24 5 [(552,[101016025,104012020]),(2,[101016031]),(388,[102011027,102054066,103012024])],
 tM 273 "vest_all" "Claims.vest_all" 24 6 [(553,[107020032]),(552,[108012042])],
 tM 273 "change" "Claims.change" 24 7 [(2,[112011032,114016031]),(552,[112023032,114016025,118019039,121033042]),(388,[115011027,120012022,121012022,121044054,123012023,125012023])],
 tM 273 "part" "Claims.part" 24 8 [(552,[129016025,134008017,136012020,136028036]),(2,[129016034,134008022]),(388,[130024036,133008020,134025056,135011023])],
 tF "bounds" 34 [],
 tF "fits" 35 [],
 tF "all_fit" 36 [(1,[160015079]),(2,[160028039])],
 tF "is_cell" 37 [(1,[162040072])],
 tF "good_steps" 38 [(1,[164040081])],
 tF "good_outcrops" 39 [(1,[168015059])],
 tF "sound_vein" 40 [],
 tF "numbers_agree" 41 [],
 tF "sound" 42 [(1,[184011049])],
 tF "check_district" 66 [],
 tF "check_day" 67 [],
 tM 642 "__init__" "Field.__init__" 68 0 [(1290,[263008019,264008017,265008016,266008018,267008019,268008019,269008016,270008018])],
 tM 642 "enter" "Field.enter" 68 1 [(1290,[274021032,276018026,278008016,279015032])],
 tM 642 "answer" "Field.answer" 68 2 [(1290,[283019040,285019040,287019041,289019039,291019039,292015026,292034042]),(552,[292015049])],
 tM 642 "enter_vein" "Field.enter_vein" 68 3 [(1290,[295008018,295019027,296008019,296029037]),(2,[295008028]),(552,[296008047])],
 tM 642 "enter_join" "Field.enter_join" 68 4 [(2,[302011033,302037060,306011030,308008025]),(1290,[302023033,302050060,306019030,308008019])],
 tM 642 "enter_stake" "Field.enter_stake" 68 5 [(2,[313008048,314028044]),(1290,[313020030,314028038,315008019,315026034]),(552,[315008065])],
 tM 642 "pass_to" "Field.pass_to" 68 10 [],
 tM 642 "claim" "Field.claim" 68 18 [(1290,[370016027]),(552,[370016039]),(388,[371016027,371029041,371043053,371055067,371069080])],
 tM 642 "standing" "Field.standing" 68 21 [(1290,[380015026,380036044]),(552,[380015045])],
 tF "_law_draw" 70 [],
 tF "_law_same" 71 [(1,[407024108])],
 tF "_law_size" 72 [(1,[416017101,417017111,417030111])],
 tF "_law_term" 73 [(1,[421011085])],
 tF "_law_rect" 74 [(1,[423013127,423020126,424013131,424020130])],
 tF "_law_steps" 75 [(1,[427017125,427018039])],
 tF "_law_outs" 76 [(1,[433072085])],
 tF "_law_who" 77 [(1,[439054073])],
 tF "_law_vein" 78 [(1,[441075124])],
 tF "_law_in" 79 [],
 tF "_law_simple" 80 [(1,[445017091,451011111])],
 tF "_law_vested" 81 [(1,[453018095,455042105])],
 tF "_law_kept" 82 [(1,[461016050,465024093,465047093])],
 tF "_law_held" 83 [(1,[472021097,479044101,479084100]),(1290,[475025052]),(1291,[479021042])],
 tF "law" 84 [(1,[487073083,489088136]),(1290,[489011055])]]
noncomputable def names:List Str:=tab.map (·.2.2.1)
noncomputable def glo:Glo:=⟨[("COINS",(.tup [(.int 1),(.int 1000000)])),("DAYS",(.tup [(.int 1),(.int 400)])),("DEPTHS",(.tup [(.int 0),(.int 12)])),("FOLK",(.tup [(.int 1),(.int 40)])),("LEFT",(.int 0)),("LENGTHS",(.tup [(.int 1),(.int 24)])),("LINES",(.tup [(.int 1),(.int 23)])),("LOW",(.int 3)),("MOST_COLUMNS",(.int 16)),("RIGHT",(.int 2)),("SIDES",(.tup [(.int 0),(.int 1)])),("STEPS",(.tup [(.int 0),(.int 4)])),("TERMS",(.tup [(.int 1),(.int 400)])),("TOP",(.int 1))],[("ASKS",["join","stake","work","sell","part","give","dig","pay"],[(.tup [(.str "day"),(.str "day"),(.str "below")]),(.tup [(.str "folk"),(.str "x"),(.str "y"),(.str "x"),(.str "y")]),(.tup [(.str "day")]),(.tup [(.str "day"),(.str "folk")]),(.tup [(.str "day"),(.str "side"),(.str "line"),(.str "folk")]),(.tup [(.str "day")]),(.tup [(.str "folk"),(.str "x"),(.str "y"),(.str "x"),(.str "y"),(.str "floor"),(.str "coins")]),(.tup [(.str "folk"),(.str "folk"),(.str "coins")])])],msT 0 tab,[("Claim",191),("Claims",273),("Field",642)],[(191,"days"),(191,"given"),(191,"ground"),(191,"last"),(191,"owner"),(191,"vested"),(273,"book"),(273,"row"),(273,"year"),(642,"day"),(642,"debts"),(642,"dug"),(642,"extent"),(642,"found"),(642,"joints"),(642,"staked"),(642,"year")]⟩
noncomputable def fns:List Fn:=fnsT names glo tab
end K17
end
section
namespace K17
open PySem (Str)
open M
noncomputable abbrev sO(x:String):D:=.str (Str.ofString x)
structure Cl where
 nm:Int
 j:Nat
 o:Int
 g:Int×Int×Int×Int
 ds:List Int
 la:Int
 v:Option Int
 gv:Option Int
noncomputable def oD:Option Int->D
 |none=>.non
 |some i=>.int i
noncomputable def rD(g:Int×Int×Int×Int):D:=.tup [.int g.1,.int g.2.1,.int g.2.2.1,.int g.2.2.2]
noncomputable def Cl.cell(c:Cl):Cell:=.obj 191 [("owner",.int c.o),("ground",rD c.g),("days",.loc (c.j+8)),("last",.int c.la),("vested",oD c.v),("given",oD c.gv)]
noncomputable def Cl.dl(c:Cl):Cell:=.lst true (c.ds.map .int)
noncomputable def FS(sz:D)(T d:Int)(fo jo bo:List (D×D))(ro:List D)(rest:Store):Store:=
 .obj 642 [("extent",sz),("year",.int T),("day",.int d),("found",.loc 1),("joints",.loc 2),("staked",.loc 3),("dug",.loc 6),("debts",.loc 7)]::.dic true fo::.dic true jo::.obj 273 [("year",.int T),("book",.loc 4),("row",.loc 5)]::.dic true bo::.lst true ro::.dic true []::.lst true []::rest
theorem isN{o:Option Int}(h:o=none):isNon (oD o)=true:=by rw[h]; rfl
theorem isS{o:Option Int}{x:Int}(h:o=some x):isNon (oD o)=false:=by rw[h]; rfl
theorem nnN{o:Option Int}(h:o=none):(!isNon (oD o))=false:=by rw[h]; rfl
theorem nnS{o:Option Int}{x:Int}(h:o=some x):(!isNon (oD o))=true:=by rw[h]; rfl
section
variable {sz:D}{T d:Int}{fo jo bo:List (D×D)}{ro:List D}{rest:Store}
noncomputable def stW(c:Cl)(day:Int):String:=if c.gv.isSome then "given" else if c.la<day then "fallen" else if c.v.isNone then "unvested" else "stands"
theorem qxx(m:Nat)(c:Cl)(day:Int)(h:rest[c.j+1]?=some c.cell):callD fns (m+1) 8 [.loc (c.j+9),.int day] (FS sz T d fo jo bo ro rest)=some (sO (stW c day),FS sz T d fo jo bo ro rest):=by
 unfold stW
 cases z:c.gv with
 |some x=>
  exact qzz 8 [] 1 (λq=>_/\_/\q) [.r c.cell,.b true] ⟨h,nnS z,rfl⟩
 |none=>
  by_cases j:c.la<day
  ·rw[Z3 j];exact qzz 8 [] 1 (λq=>_/\_/\_/\_/\q) [.r c.cell,.b false,.r c.cell,.b true] ⟨h,nnN z,h,Z0 j,rfl⟩
  ·rw[Z2 j]
   cases F:c.v with
   |none=>exact qzz 8 [] 1 (λq=>_/\_/\_/\_/\_/\_/\q) [.r c.cell,.b false,.r c.cell,.b false,.r c.cell,.b true] ⟨h,nnN z,h,Z1 j,h,isN F,rfl⟩
   |some x=>exact qzz 8 [] 1 (λq=>_/\_/\_/\_/\_/\_/\q) [.r c.cell,.b false,.r c.cell,.b false,.r c.cell,.b false] ⟨h,nnN z,h,Z1 j,h,isS F,rfl⟩
end
noncomputable def cD(p:Int×Int):D:=.tup [.int p.1,.int p.2]
noncomputable def inB(g:Int×Int×Int×Int)(p:Int×Int):Bool:=decide (g.1<=p.1)&&decide (p.1<=g.2.2.1)&&(decide (g.2.1<=p.2)&&decide (p.2<=g.2.2.2))
theorem qdi(m:Nat)(st:Store)(g:Int×Int×Int×Int)(p:Int×Int):callD fns (m+1) 0 [rD g,cD p] st=some (.bl (inB g p),st):=by
 unfold inB
 by_cases h1:g.1<=p.1
 ·by_cases h2:p.1<=g.2.2.1
  ·by_cases j:g.2.1<=p.2
   ·by_cases z:p.2<=g.2.2.2
    ·rw[Z0 h1,Z0 h2,Z0 j,Z0 z];exact qzz 0 [] 1 (λq=>_/\_/\_/\_/\q) [.b true,.b true,.b true,.b true] ⟨Z0 h1,Z0 h2,Z0 j,Z0 z,rfl⟩
    ·rw[Z0 h1,Z0 h2,Z0 j,Z1 z];exact qzz 0 [] 1 (λq=>_/\_/\_/\_/\q) [.b true,.b true,.b true,.b false] ⟨Z0 h1,Z0 h2,Z0 j,Z1 z,rfl⟩
   ·rw[Z0 h1,Z0 h2,Z1 j,Qkc];exact qzz 0 [] 1 (λq=>_/\_/\_/\q) [.b true,.b true,.b false] ⟨Z0 h1,Z0 h2,Z1 j,rfl⟩
  ·rw[Z0 h1,Z1 h2];exact qzz 0 [] 1 (λq=>_/\_/\q) [.b true,.b false] ⟨Z0 h1,Z1 h2,rfl⟩
 ·rw[Z1 h1];exact qzz 0 [] 1 (λq=>_/\q) [.b false] ⟨Z1 h1,rfl⟩
theorem asB:∀bs:List Bool,asBools (bs.map .bl)=some bs
 |[]=>rfl
 |b::r=>by show(asBools (r.map .bl)).map (b::·)=_; rw[asB r]; rfl
theorem nlB(bs:List Bool):noLocs (bs.map .bl)=true:=qqw λ_ _=>rfl
theorem qk6{c:CF}{τ:Sl}{st:Store}{i:Nat}{q:D}{ds:List D}(h:τ[i]?=some (some q))(j:rowAt st q=some ds):∃s,src (RL c) τ st (.var i)=some (s,st)/\(∀i,s.at st i=some ds[i]?)/\s.size st=ds.length:=by
 have e:(RL c).ev τ st (.var i)=some (q,st):=qk9 c τ st (.var i) (q,st) (by show(match τ[i]? with|some (some d)=>some (d,st)|_=>none)=_; rw[h])
 cases q with
 |tup xs=>
  cases j;exact⟨.tup ds,by show((RL c).ev τ st (.var i)).bind _=_; rw[e]; rfl,λi=>rfl,rfl⟩
 |lst xs=>
  have j:seqAt st (.lst xs)=some ds:=j;exact⟨.lst (.lst xs),by show((RL c).ev τ st (.var i)).bind _=_; rw[e]; rfl,qku j,qqs j⟩
 |loc l=>
  have j:seqAt st (.loc l)=some ds:=j;exact⟨.lst (.loc l),by show((RL c).ev τ st (.var i)).bind _=_; rw[e]; show(seqAt st (.loc l)).map _=_; rw[j]; rfl,qku j,qqs j⟩
 |_=>cases j
theorem qd9{α:Type}{c:CF}{τ:Sl}{st:Store}{i:Nat}{q:D}{elt:E}{sr:List (Option Nat)}{rst:Sl}(xs:List α)(f g:α->D)(h:τ[i]?=some (some q))(J:rowAt st q=some (xs.map f))(L:xs.length<lim)(j:inner sr τ=none::rst)(O:∀x∈xs,(RL c).ev (some (f x)::rst) st elt=some (g x,st)):
  stepEv (RL c) τ st (.comp (.var 0) (.var i) none elt sr)=some (.loc st.length,st++[.lst true (xs.map g)]):=by
 obtain⟨s,h1,h2,U⟩:=qk6 (c:=c) h J;refine qvh h1 h2 U j (by simp) (by simpa using L) λk d e hd z=>?_;rw[Qqa]at hd z;obtain⟨x,F,rfl⟩:=Qqi.mp hd;rw[F]at z;cases z;exact O x (Qqr F)
noncomputable def hasB(g:Int×Int×Int×Int)(ps:List (Int×Int)):Bool:=ps.any (inB g)
theorem has_ok(m:Nat){st:Store}{g:Int×Int×Int×Int}{q:D}{ps:List (Int×Int)}(j:rowAt st q=some (ps.map cD))(z:ps.length<lim):callD fns (m+2) 1 [rD g,q] st=some (.bl (hasB g ps),st):=by
 have h1:=qd9 (c:=callD fns (m+1)) (τ:=[some (rD g),some q]) (i:=1) (rst:=[some (rD g)]) (elt:=.call 0 [.var 1,.var 0]) (sr:=[none,some 0]) ps cD (λp=>.bl (inB g p)) rfl j z rfl λp _=>qzi 0 [0] 1 (λq=>_/\q) [.c (.bl (inB g p),st)] ⟨qdi m st g p,rfl⟩;have e:ps.map (λp=>D.bl (inB g p))=(ps.map (inB g)).map .bl:=by rw[Qzk]; rfl
 rw[e]at h1;have F:bfun st .any [.lst ((ps.map (inB g)).map .bl)]=some (.bl (hasB g ps),st):=by
  show(asBools _).map _=_;rw[asB];simp[hasB,List.any_map,Function.comp_def]
 exact qzz 0 [] 2 (λq=>_/\_/\_/\q) [.c (.loc st.length,st++[.lst true ((ps.map (inB g)).map .bl)]),.l ((ps.map (inB g)).map .bl),.c (.bl (hasB g ps),st)] ⟨h1,qzg (st:=st) (nlB (ps.map (inB g))),F,rfl⟩
theorem gl{st:Store}{c:Cell}:(st++[c])[st.length]?=some c:=by simp
theorem sl{st:Store}{c c':Cell}:(st++[c]).set st.length c'=st++[c']:=by simp
theorem qhn{c:CF}{τ:Sl}{st:Store}{i:Nat}{q:D}{ds:List D}{t:M.T}{body:List M.S}(P:Nat->Sl->Store->Prop)(h:τ[i]?=some (some q))(Z:P 0 τ st)(O:∀k j st',P k j st'->rowAt st' q=some ds)
  (hs:∀k j st' d,ds[k]?=some d->P k j st'->∃z F,((setT t d j).bind λL=>(RL c).ex L st' body)=some (.nx z,F)/\P (k+1) z F) :
  ∃j st',stepEx (RL c) τ st (.forr t (.var i) body)=some (.nx j,st')/\P ds.length j st':=by
 have e:(RL c).ev τ st (.var i)=some (q,st):=qk9 c τ st (.var i) (q,st) (by show(match τ[i]? with|some (some d)=>some (d,st)|_=>none)=_; rw[h]);have key:∀s:Src,src (RL c) τ st (.var i)=some (s,st)->s.size st=ds.length->(∀k j st',P k j st'->s.at st' k=some ds[k]?)->∃j st',stepEx (RL c) τ st (.forr t (.var i) body)=some (.nx j,st')/\P ds.length j st':=λs h1 h2 h3=>by
  obtain⟨j,st',Y,U⟩:=qvk (f:=λτ st d=>(setT t d τ).bind λj=>(RL c).ex j st body) P (λ_ _=>False) Z h2 h3 (λk j st' d hd J=>by
   obtain⟨z,F,Y,U⟩:=hs k j st' d hd J
   exact .inl ⟨z,F,.inl Y,U⟩)
  refine⟨j,st',?_,U.resolve_right id⟩;show(src (RL c) τ st (.var i)).bind _=_;rw[h1];exact Y
 have h1:=O 0 τ st Z
 cases q with
 |tup xs=>
  cases h1;exact key (.tup ds) (by show((RL c).ev τ st (.var i)).bind _=_; rw[e]; rfl) rfl λk j st' _=>rfl
 |lst xs=>
  exact key (.lst (.lst xs)) (by show((RL c).ev τ st (.var i)).bind _=_; rw[e]; rfl) (qqs h1) λk j st' J=>qku (show seqAt st' (.lst xs)=_ from O k j st' J) k
 |loc l=>
  have h1:seqAt st (.loc l)=some ds:=h1;exact key (.lst (.loc l)) (by show((RL c).ev τ st (.var i)).bind _=_; rw[e]; show(seqAt st (.loc l)).map _=_; rw[h1]; rfl) (qqs h1) λk j st' J=>qku (show seqAt st' (.loc l)=_ from O k j st' J) k
 |_=>cases h1
theorem qyk{st:Store}{w:Bool}{ks:List Int}(h:ks≠[]):idxD (st++[.lst w (ks.map .int)]) (.loc st.length) (.int (-1))=some (.int (ks.getLast h)):=by
 have j:0<ks.length:=Qxo.mpr h;show(seqAt (st++[.lst w (ks.map .int)]) (.loc st.length)).bind _=_;have:seqAt (st++[.lst w (ks.map .int)]) (.loc st.length)=some (ks.map .int):=by show listAt _ _=_; unfold listAt; rw[gl]
 rw[this];show atI (ks.map D.int) (-1)=_;unfold atI ixN;rw[Z2 (by decide),Z3 (by simp; omega)];simp only[oBs,Qqx];rw[show(-1+(ks.length:Int)).toNat=ks.length - 1 by omega,Qqa,Qx7,Qqg (by omega)]
 rfl
def Ch(T:Int)(xs:List Int):Prop:=∀i a b,xs[i]?=some a->xs[i+1]?=some b->b<=a+T
theorem Ch.one(T a:Int):Ch T [a]:=λi x y _ h=>by simp at h
theorem Ch.snoc{T d:Int}{xs:List Int}(h:Ch T xs)(j:xs≠[])(hd:d<=xs.getLast j+T):Ch T (xs++[d]):=λi a b h1 h2=>by
 have z:i+1<(xs++[d]).length:=(Qqv.mp h2).1;rw[Qqo,Qzo]at z;rw[Qq3 (by omega)]at h1
 by_cases e:i+1<xs.length
 ·rw[Qq3 e]at h2;exact h i a b h1 h2
 ·rw[Qzw (by omega),show i+1 - xs.length=0 by omega]at h2;cases h2;have F:i=xs.length - 1:=by omega
  subst F;rw[Qx7,<- Option.some.inj (h1.symm.trans (Qqg (by omega)))]at hd;exact hd
theorem qbh(m:Nat){st:Store}{T:Int}{q:D}{xs:List Int}(hc:Ch T xs)(hl:xs.length<1000)(hq:∀r,rowAt (st++r) q=some (xs.map .int)):callD fns (m+1) 4 [.int T,q] st=some (.loc st.length,st++[.lst true (xs.map .int)]):=by
 obtain⟨F,st',h1,o,rfl,rfl⟩:=qhn (c:=callD fns m) (τ:=[some (.int T),some q,some (.loc st.length),none]) (st:=st++[.lst true []]) (i:=1) (ds:=xs.map .int) (t:=.var 3) (body:=[.ite (.or (.not (.var 2)) (.cmp .LtE (.var 3) (.bin .Add (.idx (.var 2) (.neg (.lit (.int 1)))) (.var 0)))) [.expr (.meth (.var 2) .append [.var 3])] []])
  (λk F st'=>∃o,F=[some (.int T),some q,some (.loc st.length),o]/\st'=st++[.lst true ((xs.take k).map .int)])
  rfl ⟨none,rfl,by simp⟩ (λk F st' h=>by obtain⟨o,_,rfl⟩:=h; exact hq _) (λk F st' d hd h=>by
   obtain⟨o,rfl,rfl⟩:=h;rw[Qqa]at hd;obtain⟨x,L,rfl⟩:=Qqi.mp hd;have a2:k<xs.length:=(Qqv.mp L).1;have Z:xs.take (k+1)=xs.take k++[x]:=by rw[Qjf,L]; rfl
   have Y:(xs.take k).length=k:=by rw[Qq9]; omega
   have U:∀h:xs.take k≠[],x<=(xs.take k).getLast h+T:=λh=>by
    have h0:0<k:=Nat.pos_of_ne_zero λz=>by subst z; exact absurd (Qxm ..) h
    have e:(xs.take k)[k - 1]?=some ((xs.take k).getLast h):=by rw[Qx7,Qqg (by omega)]; congr 1; simp only[Y]
    rw[Qx0 (by omega)]at e;exact hc (k - 1) _ _ e (by rw[show k - 1+1=k by omega]; exact L)
   rw[Z];generalize xs.take k=ks at *;have J:(ks.map D.int).length<lim:=by simp; unfold lim; omega
   have a1:(st++[Cell.lst true (ks.map .int)]).set st.length (.lst true (ks.map .int++[.int x]))=st++[.lst true ((ks++[x]).map .int)]:=by rw[sl]; simp
   have O:=gl (st:=st) (c:=.lst true (ks.map .int));refine⟨[some (.int T),some q,some (.loc st.length),some (.int x)],(st++[Cell.lst true (ks.map .int)]).set st.length (.lst true (ks.map .int++[.int x])),?_,some (.int x),rfl,a1⟩
   by_cases j:ks=[]
   ·subst j;exact qzb 0 [] 0 (λq=>_/\_/\_/\_/\q) [.r (.lst true []),.k,.r (.lst true []),.r (.lst true []),.b true] ⟨O,O,O,Z0 J,rfl⟩
   ·have a0:(!(ks.map D.int).isEmpty)=true:=by cases ks with|nil=>exact absurd rfl j|cons a b=>rfl
    exact qzb 0 [] 0 (λq=>_/\_/\_/\_/\_/\_/\_/\q) [.r (.lst true (ks.map .int)),.b true,.i (.int (ks.getLast j)),.b true,.r (.lst true (ks.map .int)),.r (.lst true (ks.map .int)),.b true] ⟨O,a0,qyk (st:=st) (w:=true) j,Z0 (U j),O,O,Z0 J,rfl⟩)
 rw[Qqx,Qxz]at h1;exact qzz 0 [] 1 (λq=>_/\q) [.s (.nx [some (.int T),some q,some (.loc st.length),o],st++[.lst true (xs.map .int)])] ⟨h1,rfl⟩
theorem nlI(ks:List Int):noLocs (ks.map .int)=true:=qqw λ_ _=>rfl
theorem qky(m:Nat){st:Store}{T:Int}{q:D}{xs:List Int}(J:Ch T xs)(j:xs≠[])(F:xs.length<1000)(z:∀r,rowAt (st++r) q=some (xs.map .int)):callD fns (m+2) 5 [.int T,q] st=some (.int (xs.getLast j+T),st):=by
 have h2:=qbh m J F z;have e:idxD st (.lst (xs.map .int)) (.int (-1))=some (.int (xs.getLast j)):=by
  have:=qyk (st:=[]) (w:=true) j;exact this
 exact qzz 0 [4] 2 (λq=>_/\_/\_/\q) [.c (.loc st.length,st++[.lst true (xs.map .int)]),.l (xs.map .int),.i (.int (xs.getLast j))] ⟨h2,qzg (st:=st) (nlI xs),e,rfl⟩
noncomputable def ik(st:Store)(C:Nat)(F:List (Str×D)):Nat->Store
 |0=>st++[.obj C (F.take 0)]
 |k+1=>(ik st C F k).set st.length (.obj C (F.take (k+1)))
theorem qmz{st:Store}{C:Nat}{F:List (Str×D)}:∀k,ik st C F k=st++[.obj C (F.take k)]
 |0=>rfl
 |k+1=>by show(ik st C F k).set _ _=_; rw[qmz k,sl]
theorem ik_at{st:Store}{C:Nat}{F:List (Str×D)}(k:Nat):(ik st C F k)[st.length]?=some (.obj C (F.take k)):=by rw[qmz k,gl]
noncomputable def clF(o:Int)(g:Int×Int×Int×Int)(dl:D)(la:Int):List (Str×D):=[("owner",.int o),("ground",rD g),("days",dl),("last",.int la),("vested",.non),("given",.non)]
theorem cinit(m:Nat)(st:Store)(o la:Int)(g:Int×Int×Int×Int)(dl:D):callD fns (m+1) 6 [.loc st.length,.int o,rD g,dl,.int la] (st++[.obj 191 []])=some (.non,st++[.obj 191 (clF o g dl la)]):=by
 have h:=λk=>ik_at (st:=st) (C:=191) (F:=clF o g dl la) k;exact qas 0 [] 1 (.non,ik st 191 (clF o g dl la) 6) (λq=>_/\_/\_/\_/\_/\_/\q) [.r (.obj 191 ((clF o g dl la).take 0)),.r (.obj 191 ((clF o g dl la).take 1)),.r (.obj 191 ((clF o g dl la).take 2)),.r (.obj 191 ((clF o g dl la).take 3)),.r (.obj 191 ((clF o g dl la).take 4)),.r (.obj 191 ((clF o g dl la).take 5))] ⟨h 0,h 1,h 2,h 3,h 4,h 5,by rw[qmz]; rfl⟩
structure Inv (B:Nat) (rest:Store) (cs:List Cl):Prop where
 lo:∀c∈cs,B<=c.j
 at_:∀c∈cs,rest[c.j]?=some c.dl/\rest[c.j+1]?=some c.cell
 pw:cs.Pairwise λa b=>a.j+1<b.j
 ne:∀c∈cs,c.ds≠[]/\c.ds.length<900
 nd:(cs.map (·.nm)).Nodup
noncomputable def qzf(cs:List Cl):List (D×D):=cs.map λc=>(.int c.nm,.loc (c.j+9))
theorem Inv.inj{B:Nat}{rest:Store}{cs:List Cl}(h:Inv B rest cs){a b:Cl}(F:a∈cs)(L:b∈cs)(e:a.nm=b.nm):a=b:=by
 have:=h.nd;clear h
 induction cs with
 |nil=>cases F
 |cons c r J=>
  rw[Qqy,Qzx]at this;rcases Qqc.mp F with rfl|z<;>rcases Qqc.mp L with rfl|j
  ·rfl
  ·exact absurd (Qqk.mpr ⟨b,j,e.symm⟩) this.1
  ·exact absurd (Qqk.mpr ⟨a,z,e⟩) this.1
  ·exact J z j this.2
theorem qd6(a:Cl)(r:List Cl)(n:Int):dget (qzf (a::r)) (.int n)=bif a.nm==n then some (.loc (a.j+9)) else dget (qzf r) (.int n):=by
 unfold dget qzf;rw[Qqy,Qzq];show Option.map _ (match (a.nm==n) with|true=>_|false=>_)=_;cases a.nm==n<;>rfl
theorem qgm{cs:List Cl}{c:Cl}(h:c∈cs)(j:(cs.map (·.nm)).Nodup):dget (qzf cs) (.int c.nm)=some (.loc (c.j+9)):=by
 induction cs with
 |nil=>cases h
 |cons a r z=>
  rw[qd6];rw[Qqy,Qzx]at j;rcases Qqc.mp h with rfl|h'
  ·rw[beq_self_eq_true]; rfl
  ·rw[beq_false_of_ne λe=>j.1 (Qqk.mpr ⟨c,h',e.symm⟩)];exact z h' j.2
theorem Inv.get{B:Nat}{rest:Store}{cs:List Cl}(h:Inv B rest cs){c:Cl}(j:c∈cs):dget (qzf cs) (.int c.nm)=some (.loc (c.j+9)):=qgm j h.nd
theorem Inv.apart{B:Nat}{rest:Store}{cs:List Cl}(h:Inv B rest cs){a b:Cl}(F:a∈cs)(L:b∈cs)(e:a.nm≠b.nm):a.j+1<b.j\/b.j+1<a.j:=by
 have:=h.pw;clear h
 induction cs with
 |nil=>cases F
 |cons c r J=>
  rw[Qzt]at this;rcases Qqc.mp F with rfl|z<;>rcases Qqc.mp L with rfl|j
  ·exact absurd rfl e
  ·exact .inl (this.1 b j)
  ·exact .inr (this.1 a z)
  ·exact J z j this.2
noncomputable def upd(cs:List Cl)(c':Cl):List Cl:=cs.map λx=>if x.nm=c'.nm then c' else x
theorem qyn{cs:List Cl}{c c':Cl}(O:c∈cs)(j:(cs.map (·.nm)).Nodup)(e:c'.nm=c.nm)(Y:c'.j=c.j):qzf (upd cs c')=qzf cs:=by
 unfold qzf upd;rw[Qzk];refine Qq6 λx J=>?_;show(D.int (if x.nm=c'.nm then c' else x).nm,D.loc ((if x.nm=c'.nm then c' else x).j+9))=_
 by_cases h:x.nm=c'.nm
 ·have L:x=c:=by
   have:∀{l:List Cl},(l.map (·.nm)).Nodup->x∈l->c∈l->x.nm=c.nm->x=c:=λ{l} j J O e=>by
    induction l with
    |nil=>cases J
    |cons y r U=>
     rw[Qqy,Qzx]at j;rcases Qqc.mp J with rfl|z<;>rcases Qqc.mp O with rfl|F
     ·rfl
     ·exact absurd (Qqk.mpr ⟨c,F,e.symm⟩) j.1
     ·exact absurd (Qqk.mpr ⟨x,z,e⟩) j.1
     ·exact U j.2 z F
   exact this j J O (h.trans e)
  rw[Z3 h,e,Y,L]
 ·rw[Z2 h]
theorem upd_nm{cs:List Cl}{c':Cl}:(upd cs c').map (·.nm)=cs.map (·.nm):=by
 unfold upd;rw[Qzk];refine Qq6 λx _=>?_;show(if x.nm=c'.nm then c' else x).nm=x.nm
 by_cases h:x.nm=c'.nm
 ·rw[Z3 h,h]
 ·rw[Z2 h]
theorem Inv.put{B:Nat}{rest:Store}{cs:List Cl}(h:Inv B rest cs){c c':Cl}(J:c∈cs)(e:c'.nm=c.nm)(L:c'.j=c.j)(hd:c'.ds≠[]/\c'.ds.length<900):Inv B ((rest.set c.j c'.dl).set (c.j+1) c'.cell) (upd cs c'):=by
 have lt:c.j+1<rest.length:=(Qqv.mp (h.at_ c J).2).1;refine⟨λx F=>?_,λx F=>?_,?_,λx F=>?_,by rw[upd_nm]; exact h.nd⟩
 ·obtain⟨y,j,rfl⟩:=Qqk.mp F
  by_cases hn:y.nm=c'.nm
  ·rw[Z3 hn,L]; exact h.lo c J
  ·rw[Z2 hn]; exact h.lo y j
 ·obtain⟨y,j,rfl⟩:=Qqk.mp F
  by_cases hn:y.nm=c'.nm
  ·rw[Z3 hn,L];constructor
   ·rw[Qqp (by omega),Qq8 (by omega)]
   ·rw[Qq8 (by rw[Qz3]; omega)]
  ·rw[Z2 hn];have:=h.at_ y j;rcases h.apart j J (λz=>hn (z.trans e.symm)) with z|z
   ·exact⟨by rw[Qqp (by omega),Qqp (by omega)]; exact this.1,by rw[Qqp (by omega),Qqp (by omega)]; exact this.2⟩
   ·exact⟨by rw[Qqp (by omega),Qqp (by omega)]; exact this.1,by rw[Qqp (by omega),Qqp (by omega)]; exact this.2⟩
 ·unfold upd;rw[Qz2];have O:∀y∈cs,(if y.nm=c'.nm then c' else y).j=y.j:=λy j=>by
   by_cases hn:y.nm=c'.nm
   ·rw[Z3 hn,L,h.inj j J (hn.trans e)]
   ·rw[Z2 hn]
  refine List.Pairwise.imp_of_mem (λ{a b} Y U z=>?_) h.pw;rw[O a Y,O b U];exact z
 ·obtain⟨y,j,rfl⟩:=Qqk.mp F
  by_cases hn:y.nm=c'.nm
  ·rw[Z3 hn]; exact hd
  ·rw[Z2 hn]; exact h.ne y j
theorem Inv.cell{B:Nat}{rest:Store}{cs:List Cl}(h:Inv B rest cs){c c':Cl}(j:c∈cs)(e:c'.nm=c.nm)(F:c'.j=c.j)(hd:c'.ds=c.ds):Inv B (rest.set (c.j+1) c'.cell) (upd cs c'):=by
 have:=h.put j e F (hd▸h.ne c j);have lt:c.j+1<rest.length:=(Qqv.mp (h.at_ c j).2).1;have z:rest.set c.j c'.dl=rest:=by
  apply Qj0;intro i
  by_cases hi:c.j=i
  ·subst hi;rw[Qq8 (by omega),(h.at_ c j).1];unfold Cl.dl;rw[hd]
  ·rw[Qqp hi]
 rwa [z]at this
theorem Inv.more{B:Nat}{rest:Store}{cs:List Cl}(h:Inv B rest cs)(r:Store):Inv B (rest++r) cs:=
 ⟨h.lo,λc j=>⟨by rw[Qq3 (Qqv.mp (h.at_ c j).1).1]; exact(h.at_ c j).1,by rw[Qq3 (Qqv.mp (h.at_ c j).2).1]; exact(h.at_ c j).2⟩,h.pw,h.ne,h.nd⟩
theorem Inv.add{B:Nat}{rest:Store}{cs:List Cl}(h:Inv B rest cs)(c:Cl)(L:c.j=rest.length)(J:∀x∈cs,x.nm≠c.nm)(hd:c.ds≠[]/\c.ds.length<900)(hB:B<=rest.length):Inv B (rest++[c.dl,c.cell]) (cs++[c]):=by
 have m:=h.more [c.dl,c.cell];refine⟨λx j=>?_,λx j=>?_,?_,λx j=>?_,?_⟩
 ·rcases Qqt.mp j with j|j
  ·exact h.lo x j
  ·cases Qqb.mp j; omega
 ·rcases Qqt.mp j with j|j
  ·exact m.at_ x j
  ·cases Qqb.mp j;rw[L];constructor<;>simp
 ·rw[Qxe];refine⟨h.pw,Qkx ..,λa F b z=>?_⟩;cases Qqb.mp z;have:=(Qqv.mp (h.at_ a F).2).1;omega
 ·rcases Qqt.mp j with j|j
  ·exact h.ne x j
  ·cases Qqb.mp j; exact hd
 ·rw[Qq1,Qxi];refine⟨h.nd,by simp,λa F b z=>?_⟩;obtain⟨x,j,rfl⟩:=Qqk.mp F;simp only[Qqy,Qxy,Qqb]at z;subst z;exact J x j
theorem qgl{cs:List Cl}{c:Cl}(F:∀x∈cs,x.nm≠c.nm):dput (qzf cs) (.int c.nm) (.loc (c.j+9))=qzf (cs++[c]):=by
 unfold dput;have:(qzf cs).any (λp=>eqT p.1 (.int c.nm))=false:=by
  rw[Qjo];intro p z;obtain⟨x,j,rfl⟩:=Qqk.mp z;show ¬ (x.nm==c.nm)=true;simpa using F x j
 rw[this];simp[qzf]
theorem qx8{B i:Nat}{rest:Store}{c:Cell}(h:B<=i):(rest.set i c).take B=rest.take B:=by
 apply Qj0;intro k;rw[Qx2,Qx2]
 by_cases j:k<B
 ·rw[Z3 j,Z3 j,Qqp (by omega)]
 ·rw[Z2 j,Z2 j]
theorem qbt{A R:List Cl}{c c':Cl}(e:c'.nm=c.nm)(h:((A++c::R).map (·.nm)).Nodup):upd (A++c::R) c'=A++c'::R:=by
 rw[Qq1,Qqy,Qxi,Qzx]at h;have a:∀x∈A,x.nm≠c'.nm:=λx j=>by
  rw[e];exact h.2.2 _ (Qqk.mpr ⟨x,j,rfl⟩) _ (Qq0 ..)
 have b:∀x∈R,x.nm≠c'.nm:=λx j z=>h.2.1.1 (Qqk.mpr ⟨x,j,by rw[z,e]⟩);unfold upd;rw[Qq1,Qqy,Z3 e.symm];have J:A.map (λx=>if x.nm=c'.nm then c' else x)=A:=by
  conv=>rhs; rw[<- Qjh A]
  exact Qq6 λx j=>Z2 (a x j)
 have F:R.map (λx=>if x.nm=c'.nm then c' else x)=R:=by
  conv=>rhs; rw[<- Qjh R]
  exact Qq6 λx j=>Z2 (b x j)
 rw[J,F]
noncomputable abbrev rowD(ro:List Int):List D:=ro.map .int
section
variable {sz:D}{T d:Int}{fo jo:List (D×D)}{ro:List Int}{rest:Store}{cs:List Cl}{B:Nat}
noncomputable abbrev FC(sz:D)(T d:Int)(fo jo:List (D×D))(cs:List Cl)(ro:List Int)(rest:Store):Store:=FS sz T d fo jo (qzf cs) (rowD ro) rest
theorem qzu(c:Cl)(day:Int):(stW c day = "unvested"/\c.v=none/\c.gv=none/\day<=c.la)\/(stW c day = "stands"/\c.v≠none/\c.gv=none/\day<=c.la)\/(stW c day = "given"/\c.gv≠none)\/(stW c day = "fallen"/\c.la<day/\c.gv=none):=by
 unfold stW
 cases F:c.gv with
 |some x=>exact .inr (.inr (.inl ⟨rfl,by simp⟩))
 |none=>
  by_cases j:c.la<day
  ·exact .inr (.inr (.inr ⟨by simp[j],j,rfl⟩))
  ·cases z:c.v with
   |none=>exact .inl ⟨by simp[j],rfl,rfl,by omega⟩
   |some x=>exact .inr (.inl ⟨by simp[j],by simp,rfl,by omega⟩)
noncomputable def hit(day:Int)(ps:List (Int×Int))(c:Cl):Bool:=decide (stW c day = "unvested")&&hasB c.g ps
noncomputable def vst(day:Int)(ps:List (Int×Int))(c:Cl):Cl:=if hit day ps c then { c with v:=some day } else c
theorem qbs(m:Nat)(I:Inv B rest cs){c:Cl}(L:c∈cs)(day:Int){q:D}{ps:List (Int×Int)}(Y:rowAt (FC sz T d fo jo cs ro rest) q=some (ps.map cD))(Z:ps.length<lim)(hr:ro.length<1000):
  callD fns (m+3) 14 [.loc 3,.int c.nm,.int day,q] (FC sz T d fo jo cs ro rest)=some (.non,if hit day ps c then FC sz T d fo jo cs (ro++[c.nm]) (rest.set (c.j+1) (vst day ps c).cell) else FC sz T d fo jo cs ro rest):=by
 have z:=qxx (sz:=sz) (T:=T) (d:=d) (fo:=fo) (jo:=jo) (bo:=qzf cs) (ro:=rowD ro) (m+1) c day (I.at_ c L).2;have F:=I.get L;have J:=has_ok m (g:=c.g) Y Z;have j:=(I.at_ c L).2;have no:∀w,stW c day=w->(w = "stands"\/w = "given"\/w = "fallen")->hit day ps c=false:=λw e h=>by
  unfold hit;rw[e];rcases h with rfl|rfl|rfl<;>rfl
 rcases qzu c day with⟨e,h1,h2,h3⟩|⟨e,_⟩|⟨e,_⟩|⟨e,_⟩
 ·rw[e]at z;have hi:hit day ps c=hasB c.g ps:=by unfold hit; rw[e]; rfl
  cases O:hasB c.g ps with
  |true=>
   rw[O]at hi J;have U:vst day ps c={ c with v:=some day }:=by unfold vst; rw[hi]; rfl
   rw[hi,Z3 rfl,U];have el:rowD (ro++[c.nm])=rowD ro++[.int c.nm]:=by simp
   unfold FC;rw[el];exact qzz 8 [8,1] 3 (λq=>_/\_/\_/\_/\_/\_/\_/\q) [.q (some (.loc (c.j+9))),.r c.cell,.c (sO "unvested",FC sz T d fo jo cs ro rest),.r c.cell,.c (.bl true,FC sz T d fo jo cs ro rest),.r c.cell,.b true] ⟨F,j,z,j,J,j,Z0 (show(rowD ro).length<lim by simp; unfold lim; omega),rfl⟩
  |false=>
   rw[O]at hi J;rw[hi,Z2 (by simp)];exact qzz 8 [8,1] 3 (λq=>_/\_/\_/\_/\_/\q) [.q (some (.loc (c.j+9))),.r c.cell,.c (sO "unvested",FC sz T d fo jo cs ro rest),.r c.cell,.c (.bl false,FC sz T d fo jo cs ro rest)] ⟨F,j,z,j,J,rfl⟩
 ·rw[no _ e (.inl rfl),Z2 (by simp)];rw[e]at z;exact qzz 8 [8,1] 3 (λq=>_/\_/\_/\q) [.q (some (.loc (c.j+9))),.r c.cell,.c (sO "stands",FC sz T d fo jo cs ro rest)] ⟨F,j,z,rfl⟩
 ·rw[no _ e (.inr (.inl rfl)),Z2 (by simp)];rw[e]at z;exact qzz 8 [8,1] 3 (λq=>_/\_/\_/\q) [.q (some (.loc (c.j+9))),.r c.cell,.c (sO "given",FC sz T d fo jo cs ro rest)] ⟨F,j,z,rfl⟩
 ·rw[no _ e (.inr (.inr rfl)),Z2 (by simp)];rw[e]at z;exact qzz 8 [8,1] 3 (λq=>_/\_/\_/\q) [.q (some (.loc (c.j+9))),.r c.cell,.c (sO "fallen",FC sz T d fo jo cs ro rest)] ⟨F,j,z,rfl⟩
theorem qvd{c:CF}{τ:Sl}{st:Store}{it:E}{s:Src}{ds:List D}{t:M.T}{body:List M.S}(P:Nat->Sl->Store->Prop)(h1:src (RL c) τ st it=some (s,st))(h2:s.size st=ds.length)(Z:∀k j st',P k j st'->s.at st' k=some ds[k]?)(h0:P 0 τ st)
  (U:∀k j st' d,ds[k]?=some d->P k j st'->∃z F,((setT t d j).bind λJ=>(RL c).ex J st' body)=some (.nx z,F)/\P (k+1) z F) :
  ∃j st',stepEx (RL c) τ st (.forr t it body)=some (.nx j,st')/\P ds.length j st':=by
 obtain⟨j,st',O,L⟩:=qvk (f:=λτ st d=>(setT t d τ).bind λj=>(RL c).ex j st body) P (λ_ _=>False) h0 h2 Z (λk j st' d hd Y=>by
  obtain⟨z,F,O,L⟩:=U k j st' d hd Y
  exact .inl ⟨z,F,.inl O,L⟩)
 refine⟨j,st',?_,L.resolve_right id⟩;show(src (RL c) τ st it).bind _=_;rw[h1];exact O
theorem qqv(day:Int)(ps:List (Int×Int))(c:Cl):(vst day ps c).nm=c.nm/\(vst day ps c).j=c.j/\(vst day ps c).ds=c.ds:=by
 unfold vst;cases hit day ps c<;>exact⟨rfl,rfl,rfl⟩
theorem qh0(m:Nat)(I:Inv B rest cs)(day:Int)(ps:List (Int×Int))(hl:ps.length<lim)(hr:ro.length+cs.length<1000):
  ∃rest',callD fns (m+4) 15 [.loc 3,.int day,.tup (ps.map cD)] (FC sz T d fo jo cs ro rest)=some (.non,FC sz T d fo jo (cs.map (vst day ps)) (ro++(cs.filter (hit day ps)).map (·.nm)) rest')/\Inv B rest' (cs.map (vst day ps))/\rest'.take B=rest.take B/\rest'.length=rest.length:=by
 have bk:∀A R:List Cl,qzf (A.map (vst day ps)++R)=qzf (A++R):=λA R=>by
  unfold qzf;rw[Qq1,Qq1,Qzk]
  congr 1
  exact Qq6 λc _=>by
   show(D.int (vst day ps c).nm,D.loc ((vst day ps c).j+9))=_;rw[(qqv day ps c).1,(qqv day ps c).2.1]
 have keys:keysOf (qzf cs)=cs.map λc=>D.int c.nm:=by unfold keysOf qzf; rw[Qzk]; rfl
 have Z:(RL (callD fns (m+3))).ev [some (.loc 3),some (.int day),some (.tup (ps.map cD)),none] (FC sz T d fo jo cs ro rest) (.gc (.mcall 273 10 "names" (.var 0) []))=some (.lst (cs.map λc=>D.int c.nm),FC sz T d fo jo cs ro rest):=by
  have g:=qzg (st:=FC sz T d fo jo cs ro rest) (ds:=keysOf (qzf cs)) (by rw[keys]; exact qqw λ_ _=>rfl);rw[<- keys];exact qzi 8 [] 3 (λq=>_/\q) [.l (keysOf (qzf cs))] ⟨g,rfl⟩
 obtain⟨j,st',h1,o,r',h2,h3,L,O,h6⟩:=qvd (c:=callD fns (m+3)) (τ:=[some (.loc 3),some (.int day),some (.tup (ps.map cD)),none]) (st:=FC sz T d fo jo cs ro rest) (it:=.gc (.mcall 273 10 "names" (.var 0) [])) (s:=.lst (.lst (cs.map λc=>D.int c.nm))) (ds:=cs.map λc=>D.int c.nm) (t:=.var 3) (body:=[.expr (.mcall 273 14 "vest" (.var 0) [.var 3,.var 1,.var 2])])
  (λk j st'=>∃o r',j=[some (.loc 3),some (.int day),some (.tup (ps.map cD)),o]/\st'=FC sz T d fo jo ((cs.take k).map (vst day ps)++cs.drop k) (ro++((cs.take k).filter (hit day ps)).map (·.nm)) r'/\Inv B r' ((cs.take k).map (vst day ps)++cs.drop k)/\r'.take B=rest.take B/\r'.length=rest.length)
  (by show((RL (callD fns (m+3))).ev _ _ _).bind _=_; rw[Z]; rfl) (by simp[Src.size,seqAt]) (λk j st' h=>rfl) ⟨none,rest,rfl,by simp,by simpa using I,rfl,rfl⟩ (λk j st' x hx h=>by
   obtain⟨o,r',rfl,rfl,J,L,O⟩:=h;rw[Qqa]at hx;obtain⟨c,hc,rfl⟩:=Qqi.mp hx;have hk:k<cs.length:=(Qqv.mp hc).1;have F:cs[k]=c:=(Qqv.mp hc).2;have dr:cs.drop k=c::cs.drop (k+1):=by rw[Qj2 hk,F]
   have tk:cs.take (k+1)=cs.take k++[c]:=by rw[Qzg hk,F]
   rw[dr]at J ⊢;have Y:c∈(cs.take k).map (vst day ps)++c::cs.drop (k+1):=by simp
   have U:(ro++((cs.take k).filter (hit day ps)).map (·.nm)).length<1000:=by
    have:=Qzr (hit day ps) (cs.take k);rw[Qqo,Qqx];rw[Qq9]at this;omega
   have hv:=qbs (sz:=sz) (T:=T) (d:=d) (fo:=fo) (jo:=jo) (ro:=ro++((cs.take k).filter (hit day ps)).map (·.nm)) m J Y day (q:=.tup (ps.map cD)) (ps:=ps) rfl hl U;generalize hS:(if hit day ps c=true then _ else _:Store)=S1 at hv;refine⟨[some (.loc 3),some (.int day),some (.tup (ps.map cD)),some (.int c.nm)],S1,qzb 8 [14] 3 (λq=>_/\q) [.c (.non,S1)] ⟨hv,rfl⟩,some (.int c.nm),if hit day ps c then r'.set (c.j+1) (vst day ps c).cell else r',rfl,?_,?_,?_,?_⟩
   ·rw[<- hS]
    cases z:hit day ps c with
    |true=>
     have hb:qzf ((cs.take (k+1)).map (vst day ps)++cs.drop (k+1))=qzf ((cs.take k).map (vst day ps)++c::cs.drop (k+1)):=by rw[bk,bk,Qjw,<- dr,Qjw]
     rw[Z3 rfl,Z3 rfl];unfold FC;rw[hb,tk,Qxa,Qq1];simp[z]
    |false=>
     rw[Z2 (by simp),Z2 (by simp),tk,Qq1,Qxa,Qq1];have:vst day ps c=c:=by unfold vst; rw[z]; rfl
     simp[z,this]
   ·rw[tk,Qq1,Qxh];show Inv B _ (List.map (vst day ps) (cs.take k)++vst day ps c::cs.drop (k+1))
    cases z:hit day ps c with
    |true=>
     have:=J.cell Y (qqv day ps c).1 (qqv day ps c).2.1 (qqv day ps c).2.2;rwa [qbt (qqv day ps c).1 J.nd]at this
    |false=>
     have:vst day ps c=c:=by unfold vst; rw[z]; rfl
     rw[this];exact J
   ·cases z:hit day ps c with
    |true=>
     rw[Z3 rfl,qx8 (by have:=J.lo c Y; omega)];exact L
    |false=>exact L
   ·cases z:hit day ps c with
    |true=>rw[Z3 rfl,Qz3]; exact O
    |false=>exact O)
 simp only[Qqx,Qxz,List.drop_length,Qzv]at h3 L;subst h2 h3;exact⟨r',qzz 8 [] 4 (λq=>_/\q) [.s (.nx [some (.loc 3),some (.int day),some (.tup (ps.map cD)),o],FC sz T d fo jo (cs.map (vst day ps)) (ro++(cs.filter (hit day ps)).map (·.nm)) r')] ⟨h1,rfl⟩,L,O,h6⟩
end
section
variable {sz:D}{T d:Int}{fo jo:List (D×D)}{ro:List Int}{rest:Store}{cs:List Cl}{B:Nat}
theorem set2{a b j:Cell}:∀{rest:Store},(rest++[a,b]).set (rest.length+1) j=rest++[a,j]
 |[]=>rfl
 |x::r=>congrArg (x::·) (set2 (rest:=r))
theorem bk1{cs:List Cl}{c c':Cl}(e:c'.nm=c.nm)(j:c'.j=c.j):qzf (cs++[c'])=qzf (cs++[c]):=by simp[qzf,e,j]
theorem fs_len(bo:List (D×D))(r:List D)(s:Store):(FS sz T d fo jo bo r s).length=s.length+8:=by simp[FS]
theorem qfb(m:Nat)(I:Inv B rest cs)(hB:B<=rest.length)(dy o:Int)(g:Int×Int×Int×Int){q:D}{ps:List (Int×Int)}(hq:∀bo r,rowAt (FS sz T d fo jo bo (rowD ro) (rest++r)) q=some (ps.map cD))(hl:ps.length<lim)(hr:ro.length+cs.length<900)(U:∀x∈cs,x.nm≠dy):
  ∀L:Int,L=dy+T->callD fns (m+4) 13 [.loc 3,.int dy,.int o,rD g,q] (FC sz T d fo jo cs ro rest)=some (.non,FC sz T d fo jo (cs++[vst dy ps ⟨dy,rest.length,o,g,[dy],L,none,none⟩]) (ro++if hit dy ps ⟨dy,rest.length,o,g,[dy],L,none,none⟩ then [dy] else []) (rest++[.lst true [.int dy],(vst dy ps ⟨dy,rest.length,o,g,[dy],L,none,none⟩).cell]))/\
   Inv B (rest++[.lst true [.int dy],(vst dy ps ⟨dy,rest.length,o,g,[dy],L,none,none⟩).cell]) (cs++[vst dy ps ⟨dy,rest.length,o,g,[dy],L,none,none⟩]):=by
 intro L eL;have Z:=qky (m+1) (st:=FC sz T d fo jo cs ro (rest++[.lst true [.int dy]])) (T:=T) (q:=.lst [.int dy]) (xs:=[dy]) (Ch.one T dy) (by simp) (by simp) (λr=>rfl);rw[show [dy].getLast (by simp)+T=L from eL.symm]at Z;generalize j:(⟨dy,rest.length,o,g,[dy],L,none,none⟩:Cl)=c;have c1:c.nm=dy:=by rw[<- j]
 have c2:c.j=rest.length:=by rw[<- j]
 have c3:c.dl=.lst true [.int dy]:=by rw[<- j]; rfl
 have c4:c.cell=.obj 191 (clF o g (.loc (rest.length+8)) L):=by rw[<- j]; rfl
 have J:Inv B (rest++[c.dl,c.cell]) (cs++[c]):=I.add c c2 (by rw[c1]; exact U) (by rw[<- j]; simp) hB;have V:=qqv dy ps c;have F:=cinit (m+2) (FC sz T d fo jo cs ro (rest++[.lst true [.int dy]])) o L g (.loc (rest.length+8));have z:=qbs (sz:=sz) (T:=T) (d:=d) (fo:=fo) (jo:=jo) (ro:=ro) m J (c:=c) (by simp) dy (q:=q) (ps:=ps) (hq _ _) hl (by omega);have Y:FS sz T d fo jo (dput (qzf cs) (.int dy) (.loc (FC sz T d fo jo cs ro (rest++[.lst true [.int dy]])).length)) (rowD ro) (rest++[.lst true [.int dy]]++[.obj 191 (clF o g (.loc (rest.length+8)) L)])=FC sz T d fo jo (cs++[c]) ro (rest++[c.dl,c.cell]):=by
  have:(FC sz T d fo jo cs ro (rest++[.lst true [.int dy]])).length=c.j+9:=by rw[fs_len,c2]; simp
  rw[this,<- c1,qgl (by rw[c1]; exact U),c1,<- c3,<- c4];simp
 rw[c1,<- Y]at z;have hg:=qzg (st:=FC sz T d fo jo cs ro (rest++[.lst true [.int dy]])) (ds:=[.int dy]) rfl;generalize hS:(if hit dy ps c=true then _ else _:Store)=S1 at z;have O:decide ((qzf cs).length<lim)=true:=Z0 (by unfold qzf lim; rw[Qqx]; omega);have run:callD fns (m+4) 13 [.loc 3,.int dy,.int o,rD g,q] (FC sz T d fo jo cs ro rest)=some (.non,S1):=
  qzz 8 [5,6,14] 4 (λq=>_/\_/\_/\_/\_/\q) [.l [.int dy],.c (.int L,FC sz T d fo jo cs ro (rest++[.lst true [.int dy]])),.c (.non,FC sz T d fo jo cs ro (rest++[.lst true [.int dy]])++[.obj 191 (clF o g (.loc (rest.length+8)) L)]),.b true,.c (.non,S1)] ⟨hg,Z,F,O,z,rfl⟩
 rw[run,<- hS];rw[Y]
 cases hh:hit dy ps c with
 |true=>
  have:=J.cell (c:=c) (by simp) V.1 V.2.1 V.2.2;rw[qbt (A:=cs) (R:=[]) V.1 J.nd,c2,set2]at this;rw[c3]at this;refine⟨?_,this⟩;rw[Z3 rfl,Z3 rfl,c2,set2,c3];unfold FC;rw[bk1 V.1 V.2.1]
 |false=>
  have:vst dy ps c=c:=by unfold vst; rw[hh]; rfl
  rw[this,<- c3];refine⟨?_,J⟩;rw[Z2 (by simp),Z2 (by simp),Qzv]
end
def over(day:Int)(c:Cl):Prop:=c.gv≠none\/c.la<day
theorem ix1{st:Store}{a b:D}{r:List D}:idxD st (.tup (a::b::r)) (.int 1)=some b:=by
 show atI (a::b::r) 1=_;unfold atI ixN;rw[Z3 (by decide),Z3 (by simp; omega)]
 rfl
section
variable {sz:D}{T d:Int}{fo jo:List (D×D)}{ro:List Int}{rest:Store}{cs:List Cl}{B:Nat}
theorem qao(m:Nat)(I:Inv B rest cs)(day:Int)(w:String)(r:List D){c:Cl}(L:c∈cs)(O:over day c):callD fns (m+2) 16 [.loc 3,.int day,.tup (sO w::.int c.nm::r)] (FC sz T d fo jo cs ro rest)=some (sO "ended",FC sz T d fo jo cs ro rest):=by
 have F:=qxx (sz:=sz) (T:=T) (d:=d) (fo:=fo) (jo:=jo) (bo:=qzf cs) (ro:=rowD ro) m c day (I.at_ c L).2;have J:=I.get L;have j:=(I.at_ c L).2;rcases qzu c day with⟨e,h1,h2,U⟩|⟨e,h1,h2,U⟩|⟨e,_⟩|⟨e,_⟩
 ·rcases O with z|z
  ·exact absurd h2 z
  ·omega
 ·rcases O with z|z
  ·exact absurd h2 z
  ·omega
 ·rw[e]at F;exact qzz 8 [8] 2 (λq=>_/\_/\_/\_/\_/\q) [.i (.int c.nm),.q (some (.loc (c.j+9))),.q (some (.loc (c.j+9))),.r c.cell,.c (sO "given",FC sz T d fo jo cs ro rest)] ⟨ix1 (st:=FC sz T d fo jo cs ro rest) (a:=sO w) (b:=.int c.nm) (r:=r),J,J,j,F,rfl⟩
 ·rw[e]at F;exact qzz 8 [8] 2 (λq=>_/\_/\_/\_/\_/\q) [.i (.int c.nm),.q (some (.loc (c.j+9))),.q (some (.loc (c.j+9))),.r c.cell,.c (sO "fallen",FC sz T d fo jo cs ro rest)] ⟨ix1 (st:=FC sz T d fo jo cs ro rest) (a:=sO w) (b:=.int c.nm) (r:=r),J,J,j,F,rfl⟩
theorem qhd{c:Cl}{day:Int}(j:¬ over day c):stW c day = "unvested"\/stW c day = "stands":=by
 rcases qzu c day with⟨e,_⟩|⟨e,_⟩|⟨_,e⟩|⟨_,e,_⟩
 ·exact .inl e
 ·exact .inr e
 ·exact absurd (.inl e) j
 ·exact absurd (.inr e) j
theorem qgr(m:Nat)(I:Inv B rest cs)(day:Int){c:Cl}(J:c∈cs)(L:¬ over day c):callD fns (m+2) 16 [.loc 3,.int day,.tup [sO "give",.int c.nm]] (FC sz T d fo jo cs ro rest)=some (sO "good",FC sz T d fo jo cs ro (rest.set (c.j+1) { c with gv:=some day:Cl }.cell)):=by
 have z:=qxx (sz:=sz) (T:=T) (d:=d) (fo:=fo) (jo:=jo) (bo:=qzf cs) (ro:=rowD ro) m c day (I.at_ c J).2;have F:=I.get J;have j:=(I.at_ c J).2;rcases qhd L with e|e
 ·rw[e]at z;exact qzz 8 [8] 2 (λq=>_/\_/\_/\_/\_/\q) [.q (some (.loc (c.j+9))),.q (some (.loc (c.j+9))),.r c.cell,.c (sO "unvested",FC sz T d fo jo cs ro rest),.r c.cell] ⟨F,F,j,z,j,rfl⟩
 ·rw[e]at z;exact qzz 8 [8] 2 (λq=>_/\_/\_/\_/\_/\q) [.q (some (.loc (c.j+9))),.q (some (.loc (c.j+9))),.r c.cell,.c (sO "stands",FC sz T d fo jo cs ro rest),.r c.cell] ⟨F,F,j,z,j,rfl⟩
theorem qgp(m:Nat)(I:Inv B rest cs)(day:Int){c:Cl}(Z:c∈cs)(ho:¬ over day c)(h9:c.ds.length<899)(Y:Ch T (c.ds++[day])):∀L:Int,L=day+T->callD fns (m+3) 16 [.loc 3,.int day,.tup [sO "work",.int c.nm]] (FC sz T d fo jo cs ro rest)=some (sO "good",FC sz T d fo jo cs ro ((rest.set c.j { c with ds:=c.ds++[day],la:=L:Cl }.dl).set (c.j+1) { c with ds:=c.ds++[day],la:=L:Cl }.cell)):=by
 have O:=qxx (sz:=sz) (T:=T) (d:=d) (fo:=fo) (jo:=jo) (bo:=qzf cs) (ro:=rowD ro) (m+1) c day (I.at_ c Z).2;have U:=I.get Z;obtain⟨z,F⟩:=I.at_ c Z;have lt:c.j<rest.length:=(Qqv.mp z).1;have j:(rest.set c.j (.lst true (c.ds.map .int++[.int day])))[c.j+1]?=some c.cell:=by rw[Qqp (by omega)]; exact F
 have J:(c.ds.map D.int).length<lim:=by rw[Qqx]; unfold lim; omega
 intro L eL
 have hL:=qky m (st:=FC sz T d fo jo cs ro (rest.set c.j (.lst true (c.ds.map .int++[.int day])))) (T:=T) (q:=.loc (c.j+8)) (xs:=c.ds++[day]) Y (by simp) (by simp; omega) (λr=>by
  show listAt _ _=_;unfold listAt;have:(FC sz T d fo jo cs ro (rest.set c.j (.lst true (c.ds.map .int++[.int day])))++r)[c.j+8]?=((rest.set c.j (.lst true (c.ds.map .int++[.int day])))++r)[c.j]?:=rfl;rw[this,Qq3 (by rw[Qz3]; exact lt),Qq8 lt]
  simp)
 rw[Qjc _ (by simp),show [day].getLast (by simp)+T=L from eL.symm]at hL;have e1:({ c with ds:=c.ds++[day],la:=L:Cl }).dl=.lst true (c.ds.map .int++[.int day]):=by unfold Cl.dl; simp
 rw[e1];rcases qhd ho with e|e
 ·rw[e]at O;exact qzz 8 [8,5] 3 (λq=>_/\_/\_/\_/\_/\_/\_/\_/\_/\_/\_/\q) [.q (some (.loc (c.j+9))),.q (some (.loc (c.j+9))),.r c.cell,.c (sO "unvested",FC sz T d fo jo cs ro rest),.r c.cell,.r c.dl,.r c.dl,.b true,.r c.cell,.c (.int L,FC sz T d fo jo cs ro (rest.set c.j (.lst true (c.ds.map .int++[.int day])))),.r c.cell] ⟨U,U,F,O,F,z,z,Z0 J,j,hL,j,rfl⟩
 ·rw[e]at O;exact qzz 8 [8,5] 3 (λq=>_/\_/\_/\_/\_/\_/\_/\_/\_/\_/\_/\q) [.q (some (.loc (c.j+9))),.q (some (.loc (c.j+9))),.r c.cell,.c (sO "stands",FC sz T d fo jo cs ro rest),.r c.cell,.r c.dl,.r c.dl,.b true,.r c.cell,.c (.int L,FC sz T d fo jo cs ro (rest.set c.j (.lst true (c.ds.map .int++[.int day])))),.r c.cell] ⟨U,U,F,O,F,z,z,Z0 J,j,hL,j,rfl⟩
end
noncomputable def voD(vs:List (Int×D×List (Int×Int))):List (D×D):=vs.map λv=>(.int v.1,.tup [v.2.1,.tup (v.2.2.map cD)])
inductive CF':D->Prop
 |work (n:Int):CF' (.tup [sO "work",.int n])
 |give (n:Int):CF' (.tup [sO "give",.int n])
section
variable {sz:D}{T d:Int}{fo jo:List (D×D)}{ro:List Int}{rest:Store}{cs:List Cl}{B:Nat}
theorem day_ok(m:Nat)(st:Store)(day:Int)(z:1<=day)(j:day<=400):callD fns (m+2) 28 [.int day] st=some (.non,st):=
 qzz 0 [] 2 (λq=>_/\_/\q) [.b true,.b true] ⟨Z0 z,Z0 j,rfl⟩
theorem qq0(m:Nat){day:Int}{f v:D}{S:Store}(J:1<=day)(F:day<=400)(hd:d<day)(j:callD fns (m+6) 26 [sz,f] (FC sz T d fo jo cs ro rest)=some (.bl true,FC sz T d fo jo cs ro rest))(z:callD fns (m+6) 31 [.loc 0,f] (FC sz T day fo jo cs ro rest)=some (v,S)):
  callD fns (m+7) 30 [.loc 0,.int day,f] (FC sz T d fo jo cs ro rest)=some (v,S):=
 qzz 8 [28,26,31] 7 (λq=>_/\_/\_/\_/\q) [.c (.non,FC sz T d fo jo cs ro rest),.c (.bl true,FC sz T d fo jo cs ro rest),.b false,.c (v,S)] ⟨day_ok (m+4) (FC sz T d fo jo cs ro rest) day J F,j,Z1 (show ¬ day<=d by omega),z,rfl⟩
theorem qxh(m:Nat){f v:D}{S:Store}(j:CF' f)(h:callD fns (m+4) 16 [.loc 3,.int d,f] (FC sz T d fo jo cs ro rest)=some (v,S)):callD fns (m+5) 31 [.loc 0,f] (FC sz T d fo jo cs ro rest)=some (v,S):=by
 cases j with
 |work n=>exact qzz 8 [16] 5 (λq=>_/\q) [.c (v,S)] ⟨h,rfl⟩
 |give n=>exact qzz 8 [16] 5 (λq=>_/\q) [.c (v,S)] ⟨h,rfl⟩
theorem qbf{kvs:List (D×D)}{n:Int}{v:D}(h:∀p∈kvs,eqT p.1 (.int n)=false):dput kvs (.int n) v=kvs++[(.int n,v)]:=by
 unfold dput;have:kvs.any (λp=>eqT p.1 (.int n))=false:=by
  rw[Qjo];intro p j;rw[h p j];simp
 rw[this];simp
theorem qe4{vs:List (Int×D×List (Int×Int))}{n:Int}(h:∀v∈vs,v.1≠n)(s:D)(ps:List (Int×Int)):dput (voD vs) (.int n) (.tup [s,.tup (ps.map cD)])=voD (vs++[(n,s,ps)]):=by
 rw[qbf λp z=>?_]
 ·simp[voD]
 ·obtain⟨v,j,rfl⟩:=Qqk.mp z;show(v.1==n)=false;simpa using h v j
theorem qgs(m:Nat)(I:Inv B rest cs)(s:D)(ps:List (Int×Int))(vs:List (Int×D×List (Int×Int)))(z:∀v∈vs,v.1≠d)(j:vs.length<1000)(U:ps.length<1000)(F:ro.length+cs.length<1000):
  ∃rest',callD fns (m+6) 31 [.loc 0,.tup [sO "vein",s,.tup (ps.map cD)]] (FC sz T d (voD vs) jo cs ro rest)=some (sO "good",FC sz T d (voD (vs++[(d,s,ps)])) jo (cs.map (vst d ps)) (ro++(cs.filter (hit d ps)).map (·.nm)) rest')/\Inv B rest' (cs.map (vst d ps))/\rest'.take B=rest.take B/\rest'.length=rest.length:=by
 obtain⟨rest',h1,h2,O,L⟩:=qh0 (sz:=sz) (T:=T) (d:=d) (fo:=voD (vs++[(d,s,ps)])) (jo:=jo) (ro:=ro) m I d ps (by unfold lim; omega) F;refine⟨rest',?_,h2,O,L⟩;have J:decide ((voD vs).length<lim)=true:=Z0 (by unfold voD lim; rw[Qqx]; omega);rw[<- qe4 z]at h1 ⊢;exact qzz 8 [15] 6 (λq=>_/\_/\q) [.b true,.c (.non,FC sz T d (dput (voD vs) (.int d) (.tup [s,.tup (ps.map cD)])) jo (cs.map (vst d ps)) (ro++(cs.filter (hit d ps)).map (·.nm)) rest')] ⟨J,h1,rfl⟩
end
section
variable {sz:D}{T d:Int}{fo jo:List (D×D)}{ro:List Int}{rest:Store}{cs:List Cl}{B:Nat}
noncomputable def FSf(sz:D)(T d:Int)(fo jo bo:List (D×D))(ro:List D)(rest:Store):Store:=
 .obj 642 [("extent",sz),("year",.int T),("day",.int d),("found",.loc 1),("joints",.loc 2),("staked",.loc 3),("dug",.loc 6),("debts",.loc 7)]::.dic false fo::.dic true jo::.obj 273 [("year",.int T),("book",.loc 4),("row",.loc 5)]::.dic true bo::.lst true ro::.dic true []::.lst true []::rest
theorem qgt:∀{vs:List (Int×D×List (Int×Int))}{v:Int×D×List (Int×Int)},v∈vs->(vs.map (·.1)).Nodup->dget (voD vs) (.int v.1)=some (.tup [v.2.1,.tup (v.2.2.map cD)])
 |a::r,v,h,hn=>by
  unfold dget voD;rw[Qqy,Qzq];show Option.map _ (match (a.1==v.1) with|true=>_|false=>_)=_;rw[Qqy,Qzx]at hn;rcases Qqc.mp h with rfl|h'
  ·simp
  ·have e:(a.1==v.1)=false:=by
    rw[beq_eq_false_iff_ne];exact λe=>hn.1 (Qqk.mpr ⟨v,h',e.symm⟩)
   rw[e];exact qgt h' hn.2
theorem qes(m:Nat)(I:Inv B rest cs)(hB:B<=rest.length)(o:Int)(g:Int×Int×Int×Int)(vs:List (Int×D×List (Int×Int)))(Z:(vs.map (·.1)).Nodup)(a3:vs.length<1000)(J:∀v∈vs,v.2.2.length<=16)(hr:ro.length+cs.length<900)(hn:∀x∈cs,x.nm≠d):
  ∃rest',callD fns (m+6) 31 [.loc 0,.tup [sO "stake",.int o,.int g.1,.int g.2.1,.int g.2.2.1,.int g.2.2.2]] (FC sz T d (voD vs) jo cs ro rest)=some (sO "good",FC sz T d (voD vs) jo (cs++[vst d (vs.flatMap (·.2.2)) ⟨d,rest.length+1,o,g,[d],d+T,none,none⟩]) (ro++if hit d (vs.flatMap (·.2.2)) ⟨d,rest.length+1,o,g,[d],d+T,none,none⟩ then [d] else []) rest')/\Inv B rest' (cs++[vst d (vs.flatMap (·.2.2)) ⟨d,rest.length+1,o,g,[d],d+T,none,none⟩])/\rest'.take B=rest.take B/\rest.length<=rest'.length:=by
 have keys:keysOf (voD vs)=vs.map λv=>D.int v.1:=by unfold keysOf voD; rw[Qzk]; rfl
 have U:∀k,((vs.take k).flatMap (·.2.2)).length<=16*k:=λk=>by
  rw[List.length_flatMap];have:∀l:List (Int×D×List (Int×Int)),(∀v∈l,v.2.2.length<=16)->(l.map λv=>v.2.2.length).sum<=16*l.length:=λl=>by
   induction l with
   |nil=>intro _; simp
   |cons a r ih=>
    intro h;have h1:=h a (Qq0 ..);have h2:=ih λv L=>h v (Qqn _ L);simp only[Qqy,List.sum_cons,Qqh];omega
  have h:=this (vs.take k) λv L=>J v (Qjb L);have:(vs.take k).length<=k:=by rw[Qq9]; omega
  omega
 obtain⟨j,st',h1,h2⟩:=qvk (f:=λτ st x=>(setT (.var 3) x τ).bind λj=>(RL (callD fns (m+4))).ex j st [.expr (.meth (.var 2) .extend [.idx (.didx (.attr 642 (.var 0) "found") (.var 3)) (.lit (.int 1))])]) (s:=.tup (keysOf (voD vs))) (ds:=vs.map λv=>D.int v.1) (τ:=[some (.loc 0),some (.tup [sO "stake",.int o,.int g.1,.int g.2.1,.int g.2.2.1,.int g.2.2.2]),some (.loc (rest.length+8)),none]) (st:=FSf sz T d (voD vs) jo (qzf cs) (rowD ro) (rest++[.lst true []]))
  (λk j st'=>∃x,j=[some (.loc 0),some (.tup [sO "stake",.int o,.int g.1,.int g.2.1,.int g.2.2.1,.int g.2.2.2]),some (.loc (rest.length+8)),x]/\st'=FSf sz T d (voD vs) jo (qzf cs) (rowD ro) (rest++[.lst true (((vs.take k).flatMap (·.2.2)).map cD)])) (λ_ _=>False)
  ⟨none,rfl,by simp⟩ (by simp[Src.size,keys]) (λk j st' _=>by rw[keys]; rfl) (λk j st' x hx h=>by
   obtain⟨y,rfl,rfl⟩:=h;rw[Qqa]at hx;obtain⟨v,L,rfl⟩:=Qqi.mp hx;have hk:k<vs.length:=(Qqv.mp L).1;have a2:vs[k]=v:=(Qqv.mp L).2;have tk:vs.take (k+1)=vs.take k++[v]:=by rw[Qzg hk,a2]
   have hg:=qgt (Qqr L) Z;have g0:=gl (st:=rest) (c:=.lst true (((vs.take k).flatMap (·.2.2)).map cD))
   have hb:decide ((((vs.take k).flatMap (·.2.2)).map cD).length+(v.2.2.map cD).length<=lim)=true:=Z0 (by
    have:=U k;have:=J v (Qqr L);rw[Qqx,Qqx];unfold lim
    omega)
   refine .inl ⟨[some (.loc 0),some (.tup [sO "stake",.int o,.int g.1,.int g.2.1,.int g.2.2.1,.int g.2.2.2]),some (.loc (rest.length+8)),some (.int v.1)],FSf sz T d (voD vs) jo (qzf cs) (rowD ro) ((rest++[Cell.lst true (((vs.take k).flatMap (·.2.2)).map cD)]).set rest.length (.lst true (((vs.take k).flatMap (·.2.2)).map cD++v.2.2.map cD))),.inl (qzb 8 [] 4 (λq=>_/\_/\_/\_/\q) [.r (.lst true (((vs.take k).flatMap (·.2.2)).map cD)),.q (some (.tup [v.2.1,.tup (v.2.2.map cD)])),.r (.lst true (((vs.take k).flatMap (·.2.2)).map cD)),.b true] ⟨g0,hg,g0,hb,rfl⟩),some (.int v.1),rfl,?_⟩;rw[sl,tk]
   simp)
 obtain⟨x,rfl,rfl⟩:=h2.resolve_right id;rw[Qqx,Qxz]at h1;generalize a0:vs.flatMap (·.2.2)=ps at h1 ⊢;have a1:ps.length<lim:=by
  have:=U vs.length;rw[Qxz,a0]at this;unfold lim;omega
 have O:stepEx (RL (callD fns (m+4))) [some (.loc 0),some (.tup [sO "stake",.int o,.int g.1,.int g.2.1,.int g.2.2.1,.int g.2.2.2]),some (.loc (rest.length+8)),none] (FC sz T d (voD vs) jo cs ro (rest++[.lst true []])) (.ford (.var 3) (.attr 642 (.var 0) "found") [.expr (.meth (.var 2) .extend [.idx (.didx (.attr 642 (.var 0) "found") (.var 3)) (.lit (.int 1))])])=some (.nx [some (.loc 0),some (.tup [sO "stake",.int o,.int g.1,.int g.2.1,.int g.2.2.1,.int g.2.2.2]),some (.loc (rest.length+8)),x],FC sz T d (voD vs) jo cs ro (rest++[.lst true (ps.map cD)])):=by
  have ea:(RL (callD fns (m+4))).ev [some (.loc 0),some (.tup [sO "stake",.int o,.int g.1,.int g.2.1,.int g.2.2.1,.int g.2.2.2]),some (.loc (rest.length+8)),none] (FC sz T d (voD vs) jo cs ro (rest++[.lst true []])) (.attr 642 (.var 0) "found")=some (.loc 1,FC sz T d (voD vs) jo cs ro (rest++[.lst true []])):=qzi 8 [] 4 (λq=>q) [] rfl;show((RL (callD fns (m+4))).ev _ _ _).bind _=_;rw[ea];show((loop (.tup (keysOf (voD vs))) _ ((voD vs).length+1) 0 _ (FSf sz T d (voD vs) jo (qzf cs) (rowD ro) (rest++[.lst true []]))).bind _)=_;have:(voD vs).length+1=(Src.tup (keysOf (voD vs))).size (FSf sz T d (voD vs) jo (qzf cs) (rowD ro) (rest++[.lst true []]))+1:=by simp[Src.size,keysOf]
  rw[this,h1]
  rfl
 obtain⟨Y,h4⟩:=qfb (sz:=sz) (T:=T) (d:=d) (fo:=voD vs) (jo:=jo) (ro:=ro) m (I.more [.lst true (ps.map cD)]) (by simp; omega) d o g (q:=.loc (rest.length+8)) (ps:=ps) (λbo r=>by
  show listAt _ _=_;unfold listAt;have:(FS sz T d (voD vs) jo bo (rowD ro) (rest++[.lst true (ps.map cD)]++r))[rest.length+8]?=(rest++[Cell.lst true (ps.map cD)]++r)[rest.length]?:=rfl;rw[this]
  simp) a1 hr hn (d+T) rfl
 have key:∀F z rest',callD fns (m+4) 13 [.loc 3,.int d,.int o,rD g,.loc (rest.length+8)] (FC sz T d (voD vs) jo cs ro (rest++[.lst true (ps.map cD)]))=some (.non,FC sz T d (voD vs) jo F z rest')->callD fns (m+6) 31 [.loc 0,.tup [sO "stake",.int o,.int g.1,.int g.2.1,.int g.2.2.1,.int g.2.2.2]] (FC sz T d (voD vs) jo cs ro rest)=some (sO "good",FC sz T d (voD vs) jo F z rest'):=λF z rest' Y=>
  qzz 8 [13] 6 (λq=>_/\_/\q) [.s (.nx [some (.loc 0),some (.tup [sO "stake",.int o,.int g.1,.int g.2.1,.int g.2.2.1,.int g.2.2.2]),some (.loc (rest.length+8)),x],FC sz T d (voD vs) jo cs ro (rest++[.lst true (ps.map cD)])),.c (.non,FC sz T d (voD vs) jo F z rest')] ⟨O,Y,rfl⟩
 rw[Qqo,Qzo]at Y h4;refine⟨_,key _ _ _ Y,h4,?_,?_⟩
 ·rw[Qxh,List.take_append_of_le_length hB]
 ·simp
end
noncomputable def stB(cs:List Cl)(day:Int)(n:Int):Bool:=match cs.find? λc=>c.nm==n with
 |some c=>decide (stW c day = "stands")
 |none=>false
section
variable {sz:D}{T d:Int}{fo jo:List (D×D)}{ro:List Int}{rest:Store}{cs:List Cl}{B:Nat}
theorem qca(z:(cs.map (·.nm)).Nodup){c:Cl}(F:c∈cs)(day:Int):stB cs day c.nm=decide (stW c day = "stands"):=by
 have:cs.find? (λx=>x.nm==c.nm)=some c:=by
  induction cs with
  |nil=>cases F
  |cons a r J=>
   rw[Qqy,Qzx]at z;rw[Qzq];rcases Qqc.mp F with rfl|j
   ·simp
   ·have e:(a.nm==c.nm)=false:=by
     rw[beq_eq_false_iff_ne];exact λe=>z.1 (Qqk.mpr ⟨c,j,e.symm⟩)
    rw[e];exact J z.2 j
 unfold stB;rw[this]
theorem qfa(m:Nat)(I:Inv B rest cs)(L:∀n∈ro,∃c∈cs,c.nm=n)(Y:ro.length<1000):callD fns (m+3) 37 [.loc 0] (FC sz T d fo jo cs ro rest)=some (.loc (FC sz T d fo jo cs ro rest).length,FC sz T d fo jo cs ro rest++[.lst true (rowD (ro.filter (stB cs d)))]):=by
 have O:(RL (callD fns (m+1))).ev [some (.loc 3),some (.int d)] (FC sz T d fo jo cs ro rest) (.attr 273 (.var 0) "row")=some (.loc 5,FC sz T d fo jo cs ro rest):=qzi 8 [] 1 (λq=>q) [] rfl;have h:=qye (r:=RL (callD fns (m+1))) (τ:=[some (.loc 3),some (.int d)]) (S:=FC sz T d fo jo cs ro rest) (S':=FC sz T d fo jo cs ro rest) (it:=.attr 273 (.var 0) "row") (elt:=.var 0) (c:=.cmp .Eq (.mcall 191 8 "state" (.didx (.attr 273 (.var 2) "book") (.var 0)) [.var 1]) (.lit (sO "stands"))) (sr:=[none,some 1,some 0]) (s:=.lst (.loc 5)) (rest:=[some (.int d),some (.loc 3)]) (ds:=rowD ro) (p:=λx=>match x with|.int n=>stB cs d n|_=>false) id
  (by show((RL (callD fns (m+1))).ev _ _ _).bind _=_; rw[O]; rfl) (λi=>rfl) rfl rfl (by simp; unfold lim; omega)
  (λi x U=>by
   rw[Qqa]at U;obtain⟨n,hn,rfl⟩:=Qqi.mp U;obtain⟨c,J,rfl⟩:=L n (Qqr hn);have j:=qxx (sz:=sz) (T:=T) (d:=d) (fo:=fo) (jo:=jo) (bo:=qzf cs) (ro:=rowD ro) m c d (I.at_ c J).2;have F:=I.get J;have z:=(I.at_ c J).2;show _=some (stB cs d c.nm,_);rw[qca I.nd J];rcases qzu c d with⟨e,_⟩|⟨e,_⟩|⟨e,_⟩|⟨e,_⟩<;>rw[e]at j ⊢
   ·exact qqe 8 [8] 1 (λq=>_/\_/\_/\q) [.q (some (.loc (c.j+9))),.r c.cell,.c (sO "unvested",FC sz T d fo jo cs ro rest)] ⟨F,z,j,rfl⟩
   ·exact qqe 8 [8] 1 (λq=>_/\_/\_/\q) [.q (some (.loc (c.j+9))),.r c.cell,.c (sO "stands",FC sz T d fo jo cs ro rest)] ⟨F,z,j,rfl⟩
   ·exact qqe 8 [8] 1 (λq=>_/\_/\_/\q) [.q (some (.loc (c.j+9))),.r c.cell,.c (sO "given",FC sz T d fo jo cs ro rest)] ⟨F,z,j,rfl⟩
   ·exact qqe 8 [8] 1 (λq=>_/\_/\_/\q) [.q (some (.loc (c.j+9))),.r c.cell,.c (sO "fallen",FC sz T d fo jo cs ro rest)] ⟨F,z,j,rfl⟩)
  (λi x _ _=>qk9 _ _ _ _ _ rfl)
 have e:((rowD ro).filter λx=>match x with|.int n=>stB cs d n|_=>false).map id=rowD (ro.filter (stB cs d)):=by
  rw[Qjh];unfold rowD;rw[List.filter_map]
  rfl
 rw[e]at h;exact qzz 8 [] 3 (λq=>_/\q) [.c (.loc (FC sz T d fo jo cs ro rest).length,FC sz T d fo jo cs ro rest++[.lst true (rowD (ro.filter (stB cs d)))])] ⟨h,rfl⟩
theorem qgo(m:Nat)(I:Inv B rest cs){c:Cl}(F:c∈cs):callD fns (m+2) 36 [.loc 0,.int c.nm] (FC sz T d fo jo cs ro rest)=some (.tup [.int c.o,rD c.g,.int c.la,oD c.v,oD c.gv],FC sz T d fo jo cs ro rest):=by
 have z:=I.get F;have j:=(I.at_ c F).2;exact qzz 8 [] 2 (λq=>_/\_/\_/\_/\_/\_/\_/\q) [.q (some (.loc (c.j+9))),.q (some (.loc (c.j+9))),.r c.cell,.r c.cell,.r c.cell,.r c.cell,.r c.cell] ⟨z,z,j,j,j,j,j,rfl⟩
end
theorem qwj{it:Src}{f:Sl->Store->D->Option (Option D×Sl×Store)}{ds:List D}{S:Store}(g:D->Option D)(P:Sl->Prop)(z:∀i,it.at S i=some ds[i]?)(O:ds.length<lim)(L:∀τ d,d∈ds->P τ->∃j,f τ S d=some (g d,j,S)/\P j):
  ∀(k i:Nat) (τ:Sl),i+k=ds.length->P τ->loopC it f (k+1) i ((ds.take i).filterMap g) τ S=some (ds.filterMap g,S)
 |0,i,τ,h,p=>by
  have e:i=ds.length:=by omega
  subst e;rw[loopC,z,Qzp (Qqj _),Qxz];simp only[oBs];rw[Z2 (by have:=Qj9 g ds; omega)]
 |k+1,i,τ,h,p=>by
  have hi:i<ds.length:=by omega
  obtain⟨j,Y,U⟩:=L τ ds[i] (Qjj hi) p;rw[loopC,z,Qqg hi];simp only[oBs];rw[Z2 (by have:=Qj9 g (ds.take i); rw[Qq9]at this; omega),Y];have F:=qwj g P z O L k (i+1) j (by omega) U;rw[Qzg hi,List.filterMap_append]at F;simp only[oBs]
  cases J:g ds[i] with
  |none=>simpa[J] using F
  |some x=>simpa[J] using F
theorem qxe{c:CF}{τ:Sl}{st:Store}{t:M.T}{it elt:E}{test:Option E}{sr:List (Option Nat)}{s:Src}{ds:List D}(g:D->Option D)(P:Sl->Prop)(F:src (RL c) τ st it=some (s,st))(z:∀i,s.at st i=some ds[i]?)(hz:s.size st=ds.length)(J:ds.length<lim)(O:P (inner sr τ))(L:∀τ d,d∈ds->P τ->∃j,turnC (RL c) t test elt τ st d=some (g d,j,st)/\P j):
  stepEv (RL c) τ st (.comp t it test elt sr)=some (.loc st.length,st++[.lst true (ds.filterMap g)]):=by
 show((src (RL c) τ st it).bind λp=>(loopC p.1 (turnC (RL c) t test elt) (p.1.size p.2+1) 0 [] (inner sr τ) p.2).map λq=>alloc q.2 (.lst true q.1))=_;rw[F];simp only[oBs,hz];have:=qwj (it:=s) (f:=turnC (RL c) t test elt) g P z J L ds.length 0 (inner sr τ) (by omega) O;rw[Qxm,List.filterMap_nil]at this;rw[this]
 rfl
theorem qw2{c:CF}{t:M.T}{elt:E}{τ τ':Sl}{st:Store}{d x:D}(h:setT t d τ=some τ')(j:(RL c).ev τ' st elt=some (x,st)):turnC (RL c) t none elt τ st d=some (some x,τ',st):=by
 unfold turnC;rw[h];simp only[oBs,j,oMs]
theorem turn_if{c:CF}{t:M.T}{q elt:E}{τ τ':Sl}{st:Store}{d x:D}{b:Bool}(h:setT t d τ=some τ')(j:(RL c).tst τ' st q=some (b,st))(z:b=true->(RL c).ev τ' st elt=some (x,st)):turnC (RL c) t (some q) elt τ st d=some (if b then some x else none,τ',st):=by
 unfold turnC;rw[h];simp only[oBs,j]
 cases b with
 |false=>rfl
 |true=>rw[Z3 rfl,z rfl]; rfl
noncomputable def szD(W H P:Int):D:=.tup [.int W,.int H,.int P]
noncomputable def bD(W H P:Int):List (D×D):=[(sO "day",.tup [.int 1,.int 400]),(sO "folk",.tup [.int 1,.int 40]),(sO "x",.tup [.int 0,.int (W - 1)]),(sO "y",.tup [.int 0,.int (H - 1)]),(sO "floor",.tup [.int 0,.int P]),(sO "below",.tup [.int 1,.int P]),(sO "side",.tup [.int 0,.int 1]),(sO "line",.tup [.int 1,.int 23]),(sO "step",.tup [.int 0,.int 4]),(sO "coins",.tup [.int 1,.int 1000000])]
def Fit(W H P:Int)(p:Int×String):Prop:=∃lo hi,dget (bD W H P) (sO p.2)=some (.tup [.int lo,.int hi])/\lo<=p.1/\p.1<=hi
theorem qmk(m:Nat)(st:Store){v lo hi:Int}(z:lo<=v)(j:v<=hi):callD fns (m+1) 19 [.int v,.tup [.int lo,.int hi]] st=some (.bl true,st):=
 qzz 0 [] 1 (λq=>_/\_/\q) [.b true,.b true] ⟨Z0 z,Z0 j,rfl⟩
theorem qeg(m:Nat)(st:Store)(W H P:Int):callD fns (m+1) 18 [szD W H P] st=some (.loc st.length,st++[.dic true (bD W H P)]):=
 qas 0 [] 1 (.loc st.length,(st++[Cell.dic true []]).set st.length (.dic true (bD W H P))) (λq=>_/\q) [.r (.dic true [])] ⟨gl (st:=st) (c:=.dic true []),by rw[sl]⟩
theorem qwg(m:Nat)(st:Store){W H P:Int}(j:List (Int×String))(hl:j.length<1000)(Y:∀p∈j,Fit W H P p):callD fns (m+2) 20 [szD W H P,.tup (j.map λp=>sO p.2),.tup (j.map λp=>.int p.1)] st=some (.bl true,st++[.dic true (bD W H P)]):=by
 have h1:(!((((j.map λp=>D.int p.1).length:Nat):Int)==((j.map λp=>sO p.2).length:Nat)))=false:=by simp
 have L:∀i,pairAt (j.map λp=>D.int p.1) (j.map λp=>sO p.2) i=(j.map λp=>D.tup [.int p.1,sO p.2])[i]?:=λi=>by
  unfold pairAt;rw[Qqa,Qqa,Qqa];cases j[i]?<;>rfl
 have J:=qxe (c:=callD fns (m+1)) (τ:=[some (szD W H P),some (.tup (j.map λp=>sO p.2)),some (.tup (j.map λp=>.int p.1)),some (.loc st.length)]) (st:=st++[.dic true (bD W H P)]) (t:=.tup [0,1]) (it:=.zip (.var 2) (.var 1)) (test:=none) (elt:=.call 19 [.var 0,.didx (.var 2) (.var 1)]) (sr:=[none,none,some 3]) (s:=.zip (.tup (j.map λp=>.int p.1)) (.tup (j.map λp=>sO p.2))) (ds:=j.map λp=>D.tup [.int p.1,sO p.2]) (λ_=>some (.bl true)) (λτ=>∃a b,τ=[a,b,some (.loc st.length)])
  (by
   have e2:(RL (callD fns (m+1))).ev [some (szD W H P),some (.tup (j.map λp=>sO p.2)),some (.tup (j.map λp=>.int p.1)),some (.loc st.length)] (st++[.dic true (bD W H P)]) (.var 2)=some (.tup (j.map λp=>.int p.1),st++[.dic true (bD W H P)]):=qk9 _ _ _ _ _ rfl;have e1:(RL (callD fns (m+1))).ev [some (szD W H P),some (.tup (j.map λp=>sO p.2)),some (.tup (j.map λp=>.int p.1)),some (.loc st.length)] (st++[.dic true (bD W H P)]) (.var 1)=some (.tup (j.map λp=>sO p.2),st++[.dic true (bD W H P)]):=qk9 _ _ _ _ _ rfl;show((RL (callD fns (m+1))).ev _ _ (.var 2)).bind _=_;rw[e2];show((RL (callD fns (m+1))).ev _ _ (.var 1)).bind _=_;rw[e1]
   rfl) (λi=>by rw[<- L]; rfl) (by simp[Src.size,rowAt]) (by simp; unfold lim; omega) ⟨none,none,rfl⟩ (λτ x O z=>by
   obtain⟨a,b,rfl⟩:=z;obtain⟨p,z,rfl⟩:=Qqk.mp O;obtain⟨lo,hi,U,Z,F⟩:=Y p z;refine⟨[some (.int p.1),some (sO p.2),some (.loc st.length)],?_,some (.int p.1),some (sO p.2),rfl⟩;have:=qzi (fns:=fns) (k:=m) (τ:=[some (.int p.1),some (sO p.2),some (.loc st.length)]) (st:=st++[.dic true (bD W H P)]) (e:=.call 19 [.var 0,.didx (.var 2) (.var 1)]) (r:=(.bl true,st++[.dic true (bD W H P)])) 0 [19] 1 (λq=>_/\_/\_/\q) [.r (.dic true (bD W H P)),.q (some (.tup [.int lo,.int hi])),.c (.bl true,st++[.dic true (bD W H P)])] ⟨gl (st:=st) (c:=.dic true (bD W H P)),U,qmk m (st++[.dic true (bD W H P)]) Z F,rfl⟩
   exact qw2 rfl this)
 have e4:(j.map λp=>D.tup [.int p.1,sO p.2]).filterMap (λ_=>some (D.bl true))=(j.map λ_=>true).map .bl:=by
  rw[Qx1,Qzk];exact List.filterMap_eq_map (f:=λ_=>D.bl true)▸rfl
 rw[e4]at J;have F:bfun (st++[.dic true (bD W H P)]) .all [.lst ((j.map λ_=>true).map .bl)]=some (.bl true,st++[.dic true (bD W H P)]):=by
  show(asBools _).map _=_;rw[asB];exact congrArg (λb=>some (D.bl b,_)) (by simp)
 exact qzz 0 [18] 2 (λq=>_/\_/\_/\_/\_/\q) [.b false,.c (.loc st.length,st++[.dic true (bD W H P)]),.c (.loc (st++[Cell.dic true (bD W H P)]).length,st++[.dic true (bD W H P)]++[.lst true ((j.map λ_=>true).map .bl)]),.l ((j.map λ_=>true).map .bl),.c (.bl true,st++[.dic true (bD W H P)])] ⟨h1,qeg m st W H P,J,qzg (st:=st++[.dic true (bD W H P)]) (nlB (j.map λ_=>true)),F,rfl⟩
theorem tkl{st:Store}{c:Cell}:(st++[c]).take st.length=st:=by simp
theorem gB(st:Store)(c:Cell):noLoc (.bl true)=true/\(st++[c]).take st.length=st:=⟨rfl,tkl⟩
section
variable {W H P:Int}
theorem f_day{n:Int}(z:1<=n)(j:n<=400):Fit W H P (n,"day"):=⟨1,400,by kernel_rfl,z,j⟩
theorem f_folk{n:Int}(z:1<=n)(j:n<=40):Fit W H P (n,"folk"):=⟨1,40,by kernel_rfl,z,j⟩
theorem f_x{n:Int}(j:0<=n)(z:n<W):Fit W H P (n,"x"):=⟨0,W - 1,by kernel_rfl,j,by simp; omega⟩
theorem f_y{n:Int}(j:0<=n)(z:n<H):Fit W H P (n,"y"):=⟨0,H - 1,by kernel_rfl,j,by simp; omega⟩
theorem f_step{n:Int}(z:0<=n)(j:n<=4):Fit W H P (n,"step"):=⟨0,4,by kernel_rfl,z,j⟩
theorem s_work(m:Nat)(st:Store){n:Int}(z:1<=n)(j:n<=400):callD fns (m+3) 26 [szD W H P,.tup [sO "work",.int n]] st=some (.bl true,st):=
 qzz 0 [20] 3 (λq=>_/\_/\q) [.c (.bl true,st++[.dic true (bD W H P)]),.g] ⟨qwg m st (W:=W) (H:=H) (P:=P) [(n,"day")] (by simp) (by simp only[Qqb,forall_eq]; exact f_day z j),gB st (.dic true (bD W H P)),rfl⟩
theorem s_give(m:Nat)(st:Store){n:Int}(z:1<=n)(j:n<=400):callD fns (m+3) 26 [szD W H P,.tup [sO "give",.int n]] st=some (.bl true,st):=
 qzz 0 [20] 3 (λq=>_/\_/\q) [.c (.bl true,st++[.dic true (bD W H P)]),.g] ⟨qwg m st (W:=W) (H:=H) (P:=P) [(n,"day")] (by simp) (by simp only[Qqb,forall_eq]; exact f_day z j),gB st (.dic true (bD W H P)),rfl⟩
theorem s_stake(m:Nat)(st:Store){o:Int}{g:Int×Int×Int×Int}(Y:1<=o)(U:o<=40)(O:0<=g.1)(L:g.1<=g.2.2.1)(J:g.2.2.1<W)(F:0<=g.2.1)(z:g.2.1<=g.2.2.2)(j:g.2.2.2<H):callD fns (m+3) 26 [szD W H P,.tup [sO "stake",.int o,.int g.1,.int g.2.1,.int g.2.2.1,.int g.2.2.2]] st=some (.bl true,st):=
 qzz 0 [20] 3 (λq=>_/\_/\_/\_/\q) [.c (.bl true,st++[.dic true (bD W H P)]),.g,.b true,.b true] ⟨qwg m st (W:=W) (H:=H) (P:=P) [(o,"folk"),(g.1,"x"),(g.2.1,"y"),(g.2.2.1,"x"),(g.2.2.2,"y")] (by simp) (by simp only[Qqc,Qzc,or_false,forall_eq_or_imp,forall_eq]; exact⟨f_folk Y U,f_x O (by omega),f_y F (by omega),f_x (by omega) J,f_y (by omega) j⟩),gB st (.dic true (bD W H P)),Z0 L,Z0 z,rfl⟩
def Cin(W H:Int)(p:Int×Int):Prop:=0<=p.1/\p.1<W/\0<=p.2/\p.2<H
theorem qmf(m:Nat)(st:Store){p:Int×Int}(h:Cin W H p):callD fns (m+3) 21 [szD W H P,cD p] st=some (.bl true,st):=
 qzz 0 [20] 3 (λq=>_/\_/\q) [.c (.bl true,st++[.dic true (bD W H P)]),.g] ⟨qwg m st (W:=W) (H:=H) (P:=P) [(p.1,"x"),(p.2,"y")] (by simp) (by simp only[Qqc,Qzc,or_false,forall_eq_or_imp,forall_eq]; exact⟨f_x h.1 h.2.1,f_y h.2.2.1 h.2.2.2⟩),gB st (.dic true (bD W H P)),rfl⟩
theorem qj4:∀(ks:List (List Int)),ks.Nodup->∀S,(S++ks).Nodup->ks.foldl addK S=S++ks
 |[],_,S,_=>by simp
 |k::r,h,S,j=>by
  rw[Qxs];have:addK S k=S++[k]:=by
   unfold addK;rw[Z2];rw[Qxi]at j;exact λz=>j.2.2 k z k (Qq0 ..) rfl
  rw[this,qj4 r (Qzx.mp h).2 (S++[k]) (by simpa using j)];simp
theorem qhf:∀ps:List (Int×Int),(ps.map cD).mapM keyD=some (ps.map λp=>[p.1,p.2])
 |[]=>rfl
 |p::r=>by
  rw[Qqy,Qke,qhf r]
  rfl
theorem qlm{ps:List (Int×Int)}(F:ps.Nodup)(J:ps.length<=16):qvy (.tup (ps.map cD))=some (.int (ps.length:Int)):=by
 show((ps.map cD).mapM keyD).bind _=_;rw[qhf];have h:(ps.map λp=>[p.1,p.2]).Nodup:=by
  refine List.Pairwise.map _ (λa b j z=>j ?_) F;simp only[List.cons.injEq,and_true]at z;exact Prod.ext z.1 z.2
 show(if (ps.map cD).length<=16 then _ else _)=_;rw[Z3 (by simpa using J)];unfold distinct;rw[qj4 _ h [] (by simpa using h)];simp
theorem s_vein(m:Nat)(st:Store){ss:List Int}{ps:List (Int×Int)}(hP:(ss.length:Int)=P)(a0:ss.length<=100)(hs:∀s∈ss,0<=s/\s<=4)(h1:1<=ps.length)(h2:ps.length<=16)(hn:ps.Nodup)(hc:∀p∈ps,Cin W H p):callD fns (m+6) 26 [szD W H P,.tup [sO "vein",.tup (ss.map .int),.tup (ps.map cD)]] st=some (.bl true,st):=by
 have j:=qwg (m+1) st (W:=W) (H:=H) (P:=P) (ss.map λs=>(s,"step")) (by simp; omega) (λp J=>by obtain⟨s,z,rfl⟩:=Qqk.mp J; exact f_step (hs s z).1 (hs s z).2);rw[Qzk,Qzk]at j;have e1:ss.map ((λp:Int×String=>sO p.2)∘λs=>(s,"step"))=List.replicate ss.length (sO "step"):=by
  rw[List.eq_replicate_iff];refine⟨by simp,λb hb=>?_⟩;obtain⟨s,_,rfl⟩:=Qqk.mp hb
  rfl
 have e2:ss.map ((λp:Int×String=>D.int p.1)∘λs=>(s,"step"))=ss.map .int:=rfl;rw[e1,e2]at j;have hm:binop st .Mult (.tup [sO "step"]) (.int P)=some (.tup (List.replicate ss.length (sO "step")),st):=by
  show(if decide (P < -(2 ^ 62))||decide (2 ^ 62<=P)||decide (lim<1*P.toNat) then none else some (D.tup (List.replicate P.toNat [sO "step"]).flatten,st))=_;have:P.toNat=ss.length:=by omega
  rw[Z2 (by simp; unfold lim; omega),this]
  congr 3
  induction ss.length with
  |zero=>rfl
  |succ k ih=>rw[Qzd,Qz1,ih]; rfl
 have Y:decide ((1:Int)<=((ps.map cD).length:Nat))=true:=Z0 (by simp; omega);have U:decide (((ps.map cD).length:Int)<=16)=true:=Z0 (by simp; omega);have F:=qd9 (c:=callD fns (m+3)) (τ:=[some (szD W H P),some (.tup (ps.map cD))]) (st:=st) (i:=1) (rst:=[some (szD W H P)]) (elt:=.call 21 [.var 1,.var 0]) (sr:=[none,some 0]) ps cD (λ_=>.bl true) rfl rfl (by unfold lim; omega) rfl λp J=>qzi 0 [21] 3 (λq=>_/\q) [.c (.bl true,st)] ⟨qmf m st (P:=P) (hc p J),rfl⟩;have e3:ps.map (λ_=>D.bl true)=(ps.map λ_=>true).map .bl:=by rw[Qzk]; rfl
 rw[e3]at F;have Z:bfun st .all [.lst ((ps.map λ_=>true).map .bl)]=some (.bl true,st):=by
  show(asBools _).map _=_;rw[asB];exact congrArg (λb=>some (D.bl b,_)) (by simp)
 have L:qvy (.tup (ps.map cD))=some (.int ((ps.map cD).length:Int)):=by rw[qlm hn h2]; simp
 have O:(((ps.map cD).length:Int)==((ps.map cD).length:Nat))=true:=by simp
 exact qzz 0 [20,21] 6 (λq=>_/\_/\_/\_/\_/\_/\_/\_/\_/\_/\q) [.k,.c (.tup (List.replicate ss.length (sO "step")),st),.c (.bl true,st++[.dic true (bD W H P)]),.g,.b true,.b true,.c (.loc st.length,st++[.lst true ((ps.map λ_=>true).map .bl)]),.l ((ps.map λ_=>true).map .bl),.c (.bl true,st),.i (.int ((ps.map cD).length:Int)),.b true] ⟨hm,j,gB st (.dic true (bD W H P)),Y,U,F,qzg (st:=st) (nlB (ps.map λ_=>true)),Z,L,O,rfl⟩
end
noncomputable def scr(ns:List Int):D:=.lst (ns.map .int)
section
variable {ns:List Int}(hn:ns.length<=63)
include hn
theorem dr(m:Nat)(st:Store)(k j:Int){many:Int}(J:0<=j)(F:j<100000)(z:0<many):∃v:Int,callD fns (m+1) 38 [scr ns,.int k,.int j,.int many] st=some (.int v,st)/\0<=v/\v<many:=
 ⟨_,qd4 (f:=38) (show fns[38]?=some qge by kernel_rfl) (by omega) hn J F z,qvf _ _ _ z,qvg _ _ _ z⟩
theorem qif(m:Nat)(st:Store)(k:Int):∃W H P:Int,callD fns (m+2) 40 [scr ns,.int k] st=some (szD W H P,st)/\1<=W/\W<=24/\1<=H/\H<=24/\0<=P/\P<=12:=by
 obtain⟨a,O,a1,a2⟩:=dr hn m st k 0 (many:=6) (by decide) (by decide) (by decide);obtain⟨b,L,b1,b2⟩:=dr hn m st k 1 (many:=6) (by decide) (by decide) (by decide);obtain⟨c,J,c1,c2⟩:=dr hn m st k 2 (many:=6) (by decide) (by decide) (by decide);obtain⟨e,F,e1,e2⟩:=dr hn m st k 3 (many:=12) (by decide) (by decide) (by decide);have Z:=qzg (st:=st) (ds:=[.tup [.int 24,.int (1+(1+b) / 3),.int (c / 2)],.tup [.int (1+(1+a) / 3),.int 24,.int (c / 2)]]) rfl;have Y:=qzg (st:=st) (ds:=[.tup [.int (1+(1+a) / 3),.int (1+(1+b) / 3),.int 12],.tup [.int (1+a),.int (1+b),.int c]]) rfl;have U:=qzg (st:=st) (ds:=[.tup [.int 24,.int (1+(1+b) / 3),.int (c / 2)],.tup [.int (1+(1+a) / 3),.int 24,.int (c / 2)],.tup [.int (1+(1+a) / 3),.int (1+(1+b) / 3),.int 12],.tup [.int (1+a),.int (1+b),.int c]]) rfl;have key:∀(i:Int) (r:D),(if decide (e<3) then e else 3)=i->idxD st (.lst [.tup [.int 24,.int (1+(1+b) / 3),.int (c / 2)],.tup [.int (1+(1+a) / 3),.int 24,.int (c / 2)],.tup [.int (1+(1+a) / 3),.int (1+(1+b) / 3),.int 12],.tup [.int (1+a),.int (1+b),.int c]]) (.int i)=some r->callD fns (m+2) 40 [scr ns,.int k] st=some (r,st):=λi r hi j=>by
  rw[<- hi]at j
  by_cases z:e<3
  ·rw[Z0 z]at j;exact qzz 0 [38] 2 (λq=>_/\_/\_/\_/\_/\_/\_/\_/\_/\q) [.c (.int a,st),.c (.int b,st),.c (.int c,st),.l [.tup [.int 24,.int (1+(1+b) / 3),.int (c / 2)],.tup [.int (1+(1+a) / 3),.int 24,.int (c / 2)]],.l [.tup [.int (1+(1+a) / 3),.int (1+(1+b) / 3),.int 12],.tup [.int (1+a),.int (1+b),.int c]],.k,.l [.tup [.int 24,.int (1+(1+b) / 3),.int (c / 2)],.tup [.int (1+(1+a) / 3),.int 24,.int (c / 2)],.tup [.int (1+(1+a) / 3),.int (1+(1+b) / 3),.int 12],.tup [.int (1+a),.int (1+b),.int c]],.c (.int e,st),.b true,.i r] ⟨O,L,J,Z,Y,U,F,Z0 z,j,rfl⟩
  ·rw[Z1 z]at j;exact qzz 0 [38] 2 (λq=>_/\_/\_/\_/\_/\_/\_/\_/\_/\q) [.c (.int a,st),.c (.int b,st),.c (.int c,st),.l [.tup [.int 24,.int (1+(1+b) / 3),.int (c / 2)],.tup [.int (1+(1+a) / 3),.int 24,.int (c / 2)]],.l [.tup [.int (1+(1+a) / 3),.int (1+(1+b) / 3),.int 12],.tup [.int (1+a),.int (1+b),.int c]],.k,.l [.tup [.int 24,.int (1+(1+b) / 3),.int (c / 2)],.tup [.int (1+(1+a) / 3),.int 24,.int (c / 2)],.tup [.int (1+(1+a) / 3),.int (1+(1+b) / 3),.int 12],.tup [.int (1+a),.int (1+b),.int c]],.c (.int e,st),.b false,.i r] ⟨O,L,J,Z,Y,U,F,Z1 z,j,rfl⟩
 by_cases h0:e=0
 ·exact⟨24,1+(1+b) / 3,c / 2,key 0 _ (by subst h0; rfl) rfl,by omega,by omega,by omega,by omega,by omega,by omega⟩
 ·by_cases h1:e=1
  ·exact⟨1+(1+a) / 3,24,c / 2,key 1 _ (by subst h1; rfl) rfl,by omega,by omega,by omega,by omega,by omega,by omega⟩
  ·by_cases h2:e=2
   ·exact⟨1+(1+a) / 3,1+(1+b) / 3,12,key 2 _ (by subst h2; rfl) rfl,by omega,by omega,by omega,by omega,by omega,by omega⟩
   ·exact⟨1+a,1+b,c,key 3 _ (by rw[Z1 (by omega)]; rfl) rfl,by omega,by omega,by omega,by omega,by omega,by omega⟩
theorem qiv(m:Nat)(st:Store)(k:Int):∃T:Int,callD fns (m+2) 41 [scr ns,.int k] st=some (.int T,st)/\1<=T/\T<=400:=by
 obtain⟨a,F,L,J⟩:=dr hn m st k 5 (many:=400) (by decide) (by decide) (by decide);obtain⟨b,z,b1,b2⟩:=dr hn m st k 4 (many:=4) (by decide) (by decide) (by decide);have g:=qzg (st:=st) (ds:=[.int (1+a),.int (1+a % 4),.int (4+a % 50),.int (4+a % 50)]) rfl;have key:∀T:Int,idxD st (.lst [.int (1+a),.int (1+a % 4),.int (4+a % 50),.int (4+a % 50)]) (.int b)=some (.int T)->callD fns (m+2) 41 [scr ns,.int k] st=some (.int T,st):=λT h=>
  qzz 0 [38] 2 (λq=>_/\_/\_/\_/\q) [.c (.int a,st),.l [.int (1+a),.int (1+a % 4),.int (4+a % 50),.int (4+a % 50)],.c (.int b,st),.i (.int T)] ⟨F,g,z,h,rfl⟩
 have j:b=0\/b=1\/b=2\/b=3:=by omega
 rcases j with rfl|rfl|rfl|rfl
 ·exact⟨1+a,key _ rfl,by omega,by omega⟩
 ·exact⟨1+a % 4,key _ rfl,by omega,by omega⟩
 ·exact⟨4+a % 50,key _ rfl,by omega,by omega⟩
 ·exact⟨4+a % 50,key _ rfl,by omega,by omega⟩
theorem qim(m:Nat)(st:Store)(k j:Int){W H:Int}(L:0<=j)(J:j<1000)(z:0<W)(F:0<H):∃g:Int×Int×Int×Int,callD fns (m+2) 42 [scr ns,.int k,.int j,.int W,.int H] st=some (rD g,st)/\0<=g.1/\g.1<=g.2.2.1/\g.2.2.1<W/\0<=g.2.1/\g.2.1<=g.2.2.2/\g.2.2.2<H:=by
 obtain⟨a,Z,a1,a2⟩:=dr hn m st k j (many:=W) L (by omega) z;obtain⟨b,Y,b1,b2⟩:=dr hn m st k (j+1) (many:=W) (by omega) (by omega) z;obtain⟨c,U,c1,c2⟩:=dr hn m st k (j+2) (many:=H) (by omega) (by omega) F;obtain⟨e,O,e1,e2⟩:=dr hn m st k (j+3) (many:=H) (by omega) (by omega) F;have so:∀x y:Int,bfun st .sorted [.lst [.int x,.int y]]=some (.loc st.length,st++[.lst true [.int (min x y),.int (max x y)]]):=λx y=>by
  show some (alloc st (.lst true ((sortInt [x,y]).map .int)))=_;have:sortInt [x,y]=[min x y,max x y]:=by
   show(if x<=y then [x,y] else [y,x])=_
   by_cases h:x<=y
   ·rw[Z3 h,Int.min_eq_left h,Int.max_eq_right h]
   ·rw[Z2 h,Int.min_eq_right (by omega),Int.max_eq_left (by omega)]
  rw[this]
  rfl
 refine⟨(min a b,min c e,max a b,max c e),?_,by simp only; omega,by simp only; omega,by simp only; omega,by simp only; omega,by simp only; omega,by simp only; omega⟩;exact qzz 0 [38] 2 (λq=>_/\_/\_/\_/\_/\_/\_/\_/\_/\_/\q) [.c (.int a,st),.c (.int b,st),.l [.int a,.int b],.c (.loc st.length,st++[.lst true [.int (min a b),.int (max a b)]]),.l [.int (min a b),.int (max a b)],.c (.int c,st),.c (.int e,st),.l [.int c,.int e],.c (.loc st.length,st++[.lst true [.int (min c e),.int (max c e)]]),.l [.int (min c e),.int (max c e)]] ⟨Z,Y,qzg (st:=st) (ds:=[.int a,.int b]) rfl,so a b,qzg (st:=st) (ds:=[.int (min a b),.int (max a b)]) rfl,U,O,qzg (st:=st) (ds:=[.int c,.int e]) rfl,so c e,qzg (st:=st) (ds:=[.int (min c e),.int (max c e)]) rfl,rfl⟩
theorem who_ok(m:Nat)(st:Store)(k j:Int)(F:0<=j)(z:j<1000):∃o:Int,callD fns (m+2) 45 [scr ns,.int k,.int j] st=some (.int o,st)/\1<=o/\o<=40:=by
 obtain⟨a,L,U,O⟩:=dr hn m st k (j+1) (many:=6) (by omega) (by omega) (by decide);have g:=qzg (st:=st) (ds:=[.int 40,.int 4,.int 4,.int 4,.int 4,.int 4]) rfl;have ⟨w,hw,w1,w2⟩:∃w:Int,idxD st (.lst [.int 40,.int 4,.int 4,.int 4,.int 4,.int 4]) (.int a)=some (.int w)/\0<w/\w<=40:=by
  have:a=0\/a=1\/a=2\/a=3\/a=4\/a=5:=by omega
  rcases this with rfl|rfl|rfl|rfl|rfl|rfl
  ·exact⟨40,rfl,by decide,by decide⟩
  all_goals exact⟨4,rfl,by decide,by decide⟩
 obtain⟨b,J,b1,b2⟩:=dr hn m st k j (many:=w) F (by omega) w1;exact⟨1+b,qzz 0 [38] 2 (λq=>_/\_/\_/\_/\q) [.l [.int 40,.int 4,.int 4,.int 4,.int 4,.int 4],.c (.int a,st),.i (.int w),.c (.int b,st)] ⟨g,L,hw,J,rfl⟩,by omega,by omega⟩
end
section
variable {ns:List Int}(hn:ns.length<=63)
include hn
theorem dr'(m:Nat)(st:Store)(k j:Int){many:Int}(J:0<=j)(z:j<100000)(F:0<many):callD fns (m+1) 38 [scr ns,.int k,.int j,.int many] st=some (.int (qqz ns k j many),st):=
 qd4 (f:=38) (show fns[38]?=some qge by kernel_rfl) (by omega) hn J z F
omit hn in
noncomputable def stT(d:Int):Int:=[0,1,2,3,4,0,0].getD d.toNat 0
theorem qfy(m:Nat)(st:Store)(k j:Int){P:Int}(hj:0<=j)(Z:j<1000)(h0:0<=P)(h1:P<=12):∃z:List Int,callD fns (m+2) 43 [scr ns,.int k,.int j,.int P] st=some (.tup (z.map .int),st)/\(z.length:Int)=P/\∀s∈z,0<=s/\s<=4:=by
 have U:(List.range P.toNat).map (λ(i:Nat)=>D.int (0+i))=(List.range P.toNat).map λ(i:Nat)=>D.int i:=Qq6 λi _=>by simp
 have h:=qxe (c:=callD fns (m+1)) (τ:=[some (scr ns),some (.int k),some (.int j),some (.int P)]) (st:=st) (t:=.var 0) (it:=.rng1 (.var 3)) (test:=none) (elt:=.idx (.gc (.lst [.lit (.int 0),.lit (.int 1),.lit (.int 2),.lit (.int 3),.lit (.int 4),.lit (.int 0),.lit (.int 0)])) (.call 38 [.var 3,.var 2,.bin .Add (.var 1) (.var 0),.lit (.int 7)])) (sr:=[none,some 2,some 1,some 0]) (s:=.rng 0 P.toNat) (ds:=(List.range P.toNat).map λ(i:Nat)=>D.int i) (λd=>match d with|.int i=>some (.int (stT (qqz ns k (j+i) 7)))|_=>none) (λτ=>∃a,τ=[a,some (.int j),some (.int k),some (scr ns)])
  (by
   have e:(RL (callD fns (m+1))).ev [some (scr ns),some (.int k),some (.int j),some (.int P)] st (.var 3)=some (.int P,st):=qk9 _ _ _ _ _ rfl;show((RL (callD fns (m+1))).ev _ _ (.var 3)).bind _=_;rw[e];show(if big P=true then none else some (Src.rng 0 P.toNat,st))=_
   rw[Z2 (by unfold big; simp; omega)])
  (λi=>by rw[qat,U]) (by simp[Src.size]) (by simp; unfold lim; omega) ⟨none,rfl⟩ (λτ d hd Y=>by
   obtain⟨a,rfl⟩:=Y;obtain⟨i,hi,rfl⟩:=Qqk.mp hd;have hi:=Qxv.mp hi;refine⟨[some (.int (i:Nat)),some (.int j),some (.int k),some (scr ns)],?_,some (.int (i:Nat)),rfl⟩;have J:=qvf ns k (j+(i:Nat)) (many:=7) (by decide);have F:=qvg ns k (j+(i:Nat)) (many:=7) (by decide);have hd:=dr' hn m st k (j+(i:Nat)) (many:=7) (by omega) (by omega) (by decide);have L:idxD st (.lst [.int 0,.int 1,.int 2,.int 3,.int 4,.int 0,.int 0]) (.int (qqz ns k (j+(i:Nat)) 7))=some (.int (stT (qqz ns k (j+(i:Nat)) 7))):=by
    generalize qqz ns k (j+(i:Nat)) 7=v at J F;have:v=0\/v=1\/v=2\/v=3\/v=4\/v=5\/v=6:=by omega
    rcases this with rfl|rfl|rfl|rfl|rfl|rfl|rfl<;>rfl
   exact qw2 rfl (qzi (k:=m) 0 [38] 1 (λq=>_/\_/\_/\q) [.l [.int 0,.int 1,.int 2,.int 3,.int 4,.int 0,.int 0],.c (.int (qqz ns k (j+(i:Nat)) 7),st),.i (.int (stT (qqz ns k (j+(i:Nat)) 7)))] ⟨qzg (st:=st) (ds:=[.int 0,.int 1,.int 2,.int 3,.int 4,.int 0,.int 0]) rfl,hd,L,rfl⟩))
 have e:((List.range P.toNat).map λ(i:Nat)=>D.int i).filterMap (λd=>match d with|.int i=>some (D.int (stT (qqz ns k (j+i) 7)))|_=>none)=((List.range P.toNat).map λ(i:Nat)=>stT (qqz ns k (j+(i:Nat)) 7)).map .int:=by
  rw[Qx1,Qzk];exact List.filterMap_eq_map (f:=λ(i:Nat)=>D.int (stT (qqz ns k (j+(i:Nat)) 7)))▸rfl
 rw[e]at h;refine⟨(List.range P.toNat).map λ(i:Nat)=>stT (qqz ns k (j+(i:Nat)) 7),qzz 0 [] 2 (λq=>_/\_/\q) [.c (.loc st.length,st++[.lst true (((List.range P.toNat).map λ(i:Nat)=>stT (qqz ns k (j+(i:Nat)) 7)).map .int)]),.l (((List.range P.toNat).map λ(i:Nat)=>stT (qqz ns k (j+(i:Nat)) 7)).map .int)] ⟨h,qzg (st:=st) (nlI ((List.range P.toNat).map λ(i:Nat)=>stT (qqz ns k (j+(i:Nat)) 7))),rfl⟩,by simp; omega,λs O=>?_⟩;obtain⟨i,_,rfl⟩:=Qqk.mp O;have J:=qvf ns k (j+(i:Nat)) (many:=7) (by decide);have F:=qvg ns k (j+(i:Nat)) (many:=7) (by decide);generalize qqz ns k (j+(i:Nat)) 7=v at J F;have:v=0\/v=1\/v=2\/v=3\/v=4\/v=5\/v=6:=by omega
 rcases this with rfl|rfl|rfl|rfl|rfl|rfl|rfl<;>decide
omit hn in
theorem flat_c(ps:List (Int×Int)):flats 9 (ps.map cD)=true:=by
 induction ps with
 |nil=>rfl
 |cons p r j=>show(flat 9 (cD p)&&flats 9 (r.map cD))=true; rw[j]; rfl
omit hn in
theorem any_c(ps:List (Int×Int))(p:Int×Int):((ps.map cD).any λy=>eqT y (cD p))=decide (p∈ps):=by
 induction ps with
 |nil=>rfl
 |cons a r j=>
  have e:eqT (cD a) (cD p)=decide (p=a):=by
   show((a.1==p.1)&&((a.2==p.2)&&true))=_;rw[Qkf,Qzm];simp only[Qqm,beq_iff_eq,decide_eq_true_eq];exact⟨λh=>Prod.ext h.1.symm h.2.symm,λh=>by rw[h]; exact⟨rfl,rfl⟩⟩
  rw[Qqy,Qxj,j,e];simp only[Qqc]
  by_cases h1:p=a<;>by_cases h2:p∈r<;>simp[h1,h2]
theorem qlj(m:Nat)(st:Store)(k j:Int){W H P:Int}(hj:0<=j)(a4:j<1000)(w1:1<=W)(w2:W<=24)(h1:1<=H)(h2:H<=24):∃ps:List (Int×Int),callD fns (m+2) 44 [scr ns,.int k,.int j,szD W H P] st=some (.tup (ps.map cD),st++[.lst true (ps.map cD)])/\1<=ps.length/\ps.length<=16/\ps.Nodup/\∀p∈ps,Cin W H p:=by
 have hc:0<W*H:=Int.mul_pos (by omega) (by omega);have a5:W*H<=24*24:=Int.mul_le_mul w2 h2 (by omega) (by omega);obtain⟨f,hf,f1,f2⟩:=dr hn m st k j (many:=W*H) hj (by omega) hc;obtain⟨g,hg,g1,g2⟩:=dr hn m st k (j+1) (many:=W*H) (by omega) (by omega) hc;obtain⟨a,ha,a1,a2⟩:=dr hn m (st++[.lst true []]) k (j+2) (many:=4) (by omega) (by omega) (by decide);have ⟨w,hw,x1,x2⟩:∃w:Int,idxD (st++[.lst true []]) (.lst [.int 16,.int 4,.int 4,.int 4]) (.int a)=some (.int w)/\0<w/\w<=16:=by
  have:a=0\/a=1\/a=2\/a=3:=by omega
  rcases this with rfl|rfl|rfl|rfl
  ·exact⟨16,rfl,by decide,by decide⟩
  all_goals exact⟨4,rfl,by decide,by decide⟩
 obtain⟨b,hb,b1,b2⟩:=dr hn m (st++[.lst true []]) k (j+3) (many:=w) (by omega) (by omega) x1;have a3:(RL (callD fns (m+1))).ev [some (scr ns),some (.int k),some (.int j),some (szD W H P),some (.int (W*H)),some (.int f),some (.int (1+g)),some (.loc st.length),none,none] (st++[.lst true []]) (.bin .Add (.lit (.int 1)) (.call 38 [.var 0,.var 1,.bin .Add (.var 2) (.lit (.int 3)),.idx (.gc (.lst [.lit (.int 16),.lit (.int 4),.lit (.int 4),.lit (.int 4)])) (.call 38 [.var 0,.var 1,.bin .Add (.var 2) (.lit (.int 2)),.lit (.int 4)])]))=some (.int (1+b),st++[.lst true []]):=
  qzi (k:=m) 0 [38] 1 (λq=>_/\_/\_/\_/\q) [.l [.int 16,.int 4,.int 4,.int 4],.c (.int a,st++[.lst true []]),.i (.int w),.c (.int b,st++[.lst true []])] ⟨qzg (st:=st++[.lst true []]) (ds:=[.int 16,.int 4,.int 4,.int 4]) rfl,ha,hw,hb,rfl⟩
 obtain⟨F,st',h3,k',o,o2,ps,rfl,rfl,p1,p2,p3,p4⟩:=qvd (c:=callD fns (m+1)) (τ:=[some (scr ns),some (.int k),some (.int j),some (szD W H P),some (.int (W*H)),some (.int f),some (.int (1+g)),some (.loc st.length),none,none]) (st:=st++[.lst true []]) (it:=.rng1 (.bin .Add (.lit (.int 1)) (.call 38 [.var 0,.var 1,.bin .Add (.var 2) (.lit (.int 3)),.idx (.gc (.lst [.lit (.int 16),.lit (.int 4),.lit (.int 4),.lit (.int 4)])) (.call 38 [.var 0,.var 1,.bin .Add (.var 2) (.lit (.int 2)),.lit (.int 4)])]))) (s:=.rng 0 (1+b).toNat) (ds:=(List.range (1+b).toNat).map λ(i:Nat)=>D.int (0+i)) (t:=.var 8)
  (body:=[.set (.var 9) (.bin .Mod (.bin .Add (.var 5) (.bin .Mult (.var 8) (.var 6))) (.var 4)),.ite (.cmp .NotIn (.tup [.bin .Mod (.var 9) (.idx (.var 3) (.lit (.int 0))),.bin .FloorDiv (.var 9) (.idx (.var 3) (.lit (.int 0)))]) (.var 7)) [.expr (.meth (.var 7) .append [.tup [.bin .Mod (.var 9) (.idx (.var 3) (.lit (.int 0))),.bin .FloorDiv (.var 9) (.idx (.var 3) (.lit (.int 0)))]])] []])
  (λi F st'=>i<=(1+b).toNat/\∃o o2 ps,F=[some (scr ns),some (.int k),some (.int j),some (szD W H P),some (.int (W*H)),some (.int f),some (.int (1+g)),some (.loc st.length),o,o2]/\st'=st++[.lst true ((ps:List (Int×Int)).map cD)]/\ps.length<=i/\(0<i->1<=ps.length)/\ps.Nodup/\∀p∈ps,Cin W H p)
  (by
   show((RL (callD fns (m+1))).ev _ _ _).bind _=_;rw[a3];show(if big (1+b)=true then none else some (Src.rng 0 (1+b).toNat,_))=_
   rw[Z2 (by unfold big; simp; omega)])
  (by simp[Src.size]) (λi F st' _=>qat _ _ _) ⟨Qzu _,none,none,[],rfl,rfl,by simp,by simp,List.nodup_nil,by simp⟩ (λi F st' d hd O=>by
   obtain⟨_,o,o2,ps,rfl,rfl,p1,p2,p3,p4⟩:=O;rw[Qqa]at hd;obtain⟨i',U,rfl⟩:=Qqi.mp hd;have a0:i<(1+b).toNat:=by
    have:=(Qqv.mp U).1;simpa using this
   rw[Qxn a0]at U;cases U;generalize L:(f+(0+(i:Int))*(1+g)) % (W*H)=pl;have l1:0<=pl:=by rw[<- L]; exact Int.emod_nonneg _ (by omega)
   have l2:pl<W*H:=by rw[<- L]; exact Int.emod_lt_of_pos _ hc
   have q1:mulOk (0+(i:Int)) (1+g)=true:=qw9 (by omega) (by omega);have q2:binop (st++[.lst true (ps.map cD)]) .Mod (.int (f+(0+(i:Int))*(1+g))) (.int (W*H))=some (.int pl,st++[.lst true (ps.map cD)]):=by rw[bMo _ _ hc,L]
   have q3:binop (st++[.lst true (ps.map cD)]) .Mod (.int pl) (.int W)=some (.int (pl % W),st++[.lst true (ps.map cD)]):=bMo _ _ (by omega);have q4:binop (st++[.lst true (ps.map cD)]) .FloorDiv (.int pl) (.int W)=some (.int (pl / W),st++[.lst true (ps.map cD)]):=bDi _ _ (by omega) (by omega);have g0:=gl (st:=st) (c:=.lst true (ps.map cD));have J:cmpD (st++[.lst true (ps.map cD)]) .NotIn (cD (pl % W,pl / W)) (.loc st.length)=some (!decide ((pl % W,pl / W)∈ps)):=by
    have e:inD (st++[.lst true (ps.map cD)]) (cD (pl % W,pl / W)) (.loc st.length)=some (decide ((pl % W,pl / W)∈ps)):=by
     show(seqAt (st++[.lst true (ps.map cD)]) (.loc st.length)).bind _=_;have:seqAt (st++[.lst true (ps.map cD)]) (.loc st.length)=some (ps.map cD):=by show listAt _ _=_; unfold listAt; rw[gl]
     rw[this];show(if flat 9 (cD (pl % W,pl / W))&&flats 9 (ps.map cD) then some ((ps.map cD).any λy=>eqT y (cD (pl % W,pl / W))) else none)=_;rw[flat_c,any_c]
     rfl
    show(inD _ _ _).map (!·)=_;rw[e]
    rfl
   by_cases Y:(pl % W,pl / W)∈ps
   ·rw[Z0 Y]at J;refine⟨_,_,qzb (k:=m) 0 [] 1 (λq=>_/\_/\_/\_/\_/\q) [.b true,.c (.int pl,st++[.lst true (ps.map cD)]),.c (.int (pl % W),st++[.lst true (ps.map cD)]),.c (.int (pl / W),st++[.lst true (ps.map cD)]),.b false] (r:=(.nx [some (scr ns),some (.int k),some (.int j),some (szD W H P),some (.int (W*H)),some (.int f),some (.int (1+g)),some (.loc st.length),some (.int (0+(i:Int))),some (.int pl)],st++[.lst true (ps.map cD)])) ⟨q1,q2,q3,q4,J,rfl⟩,by omega,some (.int (0+(i:Int))),some (.int pl),ps,rfl,rfl,by omega,λ_=>Qxo.mpr (λz=>by rw[z]at Y; cases Y),p3,p4⟩
   ·rw[Z1 Y]at J;have Z:(ps.map cD).length<lim:=by rw[Qqx]; unfold lim; omega
    refine⟨_,_,qzb (k:=m) 0 [] 1 (λq=>_/\_/\_/\_/\_/\_/\_/\_/\_/\_/\q) [.b true,.c (.int pl,st++[.lst true (ps.map cD)]),.c (.int (pl % W),st++[.lst true (ps.map cD)]),.c (.int (pl / W),st++[.lst true (ps.map cD)]),.b true,.r (.lst true (ps.map cD)),.c (.int (pl % W),st++[.lst true (ps.map cD)]),.c (.int (pl / W),st++[.lst true (ps.map cD)]),.r (.lst true (ps.map cD)),.b true] (r:=(.nx [some (scr ns),some (.int k),some (.int j),some (szD W H P),some (.int (W*H)),some (.int f),some (.int (1+g)),some (.loc st.length),some (.int (0+(i:Int))),some (.int pl)],(st++[Cell.lst true (ps.map cD)]).set st.length (.lst true (ps.map cD++[cD (pl % W,pl / W)])))) ⟨q1,q2,q3,q4,J,g0,q3,q4,g0,Z0 Z,rfl⟩,by omega,some (.int (0+(i:Int))),some (.int pl),ps++[(pl % W,pl / W)],rfl,by rw[sl]; simp,by simp; omega,λ_=>by simp,?_,λp O=>?_⟩
    ·rw[Qxi];exact⟨p3,by simp,λa ha b hb=>by cases Qqb.mp hb; exact λz=>Y (z▸ha)⟩
    ·rcases Qqt.mp O with O|O
     ·exact p4 p O
     ·cases Qqb.mp O;refine⟨Int.emod_nonneg _ (by omega),Int.emod_lt_of_pos _ (by omega),Int.ediv_nonneg l1 (by omega),?_⟩
      exact Int.ediv_lt_of_lt_mul (by omega) (by rw[Int.mul_comm]; exact l2))
 rw[Qqx,List.length_range]at p1 p2 k';refine⟨ps,?_,p2 (by omega),by omega,p3,p4⟩;have q5:mulOk W H=true:=qw9 (by omega) (by omega);exact qzz (k:=m) 0 [38] 2 (λq=>_/\_/\_/\_/\_/\q) [.b true,.c (.int f,st),.c (.int g,st),.s (.nx [some (scr ns),some (.int k),some (.int j),some (szD W H P),some (.int (W*H)),some (.int f),some (.int (1+g)),some (.loc st.length),o,o2],st++[.lst true (ps.map cD)]),.r (.lst true (ps.map cD))] ⟨q5,hf,hg,h3,gl (st:=st) (c:=.lst true (ps.map cD)),rfl⟩
end
inductive Fa where
 |vein (ss:List Int) (ps:List (Int×Int))
 |stake (o:Int) (g:Int×Int×Int×Int)
 |work (n:Int)
 |give (n:Int)
noncomputable def Fa.d:Fa->D
 |.vein ss ps=>.tup [sO "vein",.tup (ss.map .int),.tup (ps.map cD)]
 |.stake o g=>.tup [sO "stake",.int o,.int g.1,.int g.2.1,.int g.2.2.1,.int g.2.2.2]
 |.work n=>.tup [sO "work",.int n]
 |.give n=>.tup [sO "give",.int n]
abbrev Pl:=List (Int×Fa)
noncomputable def lastAt(s:List Int)(d:Int):Int:=s.getD d.toNat 0
theorem qxm{y d:Int}(j:d<=401):lastAt (List.replicate 402 y) d=y:=by
 unfold lastAt;rw[Qxq,Qxk,Z3 (by omega)]
 rfl
theorem qkm{s:List Int}{day y d:Int}(j:s.length=402)(F:0<=day)(z:day<=401)(L:0<=d)(J:d<=401):lastAt (s.take day.toNat++List.replicate (402 - day).toNat y) d=if d<day then lastAt s d else y:=by
 unfold lastAt;rw[Qxq,Qxq,List.getElem?_append,Qq9]
 split
 ·rename_i h;rw[Qx0 (by omega),Z3 (by omega)]
 ·rename_i h;rw[Z2 (by omega),Qxk,Z3 (by omega)]
  rfl
theorem qln{s:List Int}{day y:Int}(j:s.length=402)(F:0<=day)(z:day<=401):(s.take day.toNat++List.replicate (402 - day).toNat y).length=402:=by
 rw[Qqo,Qq9,Qxb];omega
abbrev KS:=List Int×Option Int
noncomputable def kst(T n:Int)(s:KS)(p:Int×Fa):KS:=match p.2 with
 |.work k=>if k=n/\p.1<=lastAt s.1 p.1/\s.2=none then(s.1.take p.1.toNat++List.replicate (402 - p.1).toNat (p.1+T),s.2) else s
 |.give k=>if k=n/\p.1<=lastAt s.1 p.1/\s.2=none then(s.1,some p.1) else s
 |_=>s
noncomputable def kept(T n:Int)(pl:Pl):KS:=pl.foldl (kst T n) (List.replicate 402 (n+T),none)
theorem qz8(T n:Int)(pl:Pl)(p:Int×Fa):kept T n (pl++[p])=kst T n (kept T n pl) p:=by
 unfold kept;rw[List.foldl_append]
 rfl
noncomputable def mx(i j:Int):Int:=if j > i then j else i
noncomputable def qqd(g:Int×Int×Int×Int)(n:Int)(K:KS)(p:Int×Fa):Option Int:=match p.2 with
 |.vein _ ps=>if hasB g ps=true/\mx p.1 n<=lastAt K.1 (mx p.1 n)/\(K.2=none\/mx p.1 n<K.2.getD 0) then some (mx p.1 n) else none
 |_=>none
noncomputable def qz6(g:Int×Int×Int×Int)(n:Int)(K:KS)(pl:Pl):Option Int:=pl.findSome? (qqd g n K)
structure PW (d:Int) (pl:Pl):Prop where
 lo:0<=d
 hi:d<=400
 dy:∀p∈pl,1<=p.1/\p.1<=d
 nm:∀p∈pl,∀k,(p.2=.work k\/p.2=.give k)->k<p.1
 up:(pl.map (·.1)).Pairwise (· < ·)
theorem qjz{T n d:Int}{pl:Pl}(h:PW d pl):(kept T n pl).1.length=402:=by
 have:∀(pl:Pl) (s:KS),s.1.length=402->(∀p∈pl,1<=p.1/\p.1<=d)->(pl.foldl (kst T n) s).1.length=402:=λpl=>by
  induction pl with
  |nil=>exact λs h _=>h
  |cons p r F=>
   intro s j z;refine F _ ?_ λq J=>z q (.tail _ J);have:=z p (.head _);have:=h.hi;unfold kst
   split
   ·split
    ·exact qln j (by omega) (by omega)
    ·exact j
   ·split<;>exact j
   ·exact j
 exact this pl _ (by simp) h.dy
theorem qgz{T n d:Int}{pl:Pl}(h:PW d pl)(O:d<n):kept T n pl=(List.replicate 402 (n+T),none):=by
 have:∀(pl:Pl) (s:KS),(∀p∈pl,1<=p.1/\p.1<=d)->(∀p∈pl,∀k,(p.2=.work k\/p.2=.give k)->k<p.1)->pl.foldl (kst T n) s=s:=λpl=>by
  induction pl with
  |nil=>exact λs _ _=>rfl
  |cons p r L=>
   intro s F J;rw[Qxs];have e:kst T n s p=s:=by
    have h1:=F p (.head _);have h2:=J p (.head _);unfold kst
    split
    ·rename_i k j;have:=h2 k (.inl j);rw[Z2 (by omega)]
    ·rename_i k j;have:=h2 k (.inr j);rw[Z2 (by omega)]
    ·rfl
   rw[e];exact L s (λq z=>F q (.tail _ z)) λq z=>J q (.tail _ z)
 exact this pl _ h.dy h.nm
theorem qls{T n d:Int}{s:KS}{p:Int×Fa}(j:s.1.length=402)(z:0<=d)(hd:d<p.1)(F:p.1<=400):lastAt (kst T n s p).1 d=lastAt s.1 d:=by
 unfold kst
 split
 ·split
  ·dsimp only;rw[qkm j (by omega) (by omega) z (by omega),Z3 hd]
  ·rfl
 ·split<;>rfl
 ·rfl
theorem qf3(i j:Int):(j<=i/\mx i j=i)\/(i<j/\mx i j=j):=by
 unfold mx
 split
 ·exact .inr ⟨by omega,rfl⟩
 ·exact .inl ⟨by omega,rfl⟩
structure CI (T d:Int) (pl:Pl) (c:Cl):Prop where
 lo:1<=c.nm
 hi:c.nm<=d
 st:∃o,(c.nm,Fa.stake o c.g)∈pl
 gv:c.gv=(kept T c.nm pl).2
 gl:∀x,c.gv=some x->x<=d
 la:∀e,d<=e->e<=401->lastAt (kept T c.nm pl).1 e=c.la
 v:c.v=qz6 c.g c.nm (kept T c.nm pl) pl
 ch:Ch T c.ds
 ne:c.ds≠[]
 ge:∀h:c.ds≠[],c.ds.getLast h+T=c.la
theorem qbp{g:Int×Int×Int×Int}{T n d:Int}{pl:Pl}{p:Int×Fa}(h:PW d pl)(U:0<=n)(hn:n<=d)(hd:d<p.1)(O:p.1<=400)(Y:∀x,(kept T n (pl++[p])).2=some x->(kept T n pl).2=some x\/x=p.1)(j:∀x,(kept T n pl).2=some x->(kept T n (pl++[p])).2=some x):∀q∈pl,qqd g n (kept T n (pl++[p])) q=qqd g n (kept T n pl) q:=λq L=>by
 have h1:=h.dy q L;unfold qqd
 split
 ·have J:0<=mx q.1 n/\mx q.1 n<=d:=by rcases qf3 q.1 n with⟨_,e⟩|⟨_,e⟩<;>rw[e]<;>omega
  have e1:lastAt (kept T n (pl++[p])).1 (mx q.1 n)=lastAt (kept T n pl).1 (mx q.1 n):=by
   rw[qz8];exact qls (qjz h) J.1 (by omega) O
  rw[e1];have e2:((kept T n (pl++[p])).2=none\/mx q.1 n<(kept T n (pl++[p])).2.getD 0)↔((kept T n pl).2=none\/mx q.1 n<(kept T n pl).2.getD 0):=by
   cases F:(kept T n pl).2 with
   |some x=>rw[j x F]
   |none=>
    cases Z:(kept T n (pl++[p])).2 with
    |none=>rfl
    |some x=>
     rcases Y x Z with z|z
     ·rw[F]at z; cases z
     ·subst z;simp only[Qxg,reduceCtorEq,false_or,true_or,iff_true];omega
  simp only[e2]
 ·rfl
theorem qqk{α j:Type}{f g:α->Option j}:∀{l:List α},(∀x∈l,f x=g x)->l.findSome? f=l.findSome? g
 |[],_=>rfl
 |a::r,h=>by
  rw[Qz7,Qz7,h a (.head _),qqk λx z=>h x (.tail _ z)]
theorem qzs{g:Int×Int×Int×Int}{n:Int}{K:KS}{pl:Pl}{p:Int×Fa}:qz6 g n K (pl++[p])=(qz6 g n K pl).or (qqd g n K p):=by
 unfold qz6;rw[List.findSome?_append];rw[Qz7,List.findSome?_nil];cases qqd g n K p<;>rfl
theorem over_iff{day:Int}{c:Cl}:¬ over day c↔c.gv=none/\day<=c.la:=by
 unfold over;rw[not_or,Decidable.not_not,Int.not_lt]
theorem qh2{day:Int}{c:Cl}:stW c day = "unvested" ↔ c.v=none/\c.gv=none/\day<=c.la:=by
 constructor
 ·intro h;rcases qzu c day with⟨_,a,b,e⟩|⟨e,_⟩|⟨e,_⟩|⟨e,_⟩
  ·exact⟨a,b,e⟩
  all_goals rw[e]at h; exact absurd h (by decide)
 ·rintro⟨a,b,e⟩;rcases qzu c day with⟨h,_⟩|⟨_,h,_⟩|⟨_,h⟩|⟨_,h,_⟩
  ·exact h
  ·exact absurd a h
  ·exact absurd b h
  ·omega
theorem hit_iff{day:Int}{ps:List (Int×Int)}{c:Cl}:hit day ps c=true↔(c.v=none/\c.gv=none/\day<=c.la)/\hasB c.g ps=true:=by
 unfold hit;rw[Qqm,decide_eq_true_eq,qh2]
noncomputable def qxq(T day:Int)(f:Fa)(c:Cl):Cl:=match f with
 |.vein _ ps=>vst day ps c
 |.stake _ _=>c
 |.work k=>if k=c.nm/\c.gv=none/\day<=c.la then { c with ds:=c.ds++[day],la:=day+T } else c
 |.give k=>if k=c.nm/\c.gv=none/\day<=c.la then { c with gv:=some day } else c
section
variable {T d day:Int}{pl:Pl}{c:Cl}
theorem CI.up(h:CI T d pl c)(w:PW d pl)(hd:d<day)(J:day<=400){f:Fa}(j:kept T c.nm (pl++[(day,f)])=kept T c.nm pl)(ev:qqd c.g c.nm (kept T c.nm pl) (day,f)=none):CI T day (pl++[(day,f)]) c:=by
 refine⟨h.lo,by have:=h.hi; omega,?_,j▸h.gv,λx z=>by have:=h.gl x z; omega,λe h1 h2=>j▸h.la e (by omega) h2,?_,h.ch,h.ne,h.ge⟩
 ·obtain⟨o,F⟩:=h.st;exact⟨o,Qzf _ F⟩
 ·rw[j,qzs,ev,Qjg];exact h.v
theorem CI.step(h:CI T d pl c)(w:PW d pl)(hd:d<day)(Z:day<=400)(f:Fa):CI T day (pl++[(day,f)]) (qxq T day f c):=by
 have U:=h.la day (by omega) (by omega);have O:=h.gv;have a0:=h.lo;have a1:=h.hi;have L:∀{c':Cl},c'.nm=c.nm->c'.g=c.g->∃o,(c'.nm,Fa.stake o c'.g)∈pl++[(day,f)]:=λe1 e2=>by
  obtain⟨o,ho⟩:=h.st;exact⟨o,by rw[e1,e2]; exact Qzf _ ho⟩
 cases f with
 |stake o g=>exact h.up w hd Z (by rw[qz8]; rfl) rfl
 |vein ss ps=>
  have Y:kept T c.nm (pl++[(day,Fa.vein ss ps)])=kept T c.nm pl:=by rw[qz8]; rfl
  have em:mx day c.nm=day:=by rcases qf3 day c.nm with⟨_,e⟩|⟨_,e⟩<;>omega
  have ev:qqd c.g c.nm (kept T c.nm pl) (day,Fa.vein ss ps)=if hasB c.g ps=true/\c.gv=none/\day<=c.la then some day else none:=by
   show(if _ then _ else _)=_;dsimp only;rw[em,U,<- O];refine ite_congr (propext ?_) (λ_=>rfl) λ_=>rfl;constructor
   ·rintro⟨a,b,e⟩;refine⟨a,?_,b⟩;rcases e with e|e
    ·exact e
    ·cases j:c.gv with
     |none=>rfl
     |some x=>
      rw[j,Qxg]at e;have:=h.gl x j;omega
   ·exact λ⟨a,b,e⟩=>⟨a,e,.inl b⟩
  show CI T day _ (vst day ps c);unfold vst
  by_cases hh:hit day ps c=true
  ·rw[Z3 hh];obtain⟨⟨v0,g0,l0⟩,b0⟩:=hit_iff.mp hh;refine⟨h.lo,by show c.nm<=day; omega,L rfl rfl,Y▸h.gv,λx j=>by have:=h.gl x j; omega,λe h1 h2=>Y▸h.la e (by omega) h2,?_,h.ch,h.ne,h.ge⟩;show some day=qz6 c.g c.nm (kept T c.nm (pl++[(day,Fa.vein ss ps)])) _;rw[Y,qzs,<- h.v,v0,ev,Z3 ⟨b0,g0,l0⟩]
   rfl
  ·rw[Z2 hh];refine⟨h.lo,by omega,L rfl rfl,Y▸h.gv,λx j=>by have:=h.gl x j; omega,λe h1 h2=>Y▸h.la e (by omega) h2,?_,h.ch,h.ne,h.ge⟩;rw[Y,qzs,<- h.v,ev]
   cases hv:c.v with
   |some x=>rfl
   |none=>
    rw[Z2 λz=>hh (hit_iff.mpr ⟨⟨hv,z.2.1,z.2.2⟩,z.1⟩)]
    rfl
 |work k=>
  have J:kept T c.nm (pl++[(day,Fa.work k)])=if k=c.nm/\day<=c.la/\c.gv=none then((kept T c.nm pl).1.take day.toNat++List.replicate (402 - day).toNat (day+T),(kept T c.nm pl).2) else kept T c.nm pl:=by
   rw[qz8,O,<- U]
   rfl
  show CI T day _ (if k=c.nm/\c.gv=none/\day<=c.la then _ else c)
  by_cases F:k=c.nm/\c.gv=none/\day<=c.la
  ·rw[Z3 F];rw[Z3 ⟨F.1,F.2.2,F.2.1⟩]at J;have hw:=w.lo;refine⟨h.lo,by show c.nm<=day; omega,L rfl rfl,?_,λx j=>by have:=h.gl x j; omega,λe h1 h2=>?_,?_,?_,by simp,?_⟩
   ·show c.gv=(kept T c.nm _).2;rw[J];exact h.gv
   ·show lastAt (kept T c.nm _).1 e=day+T;rw[J];dsimp only;rw[qkm (qjz w) (by omega) (by omega) (by omega) h2,Z2 (by omega)]
   ·show c.v=qz6 c.g c.nm (kept T c.nm _) _;rw[qzs];have e2:(kept T c.nm (pl++[(day,Fa.work k)])).2=(kept T c.nm pl).2:=by rw[J]
    rw[show qqd c.g c.nm (kept T c.nm (pl++[(day,Fa.work k)])) (day,Fa.work k)=none from rfl,Qjg];refine h.v.trans (qqk λq hq=>(qbp w (by omega) (by omega) (by show d<day; exact hd) Z (λx j=>.inl (e2▸j)) (λx j=>e2▸j) q hq).symm)
   ·show Ch T (c.ds++[day]);have:=h.ge h.ne;exact h.ch.snoc h.ne (by omega)
   ·intro z;show(c.ds++[day]).getLast z+T=day+T;rw[Qjc _ (by simp)]
    rfl
  ·rw[Z2 F];rw[Z2 λz=>F ⟨z.1,z.2.2,z.2.1⟩]at J;exact h.up w hd Z J rfl
 |give k=>
  have J:kept T c.nm (pl++[(day,Fa.give k)])=if k=c.nm/\day<=c.la/\c.gv=none then((kept T c.nm pl).1,some day) else kept T c.nm pl:=by
   rw[qz8,O,<- U]
   rfl
  show CI T day _ (if k=c.nm/\c.gv=none/\day<=c.la then _ else c)
  by_cases F:k=c.nm/\c.gv=none/\day<=c.la
  ·rw[Z3 F];rw[Z3 ⟨F.1,F.2.2,F.2.1⟩]at J;refine⟨h.lo,by show c.nm<=day; omega,L rfl rfl,?_,λx j=>by cases j; omega,λe h1 h2=>?_,?_,h.ch,h.ne,h.ge⟩
   ·show some day=(kept T c.nm _).2;rw[J]
   ·show lastAt (kept T c.nm _).1 e=c.la;rw[J];exact h.la e (by omega) h2
   ·show c.v=qz6 c.g c.nm (kept T c.nm _) _;rw[qzs,show qqd c.g c.nm (kept T c.nm (pl++[(day,Fa.give k)])) (day,Fa.give k)=none from rfl,Qjg];refine h.v.trans (qqk λq hq=>(qbp w (by omega) (by omega) (by show d<day; exact hd) Z (λx j=>?_) (λx j=>?_) q hq).symm)
    ·rw[J]at j;cases j;exact .inr rfl
    ·rw[<- O,F.2.1]at j;cases j
  ·rw[Z2 F];rw[Z2 λz=>F ⟨z.1,z.2.2,z.2.1⟩]at J;exact h.up w hd Z J rfl
noncomputable def psOf:Int×Fa->List (Int×Int)
 |(_,.vein _ ps)=>ps
 |_=>[]
theorem CI.new(w:PW d pl)(hT:1<=T)(hd:d<day)(U:1<=day)(h4:day<=400)(j:Nat)(o:Int)(g:Int×Int×Int×Int):CI T day (pl++[(day,.stake o g)]) (vst day (pl.flatMap psOf) ⟨day,j,o,g,[day],day+T,none,none⟩):=by
 have F:kept T day (pl++[(day,Fa.stake o g)])=(List.replicate 402 (day+T),none):=by rw[qz8]; exact qgz w hd
 have ev:qz6 g day (List.replicate 402 (day+T),none) (pl++[(day,Fa.stake o g)])=if hasB g (pl.flatMap psOf)=true then some day else none:=by
  rw[qzs,show qqd g day (List.replicate 402 (day+T),none) (day,Fa.stake o g)=none from rfl,Qjg];have O:=w.dy;clear F w;unfold qz6
  induction pl with
  |nil=>rfl
  |cons p r ih=>
   rw[Qz7,ih λq hq=>O q (.tail _ hq),List.flatMap_cons];have J:hasB g (psOf p++r.flatMap psOf)=(hasB g (psOf p)||hasB g (r.flatMap psOf)):=by unfold hasB; rw[List.any_append]
   rw[J];obtain⟨e,f⟩:=p;have he:=O (e,f) (.head _)
   cases f with
   |vein Z ps=>
    have em:mx e day=day:=by rcases qf3 e day with⟨_,z⟩|⟨_,z⟩<;>dsimp only at he<;>omega
    have:qqd g day (List.replicate 402 (day+T),none) (e,Fa.vein Z ps)=if hasB g ps=true then some day else none:=by
     show(if _ then _ else _)=_;dsimp only;rw[em,qxm (by omega)];exact ite_congr (propext ⟨λz=>z.1,λz=>⟨z,by omega,.inl rfl⟩⟩) (λ_=>rfl) λ_=>rfl
    rw[this]
    show _=if (hasB g ps||_)=true then _ else _
    cases hasB g ps<;>rfl
   |_=>rfl
 have hh:hit day (pl.flatMap psOf) ⟨day,j,o,g,[day],day+T,none,none⟩=hasB g (pl.flatMap psOf):=by
  rw[Qzm,hit_iff];exact⟨λz=>z.2,λz=>⟨⟨rfl,rfl,by show day<=day+T; omega⟩,z⟩⟩
 unfold vst;rw[hh]
 cases J:hasB g (pl.flatMap psOf) with
 |true=>
  rw[Z3 rfl];refine⟨U,Int.le_refl _,⟨o,Qqs _ (.head _)⟩,?_,nofun,λe Y L=>?_,?_,Ch.one T day,by simp,λ_=>rfl⟩
  ·show none=(kept T day _).2;rw[F]
  ·show lastAt (kept T day _).1 e=day+T;rw[F];exact qxm L
  ·show some day=qz6 g day (kept T day _) _;rw[F,ev,J]
   rfl
 |false=>
  rw[Z2 Qqe];refine⟨U,Int.le_refl _,⟨o,Qqs _ (.head _)⟩,?_,nofun,λe Y L=>?_,?_,Ch.one T day,by simp,λ_=>rfl⟩
  ·show none=(kept T day _).2;rw[F]
  ·show lastAt (kept T day _).1 e=day+T;rw[F];exact qxm L
  ·show none=qz6 g day (kept T day _) _;rw[F,ev,J]
   rfl
end
def leS(x y:Cl):Prop:=x.v.getD 0<y.v.getD 0\/(x.v.getD 0=y.v.getD 0/\x.nm<y.nm)
structure RI (d:Int) (cs:List Cl) (ro:List Int):Prop where
 up:(cs.map (·.nm)).Pairwise (· < ·)
 le:∀c∈cs,c.nm<=d
 mem:∀n,n∈ro↔∃c∈cs,c.nm=n/\c.v≠none
 so:ro.Pairwise λa b=>∀x∈cs,∀y∈cs,x.nm=a->y.nm=b->leS x y
 vd:∀c∈cs,∀x,c.v=some x->x<=d
theorem qbu{l:List Int}(h:l.Pairwise (· < ·)):l.Nodup:=h.imp λh=>by omega
theorem qxj{cs:List Cl}{x c:Cl}(F:(cs.map (·.nm)).Nodup)(J:x∈cs)(O:c∈cs)(e:x.nm=c.nm):x=c:=by
 induction cs with
 |nil=>cases J
 |cons a r L=>
  rw[Qqy,Qzx]at F;rcases Qqc.mp J with rfl|j<;>rcases Qqc.mp O with rfl|z
  ·rfl
  ·exact absurd (Qqk.mpr ⟨c,z,e.symm⟩) F.1
  ·exact absurd (Qqk.mpr ⟨x,j,e⟩) F.1
  ·exact L F.2 j z
theorem RI.nd{d:Int}{cs:List Cl}{ro:List Int}(h:RI d cs ro):ro.Nodup:=by
 refine h.so.imp_of_mem λ{a b} F J k=>?_;intro e;subst e;obtain⟨c,j,rfl,_⟩:=(h.mem a).mp F;rcases k c j c j rfl rfl with z|⟨_,z⟩<;>omega
theorem RI.same{d day:Int}{cs:List Cl}{ro:List Int}(h:RI d cs ro)(hd:d<=day)(z:Cl->Cl)(j:∀c,(z c).nm=c.nm)(F:∀c,(z c).v=c.v):RI day (cs.map z) ro:=by
 have hn:(cs.map z).map (·.nm)=cs.map (·.nm):=by rw[Qzk]; exact Qq6 λc _=>j c
 refine⟨hn▸h.up,λc hc=>?_,λn=>(h.mem n).trans ?_,h.so.imp λk x hx y hy ex J=>?_,λc hc x hx=>?_⟩
 ·replace hc:=Qqk.mp hc
  obtain⟨c,hc,rfl⟩:=hc;rw[j];have:=h.le c hc;omega
 ·constructor
  ·exact λ⟨c,hc,a,b⟩=>⟨z c,Qqk.mpr ⟨c,hc,rfl⟩,(j c).trans a,by rw[F]; exact b⟩
  ·rintro⟨c,hc,a,b⟩
   replace hc:=Qqk.mp hc
   obtain⟨c,hc,rfl⟩:=hc;exact⟨c,hc,(j c).symm.trans a,by rw[F]at b; exact b⟩
 ·replace hx:=Qqk.mp hx
  obtain⟨x,hx,rfl⟩:=hx
  replace hy:=Qqk.mp hy
  obtain⟨y,hy,rfl⟩:=hy;rw[j]at ex J;unfold leS;rw[j,j,F,F];exact k x hx y hy ex J
 ·replace hc:=Qqk.mp hc
  obtain⟨c,hc,rfl⟩:=hc;rw[F]at hx;have:=h.vd c hc x hx;omega
theorem qjv(day:Int)(ps:List (Int×Int))(c:Cl):(vst day ps c).v=if hit day ps c=true then some day else c.v:=by
 unfold vst
 split<;>rfl
theorem RI.vein{d day:Int}{cs:List Cl}{ro:List Int}(h:RI d cs ro)(hd:d<day)(ps:List (Int×Int)):RI day (cs.map (vst day ps)) (ro++(cs.filter (hit day ps)).map (·.nm)):=by
 have L:∀c,(vst day ps c).nm=c.nm:=λc=>(qqv day ps c).1;have hn:(cs.map (vst day ps)).map (·.nm)=cs.map (·.nm):=by rw[Qzk]; exact Qq6 λc _=>L c
 have J:=qbu h.up;refine⟨hn▸h.up,λc hc=>?_,λn=>?_,?_,λc hc x hx=>?_⟩
 ·replace hc:=Qqk.mp hc
  obtain⟨c,hc,rfl⟩:=hc;rw[L];have:=h.le c hc;omega
 ·rw[Qqt,h.mem,Qqk];constructor
  ·rintro (⟨c,hc,a,b⟩|⟨c,hc,a⟩)
   ·refine⟨vst day ps c,Qqk.mpr ⟨c,hc,rfl⟩,(L c).trans a,?_⟩;rw[qjv]
    split
    ·exact nofun
    ·exact b
   ·obtain⟨hc,hh⟩:=Qzz.mp hc;refine⟨vst day ps c,Qqk.mpr ⟨c,hc,rfl⟩,(L c).trans a,?_⟩;rw[qjv,Z3 hh];exact nofun
  ·rintro⟨c,hc,a,b⟩
   replace hc:=Qqk.mp hc
   obtain⟨c,hc,rfl⟩:=hc;rw[L]at a;rw[qjv]at b
   by_cases hh:hit day ps c=true
   ·exact .inr ⟨c,Qzz.mpr ⟨hc,hh⟩,a⟩
   ·rw[Z2 hh]at b;exact .inl ⟨c,hc,a,b⟩
 ·rw[Qxe];refine⟨h.so.imp_of_mem λ{a b} Z Y k x hx y hy ex U=>?_,?_,λa Z b Y x hx y hy ex U=>?_⟩
  ·replace hx:=Qqk.mp hx
   obtain⟨x,hx,rfl⟩:=hx
   replace hy:=Qqk.mp hy
   obtain⟨y,hy,rfl⟩:=hy;rw[L]at ex U;obtain⟨x',F,ex',vx⟩:=(h.mem a).mp Z;obtain⟨y',j,O,vy⟩:=(h.mem b).mp Y;cases qxj J F hx (ex'.trans ex.symm);cases qxj J j hy (O.trans U.symm);have n1:¬ hit day ps x=true:=λz=>vx (hit_iff.mp z).1.1;have n2:¬ hit day ps y=true:=λz=>vy (hit_iff.mp z).1.1;unfold leS;rw[L,L,qjv,qjv,Z2 n1,Z2 n2];exact k x hx y hy ex U
  ·have hs:((cs.filter (hit day ps)).map (·.nm)).Pairwise (· < ·):=h.up.sublist (List.Sublist.map _ Qxp);refine hs.imp_of_mem λ{a b} Z Y k x hx y hy ex U=>?_
   replace hx:=Qqk.mp hx
   obtain⟨x,hx,rfl⟩:=hx
   replace hy:=Qqk.mp hy
   obtain⟨y,hy,rfl⟩:=hy;rw[L]at ex U;obtain⟨x',F,ex'⟩:=Qqk.mp Z;obtain⟨y',j,O⟩:=Qqk.mp Y;obtain⟨F,h1⟩:=Qzz.mp F;obtain⟨j,h2⟩:=Qzz.mp j;cases qxj J F hx (ex'.trans ex.symm);cases qxj J j hy (O.trans U.symm);unfold leS;rw[L,L,qjv,qjv,Z3 h1,Z3 h2];exact .inr ⟨rfl,by omega⟩
  ·replace hx:=Qqk.mp hx
   obtain⟨x,hx,rfl⟩:=hx
   replace hy:=Qqk.mp hy
   obtain⟨y,hy,rfl⟩:=hy;rw[L]at ex U;obtain⟨x',F,ex',vx⟩:=(h.mem a).mp Z;obtain⟨y',j,O⟩:=Qqk.mp Y;obtain⟨j,h2⟩:=Qzz.mp j;cases qxj J F hx (ex'.trans ex.symm);cases qxj J j hy (O.trans U.symm);have n1:¬ hit day ps x=true:=λz=>vx (hit_iff.mp z).1.1;unfold leS;rw[qjv,qjv,Z2 n1,Z3 h2];refine .inl ?_
   cases hv:x.v with
   |none=>exact absurd hv vx
   |some z=>
    have:=h.vd x hx z hv;show z<day;omega
 ·replace hc:=Qqk.mp hc
  obtain⟨c,hc,rfl⟩:=hc;rw[qjv]at hx
  split at hx
  ·cases hx; exact Int.le_refl _
  ·have:=h.vd c hc x hx;omega
theorem RI.stake{d day:Int}{cs:List Cl}{ro:List Int}(h:RI d cs ro)(hd:d<day)(c:Cl)(hn:c.nm=day)(hv:c.v=none\/c.v=some day):RI day (cs++[c]) (ro++if c.v=none then [] else [day]):=by
 have a0:∀x∈cs,x.nm≠day:=λx j=>by have:=h.le x j; omega
 have L:∀{x:Cl}{a:Int},x∈cs++[c]->a∈ro->x.nm=a->x∈cs:=λ{x a} j J e=>by
  rcases Qqt.mp j with j|j
  ·exact j
  ·cases Qqb.mp j;obtain⟨y,F,Y,_⟩:=(h.mem a).mp J;exact absurd (Y.trans (e.symm.trans hn)) (a0 y F)
 refine⟨?_,λx j=>?_,λn=>?_,?_,λx j z U=>?_⟩
 ·rw[Qq1,Qxe];refine⟨h.up,by simp,λa J b O=>?_⟩;obtain⟨x,j,rfl⟩:=Qqk.mp J;simp only[Qqy,Qxy,Qqb]at O;have:=h.le x j;omega
 ·rcases Qqt.mp j with j|j
  ·have:=h.le x j; omega
  ·cases Qqb.mp j; omega
 ·rw[Qqt,h.mem];constructor
  ·rintro (⟨x,j,a,b⟩|j)
   ·exact⟨x,Qzf _ j,a,b⟩
   ·split at j
    ·cases j
    ·rename_i hc;exact⟨c,Qqs _ (.head _),hn.trans (Qqb.mp j).symm,hc⟩
  ·rintro⟨x,j,a,b⟩;rcases Qqt.mp j with j|j
   ·exact .inl ⟨x,j,a,b⟩
   ·cases Qqb.mp j;rw[Z2 b];exact .inr (by rw[<- a,hn]; exact .head _)
 ·rw[Qxe];refine⟨h.so.imp_of_mem λ{a b} J O k x j y F ex Y=>k x (L j J ex) y (L F O Y) ex Y,by split<;>simp,λa J b O x j y F ex Y=>?_⟩;have Z:=L j J ex
  split at O
  ·cases O
  ·rename_i hc;cases Qqb.mp O;have:y=c:=by
    rcases Qqt.mp F with F|F
    ·exact absurd Y (a0 y F)
    ·exact Qqb.mp F
   subst this;obtain⟨x',a1,ex',vx⟩:=(h.mem a).mp J;cases qxj (qbu h.up) a1 Z (ex'.trans ex.symm);refine .inl ?_;rw[hv.resolve_left hc]
   cases U:x.v with
   |none=>exact absurd U vx
   |some z=>
    have:=h.vd x Z z U;show z<day;omega
 ·rcases Qqt.mp j with j|j
  ·have:=h.vd x j z U; omega
  ·cases Qqb.mp j;rcases hv with e|e<;>rw[e]at U<;>cases U;exact Int.le_refl _
noncomputable def FaOk(W H P:Int):Fa->Prop
 |.vein ss ps=>(ss.length:Int)=P/\ss.length<=100/\(∀s∈ss,0<=s/\s<=4)/\1<=ps.length/\ps.length<=16/\ps.Nodup/\∀p∈ps,Cin W H p
 |.stake o g=>1<=o/\o<=40/\0<=g.1/\g.1<=g.2.2.1/\g.2.2.1<W/\0<=g.2.1/\g.2.1<=g.2.2.2/\g.2.2.2<H
 |.work n=>1<=n/\n<=400
 |.give n=>1<=n/\n<=400
theorem qgd{W H P:Int}{f:Fa}(h:FaOk W H P f)(m:Nat)(st:Store):callD fns (m+6) 26 [szD W H P,f.d] st=some (.bl true,st):=by
 cases f with
 |vein ss ps=>obtain⟨hP,j,Y,h1,h2,hn,Z⟩:=h; exact s_vein m st hP j Y h1 h2 hn Z
 |stake o g=>obtain⟨h1,h2,U,O,L,J,F,z⟩:=h; exact s_stake (m+3) st h1 h2 U O L J F z
 |work n=>exact s_work (m+3) st h.1 h.2
 |give n=>exact s_give (m+3) st h.1 h.2
noncomputable def isSt:Int×Fa->Bool
 |(_,.stake _ _)=>true
 |_=>false
noncomputable def qzw(pl:Pl):List Int:=(pl.filter isSt).map (·.1)
theorem qq4(pl:Pl)(p:Int×Fa):qzw (pl++[p])=qzw pl++if isSt p then [p.1] else []:=by
 unfold qzw;rw[Qxa,Qq1,Qkq,Qkw]
 split<;>rfl
structure St (T d:Int) (pl:Pl) (vs:List (Int×D×List (Int×Int))) (cs:List Cl) (ro:List Int) (rest:Store):Prop where
 I:Inv 1 rest cs
 hB:1<=rest.length
 w:PW d pl
 ci:∀c∈cs,CI T d pl c
 nm:cs.map (·.nm)=qzw pl
 ri:RI d cs ro
 ve:vs.flatMap (·.2.2)=pl.flatMap psOf
 vn:(vs.map (·.1)).Nodup
 vd:∀v∈vs,v.1<=d
 vl:vs.length<=pl.length
 v16:∀v∈vs,v.2.2.length<=16
 cl:cs.length<=pl.length
 dl:∀c∈cs,c.ds.length<=pl.length
theorem qhb:∀{a b:List Int},a.Nodup->(∀x∈a,x∈b)->a.length<=b.length
 |[],_,_,_=>Qzu _
 |x::a,b,h,J=>by
  rw[Qzx]at h;have F:=J x (Qq0 ..);have:=qhb (a:=a) (b:=b.erase x) h.2 λy j=>(List.mem_erase_of_ne λ(z:y=x)=>h.1 (z▸j)).mpr (J y (Qqn _ j));rw[List.length_erase_of_mem F]at this;have:=List.length_pos_of_mem F;simp only[Qqh];omega
theorem St.rl{T d:Int}{pl:Pl}{vs:List (Int×D×List (Int×Int))}{cs:List Cl}{ro:List Int}{rest:Store}(h:St T d pl vs cs ro rest):ro.length<=cs.length:=by
 have:=qhb (b:=cs.map (·.nm)) h.ri.nd λn hn=>by
  obtain⟨c,j,e,_⟩:=(h.ri.mem n).mp hn;exact Qqk.mpr ⟨c,j,e⟩
 rw[Qqx]at this;exact this
theorem PW.snoc{d day:Int}{pl:Pl}(w:PW d pl)(hd:d<day)(L:day<=400){f:Fa}(z:∀k,(f=.work k\/f=.give k)->k<=d):PW day (pl++[(day,f)]):=by
 have:=w.lo;refine⟨by omega,L,λp j=>?_,λp j k hf=>?_,?_⟩
 rotate_right
 ·rw[Qq1,Qxe];refine⟨w.up,by simp,λa J b F=>?_⟩;obtain⟨p,j,rfl⟩:=Qqk.mp J;simp only[Qqy,Qxy,Qqb]at F;have:=w.dy p j;omega
 ·rcases Qqt.mp j with j|j
  ·have:=w.dy p j; omega
  ·cases Qqb.mp j; exact⟨by show 1<=day; omega,Int.le_refl _⟩
 ·rcases Qqt.mp j with j|j
  ·exact w.nm p j k hf
  ·cases Qqb.mp j;have:=z k hf;show k<day;omega
theorem qym{cs:List Cl}{c c':Cl}(F:(cs.map (·.nm)).Nodup)(J:c∈cs)(φ:Cl->Cl)(O:φ c=c')(j:c'.nm=c.nm)(L:∀x,x.nm≠c.nm->φ x=x):upd cs c'=cs.map φ:=by
 unfold upd;refine Qq6 λx z=>?_
 by_cases e:x.nm=c'.nm
 ·rw[Z3 e];cases qxj F z J (e.trans j);exact O.symm
 ·rw[Z2 e,L x (by rw[<- j]; exact e)]
theorem qk5(T day:Int)(f:Fa)(c:Cl):(qxq T day f c).nm=c.nm/\(qxq T day f c).ds.length<=c.ds.length+1:=by
 unfold qxq
 split
 ·have:=qqv day (by assumption) c; exact⟨this.1,by rw[this.2.2]; omega⟩
 ·exact⟨rfl,Qxx _⟩
 ·split
  ·exact⟨rfl,by simp⟩
  ·exact⟨rfl,Qxx _⟩
 ·split
  ·exact⟨rfl,Qxx _⟩
  ·exact⟨rfl,Qxx _⟩
section
variable {W H P T d day:Int}{pl:Pl}{vs:List (Int×D×List (Int×Int))}{cs:List Cl}{ro:List Int}{rest rest':Store}
theorem St.chg(h:St T d pl vs cs ro rest)(hd:d<day)(Y:day<=400){f:Fa}(J:PW day (pl++[(day,f)]))(U:∃k,f=.work k\/f=.give k)(I:Inv 1 rest' (cs.map (qxq T day f)))(hB:1<=rest'.length):St T day (pl++[(day,f)]) vs (cs.map (qxq T day f)) ro rest':=by
 have F:isSt (day,f)=false/\psOf (day,f)=[]/\∀c,(qxq T day f c).v=c.v:=by
  obtain⟨k,rfl|rfl⟩:=U
  ·exact⟨rfl,rfl,λc=>by unfold qxq; dsimp only; split<;>rfl⟩
  ·exact⟨rfl,rfl,λc=>by unfold qxq; dsimp only; split<;>rfl⟩
 have O:(pl++[(day,f)]).length=pl.length+1:=by simp
 refine⟨I,hB,J,λc z=>?_,?_,h.ri.same (by omega) _ (λc=>(qk5 T day f c).1) F.2.2,?_,h.vn,λv L=>by have:=h.vd v L; omega,by have:=h.vl; omega,h.v16,by have:=h.cl; rw[Qqx]; omega,λc z=>?_⟩
 ·obtain⟨x,j,rfl⟩:=Qqk.mp z;exact(h.ci x j).step h.w hd Y f
 ·rw[qq4,F.1,<- h.nm,Qzk];simp only[Qqf,if_false,Qzv];exact Qq6 λc _=>(qk5 T day f c).1
 ·rw[Qxr,<- h.ve];simp[F.2.1]
 ·obtain⟨x,j,rfl⟩:=Qqk.mp z;have:=h.dl x j;have:=(qk5 T day f x).2;omega
theorem St.ov(h:St T d pl vs cs ro rest)(hd:d<day)(Y:day<=400){f:Fa}{c:Cl}(L:PW day (pl++[(day,f)]))(j:f=.work c.nm\/f=.give c.nm)(U:c∈cs)(O:over day c):St T day (pl++[(day,f)]) vs cs ro rest:=by
 have F:cs.map (qxq T day f)=cs:=by
  refine(Qq6 λx J=>?_).trans (Qjh cs);have:¬ (c.nm=x.nm/\x.gv=none/\day<=x.la):=λz=>by
   cases qxj (qbu h.ri.up) J U z.1.symm;exact over_iff.mpr z.2 O
  rcases j with rfl|rfl<;>exact Z2 this
 have s:=h.chg hd Y L ⟨_,j⟩ (by rw[F]; exact h.I) h.hB;rw[F]at s;exact s
theorem qgh(m:Nat)(h:St T d pl vs cs ro rest)(hT:1<=T)(hk:pl.length<100){f:Fa}(hf:FaOk W H P f)(hd:d<day)(O:day<=400)(hn:∀k,(f=.work k\/f=.give k)->k∈qzw pl):
  ∃a a0 a3 a1 rest',callD fns (m+7) 30 [.loc 0,.int day,f.d] (FC (szD W H P) T d (voD vs) [] cs ro rest)=some (sO a,FC (szD W H P) T day (voD a0) [] a3 a1 rest')/\(a = "good"\/a = "ended")/\St T day (pl++[(day,f)]) a0 a3 a1 rest'/\rest'.take 1=rest.take 1:=by
 have hs:=qgd hf m (FC (szD W H P) T d (voD vs) [] cs ro rest);have h0:=h.w.lo;have rl:=h.rl;have cl:=h.cl;have vl:=h.vl;have I:=h.I;have Z:=qbu h.ri.up;have a4:∀n∈qzw pl,n<=d:=λn z=>by
  rw[<- h.nm]at z;obtain⟨c,j,rfl⟩:=Qqk.mp z;exact h.ri.le c j
 have hw:PW day (pl++[(day,f)]):=h.w.snoc hd O λk z=>a4 k (hn k z);have a5:(pl++[(day,f)]).length=pl.length+1:=by simp
 have a2:∀k,k∈qzw pl->∃c∈cs,c.nm=k:=λk z=>by
  rw[<- h.nm]at z;obtain⟨c,j,e⟩:=Qqk.mp z;exact⟨c,j,e⟩
 cases f with
 |vein ss ps=>
  obtain⟨rest',e,I',t,l⟩:=qgs (sz:=szD W H P) (T:=T) (d:=day) (jo:=[]) (ro:=ro) m I (.tup (ss.map .int)) ps vs (λv J=>by have:=h.vd v J; omega) (by omega) (by have:=hf.2.2.2.2.1; omega) (by omega);refine⟨_,_,_,_,_,qq0 m (by omega) O hd hs e,.inl rfl,⟨I',by have:=h.hB; omega,hw,λc j=>?_,?_,h.ri.vein hd ps,?_,?_,λv J=>?_,by simp; omega,λv J=>?_,by rw[Qqx]; omega,λc j=>?_⟩,t⟩
  ·obtain⟨x,F,rfl⟩:=Qqk.mp j;exact(h.ci x F).step h.w hd O (.vein ss ps)
  ·rw[qq4,<- h.nm,Qzk,show isSt (day,Fa.vein ss ps)=false from rfl];simp only[Qqf,if_false,Qzv];exact Qq6 λc _=>(qqv day ps c).1
  ·rw[Qxr,Qxr,h.ve];simp[psOf]
  ·rw[Qq1,Qxi];refine⟨h.vn,by simp,λa ha b hb z=>?_⟩;obtain⟨v,J,rfl⟩:=Qqk.mp ha;simp only[Qqy,Qxy,Qqb]at hb;have:=h.vd v J;omega
  ·rcases Qqt.mp J with J|J
   ·have:=h.vd v J; omega
   ·cases Qqb.mp J; exact Int.le_refl _
  ·rcases Qqt.mp J with J|J
   ·exact h.v16 v J
   ·cases Qqb.mp J; exact hf.2.2.2.2.1
  ·obtain⟨x,F,rfl⟩:=Qqk.mp j;have:=h.dl x F;rw[(qqv day ps x).2.2];omega
 |stake o g=>
  obtain⟨rest',e,I',t,l⟩:=qes (sz:=szD W H P) (T:=T) (d:=day) (jo:=[]) (ro:=ro) m I h.hB o g vs h.vn (by omega) h.v16 (by omega) (λx F=>by have:=h.ri.le x F; omega);have L:=CI.new h.w hT hd (by omega) O (rest.length+1) o g;rw[h.ve]at e I';generalize j:vst day (pl.flatMap psOf) ⟨day,rest.length+1,o,g,[day],day+T,none,none⟩=c at e I' L;have c1:c.nm=day:=by rw[<- j]; exact(qqv _ _ _).1
  have c2:c.ds=[day]:=by rw[<- j]; exact(qqv _ _ _).2.2
  have c3:c.v=if hit day (pl.flatMap psOf) ⟨day,rest.length+1,o,g,[day],day+T,none,none⟩=true then some day else none:=by rw[<- j,qjv]
  have e3:(if hit day (pl.flatMap psOf) ⟨day,rest.length+1,o,g,[day],day+T,none,none⟩=true then [day] else [])=if c.v=none then [] else [day]:=by
   rw[c3]
   split<;>simp
  rw[e3]at e;refine⟨_,_,_,_,_,qq0 m (by omega) O hd hs e,.inl rfl,⟨I',by have:=h.hB; omega,hw,λx F=>?_,?_,h.ri.stake hd c c1 (by rw[c3]; split; exact .inr rfl; exact .inl rfl),?_,h.vn,λv J=>by have:=h.vd v J; omega,by omega,h.v16,by simp; omega,λx F=>?_⟩,t⟩
  ·rcases Qqt.mp F with F|F
   ·exact(h.ci x F).step h.w hd O (.stake o g)
   ·cases Qqb.mp F; exact L
  ·rw[qq4,Qq1,h.nm];show _=_++[day];rw[<- c1]
   rfl
  ·rw[Qxr,<- h.ve];simp[psOf]
  ·rcases Qqt.mp F with F|F
   ·have:=h.dl x F; omega
   ·cases Qqb.mp F; rw[c2]; simp
 |work k=>
  obtain⟨c,j,rfl⟩:=a2 k (hn k (.inl rfl));have L:=h.ci c j
  by_cases Y:over day c
  ·exact⟨_,_,_,_,_,qq0 m (by omega) O hd hs (qxh (m+1) (.work c.nm) (qao (m+3) I day "work" [] j Y)),.inr rfl,h.ov hd O hw (.inl rfl) j Y,rfl⟩
  ·have ha:=over_iff.mp Y;have a7:=h.dl c j;have a6:=L.ge L.ne;have e:=qgp (sz:=szD W H P) (T:=T) (d:=day) (fo:=voD vs) (jo:=[]) (ro:=ro) (m+2) I day j Y (by omega) (L.ch.snoc L.ne (by omega)) (day+T) rfl;have hu:upd cs { c with ds:=c.ds++[day],la:=day+T }=cs.map (qxq T day (.work c.nm)):=qym Z j _ (Z3 ⟨rfl,ha.1,ha.2⟩) rfl λx F=>Z2 λz=>F z.1.symm;have hI:=I.put (c':={ c with ds:=c.ds++[day],la:=day+T }) j rfl rfl ⟨by simp,by simp; omega⟩;have U:qzf cs=qzf (cs.map (qxq T day (.work c.nm))):=by rw[<- hu]; exact(qyn (c':={ c with ds:=c.ds++[day],la:=day+T }) j Z rfl rfl).symm
   rw[hu]at hI;unfold FC at e;rw[U]at e;have t:((rest.set c.j ({ c with ds:=c.ds++[day],la:=day+T }:Cl).dl).set (c.j+1) ({ c with ds:=c.ds++[day],la:=day+T }:Cl).cell).take 1=rest.take 1:=by
    have:=I.lo c j;rw[qx8 (by omega),qx8 (by omega)]
   refine⟨_,_,_,_,_,qq0 m (by omega) O hd hs (qxh (m+1) (.work c.nm) (by unfold FC; rw[U]; exact e)),.inl rfl,h.chg hd O hw ⟨_,.inl rfl⟩ hI (by simp; exact h.hB),t⟩
 |give k=>
  obtain⟨c,j,rfl⟩:=a2 k (hn k (.inr rfl));have L:=h.ci c j
  by_cases Y:over day c
  ·exact⟨_,_,_,_,_,qq0 m (by omega) O hd hs (qxh (m+1) (.give c.nm) (qao (m+3) I day "give" [] j Y)),.inr rfl,h.ov hd O hw (.inr rfl) j Y,rfl⟩
  ·have ha:=over_iff.mp Y;have e:=qgr (sz:=szD W H P) (T:=T) (d:=day) (fo:=voD vs) (jo:=[]) (ro:=ro) (m+3) I day j Y;have hu:upd cs { c with gv:=some day }=cs.map (qxq T day (.give c.nm)):=qym Z j _ (Z3 ⟨rfl,ha.1,ha.2⟩) rfl λx F=>Z2 λz=>F z.1.symm;have hI:=I.cell (c':={ c with gv:=some day }) j rfl rfl rfl;have U:qzf cs=qzf (cs.map (qxq T day (.give c.nm))):=by rw[<- hu]; exact(qyn (c':={ c with gv:=some day }) j Z rfl rfl).symm
   rw[hu]at hI;unfold FC at e;rw[U]at e;have t:(rest.set (c.j+1) ({ c with gv:=some day }:Cl).cell).take 1=rest.take 1:=by
    have:=I.lo c j;rw[qx8 (by omega)]
   refine⟨_,_,_,_,_,qq0 m (by omega) O hd hs (qxh (m+1) (.give c.nm) (by unfold FC; rw[U]; exact e)),.inl rfl,h.chg hd O hw ⟨_,.inr rfl⟩ hI (by simp; exact h.hB),t⟩
end
noncomputable def pD(p:Int×Fa):D:=.tup [.int p.1,p.2.d]
theorem fl_i(n:Nat)(xs:List Int):flats n (xs.map .int)=true:=by
 induction xs with
 |nil=>rfl
 |cons a r j=>rw[Qqy]; show(flat n (.int a)&&flats n _)=true; rw[j]; cases n<;>rfl
theorem fl_c(n:Nat)(ps:List (Int×Int)):flats (n+1) (ps.map cD)=true:=by
 induction ps with
 |nil=>rfl
 |cons a r j=>rw[Qqy]; show(flat (n+1) (cD a)&&flats (n+1) _)=true; rw[j]; show((flat n (.int a.1)&&(flat n (.int a.2)&&true))&&true)=true; cases n<;>rfl
theorem fl_f(f:Fa):flat 9 f.d=true:=by
 cases f with
 |vein j ps=>
  simp only[Fa.d,flat,flats];rw[fl_i,fl_c 6]
  rfl
 |_=>rfl
theorem eqW(st:Store)(f:Fa)(n:Int):cmpD st .Eq f.d (.tup [sO "work",.int n])=some (match f with|.work k=>k==n|_=>false):=by
 have e:eqD st f.d (.tup [sO "work",.int n])=if flat 9 f.d&&flat 9 (.tup [sO "work",.int n]) then some (eqT f.d (.tup [sO "work",.int n])) else none:=by cases f<;>rfl
 show eqD _ _ _=_;rw[e,fl_f]
 cases f with
 |work k=>show some (true&&((k==n)&&true))=_; simp
 |_=>rfl
theorem eqG(st:Store)(f:Fa)(n:Int):cmpD st .Eq f.d (.tup [sO "give",.int n])=some (match f with|.give k=>k==n|_=>false):=by
 have e:eqD st f.d (.tup [sO "give",.int n])=if flat 9 f.d&&flat 9 (.tup [sO "give",.int n]) then some (eqT f.d (.tup [sO "give",.int n])) else none:=by cases f<;>rfl
 show eqD _ _ _=_;rw[e,fl_f]
 cases f with
 |give k=>show some (true&&((k==n)&&true))=_; simp
 |_=>rfl
theorem qyv{st:Store}{s:List Int}{d:Int}(z:s.length=402)(j:0<=d)(F:d<=401):idxD st (.lst (s.map .int)) (.int d)=some (.int (lastAt s d)):=by
 show atI (s.map D.int) d=_;unfold atI ixN lastAt;rw[Z3 j,Z3 (by simp; omega)];simp only[oBs];rw[Qqa,Qqg (by omega),Qxq,Qqg (by omega)]
 rfl
theorem mul_l{st:Store}{x k:Int}(J:0<=k)(F:k<=402):binop (st++[.lst true [.int x]]) .Mult (.loc st.length) (.int k)=some (.loc (st.length+1),st++[.lst true [.int x]]++[.lst true ((List.replicate k.toNat x).map .int)]):=by
 have z:wlistAt (st++[.lst true [.int x]]) st.length=some [.int x]:=by unfold wlistAt; rw[gl]
 show(wlistAt (st++[.lst true [.int x]]) st.length).bind _=_;rw[z];have e:(List.replicate k.toNat [D.int x]).flatten=(List.replicate k.toNat x).map .int:=by
  generalize k.toNat=n
  induction n with
  |zero=>rfl
  |succ n j=>rw[Qzd,Qz1,j]; rfl
 show(if _ then none else some (alloc _ (.lst true (List.replicate k.toNat [D.int x]).flatten)))=_;rw[e,Z2]
 ·unfold alloc;rw[Qqo]
  rfl
 ·simp only[Qqh,Qkv,Qzy,decide_eq_true_eq,not_or];unfold lim;omega
theorem qhi{st:Store}{x:Int}{xs:List Int}:gcD st (.loc (st.length+1),st++[.lst true [.int x]]++[.lst true (xs.map .int)])=(.lst (xs.map .int),st):=by
 rw[Qxh];exact qdr (k:=1) (nlI xs) rfl
theorem qlu(m:Nat){st:Store}{T n d:Int}{q:D}{pl:Pl}(w:PW d pl)(hl:pl.length<1000)(hq:rowAt st q=some (pl.map pD)):callD fns (m+1) 50 [q,.int T,.int n] st=some (.tup [.lst ((kept T n pl).1.map .int),oD (kept T n pl).2],st):=by
 obtain⟨Y,st',h1,a,b,rfl,rfl⟩:=qhn (c:=callD fns m) (τ:=[some q,some (.int T),some (.int n),some (.lst ((List.replicate 402 (n+T)).map .int)),some .non,none,none]) (st:=st) (i:=0) (ds:=pl.map pD) (t:=.tup [5,6]) (body:=[.ite (.and (.cmp .Eq (.var 6) (.tup [.lit (sO "work"),.var 2])) (.and (.cmp .LtE (.var 5) (.idx (.var 3) (.var 5))) (.cmp .Is (.var 4) (.lit .non)))) [.set (.var 3) (.gc (.bin .Add (.sli (.var 3) none (some (.var 5))) (.gc (.bin .Mult (.lst [.bin .Add (.var 5) (.var 1)]) (.bin .Sub (.lit (.int 402)) (.var 5))))))] [],.ite (.and (.cmp .Eq (.var 6) (.tup [.lit (sO "give"),.var 2])) (.and (.cmp .LtE (.var 5) (.idx (.var 3) (.var 5))) (.cmp .Is (.var 4) (.lit .non)))) [.set (.var 4) (.var 5)] []])
  (λk Y st'=>∃a b,Y=[some q,some (.int T),some (.int n),some (.lst ((kept T n (pl.take k)).1.map .int)),some (oD (kept T n (pl.take k)).2),a,b]/\st'=st)
  rfl ⟨none,none,by rw[Qxm]; rfl,rfl⟩ (λk Y st' h=>by obtain⟨a,b,_,rfl⟩:=h; exact hq) (λk Y st' x hx h=>by
   obtain⟨a,b,rfl,rfl⟩:=h;rw[Qqa]at hx;obtain⟨p,hp,rfl⟩:=Qqi.mp hx;have a2:pl.take (k+1)=pl.take k++[p]:=by rw[Qjf,hp]; rfl
   have hm:=Qqr hp;have a6:=w.dy p hm;have h4:=w.hi;have wk:PW d (pl.take k):=⟨w.lo,w.hi,λp hp=>w.dy p (Qjb hp),λp hp=>w.nm p (Qjb hp),by rw[List.map_take]; exact w.up.sublist (List.take_sublist ..)⟩
   have a0:=qjz (T:=T) (n:=n) wk;rw[a2,qz8];generalize kept T n (pl.take k)=K at a0 ⊢;obtain⟨day,f⟩:=p;dsimp only at a6;have hi:=qyv (st:=st') a0 (d:=day) (by omega) (by omega);refine⟨[some q,some (.int T),some (.int n),some (.lst ((kst T n K (day,f)).1.map .int)),some (oD (kst T n K (day,f)).2),some (.int day),some f.d],st',?_,some (.int day),some f.d,rfl,rfl⟩;show(RL (callD fns m)).ex [some q,some (.int T),some (.int n),some (.lst (K.1.map .int)),some (oD K.2),some (.int day),some f.d] st' _=_;have U:=eqW st' f n;have L:=eqG st' f n
   by_cases hw:f=.work n
   ·subst hw;have U:cmpD st' .Eq (Fa.work n).d (.tup [sO "work",.int n])=some true:=by rw[U]; simp
    have L:cmpD st' .Eq (Fa.work n).d (.tup [sO "give",.int n])=some false:=L
    by_cases j:day<=lastAt K.1 day
    ·by_cases Z:K.2=none
     ·have J:kst T n K (day,.work n)=(K.1.take day.toNat++List.replicate (402 - day).toNat (day+T),K.2):=Z3 ⟨rfl,j,Z⟩;rw[J];have O:cut (K.1.map D.int) none (some day)=(K.1.take day.toNat).map .int:=by
       unfold cut cutIx;simp only[Qje,Nat.sub_zero,Qqx];rw[Z2 (by omega),Nat.min_eq_left (by omega),List.map_take]
      generalize hC:cut (K.1.map D.int) none (some day)=C at O;have a1:=mul_l (st:=st'++[.lst true C]) (x:=day+T) (k:=402 - day) (by omega) (by omega);have a5:=qhi (st:=st'++[.lst true C]) (x:=day+T) (xs:=List.replicate (402 - day).toNat (day+T));have a4:gcD st' (.loc (st'++[Cell.lst true C]).length,st'++[.lst true C]++[.lst true (C++(List.replicate (402 - day).toNat (day+T)).map .int)])=(.lst ((K.1.take day.toNat++List.replicate (402 - day).toNat (day+T)).map .int),st'):=by
       rw[Qxh,O,<- Qq1,Qqo];exact qdr (k:=1) (nlI _) rfl
      have a3:decide (lim<C.length+((List.replicate (402 - day).toNat (day+T)).map D.int).length)=false:=Z1 (by
       rw[O,Qqx,Qqx,Qq9,Qxb];unfold lim
       omega)
      have F:isNon (oD K.2)=true:=by rw[Z]; rfl
      subst hC;exact qzb 0 [] 0 (λq=>_/\_/\_/\_/\_/\_/\_/\_/\_/\_/\q) [.b true,.i (.int (lastAt K.1 day)),.b true,.b true,.c (.loc ((st'++[Cell.lst true (cut (K.1.map D.int) none (some day))]).length+1),st'++[.lst true (cut (K.1.map D.int) none (some day))]++[.lst true [.int (day+T)]]++[.lst true ((List.replicate (402 - day).toNat (day+T)).map .int)]),.l ((List.replicate (402 - day).toNat (day+T)).map .int),.r (.lst true (cut (K.1.map D.int) none (some day))),.b false,.l ((K.1.take day.toNat++List.replicate (402 - day).toNat (day+T)).map .int),.b false] ⟨U,hi,Z0 j,F,a1,a5,gl (st:=st') (c:=.lst true (cut (K.1.map D.int) none (some day))),a3,a4,L,rfl⟩
     ·have J:kst T n K (day,.work n)=K:=Z2 λz=>Z z.2.2;rw[J];have F:isNon (oD K.2)=false:=by cases h:K.2 with|none=>exact absurd h Z|some x=>rfl
      exact qzb 0 [] 0 (λq=>_/\_/\_/\_/\_/\q) [.b true,.i (.int (lastAt K.1 day)),.b true,.b false,.b false] ⟨U,hi,Z0 j,F,L,rfl⟩
    ·have J:kst T n K (day,.work n)=K:=Z2 λz=>j z.2.1;rw[J];exact qzb 0 [] 0 (λq=>_/\_/\_/\_/\q) [.b true,.i (.int (lastAt K.1 day)),.b false,.b false] ⟨U,hi,Z1 j,L,rfl⟩
   ·have U:cmpD st' .Eq f.d (.tup [sO "work",.int n])=some false:=by
     rw[U]
     cases f with
     |work k=>simp only[Option.some.injEq,beq_eq_false_iff_ne]; exact λz=>hw (by rw[z])
     |_=>rfl
    by_cases hg:f=.give n
    ·subst hg;have L:cmpD st' .Eq (Fa.give n).d (.tup [sO "give",.int n])=some true:=by rw[L]; simp
     by_cases j:day<=lastAt K.1 day
     ·by_cases Z:K.2=none
      ·have J:kst T n K (day,.give n)=(K.1,some day):=Z3 ⟨rfl,j,Z⟩;rw[J];have F:isNon (oD K.2)=true:=by rw[Z]; rfl
       exact qzb 0 [] 0 (λq=>_/\_/\_/\_/\_/\q) [.b false,.b true,.i (.int (lastAt K.1 day)),.b true,.b true] ⟨U,L,hi,Z0 j,F,rfl⟩
      ·have J:kst T n K (day,.give n)=K:=Z2 λz=>Z z.2.2;rw[J];have F:isNon (oD K.2)=false:=by cases h:K.2 with|none=>exact absurd h Z|some x=>rfl
       exact qzb 0 [] 0 (λq=>_/\_/\_/\_/\_/\q) [.b false,.b true,.i (.int (lastAt K.1 day)),.b true,.b false] ⟨U,L,hi,Z0 j,F,rfl⟩
     ·have J:kst T n K (day,.give n)=K:=Z2 λz=>j z.2.1;rw[J];exact qzb 0 [] 0 (λq=>_/\_/\_/\_/\q) [.b false,.b true,.i (.int (lastAt K.1 day)),.b false] ⟨U,L,hi,Z1 j,rfl⟩
    ·have L:cmpD st' .Eq f.d (.tup [sO "give",.int n])=some false:=by
      rw[L]
      cases f with
      |give k=>simp only[Option.some.injEq,beq_eq_false_iff_ne]; exact λz=>hg (by rw[z])
      |_=>rfl
     have J:kst T n K (day,f)=K:=by
      cases f with
      |work k=>exact Z2 λz=>hw (by rw[z.1])
      |give k=>exact Z2 λz=>hg (by rw[z.1])
      |_=>rfl
     rw[J]
     cases f<;>exact qzb 0 [] 0 (λq=>_/\_/\q) [.b false,.b false] ⟨U,L,rfl⟩)
 rw[Qqx,Qxz]at h1;have hm:=mul_l (st:=st') (x:=n+T) (k:=402) (by decide) (by decide);have hg:=qhi (st:=st') (x:=n+T) (xs:=List.replicate 402 (n+T));exact qzz 0 [] 1 (λq=>_/\_/\_/\q) [.c (.loc (st'.length+1),st'++[.lst true [.int (n+T)]]++[.lst true ((List.replicate (402:Int).toNat (n+T)).map .int)]),.l ((List.replicate 402 (n+T)).map .int),.s (.nx [some q,some (.int T),some (.int n),some (.lst ((kept T n pl).1.map .int)),some (oD (kept T n pl).2),a,b],st')] ⟨hm,hg,h1,rfl⟩
theorem in_ok(m:Nat)(st:Store)(g:Int×Int×Int×Int)(p:Int×Int):callD fns (m+1) 47 [rD g,cD p] st=some (.bl (inB g p),st):=by
 unfold inB
 by_cases h1:g.1<=p.1
 ·by_cases h2:p.1<=g.2.2.1
  ·by_cases j:g.2.1<=p.2
   ·by_cases z:p.2<=g.2.2.2
    ·rw[Z0 h1,Z0 h2,Z0 j,Z0 z];exact qzz 0 [] 1 (λq=>_/\_/\_/\_/\q) [.b true,.b true,.b true,.b true] ⟨Z0 h1,Z0 h2,Z0 j,Z0 z,rfl⟩
    ·rw[Z0 h1,Z0 h2,Z0 j,Z1 z];exact qzz 0 [] 1 (λq=>_/\_/\_/\_/\q) [.b true,.b true,.b true,.b false] ⟨Z0 h1,Z0 h2,Z0 j,Z1 z,rfl⟩
   ·rw[Z0 h1,Z0 h2,Z1 j,Qkc];exact qzz 0 [] 1 (λq=>_/\_/\_/\q) [.b true,.b true,.b false] ⟨Z0 h1,Z0 h2,Z1 j,rfl⟩
  ·rw[Z0 h1,Z1 h2];exact qzz 0 [] 1 (λq=>_/\_/\q) [.b true,.b false] ⟨Z0 h1,Z1 h2,rfl⟩
 ·rw[Z1 h1];exact qzz 0 [] 1 (λq=>_/\q) [.b false] ⟨Z1 h1,rfl⟩
theorem qwq{α:Type}{f:Sl->Store->D->Option (Out×Store)}{s:Src}{S:Store}{ds:List α}{g:α->D}(P:Sl->Prop)(t:α->Option D)(z:∀i,s.at S i=some (ds.map g)[i]?)
  (J:∀τ x,x∈ds->P τ->(∀v,t x=some v->f τ S (g x)=some (.rt v,S))/\(t x=none->∃j,f τ S (g x)=some (.nx j,S)/\P j)) :
  ∀(k i:Nat) (τ:Sl),i+k=ds.length->P τ->(∀v,(ds.drop i).findSome? t=some v->loop s f (k+1) i τ S=some (.rt v,S))/\((ds.drop i).findSome? t=none->∃j,loop s f (k+1) i τ S=some (.nx j,S)/\P j)
 |0,i,τ,h,p=>by
  have e:ds.drop i=[]:=List.drop_eq_nil_of_le (by omega);rw[e];refine⟨nofun,λ_=>⟨τ,?_,p⟩⟩;rw[loop,z];simp[Qzp (show ds.length<=i by omega)]
 |k+1,i,τ,h,p=>by
  have hi:i<ds.length:=by omega
  have e:ds.drop i=ds[i]::ds.drop (i+1):=Qj2 hi;have h1:(ds.map g)[i]?=some (g ds[i]):=by rw[Qqa,Qqg hi]; rfl
  obtain⟨a,b⟩:=J τ ds[i] (Qjj hi) p;rw[e,Qz7]
  cases F:t ds[i] with
  |some v=>
   refine⟨λw L=>?_,nofun⟩;cases L;rw[loop,z,h1];simp only[oBs];rw[a v F]
   rfl
  |none=>
   obtain⟨j,O,p1⟩:=b F;have:=qwq P t z J k (i+1) j (by omega) p1;have el:loop s f (k+1+1) i τ S=loop s f (k+1) (i+1) j S:=by
    rw[loop,z,h1];simp only[oBs];rw[O]
    rfl
   rw[el];exact this
theorem qgn{α:Type}{c:CF}{τ:Sl}{st:Store}{it elt:E}{sr:List (Option Nat)}{rst:Sl}(xs:List α)(f g:α->D)(h:src (RL c) τ st it=some (.tup (xs.map f),st))(J:xs.length<lim)(j:inner sr τ=none::rst)(L:∀x∈xs,(RL c).ev (some (f x)::rst) st elt=some (g x,st)):
  stepEv (RL c) τ st (.comp (.var 0) it none elt sr)=some (.loc st.length,st++[.lst true (xs.map g)]):=by
 refine qvh h (λi=>rfl) rfl j (by simp) (by simpa using J) λk d e hd z=>?_;rw[Qqa]at hd z;obtain⟨x,F,rfl⟩:=Qqi.mp hd;rw[F]at z;cases z;exact L x (Qqr F)
theorem fm_one{α J:Type}{l:List α}{f:α->Int}(z:(l.map f).Pairwise (· < ·))(h:α->J){x:α}(F:x∈l):l.filterMap (λy=>if f y=f x then some (h y) else none)=[h x]:=by
 induction l with
 |nil=>cases F
 |cons a r L=>
  rw[Qqy,Qzt]at z;rw[Qz5];rcases Qqc.mp F with rfl|j
  ·rw[Z3 rfl];dsimp only
   congr 1
   rw[List.filterMap_eq_nil_iff];exact λy O=>Z2 λe=>by have:=z.1 _ (Qqk.mpr ⟨y,O,rfl⟩); omega
  ·rw[Z2 λe=>by have:=z.1 _ (Qqk.mpr ⟨x,j,rfl⟩); omega];exact L z.2 j
noncomputable def gSl(n:Int):D->Option D
 |.tup [.int d,.tup ds]=>if d=n then some (.tup (cut ds (some 2) none)) else none
 |_=>none
noncomputable def dsF:Fa->List D
 |.vein ss ps=>[sO "vein",.tup (ss.map .int),.tup (ps.map cD)]
 |.stake o g=>[sO "stake",.int o,.int g.1,.int g.2.1,.int g.2.2.1,.int g.2.2.2]
 |.work n=>[sO "work",.int n]
 |.give n=>[sO "give",.int n]
theorem ds_eq(f:Fa):f.d=.tup (dsF f):=by cases f<;>rfl
noncomputable abbrev vB:List M.S:=[.ite (.and (.cmp .Eq (.idx (.var 5) (.lit (.int 0))) (.lit (sO "vein"))) (.bcall .any [.gc (.comp (.var 0) (.idx (.var 5) (.lit (.int 2))) none (.call 47 [.var 1,.var 0]) [none,some 6])])) [.set (.var 7) (.bcall .max [.var 4,.var 1]),.ite (.and (.cmp .LtE (.var 7) (.idx (.var 2) (.var 7))) (.or (.cmp .Is (.var 3) (.lit .non)) (.cmp .Lt (.var 7) (.var 3)))) [.ret (.var 7)] []] []]
theorem qbr(m:Nat){st:Store}{n d o:Int}{g:Int×Int×Int×Int}{q:D}{pl:Pl}{K:KS}(w:PW d pl)(hl:pl.length<1000)(a6:∀p∈pl,(psOf p).length<=16)(hq:rowAt st q=some (pl.map pD))(hs:(n,Fa.stake o g)∈pl)(hK:K.1.length=402):callD fns (m+2) 49 [q,.int n,.lst (K.1.map .int),oD K.2] st=some (oD (qz6 g n K pl),st):=by
 have hn:=w.dy _ hs;have h4:=w.hi;dsimp only at hn;obtain⟨s,s1,s2,s3⟩:=qk6 (c:=callD fns (m+1)) (τ:=[some q,some (.int n),some (.lst (K.1.map .int)),some (oD K.2),none,none,none,none]) (i:=0) rfl hq
 have hc:=qxe (c:=callD fns (m+1)) (τ:=[some q,some (.int n),some (.lst (K.1.map .int)),some (oD K.2),none,none,none,none]) (st:=st) (t:=.tup [0,1]) (it:=.var 0) (elt:=.sli (.var 1) (some (.lit (.int 2))) none) (test:=some (.cmp .Eq (.var 0) (.var 2))) (sr:=[none,none,some 1]) (gSl n) (λτ=>∃a b,τ=[a,b,some (.int n)]) s1 s2 s3 (by simp; unfold lim; omega) ⟨none,none,rfl⟩ (λτ x hx hp=>by
  obtain⟨a,b,rfl⟩:=hp;obtain⟨p,hp,rfl⟩:=Qqk.mp hx;obtain⟨day,f⟩:=p;refine⟨[some (.int day),some f.d,some (.int n)],?_,_,_,rfl⟩
  have e:gSl n (pD (day,f))=if decide (day=n)=true then some (.tup (cut (dsF f) (some 2) none)) else none:=by
   cases f<;>(show(if day=n then _ else _)=_; by_cases z:day=n<;>simp[z,dsF])
  rw[e];refine turn_if rfl ?_ λ_=>?_
  ·by_cases z:day=n
   ·rw[Z0 z];exact qqe 0 [] 0 (λq=>_/\q) [.b true] ⟨beq_iff_eq.mpr z,rfl⟩
   ·rw[Z1 z];exact qqe 0 [] 0 (λq=>_/\q) [.b false] ⟨beq_false_of_ne z,rfl⟩
  ·rw[ds_eq]
   exact qzi 0 [] 0 (λq=>q) [] rfl)
 have a5:(pl.map pD).filterMap (gSl n)=[rD g]:=by
  rw[Qx1];have:(pl.filterMap λy=>if y.1=(n,Fa.stake o g).1 then some (D.tup (cut (dsF y.2) (some 2) none)) else none)=[.tup (cut (dsF (Fa.stake o g)) (some 2) none)]:=fm_one (f:=λp:Int×Fa=>p.1) w.up (λp=>D.tup (cut (dsF p.2) (some 2) none)) hs;refine(congrArg (λf=>pl.filterMap f) (funext λp=>?_)).trans this;obtain⟨day,f⟩:=p;cases f<;>rfl
 rw[a5]at hc;have body:∀(τ:Sl) (p:Int×Fa),p∈pl->(∃a b c,τ=[some q,some (.int n),some (.lst (K.1.map .int)),some (oD K.2),a,b,some (rD g),c])->
   (∀v,(qqd g n K p).map D.int=some v->((setT (.tup [4,5]) (pD p) τ).bind λa1=>(RL (callD fns (m+1))).ex a1 st vB)=some (.rt v,st))/\
   ((qqd g n K p).map D.int=none->∃J,((setT (.tup [4,5]) (pD p) τ).bind λa1=>(RL (callD fns (m+1))).ex a1 st vB)=some (.nx J,st)/\∃a b c,J=[some q,some (.int n),some (.lst (K.1.map .int)),some (oD K.2),a,b,some (rD g),c]):=by
  rintro τ ⟨day,f⟩ hp ⟨a,b,c,rfl⟩;have hd:=w.dy _ hp;have a2:=a6 _ hp;dsimp only at hd
  cases f with
  |vein ss ps=>
   have a2:ps.length<=16:=a2
   have Z:qqd g n K (day,Fa.vein ss ps)=if hasB g ps=true/\mx day n<=lastAt K.1 (mx day n)/\(K.2=none\/mx day n<K.2.getD 0) then some (mx day n) else none:=rfl
   have a7:(RL (callD fns (m+1))).ev [some q,some (.int n),some (.lst (K.1.map .int)),some (oD K.2),some (.int day),some (Fa.vein ss ps).d,some (rD g),c] st (.idx (.var 5) (.lit (.int 2)))=some (.tup (ps.map cD),st):=qzi 0 [] 1 (λq=>q) [] rfl;have F:=qgn (c:=callD fns (m+1)) (τ:=[some q,some (.int n),some (.lst (K.1.map .int)),some (oD K.2),some (.int day),some (Fa.vein ss ps).d,some (rD g),c]) (st:=st) (it:=.idx (.var 5) (.lit (.int 2))) (elt:=.call 47 [.var 1,.var 0]) (sr:=[none,some 6]) (rst:=[some (rD g)]) ps cD (λp=>.bl (inB g p)) (by show((RL (callD fns (m+1))).ev _ st _).bind _=_; rw[a7]; rfl) (by unfold lim; omega) rfl λp _=>qzi 0 [47] 1 (λq=>_/\q) [.c (.bl (inB g p),st)] ⟨in_ok m st g p,rfl⟩;have e:ps.map (λp=>D.bl (inB g p))=(ps.map (inB g)).map .bl:=by rw[Qzk]; rfl
   rw[e]at F;have j:bfun st .any [.lst ((ps.map (inB g)).map .bl)]=some (.bl (hasB g ps),st):=by
    show(asBools _).map _=_;rw[asB];simp[hasB,List.any_map,Function.comp_def]
   have O:=qzg (st:=st) (nlB (ps.map (inB g)));have m0:0<=mx day n/\mx day n<=401:=by rcases qf3 day n with⟨_,e⟩|⟨_,e⟩<;>rw[e]<;>omega
   have Y:=qyv (st:=st) hK m0.1 m0.2;have U:bfun st .max [.int day,.int n]=some (.int (mx day n),st):=rfl;rw[Z]
   by_cases hb:hasB g ps=true
   ·rw[hb]at j
    by_cases L:mx day n<=lastAt K.1 (mx day n)
    ·cases hz:K.2 with
     |none=>
      rw[Z3 ⟨hb,L,.inl rfl⟩];refine⟨λv Z=>?_,nofun⟩;cases Z;rw[hz]at F;exact qzb 0 [] 1 (λq=>_/\_/\_/\_/\_/\_/\_/\q) [.c (.loc st.length,st++[.lst true ((ps.map (inB g)).map .bl)]),.l ((ps.map (inB g)).map .bl),.c (.bl true,st),.c (.int (mx day n),st),.i (.int (lastAt K.1 (mx day n))),.b true,.b true] ⟨F,O,j,U,Y,Z0 L,(show isNon (oD none)=true from rfl),rfl⟩
     |some x=>
      rw[hz]at F
      by_cases hx:mx day n<x
      ·rw[Z3 ⟨hb,L,.inr hx⟩];refine⟨λv Z=>?_,nofun⟩;cases Z;exact qzb 0 [] 1 (λq=>_/\_/\_/\_/\_/\_/\_/\_/\q) [.c (.loc st.length,st++[.lst true ((ps.map (inB g)).map .bl)]),.l ((ps.map (inB g)).map .bl),.c (.bl true,st),.c (.int (mx day n),st),.i (.int (lastAt K.1 (mx day n))),.b true,.b false,.b true] ⟨F,O,j,U,Y,Z0 L,(show isNon (oD (some x))=false from rfl),Z0 hx,rfl⟩
      ·rw[Z2 λz=>z.2.2.elim nofun hx];refine⟨nofun,λ_=>⟨[some q,some (.int n),some (.lst (K.1.map .int)),some (oD (some x)),some (.int day),some (Fa.vein ss ps).d,some (rD g),some (.int (mx day n))],?_,_,_,_,rfl⟩⟩;exact qzb 0 [] 1 (λq=>_/\_/\_/\_/\_/\_/\_/\_/\q) [.c (.loc st.length,st++[.lst true ((ps.map (inB g)).map .bl)]),.l ((ps.map (inB g)).map .bl),.c (.bl true,st),.c (.int (mx day n),st),.i (.int (lastAt K.1 (mx day n))),.b true,.b false,.b false] ⟨F,O,j,U,Y,Z0 L,(show isNon (oD (some x))=false from rfl),Z1 hx,rfl⟩
    ·rw[Z2 λz=>L z.2.1];refine⟨nofun,λ_=>⟨[some q,some (.int n),some (.lst (K.1.map .int)),some (oD K.2),some (.int day),some (Fa.vein ss ps).d,some (rD g),some (.int (mx day n))],?_,_,_,_,rfl⟩⟩;exact qzb 0 [] 1 (λq=>_/\_/\_/\_/\_/\_/\q) [.c (.loc st.length,st++[.lst true ((ps.map (inB g)).map .bl)]),.l ((ps.map (inB g)).map .bl),.c (.bl true,st),.c (.int (mx day n),st),.i (.int (lastAt K.1 (mx day n))),.b false] ⟨F,O,j,U,Y,Z1 L,rfl⟩
   ·rw[Z2 λz=>hb z.1];rw[Qj6]at hb;rw[hb]at j;refine⟨nofun,λ_=>⟨[some q,some (.int n),some (.lst (K.1.map .int)),some (oD K.2),some (.int day),some (Fa.vein ss ps).d,some (rD g),c],?_,_,_,_,rfl⟩⟩;exact qzb 0 [] 1 (λq=>_/\_/\_/\q) [.c (.loc st.length,st++[.lst true ((ps.map (inB g)).map .bl)]),.l ((ps.map (inB g)).map .bl),.c (.bl false,st)] ⟨F,O,j,rfl⟩
  |stake o' g'=>exact⟨nofun,λ_=>⟨[some q,some (.int n),some (.lst (K.1.map .int)),some (oD K.2),some (.int day),some (Fa.stake o' g').d,some (rD g),c],qzb 0 [] 1 (λq=>q) [] rfl,_,_,_,rfl⟩⟩
  |work k=>exact⟨nofun,λ_=>⟨[some q,some (.int n),some (.lst (K.1.map .int)),some (oD K.2),some (.int day),some (Fa.work k).d,some (rD g),c],qzb 0 [] 1 (λq=>q) [] rfl,_,_,_,rfl⟩⟩
  |give k=>exact⟨nofun,λ_=>⟨[some q,some (.int n),some (.lst (K.1.map .int)),some (oD K.2),some (.int day),some (Fa.give k).d,some (rD g),c],qzb 0 [] 1 (λq=>q) [] rfl,_,_,_,rfl⟩⟩
 obtain⟨s',t1,t2,t3⟩:=qk6 (c:=callD fns (m+1)) (τ:=[some q,some (.int n),some (.lst (K.1.map .int)),some (oD K.2),none,none,some (rD g),none]) (i:=0) rfl hq;rw[Qqx]at t3;obtain⟨u1,u2⟩:=qwq (f:=λτ st d=>(setT (.tup [4,5]) d τ).bind λJ=>(RL (callD fns (m+1))).ex J st vB) (s:=s') (S:=st) (ds:=pl) (g:=pD) (λτ=>∃a b c,τ=[some q,some (.int n),some (.lst (K.1.map .int)),some (oD K.2),a,b,some (rD g),c]) (λp=>(qqd g n K p).map D.int) t2 body pl.length 0 [some q,some (.int n),some (.lst (K.1.map .int)),some (oD K.2),none,none,some (rD g),none] (by omega) ⟨_,_,_,rfl⟩;have a8:∀l:Pl,l.findSome? (λp=>(qqd g n K p).map D.int)=(l.findSome? (qqd g n K)).map .int:=λl=>by
  induction l with
  |nil=>rfl
  |cons p r ih=>
   rw[Qz7,Qz7,ih];cases qqd g n K p<;>rfl
 rw[Qje,a8]at u1 u2;have a0:∀r,loop s' (λτ st d=>(setT (.tup [4,5]) d τ).bind λJ=>(RL (callD fns (m+1))).ex J st vB) (pl.length+1) 0 [some q,some (.int n),some (.lst (K.1.map .int)),some (oD K.2),none,none,some (rD g),none] st=some r->stepEx (RL (callD fns (m+1))) [some q,some (.int n),some (.lst (K.1.map .int)),some (oD K.2),none,none,some (rD g),none] st (.forr (.tup [4,5]) (.var 0) vB)=some r:=λr hr=>by
  show(src (RL (callD fns (m+1))) _ st (.var 0)).bind _=_;rw[t1];simp only[oBs];rw[t3];exact hr
 have a4:=qzg (st:=st) (ds:=[rD g]) rfl;have a3:idxD st (.lst [rD g]) (.int 0)=some (rD g):=rfl
 cases Z:qz6 g n K pl with
 |some v=>
  have u:=a0 _ (u1 (.int v) (by show(qz6 g n K pl).map _=_; rw[Z]; rfl));exact qzz 0 [] 2 (λq=>_/\_/\_/\_/\q) [.c (.loc st.length,st++[.lst true [rD g]]),.l [rD g],.i (rD g),.s (.rt (.int v),st)] ⟨hc,a4,a3,u,rfl⟩
 |none=>
  obtain⟨J,e1,a,b,c,rfl⟩:=u2 (by show(qz6 g n K pl).map _=_; rw[Z]; rfl);have u:=a0 _ e1;exact qzz 0 [] 2 (λq=>_/\_/\_/\_/\q) [.c (.loc st.length,st++[.lst true [rD g]]),.l [rD g],.i (rD g),.s (.nx [some q,some (.int n),some (.lst (K.1.map .int)),some (oD K.2),a,b,some (rD g),c],st)] ⟨hc,a4,a3,u,rfl⟩
theorem qch(m:Nat)(st:Store)(a:Int):callD fns (m+1) 39 [.int a,.int a] st=some (.bl true,st):=
 qzz 0 [] 1 (λq=>_/\q) [.b true] ⟨beq_self_eq_true a,rfl⟩
theorem qg9(m:Nat)(st:Store)(o:Option Int):callD fns (m+1) 39 [oD o,oD o] st=some (.bl true,st):=by
 cases o with
 |none=>exact qzz 0 [] 1 (λq=>q) [] rfl
 |some a=>exact qch m st a
theorem qhz(m:Nat){st:Store}{q:D}{ds:List D}(F:q=.tup ds\/q=.lst ds)(hl:ds.length<1000)(hs:∀d∈ds,callD fns (m+1) 39 [d,d] st=some (.bl true,st)):callD fns (m+2) 39 [q,q] st=some (.bl true,st):=by
 have Z:bfun st .len [q]=some (.int ds.length,st):=by rcases F with rfl|rfl<;>rfl
 have U:∀(i:Nat) (d:D),ds[i]?=some d->idxD st q (.int (0+(i:Int)))=some d:=λi d h=>by
  have hi:i<ds.length:=(Qqv.mp h).1;have:atI ds (0+(i:Int))=some d:=by
   unfold atI ixN;rw[Z3 (by omega),Z3 (by omega)];simp only[oBs];rw[show(0+(i:Int)).toNat=i by omega];exact h
  rcases F with rfl|rfl
  ·exact this
  ·exact this
 have z:src (RL (callD fns (m+1))) [some q,some q,none] st (.rng1 (.bcall .len [.var 1]))=some (.rng 0 ds.length,st):=by
  have ev:(RL (callD fns (m+1))).ev [some q,some q,none] st (.bcall .len [.var 1])=some (.int ds.length,st):=by
   rcases F with rfl|rfl
   ·exact qzi 0 [] 1 (λq=>q) [] rfl
   ·exact qzi 0 [] 1 (λq=>q) [] rfl
  show((RL (callD fns (m+1))).ev _ st _).bind _=_;rw[ev];show(if big (ds.length:Int) then none else some (Src.rng 0 (ds.length:Int).toNat,st))=_;rw[Z2 (by unfold big; simp only[Qzy,decide_eq_true_eq,not_or]; omega),Int.toNat_natCast]
 have Y:=qat (S:=st) 0 ds.length;have hc:stepEv (RL (callD fns (m+1))) [some q,some q,none] st (.comp (.var 0) (.rng1 (.bcall .len [.var 1])) none (.call 39 [.idx (.var 2) (.var 0),.idx (.var 1) (.var 0)]) [none,some 1,some 0])=some (.loc st.length,st++[.lst true ((List.replicate ds.length true).map .bl)]):=by
  refine qvh (rest:=[some q,some q]) (ds:=(List.range ds.length).map λ(i:Nat)=>D.int (0+(i:Int))) z Y (by simp[Src.size]) rfl (by simp) (by simp; unfold lim; omega) λk d e hd L=>?_;rw[Qqa]at hd L;obtain⟨i,hi,rfl⟩:=Qqi.mp hd;obtain⟨b,O,rfl⟩:=Qqi.mp L;rw[Qxk]at O
  split at O
  ·rename_i hk;cases O;rw[Qxn hk]at hi;cases hi;have hd:=Qqg hk;have h1:=U k _ hd;have h2:=hs _ (Qqr hd);rcases F with rfl|rfl
   ·exact qzi 0 [39] 1 (λq=>_/\_/\_/\q) [.i ds[k],.i ds[k],.c (.bl true,st)] ⟨h1,h1,h2,rfl⟩
   ·exact qzi 0 [39] 1 (λq=>_/\_/\_/\q) [.i ds[k],.i ds[k],.c (.bl true,st)] ⟨h1,h1,h2,rfl⟩
  ·cases O
 have j:bfun st .all [.lst ((List.replicate ds.length true).map .bl)]=some (.bl true,st):=by
  show(asBools _).map _=_;rw[asB];simp
 have L:=qzg (st:=st) (nlB (List.replicate ds.length true));have J:(!((ds.length:Int)==(ds.length:Int)))=false:=by simp
 rcases F with rfl|rfl
 ·exact qzz 0 [] 2 (λq=>_/\_/\_/\_/\q) [.b false,.c (.loc st.length,st++[.lst true ((List.replicate ds.length true).map .bl)]),.l ((List.replicate ds.length true).map .bl),.c (.bl true,st)] ⟨J,hc,L,j,rfl⟩
 ·exact qzz 0 [] 2 (λq=>_/\_/\_/\_/\q) [.b false,.c (.loc st.length,st++[.lst true ((List.replicate ds.length true).map .bl)]),.l ((List.replicate ds.length true).map .bl),.c (.bl true,st)] ⟨J,hc,L,j,rfl⟩
noncomputable def vOf(cs:List Cl)(n:Int):Int:=match cs.find? λc=>c.nm==n with
 |some c=>c.v.getD 0
 |none=>0
theorem qyl{cs:List Cl}(z:(cs.map (·.nm)).Nodup){c:Cl}(F:c∈cs):vOf cs c.nm=c.v.getD 0:=by
 have:cs.find? (λx=>x.nm==c.nm)=some c:=by
  induction cs with
  |nil=>cases F
  |cons a r J=>
   rw[Qqy,Qzx]at z;rw[Qzq];rcases Qqc.mp F with rfl|j
   ·simp
   ·rw[beq_false_of_ne λe=>z.1 (Qqk.mpr ⟨c,j,e.symm⟩)];exact J z.2 j
 unfold vOf;rw[this]
noncomputable def stn(d:Int)(c:Cl):Bool:=decide (stW c d = "stands")
noncomputable def rowP(d:Int)(cs:List Cl):List (Int×Int):=(cs.filter (stn d)).map λc=>(c.v.getD 0,c.nm)
theorem stn_iff{d:Int}{c:Cl}:stn d c=true↔c.v≠none/\c.gv=none/\d<=c.la:=by
 unfold stn;rw[decide_eq_true_eq];constructor
 ·intro h;rcases qzu c d with⟨e,_⟩|⟨_,a,b,e⟩|⟨e,_⟩|⟨e,_⟩
  ·rw[e]at h; exact absurd h (by decide)
  ·exact⟨a,b,e⟩
  ·rw[e]at h; exact absurd h (by decide)
  ·rw[e]at h; exact absurd h (by decide)
 ·rintro⟨a,b,e⟩;rcases qzu c d with⟨_,h,_⟩|⟨h,_⟩|⟨_,h⟩|⟨_,h,_⟩
  ·exact absurd h a
  ·exact h
  ·exact absurd b h
  ·omega
theorem qfe{d:Int}{cs:List Cl}{ro:List Int}(h:RI d cs ro):(sortP (rowP d cs)).map (·.2)=ro.filter (stB cs d):=by
 have j:=qbu h.up;have e:sortP (rowP d cs)=(ro.filter (stB cs d)).map λn=>(vOf cs n,n):=by
  refine List.Perm.eq_of_pairwise (le:=λa b=>leP a b=true) (λa b _ _ h1 h2=>?_) (MS.sortP_up _) ?_ ((MS.sortP_perm _).trans ?_)
  ·rw[MS.leP_iff]at h1 h2;exact Prod.ext (by omega) (by omega)
  ·rw[Qz2];refine(h.so.sublist Qxp).imp_of_mem λ{a b} Z Y k=>?_;obtain⟨x,O,rfl,_⟩:=(h.mem a).mp (Qzz.mp Z).1;obtain⟨y,L,rfl,_⟩:=(h.mem b).mp (Qzz.mp Y).1;rw[MS.leP_iff,qyl j O,qyl j L];rcases k x O y L rfl rfl with z|⟨U,z2⟩
   ·exact .inl z
   ·exact .inr ⟨U,by omega⟩
  ·refine(List.perm_ext_iff_of_nodup ?_ ?_).mpr λp=>?_
   ·have:((cs.filter (stn d)).map (·.nm)).Nodup:=j.sublist (List.Sublist.map _ Qxp);unfold List.Nodup at this ⊢;unfold rowP;rw[Qz2]at this ⊢;exact this.imp λz e=>z (congrArg Prod.snd e)
   ·have:(ro.filter (stB cs d)).Nodup:=h.nd.sublist Qxp;unfold List.Nodup at this ⊢;rw[Qz2];exact this.imp λz e=>z (congrArg Prod.snd e)
   ·unfold rowP;rw[Qqk,Qqk];constructor
    ·rintro⟨c,F,rfl⟩;obtain⟨F,J⟩:=Qzz.mp F;refine⟨c.nm,Qzz.mpr ⟨(h.mem _).mpr ⟨c,F,rfl,(stn_iff.mp J).1⟩,?_⟩,by rw[qyl j F]⟩;rw[qca j F];exact J
    ·rintro⟨n,hn,rfl⟩;obtain⟨hn,J⟩:=Qzz.mp hn;obtain⟨c,F,rfl,_⟩:=(h.mem n).mp hn;rw[qca j F]at J;exact⟨c,Qzz.mpr ⟨F,J⟩,by rw[qyl j F]⟩
 rw[e,Qzk];exact(Qq6 λ_ _=>rfl).trans (Qjh _)
theorem asP:∀L:List (Int×Int),asPairs (L.map pI)=some L
 |[]=>rfl
 |p::r=>by show(asPairs (r.map pI)).map _=_; rw[asP r]; rfl
theorem qfd(st:Store)(L:List (Int×Int))(F:L.length<64):bfun (st++[.lst true (L.map pI)]) .sorted [.loc st.length]=some (.loc (st.length+1),st++[.lst true (L.map pI)]++[.lst true ((sortP L).map pI)]):=by
 have z:seqAt (st++[.lst true (L.map pI)]) (.loc st.length)=some (L.map pI):=by show listAt _ _=_; unfold listAt; rw[gl]
 have j:(st++[Cell.lst true (L.map pI)]).length=st.length+1:=by simp
 show(((seqAt _ _).bind _).or _)=_;rw[z]
 cases L with
 |nil=>show some (alloc _ _)=_; unfold alloc; rw[j]; rfl
 |cons p r=>
  show((if 64<=_ then none else asInts ((p::r).map pI)).map _).or _=_;have:(if 64<=((p::r).map pI).length then none else asInts ((p::r).map pI))=none:=by split<;>rfl
  rw[this];show((if 64<=((p::r).map pI).length then none else asPairs ((p::r).map pI)).map _)=_;rw[Z2 (by rw[Qqx]; omega),asP];show some (alloc _ _)=_;unfold alloc;rw[j]
noncomputable def plC(pl:Pl):Cell:=.lst true (pl.map pD)
noncomputable abbrev FX(W H P T d:Int)(vs:List (Int×D×List (Int×Int)))(cs:List Cl)(ro:List Int)(pl:Pl)(r0:Store):Store:=FC (szD W H P) T d (voD vs) [] cs ro (plC pl::r0)
noncomputable abbrev lI(L:List (Int×Int)):Store:=[.lst true (L.map pI)]
noncomputable def gK:D->Option D
 |.tup [.int n,.tup (.str z::_)]=>if MS.sq z "stake" then some (.int n) else none
 |_=>none
theorem gK_map(pl:Pl):(pl.map pD).filterMap gK=(qzw pl).map .int:=by
 induction pl with
 |nil=>rfl
 |cons p r j=>
  obtain⟨d,f⟩:=p;rw[Qqy,Qz5,j];unfold qzw;rw[Qkq];cases f<;>rfl
theorem qc7{c:CF}{τ:Sl}{st:Store}{i:Nat}{q:D}{pl:Pl}(j:τ[i]?=some (some q))(Y:rowAt st q=some (pl.map pD))(Z:pl.length<1000)
  (U:∀p:Int×Fa,(RL c).tst [some (.int p.1),some p.2.d] st (.cmp .Eq (.idx (.var 1) (.lit (.int 0))) (.lit (sO "stake")))=some (isSt p,st)) :
  stepEv (RL c) τ st (.comp (.tup [0,1]) (.var i) (some (.cmp .Eq (.idx (.var 1) (.lit (.int 0))) (.lit (sO "stake")))) (.var 0) [none,none])=some (.loc st.length,st++[.lst true ((qzw pl).map .int)]):=by
 obtain⟨s,L,J,F⟩:=qk6 (c:=c) j Y
 have:=qxe (c:=c) (τ:=τ) (st:=st) (t:=.tup [0,1]) (it:=.var i) (elt:=.var 0) (test:=some (.cmp .Eq (.idx (.var 1) (.lit (.int 0))) (.lit (sO "stake")))) (sr:=[none,none]) gK (λτ=>∃a b,τ=[a,b]) L J F (by simp; unfold lim; omega) ⟨none,none,rfl⟩ (λτ x O z=>by
  obtain⟨a,b,rfl⟩:=z;obtain⟨p,z,rfl⟩:=Qqk.mp O;refine⟨[some (.int p.1),some p.2.d],?_,_,_,rfl⟩
  have e:gK (pD p)=if isSt p=true then some (.int p.1) else none:=by obtain⟨d,f⟩:=p; cases f<;>rfl
  rw[e]
  exact turn_if rfl (U p) λ_=>qk9 _ _ _ _ _ rfl)
 rw[gK_map]at this;exact this
theorem qcz(m:Nat)(st:Store)(p:Int×Fa):(RL (callD fns m)).tst [some (.int p.1),some p.2.d] st (.cmp .Eq (.idx (.var 1) (.lit (.int 0))) (.lit (sO "stake")))=some (isSt p,st):=by
 obtain⟨d,f⟩:=p;cases f<;>exact qqe (k:=m) 0 [] 0 (λq=>q) [] rfl
noncomputable abbrev hB:List M.S:=[.set (.tup [6,7]) (.call 50 [.var 1,.var 2,.var 5]),.set (.var 8) (.call 49 [.var 1,.var 5,.var 6,.var 7]),.ite (.not (.call 39 [.sli (.mcall 642 36 "claim" (.var 0) [.var 5]) (some (.lit (.int 2))) none,.tup [.idx (.var 6) (.var 3),.var 8,.var 7]])) [.ret (.lit (.bl false))] [],.ite (.and (.cmp .IsNot (.var 8) (.lit .non)) (.and (.cmp .Is (.var 7) (.lit .non)) (.cmp .LtE (.var 3) (.idx (.var 6) (.var 3))))) [.expr (.meth (.var 4) .append [.tup [.var 8,.var 5]])] []]
section
variable {W H P T d:Int}{pl:Pl}{vs:List (Int×D×List (Int×Int))}{cs:List Cl}{ro:List Int}{r0:Store}
theorem qgk(m:Nat)(h:St T d pl vs cs ro (plC pl::r0))(hk:pl.length<100)(a5:∀p∈pl,(psOf p).length<=16){c:Cl}(hc:c∈cs){L:List (Int×Int)}(hL:L.length<1000){x6 x7 x8:Option D}{dy:Int}(a3:dy=d):
  ∃y6 y7 y8,(RL (callD fns (m+3))).ex [some (.loc 0),some (.loc 8),some (.int T),some (.int dy),some (.loc (FX W H P T d vs cs ro pl r0).length),some (.int c.nm),x6,x7,x8] (FX W H P T d vs cs ro pl r0++lI L) hB=some (.nx [some (.loc 0),some (.loc 8),some (.int T),some (.int dy),some (.loc (FX W H P T d vs cs ro pl r0).length),some (.int c.nm),y6,y7,y8],FX W H P T d vs cs ro pl r0++[.lst true ((L++if stn d c then [(c.v.getD 0,c.nm)] else []).map pI)]):=by
 subst a3;have ci:=h.ci c hc;obtain⟨o,ho⟩:=ci.st;have hw:=h.w;have a2:=hw.lo;have a6:=hw.hi;have Z:=qjz (T:=T) (n:=c.nm) hw;generalize hS:FX W H P T dy vs cs ro pl r0=S;have j:=qgo (sz:=szD W H P) (T:=T) (d:=dy) (fo:=voD vs) (jo:=[]) (ro:=ro) (m+1) (h.I.more (lI L)) hc;have eS:FC (szD W H P) T dy (voD vs) [] cs ro ((plC pl::r0)++lI L)=S++lI L:=by rw[<- hS]; rfl
 rw[eS]at j;have hq:rowAt (S++lI L) (.loc 8)=some (pl.map pD):=by rw[<- hS]; rfl
 have Y:=qlu (m+2) (T:=T) (n:=c.nm) hw (by omega) hq;have F:=qbr (m+1) (o:=o) hw (by omega) a5 hq ho Z;have a1:=ci.la dy (Int.le_refl _) (by omega);have hi:=qyv (st:=S++lI L) Z a2 (by omega);rw[a1]at hi;rw[<- ci.v]at F;rw[<- ci.gv]at Y F;generalize (kept T c.nm pl).1.map D.int=KL at Y F hi
 have U:=qhz (m+1) (st:=S++lI L) (q:=.tup [.int c.la,oD c.v,oD c.gv]) (.inl rfl) (by simp) (λx hx=>by
  simp only[Qqc,Qzc,or_false]at hx;rcases hx with rfl|rfl|rfl
  ·exact qch (m+1) _ c.la
  ·exact qg9 (m+1) _ c.v
  ·exact qg9 (m+1) _ c.gv)
 have J:∀b,(b=true↔c.v≠none/\c.gv=none/\dy<=c.la)->stn dy c=b:=λb hb=>by
  rw[Qzm,stn_iff];exact hb.symm
 have g0:=gl (st:=S) (c:=.lst true (L.map pI));have a0:decide ((L.map pI).length<lim)=true:=Z0 (by rw[Qqx]; unfold lim; omega);have a4:∀x:Int,(S++lI L).set S.length (.lst true (L.map pI++[.tup [.int x,.int c.nm]]))=S++[.lst true ((L++[(x,c.nm)]).map pI)]:=λx=>by
  rw[sl,Qq1]
  rfl
 subst hS
 cases hv:c.v with
 |none=>
  rw[J false ⟨nofun,λz=>absurd hv z.1⟩];simp only[Qqf,if_false,Qzv];rw[hv]at F U j;exact⟨some (.lst KL),some (oD c.gv),some .non,qzb 8 [50,49,36,39] 3 (λq=>_/\_/\_/\_/\_/\_/\q) [.c (.tup [.lst KL,oD c.gv],FX W H P T dy vs cs ro pl r0++lI L),.c (.non,FX W H P T dy vs cs ro pl r0++lI L),.c (.tup [.int c.o,rD c.g,.int c.la,.non,oD c.gv],FX W H P T dy vs cs ro pl r0++lI L),.i (.int c.la),.c (.bl true,FX W H P T dy vs cs ro pl r0++lI L),.b false] ⟨Y,F,j,hi,U,(show(!isNon .non)=false from rfl),rfl⟩⟩
 |some x=>
  rw[hv]at F U j
  cases hg:c.gv with
  |some y=>
   rw[J false ⟨nofun,λz=>by rw[hg]at z; exact absurd z.2.1 nofun⟩];simp only[Qqf,if_false,Qzv];rw[hg]at Y F U j;exact⟨some (.lst KL),some (.int y),some (.int x),qzb 8 [50,49,36,39] 3 (λq=>_/\_/\_/\_/\_/\_/\_/\q) [.c (.tup [.lst KL,.int y],FX W H P T dy vs cs ro pl r0++lI L),.c (.int x,FX W H P T dy vs cs ro pl r0++lI L),.c (.tup [.int c.o,rD c.g,.int c.la,.int x,.int y],FX W H P T dy vs cs ro pl r0++lI L),.i (.int c.la),.c (.bl true,FX W H P T dy vs cs ro pl r0++lI L),.b true,.b false] ⟨Y,F,j,hi,U,(show(!isNon (.int x))=true from rfl),(show isNon (.int y)=false from rfl),rfl⟩⟩
  |none=>
   rw[hg]at Y F U j
   by_cases O:dy<=c.la
   ·rw[J true ⟨λ_=>⟨by rw[hv]; exact nofun,hg,O⟩,λ_=>rfl⟩];simp only[if_true,Qxg];rw[<- a4 x];exact⟨some (.lst KL),some .non,some (.int x),qzb 8 [50,49,36,39] 3 (λq=>_/\_/\_/\_/\_/\_/\_/\_/\_/\_/\_/\_/\q) [.c (.tup [.lst KL,.non],FX W H P T dy vs cs ro pl r0++lI L),.c (.int x,FX W H P T dy vs cs ro pl r0++lI L),.c (.tup [.int c.o,rD c.g,.int c.la,.int x,.non],FX W H P T dy vs cs ro pl r0++lI L),.i (.int c.la),.c (.bl true,FX W H P T dy vs cs ro pl r0++lI L),.b true,.b true,.i (.int c.la),.b true,.r (.lst true (L.map pI)),.r (.lst true (L.map pI)),.b true] ⟨Y,F,j,hi,U,(show(!isNon (.int x))=true from rfl),(show isNon .non=true from rfl),hi,Z0 O,g0,g0,a0,rfl⟩⟩
   ·rw[J false ⟨nofun,λz=>absurd z.2.2 O⟩];simp only[Qqf,if_false,Qzv];exact⟨some (.lst KL),some .non,some (.int x),qzb 8 [50,49,36,39] 3 (λq=>_/\_/\_/\_/\_/\_/\_/\_/\_/\q) [.c (.tup [.lst KL,.non],FX W H P T dy vs cs ro pl r0++lI L),.c (.int x,FX W H P T dy vs cs ro pl r0++lI L),.c (.tup [.int c.o,rD c.g,.int c.la,.int x,.non],FX W H P T dy vs cs ro pl r0++lI L),.i (.int c.la),.c (.bl true,FX W H P T dy vs cs ro pl r0++lI L),.b true,.b true,.i (.int c.la),.b false] ⟨Y,F,j,hi,U,(show(!isNon (.int x))=true from rfl),(show isNon .non=true from rfl),hi,Z1 O,rfl⟩⟩
end
theorem qdk(xs:List D)(y:D):atI (xs++[y]) (-1)=some y:=by
 unfold atI ixN;rw[Z2 (by decide),Z3 (by simp; omega)];simp only[oBs,Qqo,Qzo];rw[show(-1+((xs.length+1:Nat):Int)).toNat=xs.length by omega];simp
theorem qcm(d:Int)(cs:List Cl)(c:Cl):rowP d (cs++[c])=rowP d cs++if stn d c then [(c.v.getD 0,c.nm)] else []:=by
 unfold rowP;rw[Qxa,Qq1,Qkq,Qkw]
 split<;>rfl
noncomputable def gS:D->Option D
 |.tup [.int _,.int b]=>some (.int b)
 |_=>none
theorem gS_map(L:List (Int×Int)):(L.map pI).filterMap gS=rowD (L.map (·.2)):=by
 induction L with
 |nil=>rfl
 |cons p r j=>rw[Qqy,Qz5,j]; rfl
section
variable {W H P T d:Int}{pl:Pl}{vs:List (Int×D×List (Int×Int))}{cs:List Cl}{ro:List Int}{r0:Store}
theorem qmq(m:Nat)(h:St T d pl vs cs ro (plC pl::r0))(hk:pl.length<60)(b1:∀p∈pl,(psOf p).length<=16){a5:Pl}{f:Fa}(he:pl=a5++[(d,f)]):
  ∃r,callD fns (m+4) 51 [.loc 0,.loc 8,.int T] (FX W H P T d vs cs ro pl r0)=some (.bl true,FX W H P T d vs cs ro pl r0++r):=by
 have b4:=h.cl;have b2:=h.rl;generalize hS:FX W H P T d vs cs ro pl r0=S;have hq:∀r,rowAt (S++r) (.loc 8)=some (pl.map pD):=λr=>by rw[<- hS]; rfl
 have hi:idxD S (.loc 8) (.int (-1))=some (pD (d,f)):=by
  have:seqAt S (.loc 8)=some (pl.map pD):=by rw[<- hS]; rfl
  show(seqAt S (.loc 8)).bind _=_;rw[this,he,Qq1];exact qdk _ _
 have a1:(qzw pl).map D.int=(cs.map (·.nm)).map .int:=by rw[h.nm]
 have hit:(RL (callD fns (m+3))).ev [some (.loc 0),some (.loc 8),some (.int T),some (.int d),some (.loc S.length),none,none,none,none] (S++[.lst true []]) (.gc (.comp (.tup [0,1]) (.var 1) (some (.cmp .Eq (.idx (.var 1) (.lit (.int 0))) (.lit (sO "stake")))) (.var 0) [none,none]))=some (.lst ((qzw pl).map .int),S++[.lst true []]):=by
  have U:=qc7 (c:=callD fns (m+3)) (τ:=[some (.loc 0),some (.loc 8),some (.int T),some (.int d),some (.loc S.length),none,none,none,none]) (i:=1) rfl (hq [.lst true []]) (by omega) (qcz (m+3) _);exact qzi 0 [] 3 (λq=>_/\_/\q) [.c (.loc (S++[Cell.lst true []]).length,S++[.lst true []]++[.lst true ((qzw pl).map .int)]),.l ((qzw pl).map .int)] ⟨U,qzg (st:=S++[.lst true []]) (nlI (qzw pl)),rfl⟩
 have a0:src (RL (callD fns (m+3))) [some (.loc 0),some (.loc 8),some (.int T),some (.int d),some (.loc S.length),none,none,none,none] (S++[.lst true []]) (.gc (.comp (.tup [0,1]) (.var 1) (some (.cmp .Eq (.idx (.var 1) (.lit (.int 0))) (.lit (sO "stake")))) (.var 0) [none,none]))=some (.lst (.lst ((qzw pl).map .int)),S++[.lst true []]):=by
  show((RL (callD fns (m+3))).ev _ _ _).bind _=_;rw[hit]
  rfl
 obtain⟨z,st',e1,Y,O,J,F,rfl,rfl⟩:=qvd (c:=callD fns (m+3)) (t:=.var 5) (body:=hB) (ds:=(cs.map (·.nm)).map .int) (λk z st'=>∃Y O J F,z=[some (.loc 0),some (.loc 8),some (.int T),some (.int d),some (.loc S.length),Y,O,J,F]/\st'=S++[.lst true ((rowP d (cs.take k)).map pI)]) a0 (by rw[a1]; exact qqs rfl) (λk z st' _=>by rw[a1]; exact qku rfl k) ⟨_,_,_,_,rfl,by rw[Qxm]; rfl⟩ (λk z st' x Z hp=>by
  obtain⟨Y,O,J,F,rfl,rfl⟩:=hp;rw[Qzk,Qqa]at Z;obtain⟨c,U,rfl⟩:=Qqi.mp Z;have hm:=Qqr U;have b3:k<cs.length:=(Qqv.mp U).1;have a6:cs.take (k+1)=cs.take k++[c]:=by rw[Qjf,U]; rfl
  have hL:(rowP d (cs.take k)).length<1000:=by
   unfold rowP;rw[Qqx];have:=Qzr (stn d) (cs.take k);rw[Qq9]at this;omega
  obtain⟨y6,y7,y8,e⟩:=qgk (W:=W) (H:=H) (P:=P) m h (by omega) b1 hm hL (x6:=O) (x7:=J) (x8:=F) (dy:=d) rfl;rw[hS]at e
  exact⟨_,_,e,some (.int c.nm),y6,y7,y8,rfl,by rw[a6,qcm]⟩)
 rw[Qqx,Qqx,Qxz]at e1;have j:=qfe h.ri;generalize a4:rowP d cs=L at e1 j
 have hs:=qfa (sz:=szD W H P) (T:=T) (d:=d) (fo:=voD vs) (jo:=[]) m (h.I.more (lI L)) (ro:=ro) (λn hn=>by
  obtain⟨c,U,e,_⟩:=(h.ri.mem n).mp hn
  exact⟨c,U,e⟩) (by omega)
 have eS:FC (szD W H P) T d (voD vs) [] cs ro ((plC pl::r0)++lI L)=S++lI L:=by rw[<- hS]; rfl
 rw[eS]at hs;have b0:L.length<64:=by
  rw[<- a4];unfold rowP;rw[Qqx];have:=Qzr (stn d) cs;omega
 have a9:(RL (callD fns (m+3))).ev [some (.loc 0),some (.loc 8),some (.int T),some (.int d),some (.loc S.length),Y,O,J,F] (S++lI L) (.gc (.bcall .sorted [.var 4]))=some (.lst ((sortP L).map pI),S++lI L):=by
  have hg:gcD (S++lI L) (.loc (S.length+1),S++lI L++[.lst true ((sortP L).map pI)])=(.lst ((sortP L).map pI),S++lI L):=by
   have:=qzg (st:=S++lI L) (ds:=(sortP L).map pI) (qqw λ_ _=>rfl);rw[Qqo]at this;exact this
  exact qzi 0 [] 3 (λq=>_/\_/\q) [.c (.loc (S.length+1),S++lI L++[.lst true ((sortP L).map pI)]),.l ((sortP L).map pI)] ⟨qfd S L b0,hg,rfl⟩
 have a8:(sortP L).length<lim:=by
  rw[(MS.sortP_perm L).length_eq,<- a4];unfold rowP lim;rw[Qqx];have:=Qzr (stn d) cs;omega
 have a3:=qxe (c:=callD fns (m+3)) (τ:=[some (.loc 0),some (.loc 8),some (.int T),some (.int d),some (.loc S.length),Y,O,J,F]) (st:=S++lI L) (t:=.tup [0,1]) (it:=.gc (.bcall .sorted [.var 4])) (elt:=.var 1) (test:=none) (sr:=[none,none]) (s:=.lst (.lst ((sortP L).map pI))) (ds:=(sortP L).map pI) gS (λτ=>∃a b,τ=[a,b]) (by show((RL (callD fns (m+3))).ev _ _ _).bind _=_; rw[a9]; rfl) (qku rfl) (qqs rfl) (by rw[Qqx]; exact a8) ⟨none,none,rfl⟩ (λτ x Z hp=>by
  obtain⟨a,b,rfl⟩:=hp;obtain⟨p,_,rfl⟩:=Qqk.mp Z
  exact⟨[some (.int p.1),some (.int p.2)],qw2 rfl (qk9 _ _ _ _ _ rfl),_,_,rfl⟩)
 rw[gS_map,j]at a3
 have a7:=qhz (m+1) (st:=S++lI L) (q:=.lst (rowD (ro.filter (stB cs d)))) (.inr rfl) (by
  rw[Qqx];have:=Qzr (stB cs d) ro
  omega) λx Z=>by
   obtain⟨n,_,rfl⟩:=Qqk.mp Z;exact qch (m+1) _ n
 have a2:=qzg (st:=S++lI L) (nlI (ro.filter (stB cs d)));refine⟨lI L,?_⟩;subst hS;exact qzz 8 [37,39] 4 (λq=>_/\_/\_/\_/\_/\_/\_/\q) [.i (pD (d,f)),.s (.nx [some (.loc 0),some (.loc 8),some (.int T),some (.int d),some (.loc (FX W H P T d vs cs ro pl r0).length),Y,O,J,F],FX W H P T d vs cs ro pl r0++lI L),.c (.loc (FX W H P T d vs cs ro pl r0++lI L).length,FX W H P T d vs cs ro pl r0++lI L++[.lst true (rowD (ro.filter (stB cs d)))]),.l (rowD (ro.filter (stB cs d))),.c (.loc (FX W H P T d vs cs ro pl r0++lI L).length,FX W H P T d vs cs ro pl r0++lI L++[.lst true (rowD (ro.filter (stB cs d)))]),.l (rowD (ro.filter (stB cs d))),.c (.bl true,FX W H P T d vs cs ro pl r0++lI L)] ⟨hi,e1,hs,a2,a3,a2,a7,rfl⟩
end
theorem qld(ps:List (Int×Int)):noLoc (.tup (ps.map cD))=true:=by rw[qc5]; exact qqw λ_ _=>rfl
theorem gT(st:Store)(ps:List (Int×Int)):noLoc (.tup (ps.map cD))=true/\(st++[Cell.lst true (ps.map cD)]).take st.length=st:=⟨qld ps,tkl⟩
theorem last_i{st:Store}{ks:List Int}(h:ks≠[]):idxD st (.lst (ks.map .int)) (.int (-1))=some (.int (ks.getLast h)):=qyk (st:=[]) (w:=true) h
section
variable {ns:List Int}(hn:ns.length<=63){W H P:Int}(w1:1<=W)(w2:W<=24)(h1:1<=H)(h2:H<=24)(p0:0<=P)(p1:P<=12)
include hn w1 w2 h1 h2 p0 p1
theorem qh1(m:Nat)(st:Store)(k:Int):∃j ps,callD fns (m+3) 46 [scr ns,.int k,szD W H P] st=some ((Fa.vein j ps).d,st)/\FaOk W H P (.vein j ps):=by
 obtain⟨j,Y,F,z⟩:=qfy hn m st k 8 (P:=P) (by decide) (by decide) p0 p1;obtain⟨ps,Z,U,O,L,J⟩:=qlj hn m st k 1 (P:=P) (by decide) (by decide) w1 w2 h1 h2;exact⟨j,ps,qzz (k:=m) 0 [43,44] 3 (λq=>_/\_/\_/\q) [.c (.tup (j.map .int),st),.c (.tup (ps.map cD),st++[.lst true (ps.map cD)]),.g] (r:=((Fa.vein j ps).d,st)) ⟨Y,Z,gT st ps,rfl⟩,F,by omega,z,U,O,L,J⟩
theorem qcd(m:Nat){st:Store}{q:D}{pl:Pl}{d:Int}(k:Int)(w:PW d pl)(hl:pl.length<100)(hq:rowAt st q=some (pl.map pD)):∃f,callD fns (m+4) 48 [scr ns,.int k,szD W H P,q] st=some (f.d,st)/\FaOk W H P f/\(∀k,(f=.work k\/f=.give k)->k∈qzw pl):=by
 have hc:=qc7 (c:=callD fns (m+3)) (τ:=[some (scr ns),some (.int k),some (szD W H P),some q,none,none]) (i:=3) rfl hq (by omega) (qcz (m+3) _);have Z:=qzg (st:=st) (nlI (qzw pl));obtain⟨F,Y,y0,y1⟩:=dr hn (m+2) st k 0 (many:=10) (by decide) (by decide) (by decide);have hb:∀n∈qzw pl,1<=n/\n<=400:=λn z=>by
  obtain⟨p,hp,rfl⟩:=Qqk.mp z;have:=w.dy p (Qzz.mp hp).1;have:=w.hi;omega
 by_cases c1:F<3
 ·obtain⟨ss,ps,hv,ok⟩:=qh1 hn w1 w2 h1 h2 p0 p1 m st k;exact⟨.vein ss ps,qzz (k:=m) 0 [38,46] 4 (λq=>_/\_/\_/\_/\_/\q) [.c (.loc st.length,st++[.lst true ((qzw pl).map .int)]),.l ((qzw pl).map .int),.c (.int F,st),.b true,.c ((Fa.vein ss ps).d,st)] ⟨hc,Z,Y,Z0 c1,hv,rfl⟩,ok,λk z=>by rcases z with z|z<;>cases z⟩
 ·obtain⟨o,ho,o1,o2⟩:=who_ok hn (m+1) st k 1 (by decide) (by decide);obtain⟨g,hr,g1,g2,g3,g4,g5,g6⟩:=qim hn (m+1) st k 3 (W:=W) (H:=H) (by decide) (by decide) (by omega) (by omega);have ok:FaOk W H P (.stake o g):=⟨o1,o2,g1,g2,g3,g4,g5,g6⟩
  by_cases c2:F<8
  ·exact⟨.stake o g,qzz (k:=m) 0 [38,45,42] 4 (λq=>_/\_/\_/\_/\_/\_/\_/\q) [.c (.loc st.length,st++[.lst true ((qzw pl).map .int)]),.l ((qzw pl).map .int),.c (.int F,st),.b false,.b true,.c (.int o,st),.c (rD g,st)] ⟨hc,Z,Y,Z1 c1,Z0 c2,ho,hr,rfl⟩,ok,λk z=>by rcases z with z|z<;>cases z⟩
  ·by_cases c3:qzw pl=[]
   ·have e0:(((qzw pl).map D.int).length:Int)==0:=by rw[c3]; rfl
    exact⟨.stake o g,qzz (k:=m) 0 [38,45,42] 4 (λq=>_/\_/\_/\_/\_/\_/\_/\_/\q) [.c (.loc st.length,st++[.lst true ((qzw pl).map .int)]),.l ((qzw pl).map .int),.c (.int F,st),.b false,.b false,.b true,.c (.int o,st),.c (rD g,st)] ⟨hc,Z,Y,Z1 c1,Z1 c2,e0,ho,hr,rfl⟩,ok,λk z=>by rcases z with z|z<;>cases z⟩
   ·have hp:0<(qzw pl).length:=Qxo.mpr c3;have e0:((((qzw pl).map D.int).length:Int)==0)=false:=by rw[Qqx]; exact beq_false_of_ne (by omega)
    obtain⟨j,hj,j0,j1⟩:=dr hn (m+2) st k 2 (many:=((qzw pl).map D.int).length) (by decide) (by decide) (by rw[Qqx]; omega);rw[Qqx]at j1;have J:j.toNat<(qzw pl).length:=by omega
    have O:=last_i (st:=st) c3;have L:idxD st (.lst ((qzw pl).map .int)) (.int j)=some (.int (qzw pl)[j.toNat]):=by
     show atI ((qzw pl).map D.int) j=_;unfold atI ixN;rw[Z3 j0,Z3 (by rw[Qqx]; omega)];simp only[oBs];rw[Qqa,Qqg J]
     rfl
    have m1:(qzw pl).getLast c3∈qzw pl:=List.getLast_mem c3;have m2:(qzw pl)[j.toNat]∈qzw pl:=Qjj J;generalize (qzw pl).getLast c3=a at O m1;generalize (qzw pl)[j.toNat]=b at L m2;have a0:=qzg (st:=st) (ds:=[(Fa.work a).d,(Fa.give b).d]) rfl;have U:∀f:Fa,idxD st (.lst [(Fa.work a).d,(Fa.give b).d]) (.int (F - 8))=some f.d->callD fns (m+4) 48 [scr ns,.int k,szD W H P,q] st=some (f.d,st):=λf hf=>
     qzz (k:=m) 0 [38] 4 (λq=>_/\_/\_/\_/\_/\_/\_/\_/\_/\_/\_/\q) [.c (.loc st.length,st++[.lst true ((qzw pl).map .int)]),.l ((qzw pl).map .int),.c (.int F,st),.b false,.b false,.b false,.i (.int a),.c (.int j,st),.i (.int b),.l [(Fa.work a).d,(Fa.give b).d],.i f.d] ⟨hc,Z,Y,Z1 c1,Z1 c2,e0,O,hj,L,a0,hf,rfl⟩
    have:F=8\/F=9:=by omega
    rcases this with rfl|rfl
    ·exact⟨.work a,U (.work a) rfl,hb a m1,λk z=>by rcases z with z|z<;>cases z; exact m1⟩
    ·exact⟨.give b,U (.give b) rfl,hb b m2,λk z=>by rcases z with z|z<;>cases z; exact m2⟩
end
theorem inv_hd{x y:Cell}{z:Store}{cs:List Cl}(I:Inv 1 (x::z) cs):Inv 1 (y::z) cs:=
 ⟨I.lo,λc F=>by
  have:=I.lo c F;obtain⟨j,J⟩:∃j,c.j=j+1:=⟨c.j - 1,by omega⟩
  have h:=I.at_ c F;rw[J]at h ⊢
  exact h,I.pw,I.ne,I.nd⟩
theorem qfn(pl:Pl)(p:Int×Fa):Cell.lst true (pl.map pD++[pD p])=plC (pl++[p]):=by unfold plC; rw[Qq1]; rfl
noncomputable abbrev lB:List M.S:=[.set (.var 5) (.bin .Add (.bin .Add (.var 5) (.lit (.int 1))) (.call 38 [.var 0,.bin .Add (.lit (.int 1)) (.var 6),.lit (.int 25),.idx (.gc (.lst [.lit (.int 1),.lit (.int 3),.lit (.int 20)])) (.call 38 [.var 0,.lit (.int 0),.lit (.int 21),.lit (.int 3)])])),.expr (.meth (.var 4) .append [.tup [.var 5,.call 48 [.var 0,.bin .Add (.lit (.int 1)) (.var 6),.var 1,.var 4]]]),.ite (.or (.cmp .NotIn (.mcall 642 30 "enter" (.var 3) [.var 5,.idx (.idx (.var 4) (.neg (.lit (.int 1)))) (.lit (.int 1))]) (.tup [.lit (sO "good"),.lit (sO "ended")])) (.not (.gc (.call 51 [.var 3,.var 4,.var 2])))) [.ret (.lit (.bl false))] []]
section
variable {ns:List Int}(hn:ns.length<=63){W H P T:Int}(w1:1<=W)(w2:W<=24)(h1:1<=H)(h2:H<=24)(p0:0<=P)(p1:P<=12)(hT:1<=T)
include hn w1 w2 h1 h2 p0 p1 hT
theorem qh5(m:Nat){d:Int}{pl:Pl}{vs:List (Int×D×List (Int×Int))}{cs:List Cl}{ro:List Int}{L:Store}(h:St T d pl vs cs ro (plC pl::L))(a6:∀p∈pl,(psOf p).length<=16)(hk:pl.length<18)(hd:d<=20*(pl.length:Int))(i:Int):
  ∃d' O z J F a0,(RL (callD fns (m+7))).ex [some (scr ns),some (szD W H P),some (.int T),some (.loc 0),some (.loc 8),some (.int d),some (.int i)] (FX W H P T d vs cs ro pl L) lB=some (.nx [some (scr ns),some (szD W H P),some (.int T),some (.loc 0),some (.loc 8),some (.int d'),some (.int i)],FC (szD W H P) T d' (voD z) [] J F (plC O::a0))/\St T d' O z J F (plC O::a0)/\(∀p∈O,(psOf p).length<=16)/\O.length=pl.length+1/\d'<=20*(O.length:Int):=by
 have hw:=h.w;have a7:=hw.lo;obtain⟨j,hj,j0,j1⟩:=dr hn (m+6) (FX W H P T d vs cs ro pl L) 0 21 (many:=3) (by decide) (by decide) (by decide);obtain⟨Z,a1,q0,q1⟩:∃Z:Int,idxD (FX W H P T d vs cs ro pl L) (.lst [.int 1,.int 3,.int 20]) (.int j)=some (.int Z)/\1<=Z/\Z<=20:=by
  have:j=0\/j=1\/j=2:=by omega
  rcases this with rfl|rfl|rfl
  ·exact⟨1,rfl,by decide,by decide⟩
  ·exact⟨3,rfl,by decide,by decide⟩
  ·exact⟨20,rfl,by decide,by decide⟩
 obtain⟨v,hv,v0,v1⟩:=dr hn (m+6) (FX W H P T d vs cs ro pl L) (1+i) 25 (many:=Z) (by decide) (by decide) (by omega);obtain⟨f,hf,fo,fn⟩:=qcd hn w1 w2 h1 h2 p0 p1 (m+3) (st:=FX W H P T d vs cs ro pl L) (q:=.loc 8) (1+i) hw (by omega) rfl;have h':St T d pl vs cs ro (plC (pl++[(d+1+v,f)])::L):=⟨inv_hd h.I,by simp,h.w,h.ci,h.nm,h.ri,h.ve,h.vn,h.vd,h.vl,h.v16,h.cl,h.dl⟩
 obtain⟨a,z,J,F,rest',he,ha,h3,ht⟩:=qgh (W:=W) (H:=H) (P:=P) m h' hT (by omega) (day:=d+1+v) fo (by omega) (by omega) fn;have hr:∃r',rest'=plC (pl++[(d+1+v,f)])::r':=by
  cases rest' with
  |nil=>cases ht
  |cons x r'=>
   have ht:[x]=[plC (pl++[(d+1+v,f)])]:=ht;cases ht;exact⟨r',rfl⟩
 obtain⟨r',rfl⟩:=hr;have Y:∀p∈pl++[(d+1+v,f)],(psOf p).length<=16:=λp hp=>by
  rcases Qqt.mp hp with hp|hp
  ·exact a6 p hp
  ·cases Qqb.mp hp
   cases f with
   |vein ss ps=>exact fo.2.2.2.2.1
   |_=>exact Qzu _
 obtain⟨r,hh⟩:=qmq (W:=W) (H:=H) (P:=P) (m+3) h3 (by simp; omega) Y rfl;have U:(pl++[(d+1+v,f)]).length=pl.length+1:=by simp
 refine⟨d+1+v,pl++[(d+1+v,f)],z,J,F,r',?_,h3,Y,U,by rw[U]; omega⟩;have a5:=qzg (st:=FX W H P T d vs cs ro pl L) (ds:=[.int 1,.int 3,.int 20]) rfl;have a2:decide ((pl.map pD).length<lim)=true:=Z0 (by rw[Qqx]; unfold lim; omega);have g8:(FX W H P T d vs cs ro pl L)[8]?=some (plC pl):=rfl;have a3:idxD (FC (szD W H P) T d (voD vs) [] cs ro (Cell.lst true (pl.map pD++[pD (d+1+v,f)])::L)) (.loc 8) (.int (-1))=some (pD (d+1+v,f)):=qdk _ _;have a4:noLoc (.bl true)=true/\(FX W H P T (d+1+v) z J F (pl++[(d+1+v,f)]) r'++r).take (FX W H P T (d+1+v) z J F (pl++[(d+1+v,f)]) r').length=FX W H P T (d+1+v) z J F (pl++[(d+1+v,f)]) r':=⟨rfl,by simp⟩
 have he:callD fns (m+7) 30 [.loc 0,.int (d+1+v),f.d] (FC (szD W H P) T d (voD vs) [] cs ro (Cell.lst true (pl.map pD++[pD (d+1+v,f)])::L))=some (sO a,FX W H P T (d+1+v) z J F (pl++[(d+1+v,f)]) r'):=by rw[qfn]; exact he
 rcases ha with rfl|rfl
 ·exact qzb (k:=m) 8 [38,48,30,51] 7 (λq=>_/\_/\_/\_/\_/\_/\_/\_/\_/\_/\_/\_/\q) [.l [.int 1,.int 3,.int 20],.c (.int j,FX W H P T d vs cs ro pl L),.i (.int Z),.c (.int v,FX W H P T d vs cs ro pl L),.r (plC pl),.c (f.d,FX W H P T d vs cs ro pl L),.r (plC pl),.b true,.i (pD (d+1+v,f)),.c (sO "good",FX W H P T (d+1+v) z J F (pl++[(d+1+v,f)]) r'),.c (.bl true,FX W H P T (d+1+v) z J F (pl++[(d+1+v,f)]) r'++r),.g] ⟨a5,hj,a1,hv,g8,hf,g8,a2,a3,he,hh,a4,rfl⟩
 ·exact qzb (k:=m) 8 [38,48,30,51] 7 (λq=>_/\_/\_/\_/\_/\_/\_/\_/\_/\_/\_/\_/\q) [.l [.int 1,.int 3,.int 20],.c (.int j,FX W H P T d vs cs ro pl L),.i (.int Z),.c (.int v,FX W H P T d vs cs ro pl L),.r (plC pl),.c (f.d,FX W H P T d vs cs ro pl L),.r (plC pl),.b true,.i (pD (d+1+v,f)),.c (sO "ended",FX W H P T (d+1+v) z J F (pl++[(d+1+v,f)]) r'),.c (.bl true,FX W H P T (d+1+v) z J F (pl++[(d+1+v,f)]) r'++r),.g] ⟨a5,hj,a1,hv,g8,hf,g8,a2,a3,he,hh,a4,rfl⟩
end
theorem ql9{W H P T:Int}(m:Nat)(z:1<=W)(j:W<=24)(U:1<=H)(O:H<=24)(p0:0<=P)(L:P<=12)(J:1<=T)(F:T<=400):callD fns (m+3) 29 [.loc 0,.int W,.int H,.int P,.int T] [.obj 642 []]=some (.non,FC (szD W H P) T 0 (voD []) [] [] [] []):=
 qzz (k:=m) 9 [] 3 (λq=>_/\_/\_/\_/\_/\_/\_/\_/\q) [.b true,.b true,.b true,.b true,.b true,.b true,.b true,.b true] ⟨Z0 z,Z0 j,Z0 U,Z0 O,Z0 p0,Z0 L,Z0 J,Z0 F,rfl⟩
theorem st0(T:Int):St T 0 [] [] [] [] [plC []]:=
 ⟨⟨Qq7 _,Qq7 _,.nil,Qq7 _,.nil⟩,Qqj _,⟨Int.le_refl _,by decide,Qq7 _,Qq7 _,.nil⟩,Qq7 _,rfl,⟨.nil,Qq7 _,λn=>⟨λh=>absurd h Qzc,λ⟨c,j,_⟩=>absurd j Qzc⟩,.nil,Qq7 _⟩,rfl,.nil,Qq7 _,Qqj _,Qq7 _,Qqj _,Qq7 _⟩
theorem law_ok(m:Nat)(ns:List Int)(O:ns.length<=63):∃st',callD fns (m+8) 52 [scr ns] []=some (.bl true,st'):=by
 obtain⟨W,H,P,a2,w1,w2,h1,h2,p0,p1⟩:=qif O (m+5) [] 0;obtain⟨T,a1,t1,t2⟩:=qiv O (m+5) [] 0;have hi:=ql9 (m+4) w1 w2 h1 h2 p0 p1 t1 t2;obtain⟨v,hv,v0,v1⟩:=dr O (m+6) (FC (szD W H P) T 0 (voD []) [] [] [] [plC []]) 0 20 (many:=15) (by decide) (by decide) (by decide);have ev:(RL (callD fns (m+7))).ev [some (scr ns),some (szD W H P),some (.int T),some (.loc 0),some (.loc 8),some (.int 0),none] (FC (szD W H P) T 0 (voD []) [] [] [] [plC []]) (.bin .Add (.lit (.int 4)) (.call 38 [.var 0,.lit (.int 0),.lit (.int 20),.lit (.int 15)]))=some (.int (4+v),FC (szD W H P) T 0 (voD []) [] [] [] [plC []]):=qzi (k:=m) 9 [38] 7 (λq=>_/\q) [.c (.int v,FC (szD W H P) T 0 (voD []) [] [] [] [plC []])] ⟨hv,rfl⟩;have F:src (RL (callD fns (m+7))) [some (scr ns),some (szD W H P),some (.int T),some (.loc 0),some (.loc 8),some (.int 0),none] (FC (szD W H P) T 0 (voD []) [] [] [] [plC []]) (.rng1 (.bin .Add (.lit (.int 4)) (.call 38 [.var 0,.lit (.int 0),.lit (.int 20),.lit (.int 15)])))=some (.rng 0 (4+v).toNat,FC (szD W H P) T 0 (voD []) [] [] [] [plC []]):=by
  show((RL (callD fns (m+7))).ev _ _ _).bind _=_;rw[ev];show(if big (4+v) then none else _)=_;rw[Z2 (by unfold big; simp only[Qzy,decide_eq_true_eq,not_or]; omega)]
 obtain⟨z,st',e1,d,pl,vs,cs,ro,r0,L,rfl,rfl,_⟩:=qvd (c:=callD fns (m+7)) (t:=.var 6) (body:=lB) (ds:=(List.range (4+v).toNat).map λ(j:Nat)=>D.int (0+j)) (λk z st'=>∃d pl vs cs ro r0 L,z=[some (scr ns),some (szD W H P),some (.int T),some (.loc 0),some (.loc 8),some (.int d),L]/\st'=FC (szD W H P) T d (voD vs) [] cs ro (plC pl::r0)/\St T d pl vs cs ro (plC pl::r0)/\(∀p∈pl,(psOf p).length<=16)/\pl.length=k/\d<=20*(pl.length:Int)) F (by simp[Src.size]) (λk z st' _=>qat 0 _ k) ⟨0,[],[],[],[],[],none,rfl,rfl,st0 T,Qq7 _,rfl,by simp⟩ (λk z st' x hx hp=>by
  obtain⟨d,pl,vs,cs,ro,r0,L,rfl,rfl,hS,a5,hk,hd⟩:=hp;have a7:k<(4+v).toNat:=by
   have:=(Qqv.mp hx).1;rw[Qqx,List.length_range]at this;exact this
  rw[Qqa]at hx;obtain⟨j,_,rfl⟩:=Qqi.mp hx;obtain⟨d',a0,U,a6,Y,Z,e,a4,J,a8,a3⟩:=qh5 O w1 w2 h1 h2 p0 p1 t1 m hS a5 (by omega) hd (0+(j:Int))
  exact⟨_,_,e,d',a0,U,a6,Y,Z,_,rfl,rfl,a4,J,by omega,a3⟩)
 exact⟨_,qzz (k:=m) 9 [40,41,29] 8 (λq=>_/\_/\_/\_/\q) [.c (szD W H P,[]),.c (.int T,[]),.c (.non,FC (szD W H P) T 0 (voD []) [] [] [] []),.s (.nx [some (scr ns),some (szD W H P),some (.int T),some (.loc 0),some (.loc 8),some (.int d),L],FC (szD W H P) T d (voD vs) [] cs ro (plC pl::r0))] (r:=(.bl true,FC (szD W H P) T d (voD vs) [] cs ro (plC pl::r0))) ⟨a2,a1,hi,e1,rfl⟩⟩
end K17
end
namespace K17
open PySem PySem.Spec PyProof.Rows L2 MS
open M (D Cell Store Sl E S T Src Fn Out R)
theorem ar0{P:List Value->Prop}(h:P []):∀us:List Value,us.length=0->P us:=λus e=>by
 cases us with
 |nil=>exact h
 |cons a r=>cases e
theorem arS{n:Nat}{P:List Value->Prop}(h:∀a,∀us:List Value,us.length=n->P (a::us)):∀us:List Value,us.length=n+1->P us:=λus e=>by
 cases us with
 |nil=>cases e
 |cons a r=>exact h a r (Nat.succ.inj e)
theorem bs:∀r∈tab,Bd r:=by
 repeat' first|exact Qq7 _|refine List.forall_mem_cons.mpr ⟨?_,?_⟩
 all_goals first|exact λ_ _ _ _ _ _=>arS λ_=>ar0 rfl|exact λ_ _ _ _ _ _=>arS λ_=>arS λ_=>ar0 rfl|exact λ_ _ _ _ _ _=>arS λ_=>arS λ_=>arS λ_=>ar0 rfl|exact λ_ _ _ _ _ _=>arS λ_=>arS λ_=>arS λ_=>arS λ_=>ar0 rfl|exact λ_ _ _ _ _ _=>arS λ_=>arS λ_=>arS λ_=>arS λ_=>arS λ_=>ar0 rfl
end K17
open PySem PySem.W PyProof.Rows
set_option maxRecDepth 100000 in
set_option maxHeartbeats 0 in
theorem PySem.Challenge.cw_dipright_k17_claims_vest_holds : PySem.Challenge.rw_dipright_k17_claims_vest.Holds := by
 w_on; o_law
 refine holds_open (XP:=XL (K17.vw PZW) []) (YP:=InK K17.KF) K17.left (InK.of (λ_=>by kernel_rfl)) InK.keeps (λs e=>xl_of s (Bool.and_eq_true_iff.mp e).1) XL.keeps (by rfl) (by rfl) (by rfl) (λs e=>recFacts_of (Bool.and_eq_true_iff.mp e).2) (by rfl) (by assumption) (by decide +kernel) ⟨rfl,rfl,rfl,rfl,rfl,by decide +kernel⟩ ?hw ?hc
 (case hw=>w_witness2)
 refine MS.walk_law (l:=RZW) (K:=K17.KH) (k:=2*20) (x:="_law_script") rfl rfl ⟨rfl,by decide,by decide⟩ (λw h Y=>Y) ?F
 case F=>
  intro w mg fa h KX G hmg
  k_fill
  refine MS.law_mk (t:=K17.tab) (glo:=K17.glo) (i:=52) (n:=19) KX G hmg rfl rfl rfl K17.bs (by decide +kernel) (K17.law_ok 12) ?_ ?_ ?_ ?_ ?_ ?_
  all_goals repeat' first|exact Qq7 _|refine List.forall_mem_cons.mpr ⟨?_,?_⟩|apply MS.RwK.fn|apply MS.RwK.me|apply MS.ClK.mk|apply MS.GlK.mk|apply MS.GdK.mk|exact .nil|apply MS.AtsK.cons|apply MS.EnK.cons|apply MS.VaK.tup
  all_goals try dsimp only
  all_goals first|exact .int|exact .str|exact .at .int|exact .at .str|k_is|rfl

