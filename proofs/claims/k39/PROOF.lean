import PyProof.Rows.All
import Wide.All
import OpenK.AllK
import Wide.FinOn
import Lean
import PyProof.TableCode
import PyProof.EqAt
import PyProof.EqKinds
import PyProof.TupleCall
import PyProof.NeKinds
import PyProof.ZipIter
import PyProof.StrLoop
import PyProof.StrWalks
import PyProof.StrCalls
import PyProof.StrCalls2
import PyProof.StrLawsIn
import PyProof.SliceStr2
import PyProof.StrBlock
import PyProof.Rows.StrFirst
import KE.KIntText
import PyProof.StrLawsChain
import PyProof.StrLawsTight
import PyProof.CallStr
import PyProof.Rows.FStr
import PySem.SetTable
import PyProof.TupleKey
import PyProof.SetKind
import PyProof.IsRules
import PyProof.Rows.SetFrom
import PyProof.WalksMore
import PyProof.TupleIter
import KE.KSortTup
import KE.KTryMore
import PySem.Challenge.RW_dipright_k39_whole_wherever_the_gallery
set_option Elab.async false
set_option backward.eqns.nonrecursive false
set_option genInjectivity false
set_option genSizeOf false
set_option bootstrap.genMatcherCode false
set_option linter.all false
set_option maxRecDepth 100000
set_option maxHeartbeats 4000000
open _root_ renaming List->L,Int->J,Nat->Y0,Option->Y3,Bool->Yb
open Bool renaming true->O,false->Y6
open Option renaming some->Y,none->B
open PySem renaming Value->Y8,Addr->Y7,Str->Y5
open PySem renaming wpAny_bind->Qq,Shared->Qz,Expr->Qx,wpAny_pure->Qj,World->Qk,Around->Qv,wpAny_field->Qw,wpAny_setField_rec->Qy,SetTable->Qa,eval->Qb,wpAny_callSpecial?_slot->Qc,bootBuiltins->Qd,wpAny_call_entry->Qe,wpAny_truthy_bool->Qf,compareOp->Qh,wpAny_mono->Qi,wpAny_newObj_type->Ql,NameKind->Qm,sysModules->Qn,wpAny_seqItems->Qo,FuncData->Qp,Params->Qr,Builtin->Qs,call_meets->Qt,treeTable->Qu,sizeLine_eq->Q0,DictEntry->Q1,binaryOp->Q2,wpAny_holding->Q3,wpAny_attempt->Q4,importedModules->Q5,assignEach->Q6,tupleKind_room_in1->Q7,wpAny_setState_of->Q8,codeAny_mono->Q9,builtinLookup_eq_fast->Zq,wpAny_rule->Zz,attributeBase->Zx,getItem->Zj,sliceBounds->Zk,wpAny_of_eq->Zv,wpAny_passesOwn->Zw,wpAny_loadPart'->Zy,wpAny_specialOf->Za,codeAny_builtin->Zb,wpAny_Call_Name_kw->Zc,codeAny->Zd,isSubtype_type->Ze,wpAny_pyIter_list->Zf,ofAClassStatement->Zg,behindInMarks->Zh,Operator->Zl,wpAny_isInstance->Zm,letOwnedTupleGo->Zo,typeLookup_type->Zp,Keyword->Zr,callerA->Zu,getMethod->Z0,wpAny_onRaise->Z1,setSearchFrom->Z2
open PySem.W renaming boot_heap->Qg,behindTheImports->Zi
open PyProof.Rows renaming AllBare->Zn,IntsAre->Zs
section
universe u
theorem Z3[Decidable p](h:p):decide p=true:=decide_eq_true h
theorem Z4[Decidable p](h:¬p):decide p=false:=decide_eq_false h
theorem Z5{h:Decidable c}(n:¬c){t e:α}:ite c t e=e:=if_neg n
theorem Z6{h:Decidable c}(n:c){t e:α}:ite c t e=t:=if_pos n
end
open PySem.Challenge renaming pw_dipright_k39_whole_wherever_the_gallery->PZW,rw_dipright_k39_whole_wherever_the_gallery->RZW
open PySem.W renaming Frag->Qqq,keepIn->Qzm,nsIn->Qx3,mg_of->Qx8,methodCall_KW->Qjx,plainGet_of->Qjh,callWith_K->Qji,cellsFrom_some->Qkq
open List renaming length_map->Qqz,getElem?_eq_some_iff->Qqj,mem_map->Qqv,getElem?_map->Qqw,mem_cons->Qqy,mem_singleton->Qqa,getElem?_eq_getElem->Qqc,size_toArray->Qqd,mem_of_getElem?->Qqf,length_append->Qqh,length_cons->Qqi,map_append->Qql,map_cons->Qqm,mem_append->Qqn,getElem?_set_ne->Qqo,forall_mem_nil->Qqp,mem_append_right->Qqr,mem_cons_of_mem->Qqt,getElem?_append_left->Qq0,not_mem_nil->Qq2,mem_cons_self->Qq5,map_map->Qq6,append_nil->Qq7,getElem?_set_self->Qzq,length_take->Qzz,append_assoc->Qzx,all_eq_true->Qzj,lookup_cons->Qzk,take_length->Qzv,nodup_cons->Qzy,find?_cons->Qza,getElem?_eq_none->Qzc,mem_append_left->Qze,getElem?_eq_none_iff->Qzf,filterMap_map->Qzg,take_succ_eq_append_getElem->Qzh,getElem?_append_right->Qzi,all_cons->Qzl,filterMap_cons->Qzn,replicate_succ->Qzp,map_congr_left->Qzr,length_set->Qzs,mem_of_find?_eq_some->Qzt,length_filter_le->Qzu,filter_append->Qz2,any_cons->Qz3,length_eq_zero_iff->Qz4,getElem_of_mem->Qz6,mem_range->Qz9,mem_filterMap->Qxq,length_singleton->Qxx,pairwise_cons->Qxj,take_succ->Qxk,filterMap_eq_map->Qxv,map_nil->Qxy,flatten_cons->Qxa,length_range->Qxc,mem_filter->Qxe,getElem_mem->Qxh,take_of_length_le->Qxi,nodup_append->Qxm,getElem?_range->Qxo,length_pos_iff->Qxp,pairwise_iff_getElem->Qxr,find?_some->Qxs,drop_eq_getElem_cons->Qxt,getElem?_take->Qx1,map_id->Qx6,length_drop->Qx9,any_eq_true->Qjq,length_replicate->Qjj,take_append_drop->Qjv,filterMap_append->Qjw,foldl_cons->Qjy,length_nil->Qja,getElem_toArray->Qjc,pairwise_append->Qje,forall_mem_cons->Qjf,take_append_of_le_length->Qjg,set_cons_zero->Qjl,find?_eq_none->Qjm,findIdx?_cons->Qjn,length_zipIdx->Qjo,any_eq_false->Qjp,take_sublist->Qjr,ext_getElem?->Qj1,foldl_append->Qj2,getElem?_take_of_lt->Qj3,length_filterMap_le->Qj6,getElem?_replicate->Qj7,getElem?_cons_succ->Qj8,of_mem_zip->Qj9,take_zero->Qkj,mapM_cons->Qkk
open PySem.Heap renaming get?_push_of_some->Qqx,lt_size->Qqe,get?_push_size->Qqg,size_push->Qxz,get?_update_other->Qx5,get?_update_self->Qjk
open Nat renaming le_refl->Qqk,ne_of_lt->Qq3,lt_of_lt_of_le->Qq4,zero_le->Qq8,lt_succ_self->Qzb,le_trans->Qz0,lt_or_ge->Qz7,lt_irrefl->Qz8,le_succ->Qxw,le_of_lt_succ->Qxb,ne_of_gt->Qxd,le_succ_of_le->Qxg,lt_succ_of_lt->Qxl,zero_add->Qxn,le_of_lt->Qxu,lt_of_le_of_lt->Qx0,succ_pos->Qx2,le_of_succ_le->Qx4,le_add_right->Qjz,mod_lt->Qjd,lt_trichotomy->Qj0,zero_lt_succ->Qj4
open Option renaming map_eq_some_iff->Qqb,isSome_iff_exists->Qz1,isSome_map->Qjs,bind_assoc->Qjt
open Bool renaming and_eq_true->Qqs,false_ne_true->Qqu,false_eq_true->Qzw,or_eq_true->Qxf,and_true->Qx7,eq_iff_iff->Qjb,not_true->Qkv
open Array renaming getElem?_toList->Qq1,getElem?_eq_getElem->Qq9,getElem?_eq_some_iff->Qzd,length_toList->Qzo,getD_eq_getD_getElem?->Qz5,size_append->Qju,getElem?_replicate->Qj5,getElem?_extract->Qkz,getElem?_eq_none->Qkx
section
universe u v
theorem oBs(a)(f:α->Y3 b):(Y a).bind f=f a:=rfl
theorem oMs(a)(f:α->b):(Y a).map f=Y (f a):=rfl
end
namespace L2
open PySem PySem.Spec PyProof.Rows
noncomputable def qqf(s:Stmt):Arguments:=match s with
 |.FunctionDef _ a _ _ _ _ _ _ _ _=>a
 |_=>{ posonlyargs:=[],args:=[],vararg:=B,kwonlyargs:=[],kw_defaults:=[],kwarg:=B,defaults:=[] }
noncomputable def qzu(s:Stmt):L Stmt:=match s with
 |.FunctionDef _ _ b _ _ _ _ _ _ _=>b
 |_=>[]
noncomputable def qzd(s:Stmt):Scope:=match s with
 |.FunctionDef _ _ _ _ _ _ sc _ _ _=>sc
 |_=>{ kind:=.function,names:=[],isGenerator:=Y6,isCoroutine:=Y6 }
end L2
namespace K39
open PySem PySem.Spec PyProof.Rows
noncomputable def top(i:Y0):Stmt:=PZW.main.body.getD i (.Pass ⟨0,0,0,0⟩)
noncomputable def cb(s:Stmt)(j:Y0):Stmt:=match s with
 |.ClassDef _ _ _ b _ _ _ _ _ _ _=>b.getD j (.Pass ⟨0,0,0,0⟩)
 |_=>s
end K39
namespace HD
open PySem PySem.W PySem.Calls PyProof.Rows
noncomputable def lf:Life:=PySem.Life.mk [] [] [] 0 [] [] Bool.false #[] [] 0 Bool.false Bool.false Bool.false 0 [2000,10,10] Bool.false 0 Bool.true [] [] 0 Bool.false
noncomputable def sM:Y5:=⟨#[60,109,111,100,117,108,101,62]⟩
noncomputable def sF:Y5:=⟨#[47,99,108,97,105,109,47,99,117,116,46,112,121]⟩
noncomputable def sN:Y5:=⟨#[95,95,109,97,105,110,95,95]⟩
noncomputable def bt(l:L Obj):BT:=(l.foldl (λ(p:BT×Y0) o=>(p.1.ins p.2 o,p.2+1)) (.nil,0)).1
noncomputable def Ta(P:Qr):BT:=bt ((Qg P).objs.toList++[Obj.mk (.type "tuple") B (.seq #[]) #[],Obj.mk .none B (.fields #[]) #[],
 Obj.mk (.type "code") B (.fields #[.str sM 182,.str sM 183,.str sF 184,.int 1 0,.int 0 0,.int 0 0,.int 0 0,.int 0 0,.ref 11,.bool Y6,.int 181 0,.ref 12,.none,.none,.none,.none,.int 185 0,.int 1 0,.str sF 186]) #[],
 Obj.mk (.type "frame") B .plain #[Y (.ref 13),Y (.ref 3),Y (.ref 3),B,Y (.str sN 164),B,Y (.ref 0)]])
noncomputable def Sa(w:Qk)(os:OsState):SharedT:=⟨Ta w.params,15,lf,#[],⟨0,0,0,0⟩,187,os⟩
noncomputable abbrev an:Y3 Y8:=Y (.ref 6)
noncomputable abbrev p0:Pos:=⟨0,0,0,0⟩
noncomputable def ev(p:Program):Env:={ scope:=p.main.scope,locals:=mainNs,globals:=mainNs,cells:=[],code:=.ref 13,frame:=Y 14 }
noncomputable def cE(p:Program):Code:=.body (Zi p) (ev p)
noncomputable def Lk(p q:Program)(loose:L Y5)(Xt:Program->Qz->Yb)(ads:L Y7)(w:Qk)(s:Qz):=(staticsOk (Q5 p.main.body) (Qg w.params) s.heap&&namesBound p s.heap&&gensDone s&&laidKept (Qg w.params) s.heap,openSeen q loose (Q5 p.main.body) (Xt q) O s,ads.map s.heap.get?)
theorem fin_of:topRun Qu p w 11 an 2 s (restOf [] env c q [topFrame p0])=Y s:=by
 cases s
 rfl
noncomputable abbrev Fs(p:Program)(w:Qk)(s:Qz):Bool:=staticsOk (Q5 p.main.body) (Qg w.params) s.heap&&namesBound p s.heap&&gensDone s&&laidKept (Qg w.params) s.heap
theorem qnt{os:OsState}(z:((Qg w.params).isNs mainGlobals&&(Array.mk []:Array GenState).size==0,(Qg w.params).objs.size,(Qg w.params).nsMap mainGlobals "__annotations__")=(O,11,an))(r:topRun Qu p w 11 an N ⟨Qg w.params,#[],boot_drawn,boot_toks,os⟩ (topStub p)=Y s)(l:Fs p w s=O):topFrom Qu p w N ⟨Qg w.params,#[],boot_drawn,boot_toks,os⟩=Y s:=by
 have c:=congrArg (·.1) z;have b:=congrArg (·.2.1) z;have a:=congrArg (·.2.2) z;dsimp only at c b a;simp only[topFrom,c,b,a,r,oBs];show(match Fs p w s with|true=>Y s|false=>B)=_;rw[l]
noncomputable def Rn(p:Program)(n:Y0)(w:Qk)(os:OsState):=segRunT Qu p w 11 an 1 n (Sa w os) (piecesOf (Zi p) (ev p) (cE p) p0 [topFrame p0])
noncomputable def LA(p q:Program)(ads:L Y7)(w:Qk)(s:Qz):=(staticsOk (Q5 p.main.body) (Qg w.params) s.heap&&namesBound p s.heap&&gensDone s&&laidKept (Qg w.params) s.heap,seen ((recsOf q).map (·.name)) (ownsOf q) [] { s with gens:=#[] },ads.map s.heap.get?)
noncomputable def LB(p q:Program)(loose:L Y5)(Xt:Program->Qz->Yb)(s:Qz):Bool:=s.heap.keysOk (looseW q loose) ((recsOf q).map (·.name)) ((litsOf q).map (·.1)) ((clssOf q (looseW q loose)).map (·.name))&&s.heap.accountedOkI (Q5 p.main.body)&&s.heap.isNs mainGlobals&&s.heap.isNs builtinsNs&&tablesOk q s.heap&&Xt q s&&s.gens.size==0
noncomputable def LD(q:Program)(loose:L Y5)(s:Qz):=(s.heap.bltView,tabsOk q s,pinSeenD q (drecsOf q) s,clsSeenW q loose s)
noncomputable def LG(q:Program)(loose:L Y5)(s:Qz):=(wideSeen q s,plainSeenD q loose s)
theorem lo3{K:Qr->Frag}(l:∀w:Qk,Option.map (λs:Qz=>(s.heap,s.gens,s.drawn,s.toks)) (fencedOpening Qu p w N)=Y (Qg w.params,#[],boot_drawn,boot_toks))(z:∀w:Qk,((Qg w.params).isNs mainGlobals&&(Array.mk []:Array GenState).size==0,(Qg w.params).objs.size,(Qg w.params).nsMap mainGlobals "__annotations__")=(O,11,an))(pre:∀w:Qk,(λos=>topGo Qu p w 11 an 12 ⟨Qg w.params,#[],boot_drawn,boot_toks,os⟩ (topStub p))=λos=>Y ((Sa w os).abs,⟨denote Qu (cE p),cE p,p0,[topFrame p0]⟩))(blk:∀w:Qk,(λos=>segRun Qu p w 11 an 1 1 (Sa w os).abs (blockOf (Zi p) (ev p) (cE p) p0 [topFrame p0]))=λos=>Y (Flow.next,(Sa w os).abs,cE p,p0))(F:∀w:Qk,(λos=>(Rn p n w os).map λr=>(r.1,r.2.2.1,r.2.2.2,LA p q ads w r.2.1.abs))=λ_=>Y (Flow.next,cE p,p1,O,expectedOf q,(K w.params).map λp=>Y p.2))(gB:∀w:Qk,(λos=>(Rn p n w os).map λr=>LB p q loose Xt r.2.1.abs)=λ_=>Y O)(E:∀w:Qk,(λos=>(Rn p n w os).map λr=>plainSeenE q (looseW q loose) r.2.1.abs)=λ_=>Y (plainGoodE q (looseW q loose)))(D:∀w:Qk,(λos=>(Rn p n w os).map λr=>LD q loose r.2.1.abs)=λ_=>Y (bltViewBooted,O,pinGoodD (drecsOf q),clsGoodW q loose))(C:∀w:Qk,(λos=>(Rn p n w os).map λr=>LG q loose r.2.1.abs)=λ_=>Y (wideGood q,plainGoodD q loose))(le:Nat.ble (12+(1+(n+2))) N=O):LeftO p q loose (Xt q) (λs=>ads.map s.heap.get?) (λw=>(K w.params).map λp=>Y p.2) N:=by
 intro w
 rcases Qqb.mp (l w) with⟨S,Q,i⟩
 rcases S with⟨H,g,d,t,os⟩
 have h1:H=Qg w.params:=congrArg (·.1) i;have h2:g=#[]:=congrArg (·.2.1) i;have A:d=boot_drawn:=congrArg (·.2.2.1) i;have y:t=boot_toks:=congrArg (·.2.2.2) i;subst h1 h2 A y
 rcases Qqb.mp (congrFun (F w) os) with⟨⟨f,j,c,k⟩,run,same⟩
 have h:∀{α:Type}{g:Flow×SharedT×Code×Pos->α}{v:α},(Rn p n w os).map g=Y v->g (f,j,c,k)=v:=λe=>by rw[run]at e; exact Option.some.inj e
 have P:f=Flow.next:=congrArg (·.1) same;have I:c=cE p:=congrArg (·.2.1) same;have G:k=p1:=congrArg (·.2.2.1) same;have u:Fs p w j.abs=true:=congrArg (·.2.2.2.1) same;have x:=congrArg (·.2.2.2.2.1) same;have m:=congrArg (·.2.2.2.2.2) same;have b:=h (congrFun (gB w) os);have c0:=h (congrFun (E w) os);have d:=h (congrFun (D w) os);have e:=h (congrFun (C w) os);have o:openSeen q loose (Q5 p.main.body) (Xt q) O j.abs=openGood q loose:=Prod.ext x (Prod.ext (congrArg (·.1) d) (Prod.ext b (Prod.ext (congrArg (·.2.1) d) (Prod.ext (congrArg (·.2.2.1) d) (Prod.ext c0 (Prod.ext (congrArg (·.2) e) (Prod.ext (congrArg (·.1) e) (congrArg (·.2.2.2) d))))))));subst P I G;have a:=piece_app (rest:=[]) (segRun_of run) fin_of;rw[Qq7]at a;have all:=go_top (congrFun (pre w) os) (piece_block (congrFun (blk w) os) a);have more:=topRun_mono (N - (12+(1+(n+2)))) _ _ _ _ all;rw[Nat.add_sub_cancel' (Nat.le_of_ble_eq_true le)]at more;simp only[openEnds,Q,oBs,qnt (z w) more u,oMs];exact congrArg Y (Prod.ext o m)
end HD
namespace K39
open PySem L2
noncomputable def c0:L Y5:=["_law_other_mouths","_law_script","_law_size_here","_law_plan_here","_law_found","_law_day","_law_fact_here","dig","_law_cell","_law_draw","append","_law_other_worths"]
noncomputable def c1:L Y5:=["_law_words","_law_term_here","_law_field","Field","_law_words_here","enter",".0","_law_look_here","_law_look","fast","_law_ore","_law_book"]
noncomputable def c2:L Y5:=["_law_worths","_law_row","_law_scaled","_law_other","_law_old","_law_new","_law_at","_law_worth","index","law","_law_size","_law_term"]
noncomputable def c3:L Y5:=["_law_dug","_law_first","_law_second","_law_third","_law_same","_law_fact","_law_k","_law_way","_law_veins","vein","_law_names","stake"]
noncomputable def c4:L Y5:=["part","len","_law_vein","_law_floor","join","_law_pick","_law_who","_law_rect","_law_claim_fact","_law_plan","_law_many","_law_pace"]
noncomputable def c5:L Y5:=["range","_law_dig","_law_mouth","_law_spot","_law_pay","_law_giver","_law_taker","pay","veins","claims","today","size"]
noncomputable def c6:L Y5:=["term","_law_vein_here","joined","claim","_law_name","state","years","standing","entries","_law_steps","_law_j","_law_deep"]
noncomputable def c7:L Y5:=["tuple","_law_outs","_law_count","_law_stride","_law_place","_law_claim","_law_who_here","_law_side","_law_line","min","work","sell"]
noncomputable def c8:L Y5:=["give","__name__","law_dipright_k39_whole_wherever_the_gallery","_law_turn","_law_rest","_law_step","_law_one","_law_two","_law_due","isinstance","list","_law_like"]
noncomputable def c9:L Y5:=["all","int","bool","str","_law_wide","_law_tall","_law_sizes","_law_x","sorted","_law_y","DEPTHS","TERMS"]
noncomputable def c10:L Y5:=["COIN","check_district","wide","tall","deep","fits","LENGTHS","BadNumber","not the numbers of a district","check_day","day","DAYS"]
noncomputable def c11:L Y5:=["not a day","__init__","self","extent","year","found","joints","staked","Claims","dug","debts","fact"]
noncomputable def c12:L Y5:=["sound","BadFact","not sound for this district","Late","the field's day isn't earlier","answer","enter_vein","enter_join","enter_stake","enter_dig","enter_pay","change"]
noncomputable def c13:L Y5:=["vest_all","good","other","novein","order","outcrops","extend","who","spot","worth","owe","owner"]
noncomputable def c14:L Y5:=["gatekeeper","mouth","over","debtor","creditor","tenths","pass_to","_wall","names","name","NoVein","no vein is known by that day"]
noncomputable def c15:L Y5:=["get","named","ground","last","vested","given","days","twin","first_claim","ranks","title","field"]
noncomputable def c16:L Y5:=["heirs","cell","standing_grounds","inside","dipright.field","pairs","outcrop","pair","covers","dipright.title","ground_of","ranked"]
noncomputable def c17:L Y5:=["grounds","heads","first","behind","has_one","dip","columns_at","met_columns","met","joint","column","climbed"]
noncomputable def c18:L Y5:=["enumerate","in_ground","OutOfGround","not a spot of the district","dipright.reach","sound_vein","good_steps","good_outcrops","numbers_agree","ASKS","all_fit","dipright.veins"]
noncomputable def c19:L Y5:=["MOVES","steps","x","y","step","reversed","bounds","folk","floor","below","side","line"]
noncomputable def c20:L Y5:=["coins","FOLK","SIDES","LINES","STEPS","COINS","value","bound","asked","values","known","kind"]
noncomputable def c21:L Y5:=["zip","is_cell","thing","MOST_COLUMNS","set","Claim","piece","fallen","unvested","stands","book","row"]
noncomputable def c22:L Y5:=["NoClaim","no claim is known by that day","through","vest","noclaim","ended","whole","pieces","parted","nocut","insert","dipright.facts"]
noncomputable def c23:L Y5:=["rect","can_part","ahead","LEFT","TOP","LOW","RIGHT","dipright.years","counted","kept","dipright.claims","some"]
noncomputable def c24:L Y5:=["any","DiprightError","dipright.ground","k","dipright.errors","ValueError","/claim/cut.py","__doc__","__package__","__loader__","__spec__","__annotations__"]
noncomputable def c25:L Y5:=["__builtins__","__file__","__cached__","__main__","__module__","__firstlineno__","__static_attributes__","__weakref__","Claim.__init__","Claim.piece","Claim.twin","Claim.state"]
noncomputable def c26:L Y5:=["__dict__","Claims.__init__","Claims.names","Claims.named","Claims.standing","Claims.stake","Claims.vest","Claims.vest_all","Claims.change","Claims.part","Claims.twin","Field.__init__"]
noncomputable def c27:L Y5:=["Field.enter","Field.answer","Field.enter_vein","Field.enter_join","Field.enter_stake","Field.enter_dig","Field.enter_pay","Field.gatekeeper","Field.owe","Field.pass_to","Field.today","Field.size"]
noncomputable def c28:L Y5:=["Field.term","Field.veins","Field.claims","Field.vein","Field.joined","Field.claim","Field.state","Field.years","Field.standing","Field.entries","Field.twin"]
noncomputable def Al:L (L Y5):=[c0,c1,c2,c3,c4,c5,c6,c7,c8,c9,c10,c11,c12,c13,c14,c15,c16,c17,c18,c19,c20,c21,c22,c23,c24,c25,c26,c27,c28]
noncomputable def Af(i j:Y0):Y5:=(Al.getD i []).getD j ⟨#[]⟩
noncomputable def b0:String:="dict"
noncomputable def b1:String:="__main__.__loader__#opaque"
noncomputable def b2:String:="tuple"
noncomputable def b3:String:="code"
noncomputable def b4:String:="function"
noncomputable def b5:String:="ValueError"
noncomputable def b6:String:="ValueError.__new__"
noncomputable def b7:String:="type"
noncomputable def b8:String:="Exception"
noncomputable def b9:String:="BaseException"
noncomputable def b10:String:="object"
noncomputable def b11:String:="ExceptionGroup.__weakref__"
noncomputable def b12:String:="getset_descriptor"
noncomputable def b13:String:="object.__new__"
noncomputable def b14:String:="function.__dict__"
noncomputable def b15:String:="function.__dict__#set"
lay_quick Af b0 b1 b2 b3 b4 b5 b6 b7 b8 b9 b10 b11 b12 b13 b14 b15
def Hy(a:Y0->Y0->Y5)(i:Y0)(p:Prop):Y0->L Y5->Prop
 |_,[]=>p
 |j,x::r=>x=a i j->Hy a i p (j+1) r
def Hz(a:Y0->Y0->Y5)(p:Prop):Y0->L (L Y5)->Prop
 |_,[]=>p
 |i,c::r=>Hy a i (Hz a p (i+1) r) 0 c
noncomputable def G(a:Y0->Y0->Y5):Program:=by
 refine'(?f:(x:Program)->Hz a (PZW=x) 0 Al->Program) _ ?h
 (case f=>exact λx _=>x)
 (case h=>(repeat intro _); show PZW=_; delta PZW; conv=>lhs; simp only[*,Nat.reduceAdd])
noncomputable abbrev fnD(x y:Y5)(s:Stmt):=FuncData.mk x y (qqf s) (.stmts (qzu s)) (qzd s)
noncomputable abbrev kh:=PyData.keyHash
noncomputable abbrev de(P:Qr)(x:Y5)(k:Y0)(v:Y8):=DictEntry.mk (kh P x) (.str x k) v
noncomputable abbrev oq(u:String)(x:Array Y8):=Obj.mk (.type u) Option.none (.seq x) #[]
noncomputable abbrev zA(u:String)(a:Y0->Y0->Y5)(i j v w k:Y0)(ln n:J)(r p:Y0):=Obj.mk (.type u) Option.none (.fields #[.str (a i j) k,.str (a v w) (k+1),.str (a 24 6) (k+2),.int ln 0,.int n 0,.int 0 0,.int 0 0,.int 3 0,.ref r,.bool Bool.true,.int 181 0,.ref (r+1),.none,.ref (r+2),.ref (r+3),.ref (r+4),.int (.ofNat p) 0,.int ln 0,.str (a 24 6) (p+1)]) #[]
noncomputable abbrev zB(u:String)(a:Y0->Y0->Y5)(i j v w k:Y0)(ln n:J)(r p:Y0):=Obj.mk (.type u) Option.none (.fields #[.str (a i j) k,.str (a v w) (k+1),.str (a 24 6) (k+2),.int ln 0,.int n 0,.int 0 0,.int 0 0,.int 3 0,.ref r,.bool Bool.true,.int 181 0,.ref (r+1),.none,.none,.none,.ref (r+2),.int (.ofNat p) 0,.int ln 0,.str (a 24 6) (p+1)]) #[]
noncomputable abbrev zA2(u:String)(a:Y0->Y0->Y5)(i j:Y0):=zA u a i j i j
noncomputable abbrev zB2(u:String)(a:Y0->Y0->Y5)(i j:Y0):=zB u a i j i j
noncomputable abbrev zM(u:String)(a:Y0->Y0->Y5)(i j v w:Y0)(s:Stmt)(x y k r:Y0):=Obj.mk (.type u) Option.none (.func (fnD (a i j) (a v w) s 3 [] .none .none .none (.str (a x y) k) Option.none (.ref r) .none 0)) #[]
noncomputable abbrev zF(u:String)(a:Y0->Y0->Y5)(i j:Y0):=zM u a i j i j
noncomputable abbrev zR(P:Qr)(a:Y0->Y0->Y5)(i j k r:Y0):=de P (a i j) k (.ref r)
noncomputable def KG(tp:Y0->Stmt)(a:Y0->Y0->Y5)(u0 u1 u2 u3 u4 u5 u6 u7 u8 u9 u10 u11 u12 u13 u14 u15:String)(P:Qr):Qqq:=(nat_lit 3,Obj.mk (.type u0) Option.none (.dict #[de P (a 8 1) 165 (.str (a 8 2) 1082),de P (a 24 7) 166 .none,de P (a 24 8) 167 .none,de P (a 24 9) 168 (.builtin u1),de P (a 24 10) 169 .none,zR P a 24 11 170 6,zR P a 25 0 171 4,de P (a 25 1) 173 (.str (a 24 6) 172),de P (a 25 2) 174 .none,zR P a 14 7 193 21,zR P a 24 1 213 31,zR P a 10 7 229 44,zR P a 12 1 245 56,zR P a 12 3 261 68,zR P a 14 10 277 80,zR P a 22 0 293 92,zR P a 18 2 309 104,de P (a 23 3) 313 (.int 0 312),de P (a 23 4) 315 (.int 1 314),de P (a 23 6) 317 (.int 2 316),de P (a 23 5) 319 (.int 3 318),zR P a 16 3 327 113,zR P a 17 4 333 118,zR P a 23 1 342 125,zR P a 22 8 353 132,zR P a 18 1 361 139,zR P a 23 8 373 146,zR P a 22 2 381 153,zR P a 21 5 445 191,zR P a 11 8 558 273,zR P a 10 11 563 278,zR P a 20 1 566 279,zR P a 20 2 569 280,zR P a 20 3 572 281,zR P a 20 4 575 282,zR P a 20 5 578 283,de P (a 21 3) 580 (.int 16 579),zR P a 18 9 623 284,zR P a 19 6 630 299,zR P a 10 5 638 306,zR P a 18 10 644 311,zR P a 21 1 652 318,zR P a 18 6 660 325,zR P a 18 7 666 330,zR P a 18 5 674 337,zR P a 18 8 681 344,zR P a 12 0 689 351,zR P a 19 0 704 357,zR P a 17 11 716 364,zR P a 17 7 722 369,zR P a 17 6 728 374,zR P a 16 10 738 381,zR P a 16 6 746 388,zR P a 13 5 752 393,zR P a 16 8 760 400,zR P a 16 2 768 405,zR P a 16 11 781 412,zR P a 16 0 790 419,zR P a 15 8 797 426,zR P a 15 10 805 433,zR P a 13 11 814 440,zR P a 14 2 824 447,zR P a 10 6 829 448,zR P a 9 10 832 449,zR P a 9 11 835 450,de P (a 10 0) 837 (.int 10 836),zR P a 10 1 847 457,zR P a 10 9 854 464,zR P a 1 3 1081 642,zR P a 0 9 1099 653,zR P a 3 4 1105 658,zR P a 2 10 1117 665,zR P a 2 11 1126 672,zR P a 4 7 1139 679,zR P a 6 9 1145 684,zR P a 7 1 1161 691,zR P a 4 6 1170 698,zR P a 4 5 1180 705,zR P a 4 2 1189 712,zR P a 4 8 1204 719,zR P a 3 5 1210 724,zR P a 4 9 1224 731,zR P a 5 1 1236 738,zR P a 5 4 1246 745,zR P a 1 8 1252 750,zR P a 3 0 1266 757,zR P a 0 0 1279 764,zR P a 0 11 1290 771,zR P a 1 0 1296 776,zR P a 1 10 1302 781,zR P a 2 2 1308 786,zR P a 2 9 1322 793] 92) #[]) ::
(nat_lit 112,zA2 u3 a 16 3 320 24 2 107 325) ::
(nat_lit 113,zF u4 a 16 3 (tp 14) 24 2 310 112) ::
(nat_lit 117,zB2 u3 a 17 4 328 26 2 114 331) ::
(nat_lit 118,zF u4 a 17 4 (tp 15) 24 2 310 117) ::
(nat_lit 124,zA2 u3 a 23 1 334 28 3 119 340) ::
(nat_lit 125,zF u4 a 23 1 (tp 16) 24 2 310 124) ::
(nat_lit 131,zA2 u3 a 22 8 343 30 3 126 351) ::
(nat_lit 132,zF u4 a 22 8 (tp 17) 24 2 310 131) ::
(nat_lit 138,zA2 u3 a 18 1 354 40 2 133 359) ::
(nat_lit 139,zF u4 a 18 1 (tp 18) 24 2 310 138) ::
(nat_lit 145,zA2 u3 a 23 8 364 43 2 140 371) ::
(nat_lit 146,zF u4 a 23 8 (tp 20) 23 7 362 145) ::
(nat_lit 152,zA2 u3 a 22 2 374 49 2 147 379) ::
(nat_lit 153,zF u4 a 22 2 (tp 21) 23 7 362 152) ::
(nat_lit 166,zA u3 a 11 1 25 8 396 54 5 161 404) ::
(nat_lit 167,zM u4 a 11 1 25 8 (cb (tp 23) 0) 23 10 382 166) ::
(nat_lit 173,zA u3 a 21 6 25 9 407 62 3 168 414) ::
(nat_lit 174,zM u4 a 21 6 25 9 (cb (tp 23) 1) 23 10 382 173) ::
(nat_lit 187,zA u3 a 6 5 25 11 424 70 2 182 429) ::
(nat_lit 188,zM u4 a 6 5 25 11 (cb (tp 23) 3) 23 10 382 187) ::
(nat_lit 190,Obj.mk (.type u0) Option.none (.dict #[de P (a 25 4) 391 (.str (a 23 10) 382),de P (a 25 5) 395 (.int 52 394),zR P a 11 1 406 167,zR P a 21 6 416 174,zR P a 15 7 423 181,zR P a 6 5 431 188,zR P a 25 6 438 189,zR P a 26 0 440 192,zR P a 25 7 442 193,de P (a 24 7) 443 .none] 4) #[]) ::
(nat_lit 191,Obj.mk (.type u7) Option.none (.cls (ClassData.mk (a 21 5) [.type u10] [.ref 191,.type u10] 190 (a 21 5) Bool.true [] [] Bool.false Option.none Bool.false)) #[Option.none,Option.none,Option.some (.str (a 21 5) 384),Option.some (.str (a 21 5) 392),Option.some (.builtin u13),Option.some (.bool Bool.true)]) ::
(nat_lit 208,zA u3 a 11 1 26 1 458 80 2 203 463) ::
(nat_lit 209,zM u4 a 11 1 26 1 (cb (tp 24) 0) 23 10 382 208) ::
(nat_lit 215,zA u3 a 14 8 26 2 466 85 1 210 470) ::
(nat_lit 216,zM u4 a 14 8 26 2 (cb (tp 24) 1) 23 10 382 215) ::
(nat_lit 222,zA u3 a 15 1 26 3 473 88 2 217 478) ::
(nat_lit 223,zM u4 a 15 1 26 3 (cb (tp 24) 2) 23 10 382 222) ::
(nat_lit 227,zB u3 a 6 7 26 4 481 93 2 224 484) ::
(nat_lit 228,zM u4 a 6 7 26 4 (cb (tp 24) 3) 23 10 382 227) ::
(nat_lit 234,zA u3 a 3 11 26 5 487 96 5 229 495) ::
(nat_lit 235,zM u4 a 3 11 26 5 (cb (tp 24) 4) 23 10 382 234) ::
(nat_lit 241,zA u3 a 22 3 26 6 498 100 4 236 506) ::
(nat_lit 242,zM u4 a 22 3 26 6 (cb (tp 24) 5) 23 10 382 241) ::
(nat_lit 248,zA u3 a 13 0 26 7 509 106 3 243 516) ::
(nat_lit 249,zM u4 a 13 0 26 7 (cb (tp 24) 6) 23 10 382 248) ::
(nat_lit 255,zA u3 a 12 11 26 8 519 110 3 250 527) ::
(nat_lit 256,zM u4 a 12 11 26 8 (cb (tp 24) 7) 23 10 382 255) ::
(nat_lit 262,zA u3 a 4 0 26 9 530 128 3 257 538) ::
(nat_lit 263,zM u4 a 4 0 26 9 (cb (tp 24) 8) 23 10 382 262) ::
(nat_lit 272,Obj.mk (.type u0) Option.none (.dict #[de P (a 25 4) 453 (.str (a 23 10) 382),de P (a 25 5) 457 (.int 78 456),zR P a 11 1 465 209,zR P a 14 8 472 216,zR P a 15 1 480 223,zR P a 6 7 486 228,zR P a 3 11 497 235,zR P a 22 3 508 242,zR P a 13 0 518 249,zR P a 12 11 529 256,zR P a 4 0 540 263,zR P a 15 7 547 270,zR P a 25 6 551 271,zR P a 26 0 553 274,zR P a 25 7 555 275,de P (a 24 7) 556 .none] 4) #[]) ::
(nat_lit 273,Obj.mk (.type u7) Option.none (.cls (ClassData.mk (a 11 8) [.type u10] [.ref 273,.type u10] 272 (a 11 8) Bool.true [] [] Bool.false Option.none Bool.false)) #[Option.none,Option.none,Option.some (.str (a 11 8) 446),Option.some (.str (a 11 8) 454),Option.some (.builtin u13),Option.some (.bool Bool.true)]) ::
(nat_lit 278,oq u2 #[.int 1 561,.int 400 562]) ::
(nat_lit 279,oq u2 #[.int 1 564,.int 40 565]) ::
(nat_lit 280,oq u2 #[.int 0 567,.int 1 568]) ::
(nat_lit 281,oq u2 #[.int 1 570,.int 23 571]) ::
(nat_lit 282,oq u2 #[.int 0 573,.int 4 574]) ::
(nat_lit 283,oq u2 #[.int 1 576,.int 1000000 577]) ::
(nat_lit 284,Obj.mk (.type u0) Option.none (.dict #[zR P a 4 4 581 285,zR P a 3 11 585 286,zR P a 7 10 591 287,zR P a 7 11 593 288,zR P a 4 0 596 289,zR P a 8 0 601 290,zR P a 0 7 603 291,zR P a 5 7 611 292] 8) #[]) ::
(nat_lit 285,oq u2 #[.str (a 10 10) 582,.str (a 10 10) 583,.str (a 19 9) 584]) ::
(nat_lit 286,oq u2 #[.str (a 19 7) 586,.str (a 19 2) 587,.str (a 19 3) 588,.str (a 19 2) 589,.str (a 19 3) 590]) ::
(nat_lit 287,oq u2 #[.str (a 10 10) 592]) ::
(nat_lit 288,oq u2 #[.str (a 10 10) 594,.str (a 19 7) 595]) ::
(nat_lit 289,oq u2 #[.str (a 10 10) 597,.str (a 19 10) 598,.str (a 19 11) 599,.str (a 19 7) 600]) ::
(nat_lit 290,oq u2 #[.str (a 10 10) 602]) ::
(nat_lit 291,oq u2 #[.str (a 19 7) 604,.str (a 19 2) 605,.str (a 19 3) 606,.str (a 19 2) 607,.str (a 19 3) 608,.str (a 19 8) 609,.str (a 20 0) 610]) ::
(nat_lit 292,oq u2 #[.str (a 19 7) 612,.str (a 19 7) 613,.str (a 20 0) 614]) ::
(nat_lit 298,zA2 u3 a 19 6 624 150 1 293 628) ::
(nat_lit 299,zF u4 a 19 6 (tp 34) 22 11 559 298) ::
(nat_lit 305,zA2 u3 a 10 5 631 152 2 300 636) ::
(nat_lit 306,zF u4 a 10 5 (tp 35) 22 11 559 305) ::
(nat_lit 310,zB2 u3 a 18 10 639 156 3 307 642) ::
(nat_lit 311,zF u4 a 18 10 (tp 36) 22 11 559 310) ::
(nat_lit 317,zA2 u3 a 21 1 645 161 2 312 650) ::
(nat_lit 318,zF u4 a 21 1 (tp 37) 22 11 559 317) ::
(nat_lit 324,zA2 u3 a 18 6 653 163 2 319 658) ::
(nat_lit 325,zF u4 a 18 6 (tp 38) 22 11 559 324) ::
(nat_lit 329,zB2 u3 a 18 7 661 165 2 326 664) ::
(nat_lit 330,zF u4 a 18 7 (tp 39) 22 11 559 329) ::
(nat_lit 336,zA2 u3 a 18 5 667 171 2 331 672) ::
(nat_lit 337,zF u4 a 18 5 (tp 40) 22 11 559 336) ::
(nat_lit 343,zA2 u3 a 18 8 675 173 1 338 679) ::
(nat_lit 344,zF u4 a 18 8 (tp 41) 22 11 559 343) ::
(nat_lit 350,zA2 u3 a 12 0 682 179 2 345 687) ::
(nat_lit 351,zF u4 a 12 0 (tp 42) 22 11 559 350) ::
(nat_lit 352,oq u2 #[.int 0 692,.int 0 693]) ::
(nat_lit 353,oq u2 #[.int 1 694,.int 0 695]) ::
(nat_lit 354,oq u2 #[.int (-1) 697,.int 0 698]) ::
(nat_lit 355,oq u2 #[.int 0 699,.int 1 700]) ::
(nat_lit 356,oq u2 #[.int 0 701,.int (-1) 703]) ::
(nat_lit 357,oq u2 #[.ref 352,.ref 353,.ref 354,.ref 355,.ref 356]) ::
(nat_lit 363,zA2 u3 a 17 11 705 187 3 358 714) ::
(nat_lit 364,zF u4 a 17 11 (tp 45) 18 11 690 363) ::
(nat_lit 368,zB2 u3 a 17 7 717 196 4 365 720) ::
(nat_lit 369,zF u4 a 17 7 (tp 46) 18 11 690 368) ::
(nat_lit 373,zB2 u3 a 17 6 723 203 2 370 726) ::
(nat_lit 374,zF u4 a 17 6 (tp 47) 18 11 690 373) ::
(nat_lit 380,zA2 u3 a 16 10 731 213 2 375 736) ::
(nat_lit 381,zF u4 a 16 10 (tp 49) 18 4 729 380) ::
(nat_lit 387,zA2 u3 a 16 6 739 215 2 382 744) ::
(nat_lit 388,zF u4 a 16 6 (tp 50) 18 4 729 387) ::
(nat_lit 392,zB2 u3 a 13 5 747 217 2 389 750) ::
(nat_lit 393,zF u4 a 13 5 (tp 51) 18 4 729 392) ::
(nat_lit 399,zA2 u3 a 16 8 753 219 2 394 758) ::
(nat_lit 400,zF u4 a 16 8 (tp 52) 18 4 729 399) ::
(nat_lit 404,zB2 u3 a 16 2 763 222 1 401 766) ::
(nat_lit 405,zF u4 a 16 2 (tp 54) 16 9 761 404) ::
(nat_lit 411,zA2 u3 a 16 11 769 224 3 406 779) ::
(nat_lit 412,zF u4 a 16 11 (tp 55) 16 9 761 411) ::
(nat_lit 418,zA2 u3 a 16 0 782 233 2 413 788) ::
(nat_lit 419,zF u4 a 16 0 (tp 56) 16 9 761 418) ::
(nat_lit 425,zA2 u3 a 15 8 791 236 1 420 795) ::
(nat_lit 426,zF u4 a 15 8 (tp 57) 16 9 761 425) ::
(nat_lit 432,zA2 u3 a 15 10 798 238 2 427 803) ::
(nat_lit 433,zF u4 a 15 10 (tp 58) 16 9 761 432) ::
(nat_lit 439,zA2 u3 a 13 11 806 240 2 434 812) ::
(nat_lit 440,zF u4 a 13 11 (tp 59) 16 9 761 439) ::
(nat_lit 446,zA2 u3 a 14 2 815 243 2 441 822) ::
(nat_lit 447,zF u4 a 14 2 (tp 60) 16 9 761 446) ::
(nat_lit 448,oq u2 #[.int 1 827,.int 24 828]) ::
(nat_lit 449,oq u2 #[.int 0 830,.int 12 831]) ::
(nat_lit 450,oq u2 #[.int 1 833,.int 400 834]) ::
(nat_lit 456,zA2 u3 a 10 1 838 253 4 451 845) ::
(nat_lit 457,zF u4 a 10 1 (tp 66) 16 4 825 456) ::
(nat_lit 463,zA2 u3 a 10 9 848 256 1 458 852) ::
(nat_lit 464,zF u4 a 10 9 (tp 67) 16 4 825 463) ::
(nat_lit 477,zA u3 a 11 1 26 11 867 261 5 472 875) ::
(nat_lit 478,zM u4 a 11 1 26 11 (cb (tp 68) 0) 16 4 825 477) ::
(nat_lit 484,zA u3 a 1 5 27 0 878 272 3 479 884) ::
(nat_lit 485,zM u4 a 1 5 27 0 (cb (tp 68) 1) 16 4 825 484) ::
(nat_lit 491,zA u3 a 12 5 27 1 887 281 2 486 892) ::
(nat_lit 492,zM u4 a 12 5 27 1 (cb (tp 68) 2) 16 4 825 491) ::
(nat_lit 498,zA u3 a 12 6 27 2 895 294 2 493 900) ::
(nat_lit 499,zM u4 a 12 6 27 2 (cb (tp 68) 3) 16 4 825 498) ::
(nat_lit 505,zA u3 a 12 7 27 3 903 299 2 500 910) ::
(nat_lit 506,zM u4 a 12 7 27 3 (cb (tp 68) 4) 16 4 825 505) ::
(nat_lit 512,zA u3 a 12 8 27 4 913 311 2 507 920) ::
(nat_lit 513,zM u4 a 12 8 27 4 (cb (tp 68) 5) 16 4 825 512) ::
(nat_lit 519,zA u3 a 12 9 27 5 923 318 2 514 931) ::
(nat_lit 520,zM u4 a 12 9 27 5 (cb (tp 68) 6) 16 4 825 519) ::
(nat_lit 526,zA u3 a 12 10 27 6 934 329 2 521 939) ::
(nat_lit 527,zM u4 a 12 10 27 6 (cb (tp 68) 7) 16 4 825 526) ::
(nat_lit 533,zA u3 a 14 0 27 7 942 333 2 528 948) ::
(nat_lit 534,zM u4 a 14 0 27 7 (cb (tp 68) 8) 16 4 825 533) ::
(nat_lit 540,zA u3 a 13 10 27 8 951 337 4 535 958) ::
(nat_lit 541,zM u4 a 13 10 27 8 (cb (tp 68) 9) 16 4 825 540) ::
(nat_lit 554,zA u3 a 5 10 27 10 969 344 1 549 973) ::
(nat_lit 555,zM u4 a 5 10 27 10 (cb (tp 68) 11) 16 4 825 554) ::
(nat_lit 561,zA u3 a 5 11 27 11 976 347 1 556 980) ::
(nat_lit 562,zM u4 a 5 11 27 11 (cb (tp 68) 12) 16 4 825 561) ::
(nat_lit 568,zA u3 a 6 0 28 0 983 350 1 563 987) ::
(nat_lit 569,zM u4 a 6 0 28 0 (cb (tp 68) 13) 16 4 825 568) ::
(nat_lit 575,zA u3 a 5 8 28 1 990 353 1 570 994) ::
(nat_lit 576,zM u4 a 5 8 28 1 (cb (tp 68) 14) 16 4 825 575) ::
(nat_lit 582,zA u3 a 5 9 28 2 997 356 1 577 1001) ::
(nat_lit 583,zM u4 a 5 9 28 2 (cb (tp 68) 15) 16 4 825 582) ::
(nat_lit 589,zA u3 a 3 9 28 3 1004 359 2 584 1009) ::
(nat_lit 590,zM u4 a 3 9 28 3 (cb (tp 68) 16) 16 4 825 589) ::
(nat_lit 596,zA u3 a 6 2 28 4 1012 364 2 591 1017) ::
(nat_lit 597,zM u4 a 6 2 28 4 (cb (tp 68) 17) 16 4 825 596) ::
(nat_lit 603,zA u3 a 6 3 28 5 1020 369 2 598 1026) ::
(nat_lit 604,zM u4 a 6 3 28 5 (cb (tp 68) 18) 16 4 825 603) ::
(nat_lit 610,zA u3 a 6 5 28 6 1029 373 2 605 1034) ::
(nat_lit 611,zM u4 a 6 5 28 6 (cb (tp 68) 19) 16 4 825 610) ::
(nat_lit 617,zA u3 a 6 6 28 7 1037 376 2 612 1042) ::
(nat_lit 618,zM u4 a 6 6 28 7 (cb (tp 68) 20) 16 4 825 617) ::
(nat_lit 624,zA u3 a 6 7 28 8 1045 379 1 619 1049) ::
(nat_lit 625,zM u4 a 6 7 28 8 (cb (tp 68) 21) 16 4 825 624) ::
(nat_lit 631,zA u3 a 6 8 28 9 1052 382 1 626 1056) ::
(nat_lit 632,zM u4 a 6 8 28 9 (cb (tp 68) 22) 16 4 825 631) ::
(nat_lit 641,Obj.mk (.type u0) Option.none (.dict #[de P (a 25 4) 862 (.str (a 16 4) 825),de P (a 25 5) 866 (.int 259 865),zR P a 11 1 877 478,zR P a 1 5 886 485,zR P a 12 5 894 492,zR P a 12 6 902 499,zR P a 12 7 912 506,zR P a 12 8 922 513,zR P a 12 9 933 520,zR P a 12 10 941 527,zR P a 14 0 950 534,zR P a 13 10 960 541,zR P a 14 6 968 548,zR P a 5 10 975 555,zR P a 5 11 982 562,zR P a 6 0 989 569,zR P a 5 8 996 576,zR P a 5 9 1003 583,zR P a 3 9 1011 590,zR P a 6 2 1019 597,zR P a 6 3 1028 604,zR P a 6 5 1036 611,zR P a 6 6 1044 618,zR P a 6 7 1051 625,zR P a 6 8 1058 632,zR P a 15 7 1065 639,zR P a 25 6 1074 640,zR P a 26 0 1076 643,zR P a 25 7 1078 644,de P (a 24 7) 1079 .none] 4) #[]) ::
(nat_lit 642,Obj.mk (.type u7) Option.none (.cls (ClassData.mk (a 1 3) [.type u10] [.ref 642,.type u10] 641 (a 1 3) Bool.true [] [] Bool.false Option.none Bool.false)) #[Option.none,Option.none,Option.some (.str (a 1 3) 855),Option.some (.str (a 1 3) 863),Option.some (.builtin u13),Option.some (.bool Bool.true)]) ::
(nat_lit 652,zA2 u3 a 0 9 1084 388 4 647 1097) ::
(nat_lit 653,zF u4 a 0 9 (tp 70) 8 2 1082 652) ::
(nat_lit 657,zB2 u3 a 3 4 1100 403 2 654 1103) ::
(nat_lit 658,zF u4 a 3 4 (tp 71) 8 2 1082 657) ::
(nat_lit 664,zA2 u3 a 2 10 1106 412 2 659 1115) ::
(nat_lit 665,zF u4 a 2 10 (tp 72) 8 2 1082 664) ::
(nat_lit 671,zA2 u3 a 2 11 1118 419 2 666 1124) ::
(nat_lit 672,zF u4 a 2 11 (tp 73) 8 2 1082 671) ::
(nat_lit 678,zA2 u3 a 4 7 1127 422 5 673 1137) ::
(nat_lit 679,zF u4 a 4 7 (tp 74) 8 2 1082 678) ::
(nat_lit 683,zB2 u3 a 6 9 1140 426 4 680 1143) ::
(nat_lit 684,zF u4 a 6 9 (tp 75) 8 2 1082 683) ::
(nat_lit 690,zA2 u3 a 7 1 1146 428 4 685 1159) ::
(nat_lit 691,zF u4 a 7 1 (tp 76) 8 2 1082 690) ::
(nat_lit 697,zA2 u3 a 4 6 1162 438 3 692 1168) ::
(nat_lit 698,zF u4 a 4 6 (tp 77) 8 2 1082 697) ::
(nat_lit 704,zA2 u3 a 4 5 1171 440 4 699 1178) ::
(nat_lit 705,zF u4 a 4 5 (tp 78) 8 2 1082 704) ::
(nat_lit 711,zA2 u3 a 4 2 1181 444 3 706 1187) ::
(nat_lit 712,zF u4 a 4 2 (tp 79) 8 2 1082 711) ::
(nat_lit 718,zA2 u3 a 4 8 1190 446 5 713 1202) ::
(nat_lit 719,zF u4 a 4 8 (tp 80) 8 2 1082 718) ::
(nat_lit 723,zB2 u3 a 3 5 1205 454 4 720 1208) ::
(nat_lit 724,zF u4 a 3 5 (tp 81) 8 2 1082 723) ::
(nat_lit 730,zA2 u3 a 4 9 1211 466 4 725 1222) ::
(nat_lit 731,zF u4 a 4 9 (tp 82) 8 2 1082 730) ::
(nat_lit 737,zA2 u3 a 5 1 1225 474 3 732 1234) ::
(nat_lit 738,zF u4 a 5 1 (tp 83) 8 2 1082 737) ::
(nat_lit 744,zA2 u3 a 5 4 1237 479 2 739 1244) ::
(nat_lit 745,zF u4 a 5 4 (tp 84) 8 2 1082 744) ::
(nat_lit 749,zB2 u3 a 1 8 1247 485 1 746 1250) ::
(nat_lit 750,zF u4 a 1 8 (tp 85) 8 2 1082 749) ::
(nat_lit 756,zA2 u3 a 3 0 1253 495 4 751 1264) ::
(nat_lit 757,zF u4 a 3 0 (tp 86) 8 2 1082 756) ::
(nat_lit 763,zA2 u3 a 0 0 1267 505 3 758 1277) ::
(nat_lit 764,zF u4 a 0 0 (tp 87) 8 2 1082 763) ::
(nat_lit 770,zA2 u3 a 0 11 1280 513 2 765 1288) ::
(nat_lit 771,zF u4 a 0 11 (tp 88) 8 2 1082 770) ::
(nat_lit 775,zB2 u3 a 1 0 1291 520 3 772 1294) ::
(nat_lit 776,zF u4 a 1 0 (tp 89) 8 2 1082 775) ::
(nat_lit 780,zB2 u3 a 1 10 1297 525 2 777 1300) ::
(nat_lit 781,zF u4 a 1 10 (tp 90) 8 2 1082 780) ::
(nat_lit 785,zB2 u3 a 2 2 1303 528 3 782 1306) ::
(nat_lit 786,zF u4 a 2 2 (tp 91) 8 2 1082 785) ::
(nat_lit 792,zA2 u3 a 2 9 1309 536 1 787 1320) ::
(nat_lit 793,zF u4 a 2 9 (tp 92) 8 2 1082 792)::[]
noncomputable def KF:Qr->Qqq:=KG top Af b0 b1 b2 b3 b4 b5 b6 b7 b8 b9 b10 b11 b12 b13 b14 b15
noncomputable def KH(P:Qr):Qqq:=by refine'(?f:(x:Qqq)->KF P=x->Qqq) _ ?h; (case f=>exact λx _=>x); (case h=>conv=>lhs; whnf)
end K39
namespace PySem.W.Fast
open PySem K39
noncomputable def tw674105852383378296:Program:=G tw2708069921283695694
theorem te674105852383378296:PZW=tw674105852383378296:=Eq.trans (b:=G Af) (by kernel_rfl) (congrArg G te2708069921283695694)
noncomputable def qz0(i:Y0):Stmt:=tw674105852383378296.main.body.getD i (.Pass ⟨0,0,0,0⟩)
theorem qql:top=qz0:=funext λi=>congrArg (λp:Program=>p.main.body.getD i (.Pass ⟨0,0,0,0⟩)) te674105852383378296
noncomputable def qqh:Qr->Frag:=KG qz0 tw2708069921283695694 tw3298427915383663602 tw4863969101761711601 tw6355229665510864218 tw13735633736407853630 tw8887387506816606272 tw6057324693638223937 tw1876179198368144188 tw15351561982860350917 tw25900068802948625 tw6941593375696979916 tw1876466144418409316 tw12020332687679179328 tw9020269444558602009 tw14854902892270819022 tw16659363761176810212 tw7455151128602833779
theorem te16010602280522706278:KF=qqh:=congr (congr (congr (congr (congr (congr (congr (congr (congr (congr (congr (congr (congr (congr (congr (congr (congr (congrArg KG qql) te2708069921283695694) te3298427915383663602) te4863969101761711601) te6355229665510864218) te13735633736407853630) te8887387506816606272) te6057324693638223937) te1876179198368144188) te15351561982860350917) te25900068802948625) te6941593375696979916) te1876466144418409316) te12020332687679179328) te9020269444558602009) te14854902892270819022) te16659363761176810212) te7455151128602833779
end PySem.W.Fast
namespace K39
open PySem PySem.W PySem.Calls PyProof.Rows HD
noncomputable abbrev ads:L Y7:=[3,112,113,117,118,124,125,131,132,138,139,145,146,152,153,166,167,173,174,187,188,190,191,208,209,215,216,222,223,227,228,234,235,241,242,248,249,255,256,262,263,272,273,278,279,280,281,282,283,284,285,286,287,288,289,290,291,292,298,299,305,306,310,311,317,318,324,325,329,330,336,337,343,344,350,351,352,353,354,355,356,357,363,364,368,369,373,374,380,381,387,388,392,393,399,400,404,405,411,412,418,419,425,426,432,433,439,440,446,447,448,449,450,456,457,463,464,477,478,484,485,491,492,498,499,505,506,512,513,519,520,526,527,533,534,540,541,554,555,561,562,568,569,575,576,582,583,589,590,596,597,603,604,610,611,617,618,624,625,631,632,641,642,652,653,657,658,664,665,671,672,678,679,683,684,690,691,697,698,704,705,711,712,718,719,723,724,730,731,737,738,744,745,749,750,756,757,763,764,770,771,775,776,780,781,785,786,792,793]
noncomputable abbrev loose:L Y5:=["ASKS"]
noncomputable def vw(p:Program):Program:=view p [0,2,3,4,5,6,7,8,10,11,12,13,14,15,16,17,18,20,21,23,24,26,27,28,29,30,31,32,33,34,35,36,37,38,39,40,41,42,44,45,46,47,49,50,51,52,54,55,56,57,58,59,60,62,63,64,65,66,67,68,70,71,72,73,74,75,76,77,78,79,80,81,82,83,84,85,86,87,88,89,90,91,92]
noncomputable def Xt(q:Program)(s:Qz):Bool:=xlAt q [] s&&recOk (RowW.records (OpenRow.toRowW (OpenLaw.row RZW))) s
theorem pre:∀w:Qk,(λos=>topGo Qu PZW w 11 an 12 ⟨Qg w.params,#[],boot_drawn,boot_toks,os⟩ (topStub PZW))=λos=>Y ((Sa w os).abs,⟨denote Qu (cE PZW),cE PZW,p0,[topFrame p0]⟩):=by
 rw[Fast.te15667345088766844465,Fast.te14364793385576792824,Fast.te11892475500146522536,Fast.te674105852383378296];exact λw=>by kernel_rfl
theorem blk:∀w:Qk,(λos=>segRun Qu PZW w 11 an 1 1 (Sa w os).abs (blockOf (Zi PZW) (ev PZW) (cE PZW) p0 [topFrame p0]))=λos=>Y (Flow.next,(Sa w os).abs,cE PZW,p0):=by
 rw[Fast.te14374325043358763698,Fast.te14364793385576792824,Fast.te674105852383378296];exact λw=>by kernel_rfl
noncomputable def GA(w:Qk):Prop:=(λos=>(Rn PZW 5449 w os).map λr=>(r.1,r.2.2.1,r.2.2.2,LA PZW (vw PZW) ads w r.2.1.abs))=λ_=>Y (Flow.next,cE PZW,⟨536,0,548,91⟩,O,expectedOf (vw PZW),(KF w.params).map λp=>Y p.2)
theorem gAf:∀w:Qk,GA (w.withFollow "special-get-raises" Y6):=by
 unfold GA Rn LA;rw[Fast.te10110043849684766642,Fast.te14364793385576792824,Fast.te5923862056798008813,Fast.te674105852383378296,Fast.te16010602280522706278];exact λw=>by kernel_rfl
theorem gAt:∀w:Qk,GA (w.withFollow "special-get-raises" O):=by
 unfold GA Rn LA;rw[Fast.te10110043849684766642,Fast.te14364793385576792824,Fast.te5923862056798008813,Fast.te674105852383378296,Fast.te16010602280522706278];exact λw=>by kernel_rfl
noncomputable def GB(w:Qk):Prop:=(λos=>(Rn PZW 5449 w os).map λr=>LB PZW (vw PZW) loose Xt r.2.1.abs)=λ_=>Y O
theorem gBf:∀w:Qk,GB (w.withFollow "special-get-raises" Y6):=by
 unfold GB Rn LB;rw[Fast.te10110043849684766642,Fast.te14364793385576792824,Fast.te5923862056798008813,Fast.te674105852383378296];exact λw=>by kernel_rfl
theorem gBt:∀w:Qk,GB (w.withFollow "special-get-raises" O):=by
 unfold GB Rn LB;rw[Fast.te10110043849684766642,Fast.te14364793385576792824,Fast.te5923862056798008813,Fast.te674105852383378296];exact λw=>by kernel_rfl
noncomputable def GC(w:Qk):Prop:=(λos=>(Rn PZW 5449 w os).map λr=>plainSeenE (vw PZW) (looseW (vw PZW) loose) r.2.1.abs)=λ_=>Y (plainGoodE (vw PZW) (looseW (vw PZW) loose))
theorem gCf:∀w:Qk,GC (w.withFollow "special-get-raises" Y6):=by
 unfold GC Rn ;rw[Fast.te10110043849684766642,Fast.te14364793385576792824,Fast.te674105852383378296];exact λw=>by kernel_rfl
theorem gCt:∀w:Qk,GC (w.withFollow "special-get-raises" O):=by
 unfold GC Rn ;rw[Fast.te10110043849684766642,Fast.te14364793385576792824,Fast.te674105852383378296];exact λw=>by kernel_rfl
noncomputable def GD(w:Qk):Prop:=(λos=>(Rn PZW 5449 w os).map λr=>LD (vw PZW) loose r.2.1.abs)=λ_=>Y (bltViewBooted,O,pinGoodD (drecsOf (vw PZW)),clsGoodW (vw PZW) loose)
theorem gDf:∀w:Qk,GD (w.withFollow "special-get-raises" Y6):=by
 unfold GD Rn LD;rw[Fast.te10110043849684766642,Fast.te14364793385576792824,Fast.te674105852383378296];exact λw=>by kernel_rfl
theorem gDt:∀w:Qk,GD (w.withFollow "special-get-raises" O):=by
 unfold GD Rn LD;rw[Fast.te10110043849684766642,Fast.te14364793385576792824,Fast.te674105852383378296];exact λw=>by kernel_rfl
noncomputable def GE(w:Qk):Prop:=(λos=>(Rn PZW 5449 w os).map λr=>LG (vw PZW) loose r.2.1.abs)=λ_=>Y (wideGood (vw PZW),plainGoodD (vw PZW) loose)
theorem gEf:∀w:Qk,GE (w.withFollow "special-get-raises" Y6):=by
 unfold GE Rn LG;rw[Fast.te10110043849684766642,Fast.te14364793385576792824,Fast.te674105852383378296];exact λw=>by kernel_rfl
theorem gEt:∀w:Qk,GE (w.withFollow "special-get-raises" O):=by
 unfold GE Rn LG;rw[Fast.te10110043849684766642,Fast.te14364793385576792824,Fast.te674105852383378296];exact λw=>by kernel_rfl
theorem left:LeftO PZW (vw PZW) loose (Xt (vw PZW)) (λs=>ads.map s.heap.get?) (λw=>(KF w.params).map λp=>Y p.2) 11022:=
 lo3 (boot_open (by kernel_rfl) (by decide) (λs=>by kernel_rfl)) (λw=>by kernel_rfl) pre blk (byRow2 "special-get-raises" gAf gAt) (byRow2 "special-get-raises" gBf gBt) (byRow2 "special-get-raises" gCf gCt) (byRow2 "special-get-raises" gDf gDt) (byRow2 "special-get-raises" gEf gEt) (by decide)
end K39
section
namespace L2
open PySem PySem.Spec PyProof.Rows
abbrev Key:=Sum J Y5
noncomputable def qbp:Key->Y8->Yb
 |.inl k,v=>Value.isInt k v
 |.inr x,v=>Value.isStrOf x v
noncomputable def keyH(w:Qk):Key->J
 |.inl k=>hashInt k
 |.inr x=>hashStr w x
def qzi:∀{k}{v},qbp k v=O->(∃i t,k=Sum.inl i/\v=Value.int i t)\/(∃x t,k=Sum.inr x/\v=Value.str x t)
 |.inl i,v,h=>by
  obtain⟨t,e⟩:=Value.isInt_shape h;exact .inl ⟨i,t,rfl,e⟩
 |.inr x,v,h=>by
  obtain⟨t,e⟩:=Value.isStrOf_shape h;exact .inr ⟨x,t,rfl,e⟩
def qd7(i)(t):qbp (.inl i) (.int i t)=true:=by simp[qbp,Value.isInt]
def qd6(x)(t):qbp (.inr x) (.str x t)=true:=by simp[qbp,Value.isStrOf]
def key_ll(a b):decide ((Sum.inl a:Key)=Sum.inl b)=(a==b):=by
 by_cases e:a=b
 ·subst e; simp
 ·have h:¬ (Sum.inl a:Key)=Sum.inl b:=λq=>e (Sum.inl.inj q);rw[Z4 h];exact(beq_eq_false_iff_ne.mpr e).symm
def key_rr(a b):decide ((Sum.inr a:Key)=Sum.inr b)=decide (a=b):=by
 by_cases e:a=b
 ·subst e; simp
 ·have h:¬ (Sum.inr a:Key)=Sum.inr b:=λq=>e (Sum.inr.inj q);rw[Z4 h,Z4 e]
def key_lr(a)(b):decide ((Sum.inl a:Key)=Sum.inr b)=false:=Z4 (λq=>nomatch q)
def key_rl(a)(b):decide ((Sum.inr a:Key)=Sum.inl b)=false:=Z4 (λq=>nomatch q)
noncomputable def mixKind(prog:Program)(w:Qk):PySem.KeyKind prog w Key where
 is:=qbp
 hash:=keyH w
 inj:=λv a b ha hb=>by
  rcases qzi ha with⟨i,t,rfl,rfl⟩|⟨x,t,rfl,rfl⟩
  ·rcases qzi hb with⟨j,u,rfl,e⟩|⟨y,u,rfl,e⟩
   ·injection e with e1 _; rw[e1]
   ·exact nomatch e
  ·rcases qzi hb with⟨j,u,rfl,e⟩|⟨y,u,rfl,e⟩
   ·exact nomatch e
   ·injection e with e1 _; rw[e1]
 byValue:=λk v h=>by
  rcases qzi h with⟨i,t,rfl,rfl⟩|⟨x,t,rfl,rfl⟩<;>rfl
 pyHash:=λhv h=>by
  rcases qzi hv with⟨i,t,rfl,rfl⟩|⟨x,t,rfl,rfl⟩
  ·exact wpAny_pyHash_int h
  ·exact wpAny_pyHash_str h
 eqBool:=λhu hv h=>by
  rcases qzi hu with⟨i,t,rfl,rfl⟩|⟨x,t,rfl,rfl⟩
  ·rcases qzi hv with⟨j,u,rfl,rfl⟩|⟨y,u,rfl,rfl⟩
   ·rw[key_ll]at h; exact wpAny_eqBool_int h
   ·rw[key_lr]at h; exact SeqAt.EqAt.int_str i t y u _ _ _ _ h
  ·rcases qzi hv with⟨j,u,rfl,rfl⟩|⟨y,u,rfl,rfl⟩
   ·rw[key_rl]at h; exact SeqAt.EqAt.str_int x t j u _ _ _ _ h
   ·rw[key_rr]at h; exact wpAny_eqBool_str h
 «strs»:=λk x t v h=>by
  rcases qzi h with⟨i,u,rfl,e⟩|⟨y,u,rfl,e⟩
  ·exact nomatch e
  ·injection e with e1 _;subst e1;cases v<;>rfl
def qyw(prog)(w)(i)(t):(mixKind prog w).is (.inl i) (.int i t)=true:=qd7 i t
def qxz(prog)(w)(x)(t):(mixKind prog w).is (.inr x) (.str x t)=true:=qd6 x t
inductive V where
 |non|bl (b:Yb)|int (i:J)|str (x:Y5)|byt (b:Array UInt8)|flt (b:UInt64)|ref (a:Y7)|ty (n:String)
 deriving DecidableEq
noncomputable def RelV:V->Y8->Prop
 |.non,u=>u=Value.none
 |.bl b,u=>u=Value.bool b
 |.int i,u=>∃t,u=Value.int i t
 |.str x,u=>∃t,u=Value.str x t
 |.byt b,u=>∃t,u=Value.bytes b t
 |.flt b,u=>∃t,u=Value.float b t
 |.ref a,u=>u=Value.ref a
 |.ty n,u=>u=Value.type n
abbrev Vals:L V->L Y8->Prop:=Paired RelV
theorem Vals.length(r:Vals xs us):xs.length=us.length:=Paired.length r
theorem Vals.get:∀{xs:L V}{us:L Y8}{i:Y0}{x:V},Vals xs us->xs[i]?=Y x->∃u,us[i]?=Y u/\RelV x u
 |_,_,_,_,.nil,e=>by simp at e
 |_,_,0,_,.cons r _,e=>by simp at e; subst e; exact⟨_,rfl,r⟩
 |_,_,i+1,x,.cons _ t,e=>by
  obtain⟨u,h1,h2⟩:=Vals.get t (by simpa using e);exact⟨u,by simpa using h1,h2⟩
theorem Vals.append:∀{xs ys}{us ws},Vals xs us->Vals ys ws->Vals (xs++ys) (us++ws)
 |_,_,_,_,.nil,s=>s
 |_,_,_,_,.cons r t,s=>.cons r (Vals.append t s)
theorem Vals.take:∀{xs:L V}{us:L Y8}(n:Y0),Vals xs us->Vals (xs.take n) (us.take n)
 |_,_,0,_=>.nil
 |_,_,_+1,.nil=>.nil
 |_,_,n+1,.cons r t=>.cons r (Vals.take n t)
theorem Vals.drop:∀{xs:L V}{us:L Y8}(n:Y0),Vals xs us->Vals (xs.drop n) (us.drop n)
 |_,_,0,r=>r
 |_,_,_+1,.nil=>.nil
 |_,_,n+1,.cons _ t=>Vals.drop n t
noncomputable def RelO:Y3 V->Y3 Y8->Prop
 |some v,Y u=>RelV v u
 |none,B=>True
 |_,_=>False
def KV{κ:Type}:L (κ×V)->L (κ×Y8)->Prop:=Paired λ(p:κ×V) (q:κ×Y8)=>p.1=q.1/\RelV p.2 q.2
noncomputable def kV:Key->V
 |.inl i=>.int i
 |.inr x=>.str x
inductive HO where
 /-- a list -/
 |lst (xs:L V)
 /-- a tuple (never changes) -/
 |tup (xs:L V)
 /-- a dict whose keys are ints and texts; one whose keys are tuples of ints and texts (the empty one is both) -/
 |dK (kvs:L (Key×V))|dT (kvs:L (L Key×V))
 /-- a set of ints: its members,its size -/
 |set (S:J->Yb) (n:Y0)
 /-- an instance of the class at C,its dict at dx,its attributes -/
 |ins (C dx:Y7) (fs:L (Y5×V))
 /-- the dict of the instance at x -/
 |own (x:Y7)
 /-- the dict of an exception -/
 |xd (fs:L (Y5×V))
 /-- a bound method,f of x -/
 |met (f x:Y7)
 /-- a range object lo,lo+1,.. below hi -/
 |rng (lo hi:J)
 /-- a thing that is known to the object (the script; a dict while a loop walks it): read,never written while it is so -/
 |frz (o:Obj) (u:HO)
 /-- a code object's table -/
 |tbl (ps:Array Y8)
 /-- any other thing,by what is O of its one object (a def of one's own: SetO a S n:=HO.ext λh=>..) -/
 |ext (φ:Heap->Prop)
abbrev Hp:=Y7->Y3 HO
noncomputable def upd(H:Hp)(a:Y7)(o:HO):Hp:=λb=>if b=a then Y o else H b
def qzk:upd H a o a=Y o:=by unfold upd; rw[Z6 rfl]
def qzq(h:b≠a):upd H a o b=H b:=by unfold upd; rw[Z5 h]
def qzr{H:Hp}(h:H a=Y o)(h':H b=Y u)(d:o≠u):a≠b:=by
 intro e; subst e; rw[h]at h'; exact d (Option.some.inj h')
def qzl{H:Hp}(h:H a=Y o)(h':H b=B):a≠b:=by
 intro e; subst e; rw[h]at h'; cases h'
section
variable (P:Program)(w:Qk)
noncomputable def ObjOk(H:Hp)(h:Heap)(a:Y7):HO->Prop
 |.lst xs=>xs.length<=sizeLine/\∃(its:L Y8) (n:Y0),Vals xs its/\h.get? a=Y { cls:=.type "list",data:=.seq its.toArray n }
 |.tup xs=>xs.length<=sizeLine/\∃its:L Y8,Vals xs its/\IsTup h a its.toArray
 |.dK kvs=>kvs.length<=sizeLine/\(a==Qn)=Y6/\∃vs,KV kvs vs/\h.DictOf (mixKind P w) a vs
 |.dT kvs=>kvs.length<=sizeLine/\(a==Qn)=Y6/\∃xs:L (L Key×Y7×Y8),
   Paired (λ(p:L Key×V) (q:L Key×Y7×Y8)=>p.1=q.1/\H q.2.1=Y (.tup (p.1.map kV))/\RelV p.2 q.2.2) kvs xs/\
   ∃o es ep,h.get? a=Y o/\o.ExactDict/\o.data=.dict es ep/\es.toList=xs.map (entryOfKey (tupleKind (mixKind P w)))/\(xs.map (·.1)).Nodup
 |.set S n=>h.SetOf (intKind P w) a S n
 |.ins C dx fs=>H dx=Y (.own a)/\fs.length<=1000/\dx≠a/\h.get? a=Y (PySem.W.instObj C dx)/\
   ∃mA,h.Ns1 dx mA/\(∀f,RelO (fs.lookup f) (mA f))/\PySem.Within mA (fs.map (·.1))
 |.own _=>∃o,h.get? a=Y o
 |.xd fs=>∃mA,h.Ns1 a mA/\∀f,RelO (fs.lookup f) (mA f)
 |.rng lo hi=>∃t u v,h.get? a=Y { cls:=.type "range",data:=.fields #[.int lo t,.int hi u,.int 1 v] }
 |.frz o u=>h.get? a=Y o/\ObjOk H h a u
 |.tbl ps=>h.get? a=Y { cls:=.none,data:=.fields ps }
 |.met f x=>h.get? a=Y (PySem.W.methodObj (.ref f) (.ref x))
 |.ext φ=>φ h/\(∃o,h.get? a=Y o)/\∀h1 h2:Heap,φ h1->(∀o,h1.get? a=Y o->h2.get? a=Y o)->φ h2
def HOk(H:Hp)(h:Heap):Prop:=∀a o,H a=Y o->ObjOk P w H h a o
end
section
theorem ObjOk.lt(x:ObjOk P w H h a o):a<h.objs.size:=by
 cases o with
 |lst xs=>obtain⟨_,_,_,_,e⟩:=x; exact Qqe e
 |tup xs=>obtain⟨_,_,_,p⟩:=x; exact p.lt
 |dK kvs=>obtain⟨_,_,_,_,o,_,_,e,_⟩:=x; exact Qqe e
 |dT kvs=>obtain⟨_,_,_,_,o,_,_,e,_⟩:=x; exact Qqe e
 |set S n=>obtain⟨o,_,_,_,e,_⟩:=x; exact Qqe e
 |ins C dx fs=>obtain⟨_,_,_,e,_⟩:=x; exact Qqe e
 |own y=>obtain⟨_,e⟩:=x; exact Qqe e
 |xd fs=>obtain⟨_,⟨_,_,_,e,_⟩,_⟩:=x; exact Qqe e
 |rng lo hi=>obtain⟨_,_,_,e⟩:=x; exact Qqe e
 |frz ob u=>obtain⟨e,_⟩:=x; exact Qqe e
 |tbl ps=>exact Qqe (x)
 |met f y=>exact Qqe (x)
 |ext b=>obtain⟨_,⟨_,e⟩,_⟩:=x; exact Qqe e
theorem Paired.mapP:∀{d}{c},Paired F d c->(∀a b,F a b->G a b)->Paired G d c
 |_,_,.nil,_=>.nil
 |_,_,.cons r t,f=>.cons (f _ _ r) (Paired.mapP t f)
def ObjOk.stay(x:ObjOk P w H h a o)(k:∀b u,(b=a\/H b=Y (.own a))->h.get? b=Y u->h'.get? b=Y u)
  (s:∀b,H b=Y (.own a)->H' b=Y (.own a)) (m:∀b xs,H b=Y (.tup xs)->H' b=Y (.tup xs)):ObjOk P w H' h' a o:=by
 induction o with
 |lst xs=>obtain⟨z,i,n,r,e⟩:=x; exact⟨z,i,n,r,k _ _ (.inl rfl) e⟩
 |tup xs=>obtain⟨z,i,r,ob,e,c⟩:=x; exact⟨z,i,r,ob,k _ _ (.inl rfl) e,c⟩
 |dK kvs=>obtain⟨z,y,vs,r,ob,es,g,e,c⟩:=x; exact⟨z,y,vs,r,ob,es,g,k _ _ (.inl rfl) e,c⟩
 |dT kvs=>
  obtain⟨z,y,xs,r,ob,es,g,e,c⟩:=x;exact⟨z,y,xs,Paired.mapP r λp q z=>⟨z.1,m _ _ z.2.1,z.2.2⟩,ob,es,g,k _ _ (.inl rfl) e,c⟩
 |set S n=>obtain⟨ob,es,g,t,e,c⟩:=x; exact⟨ob,es,g,t,k _ _ (.inl rfl) e,c⟩
 |ins C dx fs=>
  obtain⟨d,z,ne,e,mA,⟨j,es,g,A,c⟩,r⟩:=x;exact⟨s _ d,z,ne,k _ _ (.inl rfl) e,mA,⟨j,es,g,k _ _ (.inr d) A,c⟩,r⟩
 |own y=>obtain⟨ob,e⟩:=x; exact⟨ob,k _ _ (.inl rfl) e⟩
 |xd fs=>obtain⟨mA,⟨j,es,g,e,c⟩,r⟩:=x; exact⟨mA,⟨j,es,g,k _ _ (.inl rfl) e,c⟩,r⟩
 |rng lo hi=>obtain⟨t,u,v,e⟩:=x; exact⟨t,u,v,k _ _ (.inl rfl) e⟩
 |frz ob u l=>obtain⟨e,q⟩:=x; exact⟨k _ _ (.inl rfl) e,l q⟩
 |tbl ps=>
  have e:=x;exact k a _ (.inl rfl) e
 |met f y=>
  have e:=x;exact k a _ (.inl rfl) e
 |ext D=>obtain⟨p,⟨o,e⟩,st⟩:=x; exact⟨st _ _ p λo q=>k _ _ (.inl rfl) q,⟨o,k _ _ (.inl rfl) e⟩,st⟩
theorem HOk.lt(x:HOk P w H h)(e:H a=Y o):a<h.objs.size:=(x a o e).lt
def HOk.fresh(x:HOk P w H h)(e:h.objs.size<=a):H a=none:=by
 cases q:H a with
 |none=>rfl
 |some u=>exact absurd (Qq4 (x.lt q) e) (Qz8 _)
def HOk.kept(x:HOk P w H h)(k:∀b u,h.get? b=Y u->h'.get? b=Y u):HOk P w H h':=λa o e=>
 (x a o e).stay (λb u _ q=>k b u q) (λ_ q=>q) λ_ _ q=>q
def HOk.laid(x:HOk P w H h)(k:∀b u,h.get? b=Y u->h'.get? b=Y u)(f:h.objs.size<=a)(new:ObjOk P w (upd H a o) h' a o):HOk P w (upd H a o) h':=λb u e=>by
 have hn:=x.fresh f
 by_cases d:b=a
 ·subst d; rw[qzk]at e; cases e; exact new
 ·rw[qzq d]at e;exact(x b u e).stay (λc v _ q=>k c v q) (λc q=>by rw[qzq (qzl q hn)]; exact q) λc xs q=>by rw[qzq (qzl q hn)]; exact q
end
def Rd(H:Hp)(a:Y7)(u:HO):Prop:=H a=Y u\/∃o,H a=Y (.frz o u)
def Rd.ok(r:Rd H a u)(x:HOk P w H h):ObjOk P w H h a u:=by
 rcases r with r|⟨o,r⟩
 ·exact x a u r
 ·obtain⟨_,q⟩:=x a _ r;exact q
noncomputable def Mut:Y3 HO->Prop
 |some (.lst _)=>True
 |some (.dK _)=>True
 |some (.dT _)=>True
 |some (.set _ _)=>True
 |some (.ins _ _ _)=>True
 |some (.ext _)=>True
 |_=>False
section
def HOk.write(ok:HOk P w H h)(g:Mut (H x))(n:e=x\/H e=Y (.own x))(k:∀b u,b≠e->h.get? b=Y u->h'.get? b=Y u)(l:∃u,h'.get? e=Y u)
  (new:ObjOk P w (upd H x o') h' x o'):HOk P w (upd H x o') h':=λb u q=>by
 have d:∀c y,H c=Y (.own y)->c≠x:=λc y r z=>by subst z; rw[r]at g; exact g
 have f:∀c xs,H c=Y (.tup xs)->c≠x:=λc xs r z=>by subst z; rw[r]at g; exact g
 by_cases j:b=x
 ·subst j; rw[qzk]at q; cases q; exact new
 ·rw[qzq j]at q
  by_cases a:b=e
  ·have m:H b=Y (.own x):=by
    rcases n with z|z
    ·exact absurd (a.trans z) j
    ·rw[a]; exact z
   rw[q]at m; cases m;obtain⟨v,o⟩:=l;exact⟨v,by rw[a]; exact o⟩
  ·refine(ok b u q).stay (λc v i r=>k c v ?_ r) (λc r=>by rw[qzq (d c b r)]; exact r) λc xs r=>by rw[qzq (f c xs r)]; exact r
   rcases i with rfl|i
   ·exact a
   ·rintro rfl;rcases n with z|z
    ·exact d c b i z
    ·rw[i]at z; cases z; exact j rfl
end
structure Un (fs ex:L Y7) (H H':Hp) (h h':Heap):Prop where
 keep:∀b o,h.get? b=Y o->H b=B->b ∉ fs->b ∉ ex->h'.get? b=Y o
 slot:∀b o,h.get? b=Y o->H b=B->b∈fs->b ∉ ex->∃sl,h'.get? b=Y { o with slots:=sl }
 free:∀b o,h.get? b=Y o->H b=B->b ∉ ex->H' b=B
 there:∀b o,h.get? b=Y o->b ∉ ex->∃o',h'.get? b=Y o'
 tups:∀b xs,H b=Y (.tup xs)->H' b=Y (.tup xs)
 frzs:∀b o u,H b=Y (.frz o u)->H' b=Y (.frz o u)
 tbls:∀b ps,H b=Y (.tbl ps)->∃more,H' b=Y (.tbl (ps++more))
section
def Un.any(u:Un fs ex H H1 h h1)(q:h.get? b=Y ob)(n:H b=B)(c:b ∉ ex):∃sl,h1.get? b=Y { ob with slots:=sl }:=by
 by_cases d:b∈fs
 ·exact u.slot b ob q n d c
 ·exact⟨ob.slots,u.keep b ob q n d c⟩
def Un.kept(k:∀b u,h.get? b=Y u->h'.get? b=Y u):Un fs ex H H h h':=
 ⟨λb ob q _ _ _=>k b ob q,λb ob q _ _ _=>⟨ob.slots,k b ob q⟩,λ_ _ _ n _=>n,λb ob q _=>⟨ob,k b ob q⟩,λ_ _ q=>q,λ_ _ _ q=>q,λ_ ps q=>⟨#[],by rw[q]; simp⟩⟩
def Un.refl:Un fs ex H H h h:=Un.kept λ_ _ q=>q
def Un.laid(k:∀b u,h.get? b=Y u->h'.get? b=Y u)(d:h.objs.size<=a)(c:H a=B):Un fs ex H (upd H a o) h h' where
 keep:=λb u q _ _ _=>k b u q
 slot:=λb u q _ _ _=>⟨u.slots,k b u q⟩
 free:=λb u q n _=>by rw[qzq (Qq3 (Qq4 (Qqe q) d))]; exact n
 there:=λb u q _=>⟨u,k b u q⟩
 tups:=λb xs q=>by rw[qzq (qzl q c)]; exact q
 frzs:=λb u xs q=>by rw[qzq (qzl q c)]; exact q
 tbls:=λb ps q=>⟨#[],by rw[qzq (qzl q c),q]; simp⟩
def Un.write(d:Mut (H x))(l:e=x\/H e=Y (.own x))(k:∀b u,b≠e->h.get? b=Y u->h'.get? b=Y u)(g:∃u,h'.get? e=Y u):Un fs ex H (upd H x o) h h':=by
 have i:∀b,H b=B->b≠x:=λb n z=>by subst z; rw[n]at d; exact d
 have j:∀b,H b=B->b≠e:=λb n z=>by
  subst z;rcases l with r|r
  ·exact i b n r
  ·rw[n]at r; cases r
 have f:∀b u,H b=Y u->¬ Mut (Y u)->b≠x:=λb u q nm z=>by subst z; rw[q]at d; exact nm d
 refine⟨λb u q n _ _=>k b u (j b n) q,λb u q n _ _=>⟨u.slots,k b u (j b n) q⟩,λb u q n _=>by rw[qzq (i b n)]; exact n,λb u q _=>?_,
  λb xs q=>by rw[qzq (f b _ q λz=>z)]; exact q,λb u xs q=>by rw[qzq (f b _ q λz=>z)]; exact q,λb ps q=>⟨#[],by rw[qzq (f b _ q λz=>z),q]; simp⟩⟩
 by_cases c:b=e
 ·subst c; exact g
 ·exact⟨u,k b u c q⟩
end
noncomputable def trk(h:Heap)(H:Hp):L Y7:=(List.range h.objs.size).filter λa=>(H a).isSome
noncomputable def hidT(h:Heap)(H:Hp):Heap:=PySem.W.hideAll h (trk h H)
def qek(h)(H):(hidT h H).objs.size=h.objs.size:=PySem.W.hideAll_size _ _
def qhy(e:h.get? b=Y o)(n:H b=B):(hidT h H).get? b=Y o:=
 PySem.W.hideAll_get _ e λa=>by
  have q:=(Qxe.mp a).2;rw[n]at q; simp at q
def qm1(e:(hidT h H).get? b=Y o):h.get? b=Y o/\H b=none:=by
 have a:=PySem.W.of_hideAll (trk h H) e;refine⟨a,?_⟩
 cases q:H b with
 |none=>rfl
 |some x=>
  have c:b∈trk h H:=Qxe.mpr ⟨Qz9.mpr (Qqe a),by simp[q]⟩;have z:(hidT h H).get? b=none:=PySem.W.hideAll_none (trk h H) c;rw[z]at e; cases e
structure Mod (K:Qqq) (mg:Y5->Y3 Y8) (base:Heap):Prop where
 kin:K.In base
 glob:base.Ns mainGlobals mg
 blt:∃mb,base.Ns builtinsNs mb/\∀x:Y5,x ≠ "__name__"->mb x=Qd x
 nolimit:base.NoLimit
structure Cx where
 prog:Program
 w:Qk
 K:Qqq
 mg:Y5->Y3 Y8
 base:Heap
 A:Qv
 N:L Y5
 s₀:Qz
 H₀:Hp
 env:Env
 outer:L Env
 stack:L Env
 ex:L Y7
 fn:Y5->Yb
 calm:Yb
 pn:L (Y7×Obj)
 xe:Y8->Qz->Prop
noncomputable def frs(l:L Env):L Y7:=l.filterMap (·.frame)
noncomputable abbrev Cx.fs(X:Cx):L Y7:=frs X.outer
def Vis(sc:Scope)(x:Y5):Prop:=sc.names.lookup x=Y .local\/sc.names.lookup x=Y .cell\/sc.names.lookup x=Y .free
def Loc(sc:Scope)(x:Y5):Prop:=sc.names.lookup x=Y .local\/sc.names.lookup x=Y .cell
def Look(env:Env)(h:Heap)(m:Y5->Y3 Y8)(x:Y5)(u:Y8):Prop:=
 (env.kindOf x=Y .local/\m x=Y u)\/((env.kindOf x=Y .cell\/env.kindOf x=Y .free)/\∃c,env.cells.lookup x=Y c/\h.IsCell c (Y u))
structure Cx.Ok (X:Cx):Prop where
 mod:Mod X.K X.mg X.base
 kind:X.env.scope.kind=.function
 glob:X.env.globals=mainGlobals
 blt:X.env.builtins=builtinsNs
 above:X.s₀.heap.objs.size<=X.env.locals
 inj:∀x y c,X.env.cells.lookup x=Y c->X.env.cells.lookup y=Y c->x=y
 has:∀x,(X.env.kindOf x=Y .cell\/X.env.kindOf x=Y .free)->∃c,X.env.cells.lookup x=Y c
 cab:∀x c,X.fn x=O->X.env.cells.lookup x=Y c->X.s₀.heap.objs.size<=c
 hd:X.calm=O->X.A.handled=B
 frames:X.A.frames=Y X.stack
 stk:X.stack=X.outer\/(X.stack=X.env::X.outer/\X.env.frame=Y X.env.locals)
 exf:∀b∈X.ex,b≠X.env.locals/\∀x c,X.env.cells.lookup x=Y c->c≠b
 bs:∀b o,X.base.get? b=Y o->X.s₀.heap.get? b=Y o/\X.H₀ b=B
 bsz:X.base.objs.size<=X.s₀.heap.objs.size
 noex:∀b o,X.base.get? b=Y o->b ∉ X.ex
 exfs:∀b∈X.ex,b ∉ X.fs
 funs:X.s₀.heap.FunFrames X.base X.outer
 frf:∀b∈X.fs,X.H₀ b=B
structure Inv (X:Cx) (pins:L (Y7×Obj)) (σ:L (Y3 V)) (H:Hp) (s:Qz):Prop where
 ok:X.Ok
 os:s.os=X.s₀.os
 bare:Zn s.gens
 base:Un X.fs X.ex X.H₀ H X.s₀.heap s.heap
 loc:∃m,s.heap.Ns X.env.locals m/\∀(i:Y0) (x:Y5) (v:V),X.N[i]?=Y x->σ[i]?=Y (Y v)->Vis X.env.scope x->∃u,RelV v u/\Look X.env s.heap m x u
 cell:∀x c,X.env.cells.lookup x=Y c->∃v,s.heap.IsCell c v
 free:H X.env.locals=B
 freeC:∀x c,X.env.cells.lookup x=Y c->H c=B
 pin:∀p∈X.pn++pins,s.heap.get? p.1=Y p.2/\H p.1=B/\p.1≠X.env.locals/\p.1 ∉ X.fs/\∀v,p.2.data≠.cell v
 hok:HOk X.prog X.w H s.heap
 len:σ.length=X.N.length
section
variable {X:Cx}
def Cx.Ok.nofr(ok:X.Ok)(e:X.base.get? b=Y o):b ∉ X.fs:=λa=>by
 have:=(ok.funs.mem a).1;rw[e]at this; cases this
theorem Inv.bs(I:Inv X pins σ H s):∀b o,X.base.get? b=Y o->s.heap.get? b=Y o/\H b=none:=λb o e=>
 ⟨I.base.keep b o (I.ok.bs b o e).1 (I.ok.bs b o e).2 (I.ok.nofr e) (I.ok.noex b o e),I.base.free b o (I.ok.bs b o e).1 (I.ok.bs b o e).2 (I.ok.noex b o e)⟩
def Inv.bk(I:Inv X pins σ H s):∀b o,X.base.get? b=Y o->s.heap.get? b=Y o:=λb o e=>(I.bs b o e).1
theorem Inv.mod(I:Inv X pins σ H s):Mod X.K X.mg X.base:=I.ok.mod
def Inv.kIn(I:Inv X pins σ H s):X.K.In s.heap:=I.ok.mod.kin.keeps I.bk
theorem Inv.lt(I:Inv X pins σ H s):X.env.locals<s.heap.objs.size:=let ⟨_,hn,_⟩:=I.loc; hn.lt
def Inv.sz(I:Inv X pins σ H s):X.s₀.heap.objs.size<=s.heap.objs.size:=Qz0 I.ok.above (Qxu I.lt)
def Inv.nofs(I:Inv X pins σ H s)(h:s.heap.objs.size<=a):a ∉ X.fs:=λc=>by
 obtain⟨_,o,b,_⟩:=I.ok.funs.mem c;exact absurd (Qq4 (Qqe b) (Qz0 I.sz h)) (Qz8 _)
def Inv.cne(I:Inv X pins σ H s):∀x c,X.env.cells.lookup x=Y c->c≠X.env.locals:=λx c e z=>by
 obtain⟨v,o,d,hd⟩:=I.cell x c e;obtain⟨m,⟨o',es,f,a,b,_⟩,_⟩:=I.loc;rw[z,a]at d; cases d; rw[b]at hd; cases hd
theorem Inv.funs(I:Inv X pins σ H s):s.heap.FunFrames X.base X.outer:=by
 have all:∀(l:L Env),(∀b∈frs l,b∈X.fs)->X.s₀.heap.FunFrames X.base l->s.heap.FunFrames X.base l:=by
  intro l
  induction l with
  |nil=>intro _ _; trivial
  |cons env r f=>
   intro hs hl;obtain⟨i,⟨a,o,hf,hn,h,hd⟩,g⟩:=hl;have d:=hs a (by unfold frs; rw[Qzn,hf]; exact Qq5);obtain⟨sl,e⟩:=I.base.slot a o h (I.ok.frf a d) d λz=>I.ok.exfs a z d;exact⟨i,⟨a,_,hf,hn,e,hd⟩,f (λb c=>hs b (by unfold frs; rw[Qzn,hf]; exact Qqt _ c)) g⟩
 exact all X.outer (λ_ c=>c) I.ok.funs
theorem Inv.stack(I:Inv X pins σ H s):s.heap.FunFrames X.base X.stack:=by
 rcases I.ok.stk with e|⟨e,hf⟩
 ·rw[e]; exact I.funs
 ·rw[e];obtain⟨m,hn,_⟩:=I.loc;refine .cons (by rw[I.ok.kind]; decide) hf hn ?_ I.funs;exact Heap.get?_none_of_le (Qz0 I.ok.bsz I.ok.above)
def Inv.stkSub(I:Inv X pins σ H s):∀b∈frs X.stack,b∈X.env.locals::X.fs:=λb a=>by
 rcases I.ok.stk with e|⟨e,hf⟩
 ·rw[e]at a; exact Qqt _ a
 ·rw[e]at a;unfold frs at a;rw[Qzn,hf]at a;exact a
def Inv.stkFree(I:Inv X pins σ H s):∀b∈frs X.stack,H b=none:=λb a=>by
 rcases Qqy.mp (I.stkSub b a) with e|a
 ·rw[e]; exact I.free
 ·obtain⟨_,o,c,_⟩:=I.ok.funs.mem a;exact I.base.free b o c (I.ok.frf b a) λz=>I.ok.exfs b z a
def Inv.step{ch:L Y7}(I:Inv X pins σ H s)(g:∀b∈ch,(b∈X.ex\/X.s₀.heap.objs.size<=b)/\b≠X.env.locals/\(∀x c,X.env.cells.lookup x=Y c->c≠b)/\∀p∈X.pn++pins,p.1≠b)(keep:∀b o,b≠X.env.locals->b ∉ X.fs->b ∉ ch->s.heap.get? b=Y o->H b=B->h'.get? b=Y o)(slot:∀b o,b≠X.env.locals->b∈X.fs->b ∉ ch->s.heap.get? b=Y o->H b=B->∃sl,h'.get? b=Y { o with slots:=sl })(free:∀b o,b ∉ ch->s.heap.get? b=Y o->H b=B->H' b=B)(there:∀b o,b ∉ ch->s.heap.get? b=Y o->∃o',h'.get? b=Y o')(tups:∀b xs,H b=Y (.tup xs)->H' b=Y (.tup xs))(frzs:∀b o u,H b=Y (.frz o u)->H' b=Y (.frz o u))(tbls:∀b ps,H b=Y (.tbl ps)->∃more,H' b=Y (.tbl (ps++more)))(ns:∀m,s.heap.Ns X.env.locals m->h'.Ns X.env.locals m)(hok:HOk X.prog X.w H' h')(G:Zn g'):
  Inv X pins σ H' { s with heap:=h',gens:=g',drawn:=d',toks:=t' }:=by
 have A:∀b o,X.s₀.heap.get? b=Y o->b≠X.env.locals:=λb o e=>Qq3 (Qq4 (Qqe e) I.ok.above);have j:∀b o,X.s₀.heap.get? b=Y o->b ∉ X.ex->b ∉ ch:=λb o e a w=>by
  rcases (g b w).1 with z|z
  ·exact a z
  ·exact absurd (Qq4 (Qqe e) z) (Qz8 _)
 have h:∀x c,X.env.cells.lookup x=Y c->∀v,s.heap.IsCell c v->h'.IsCell c v:=λx c e v ⟨o,y,hd⟩=>by
  have f:=λz=>(g c z).2.2.1 x c e rfl
  by_cases F:c∈X.fs
  ·obtain⟨sl,q⟩:=slot c o (I.cne x c e) F f y (I.freeC x c e);exact⟨_,q,hd⟩
  ·exact⟨o,keep c o (I.cne x c e) F f y (I.freeC x c e),hd⟩
 refine⟨I.ok,I.os,G,⟨λb o e n w a=>?_,λb o e n w a=>?_,λb o e n a=>?_,λb o e a=>?_,λb xs e=>tups b xs (I.base.tups b xs e),λb o xs e=>frzs b o xs (I.base.frzs b o xs e),λb ps e=>?_⟩,?_,λx c e=>?_,?_,λx c e=>?_,λp hp=>?_,hok,I.len⟩
 ·exact keep b o (A b o e) w (j b o e a) (I.base.keep b o e n w a) (I.base.free b o e n a)
 ·obtain⟨sl,t⟩:=I.base.slot b o e n w a;obtain⟨D,C⟩:=slot b _ (A b o e) w (j b o e a) t (I.base.free b o e n a);exact⟨D,C⟩
 ·obtain⟨o',t⟩:=I.base.there b o e a;exact free b o' (j b o e a) t (I.base.free b o e n a)
 ·obtain⟨o',t⟩:=I.base.there b o e a;exact there b o' (j b o e a) t
 ·obtain⟨m1,t⟩:=I.base.tbls b ps e;obtain⟨m2,C⟩:=tbls b _ t;exact⟨m1++m2,by rw[C,Array.append_assoc]⟩
 ·obtain⟨m,hn,hl⟩:=I.loc;refine⟨m,ns m hn,λi x v t C K=>?_⟩;obtain⟨u,r,l⟩:=hl i x v t C K;refine⟨u,r,?_⟩;rcases l with l|⟨k,c,e,z⟩
  ·exact .inl l
  ·exact .inr ⟨k,c,e,h x c e _ z⟩
 ·obtain⟨v,z⟩:=I.cell x c e;exact⟨v,h x c e v z⟩
 ·obtain⟨m,⟨o,_,_,y,_⟩,_⟩:=I.loc;exact free _ o (λz=>(g _ z).2.1 rfl) y I.free
 ·obtain⟨v,o,y,hd⟩:=I.cell x c e;exact free c o (λz=>(g c z).2.2.1 x c e rfl) y (I.freeC x c e)
 ·obtain⟨e,n,ne,E,d⟩:=I.pin p hp;have f:=λz=>(g p.1 z).2.2.2 p hp rfl;exact⟨keep p.1 p.2 ne E f e n,free p.1 p.2 f e n,ne,E,d⟩
def Inv.un(I:Inv X pins σ H s)(u:Un X.fs [] H H' s.heap h')(hok:HOk X.prog X.w H' h'):Inv X pins σ H' { s with heap:=h',toks:=t' }:=by
 obtain⟨m,⟨o,es,j,g,r⟩,_⟩:=id I.loc;obtain⟨sl,i⟩:=u.any g I.free (by simp)
 exact I.step (ch:=[]) (λ_ z=>nomatch z) (λb o _ c _ e n=>u.keep b o e n c (by simp)) (λb o _ c _ e n=>u.slot b o e n c (by simp)) (λb o _ e n=>u.free b o e n (by simp)) (λb o _ e=>u.there b o e (by simp)) u.tups u.frzs u.tbls (λm' h=>by
  obtain⟨o',d,f,a,r'⟩:=h;rw[g]at a; cases a
  exact⟨_,d,f,i,r'⟩) hok I.bare
def Inv.call(I:Inv X pins σ H s)(u:Un (frs X.stack) ch H H' s.heap h')(hok:HOk X.prog X.w H' h')(l:Zn g')(f:∀b∈ch,(b∈X.ex\/X.s₀.heap.objs.size<=b)/\b≠X.env.locals/\(∀x c,X.env.cells.lookup x=Y c->c≠b)/\∀p∈X.pn++pins,p.1≠b):
  Inv X pins σ H' { s with heap:=h',gens:=g',drawn:=d',toks:=t' }:=by
 obtain⟨m,⟨o,es,t,j,r⟩,_⟩:=id I.loc;obtain⟨sl,g⟩:=u.any j I.free λz=>(f _ z).2.1 rfl
 exact I.step f (λb o g q a e n=>u.keep b o e n (λz=>(Qqy.mp (I.stkSub b z)).elim g q) a) (λb o _ _ a e n=>u.any e n a) (λb o a e n=>u.free b o e n a) (λb o a e=>u.there b o e a) u.tups u.frzs u.tbls (λm' k=>by
  obtain⟨o',h,i,d,r'⟩:=k;rw[j]at d; cases d
  exact⟨_,h,i,g,r'⟩) hok l
def Inv.turned(I:Inv X pins σ H s)(k:∀b o,b≠it->s.heap.get? b=Y o->h'.get? b=Y o)(h:H it=B)(f:it≠X.env.locals)(w:it∈X.ex\/X.s₀.heap.objs.size<=it)(t:∀x c,X.env.cells.lookup x=Y c->c≠it)(l:∀p∈X.pn++pins,p.1≠it):Inv X pins σ H { s with heap:=h',toks:=t' }:=by
 have d:∀b u,H b=Y u->b≠it:=λb u e z=>by rw[z,h]at e; cases e
 refine I.step (ch:=[it]) (λb j=>?_) (λb o _ _ a e _=>k b o (λz=>a (by simp[z])) e) (λb o _ _ a e _=>⟨o.slots,k b o (λz=>a (by simp[z])) e⟩) (λ_ _ _ _ n=>n)
  (λb o a e=>⟨o,k b o (λz=>a (by simp[z])) e⟩) (λ_ _ e=>e) (λ_ _ _ e=>e) (λb ps e=>⟨#[],by rw[e]; simp⟩) (λm i=>?_) (λb u e=>?_) I.bare
 ·have e:b=it:=by simpa using j
  subst e;exact⟨w,f,t,l⟩
 ·obtain⟨o,es,y,g,r⟩:=i;exact⟨o,es,y,k _ o (Ne.symm f) g,r⟩
 ·refine(I.hok b u e).stay (λc v a q=>k c v ?_ q) (λ_ q=>q) λ_ _ q=>q;rcases a with z|z
  ·rw[z]; exact d b u e
  ·exact d c _ z
def Inv.tok(I:Inv X pins σ H s)(t):Inv X pins σ H { s with toks:=t }:=I.un Un.refl I.hok
theorem Inv.kept(I:Inv X pins σ H s)(k:∀b u,s.heap.get? b=Y u->h'.get? b=Y u):Inv X pins σ H { s with heap:=h',toks:=t' }:=I.un (Un.kept k) (I.hok.kept k)
theorem Inv.laid(I:Inv X pins σ H s)(k:∀b u,s.heap.get? b=Y u->h'.get? b=Y u)(c:s.heap.objs.size<=a)(new:ObjOk X.prog X.w (upd H a o) h' a o):
  Inv X pins σ (upd H a o) { s with heap:=h',toks:=t' }:=I.un (Un.laid k c (I.hok.fresh c)) (I.hok.laid k c new)
theorem Inv.write(I:Inv X pins σ H s)(c:Mut (H x))(d:e=x\/H e=Y (.own x))(k:∀b u,b≠e->s.heap.get? b=Y u->h'.get? b=Y u)(a:∃u,h'.get? e=Y u)(new:ObjOk X.prog X.w (upd H x o) h' x o):Inv X pins σ (upd H x o) { s with heap:=h',toks:=t' }:=I.un (Un.write c d k a) (I.hok.write c d k a new)
def Inv.pins_of(I:Inv X pins σ H s)(h:∀p∈a,s.heap.get? p.1=Y p.2/\H p.1=B/\p.1≠X.env.locals/\p.1 ∉ X.fs/\∀v,p.2.data≠.cell v):Inv X a σ H s:=
 ⟨I.ok,I.os,I.bare,I.base,I.loc,I.cell,I.free,I.freeC,λp hp=>(Qqn.mp hp).elim (λz=>I.pin p (Qze _ z)) (h p),I.hok,I.len⟩
def qac{N:L Y5}(c:N.Nodup){j:Y0}(a:N[i]?=Y x)(b:N[j]?=Y x):i=j:=by
 obtain⟨h1,e⟩:=Qqj.mp a;obtain⟨h2,d⟩:=Qqj.mp b;exact(List.getElem_inj c).mp (e.trans d.symm)
def qvs(I:Inv X pins σ H s)(hN:X.N.Nodup)(R:X.N[i]?=Y x)(l:Loc X.env.scope x)(r:RelV v u)(h:∀s',Inv X pins (σ.set i (Y v)) H s'->(∃a,Heap.SameBut a s.heap s'.heap/\(a=X.env.locals\/X.env.cells.lookup x=Y a))->Q () s')(hf:X.fn x=O\/X.env.scope.names.lookup x=Y .local):wpAny M A (storeName X.env x u) Q E s:=by
 obtain⟨m,hn,hl⟩:=id I.loc;have S:(X.env.scope.kind==.class||(X.env.scope.kind==.module&&X.env.locals != X.env.globals))=false:=by rw[I.ok.kind]; rfl
 have D:i<σ.length:=by rw[I.len]; exact(Qqj.mp R).1
 have cne:=I.cne;have tracked:∀{a:Y7}{h':Heap},(∃o,s.heap.get? a=Y o/\H a=B)->Heap.SameBut a s.heap h'->HOk X.prog X.w H h':=λ{a h'} ha hs b ob e=>by
  obtain⟨_,_,t⟩:=ha;refine(I.hok b ob e).stay (λc W g q=>(hs.2 c ?_).trans q) (λ_ q=>q) λ_ _ q=>q;rintro rfl;rcases g with rfl|g
  ·rw[t]at e; cases e
  ·rw[t]at g; cases g
 rcases l with C|C
 ·refine wpAny_storeName_local C hn (λh' a1 hs=>?_) S;obtain⟨oL,_,_,a0,_⟩:=id hn;refine h _ ⟨I.ok,I.os,I.bare,⟨λb o e n K l=>?_,λb o e n K l=>?_,I.base.free,λb o e l=>?_,I.base.tups,I.base.frzs,I.base.tbls⟩,⟨_,a1,λj y v' f w e3=>?_⟩,λy c e=>?_,I.free,I.freeC,λp hp=>?_,tracked ⟨oL,a0,I.free⟩ hs,by simpa using I.len⟩ ⟨_,hs,.inl rfl⟩
  ·exact(hs.2 b (Qq3 (Qq4 (Qqe e) I.ok.above))).trans (I.base.keep b o e n K l)
  ·obtain⟨sl,f⟩:=I.base.slot b o e n K l;exact⟨sl,(hs.2 b (Qq3 (Qq4 (Qqe e) I.ok.above))).trans f⟩
  ·obtain⟨o',f⟩:=I.base.there b o e l;exact⟨o',(hs.2 b (Qq3 (Qq4 (Qqe e) I.ok.above))).trans f⟩
  ·by_cases F:j=i
   ·subst F;rw[R]at f; cases f;rw[Qzq D]at w;cases w;exact⟨u,r,.inl ⟨C,by simp⟩⟩
   ·rw[Qqo (Ne.symm F)]at w;obtain⟨u',r',q⟩:=hl j y v' f w e3;refine⟨u',r',?_⟩;rcases q with⟨k,e⟩|⟨k,c,e,z⟩
    ·refine .inl ⟨k,?_⟩;have:y≠x:=λe=>F (qac hN f (e▸R));simp[this,e]
    ·exact .inr ⟨k,c,e,z.sameBut hs (cne y c e)⟩
  ·obtain⟨W,z⟩:=I.cell y c e;exact⟨W,z.sameBut hs (cne y c e)⟩
  ·obtain⟨e,n,ne,nf,d⟩:=I.pin p hp;exact⟨(hs.2 p.1 ne).trans e,n,ne,nf,d⟩
 ·have G:X.fn x=true:=by
   rcases hf with z|z
   ·exact z
   ·rw[z]at C; cases C
  obtain⟨c,g⟩:=I.ok.has x (.inl C);obtain⟨W,z⟩:=I.cell x c g;refine wpAny_storeName_cell I.ok.kind C g z (λh' U hs=>?_);obtain⟨oc,P,N⟩:=id z;refine h { s with heap:=h' } ⟨I.ok,I.os,I.bare,⟨λb o e n K l=>?_,λb o e n K l=>?_,I.base.free,λb o e l=>?_,I.base.tups,I.base.frzs,I.base.tbls⟩,⟨m,hn.sameBut hs (Ne.symm (cne x c g)),λj y v' f w e3=>?_⟩,λy c' e=>?_,I.free,I.freeC,λp hp=>?_,tracked ⟨oc,P,I.freeC x c g⟩ hs,by simpa using I.len⟩ ⟨c,hs,.inr g⟩
  ·exact(hs.2 b (Qq3 (Qq4 (Qqe e) (I.ok.cab x c G g)))).trans (I.base.keep b o e n K l)
  ·obtain⟨sl,f⟩:=I.base.slot b o e n K l;exact⟨sl,(hs.2 b (Qq3 (Qq4 (Qqe e) (I.ok.cab x c G g)))).trans f⟩
  ·obtain⟨o',f⟩:=I.base.there b o e l;exact⟨o',(hs.2 b (Qq3 (Qq4 (Qqe e) (I.ok.cab x c G g)))).trans f⟩
  ·by_cases F:j=i
   ·subst F;rw[R]at f; cases f;rw[Qzq D]at w;cases w;exact⟨u,r,.inr ⟨.inl C,c,g,U⟩⟩
   ·rw[Qqo (Ne.symm F)]at w;obtain⟨u',r',q⟩:=hl j y v' f w e3;refine⟨u',r',?_⟩;rcases q with q|⟨k,c',e,z'⟩
    ·exact .inl q
    ·refine .inr ⟨k,c',e,z'.sameBut hs ?_⟩;rintro rfl;exact F (qac hN f (I.ok.inj _ _ _ e g▸R))
  ·by_cases T:c'=c
   ·subst T; exact⟨_,U⟩
   ·obtain⟨w2,z2⟩:=I.cell y c' e;exact⟨w2,z2.sameBut hs T⟩
  ·obtain⟨e,n,ne,nf,d⟩:=I.pin p hp;refine⟨(hs.2 p.1 ?_).trans e,n,ne,nf,d⟩;intro q;rw[q,P]at e;have q':=Option.some.inj e;exact d W (by rw[<- q']; exact N)
def qy5(I:Inv X pins σ H s)(d:X.N.Nodup)(b:X.N[i]?=Y x)(a:Loc X.env.scope x)(r:RelV v u)(h:∀s',Inv X pins (σ.set i (Y v)) H s'->Q () s')(c:X.fn x=O\/X.env.scope.names.lookup x=Y .local):wpAny M A (storeName X.env x u) Q E s:=
 qvs I d b a r (λs' e _=>h s' e) c
def Inv.call'(I:Inv X pins σ H s)(f:s'.os=s.os)(u:Un (frs X.stack) ch H H' s.heap s'.heap)(hok:HOk X.prog X.w H' s'.heap)(g:Zn s'.gens)(a:∀b∈ch,(b∈X.ex\/X.s₀.heap.objs.size<=b)/\b≠X.env.locals/\(∀x c,X.env.cells.lookup x=Y c->c≠b)/\∀p∈X.pn++pins,p.1≠b):Inv X pins σ H' s':=by
 obtain⟨h',h,i,d,o'⟩:=s';have e:=f;subst e;exact I.call u hok g a
end
abbrev XK:=Y8->Y3 Y7->Hp->Prop
abbrev St:=L (Y3 V)
abbrev VK:=V->Hp->Prop
abbrev TE:=St->Hp->VK->Prop
abbrev TT:=St->Hp->(Yb->Hp->Prop)->Prop
abbrev TA:=St->Hp->(L V->Hp->Prop)->Prop
structure Ends where
 nx:St->Hp->Prop
 rt:VK
 bk:St->Hp->Prop:=λ_ _=>False
 ct:St->Hp->Prop:=λ_ _=>False
abbrev TS:=Ends->St->Hp->Prop
def EP(X:Cx)(pins:L (Y7×Obj))(σ:St)(Q:VK)(u:Y8)(s':Qz):Prop:=∃v H',Inv X pins σ H' s'/\RelV v u/\Q v H'
def TP(X:Cx)(pins:L (Y7×Obj))(σ:St)(Q:Yb->Hp->Prop)(b:Yb)(s':Qz):Prop:=∃H',Inv X pins σ H' s'/\Q b H'
def AP(X:Cx)(pins:L (Y7×Obj))(σ:St)(Q:L V->Hp->Prop)(us:L Y8)(s':Qz):Prop:=∃vs H',Inv X pins σ H' s'/\Vals vs us/\Q vs H'
def SP(X:Cx)(pins:L (Y7×Obj))(D:Ends)(f:Flow)(s':Qz):Prop:=
 match f with
 |.next=>∃σ' H',Inv X pins σ' H' s'/\D.nx σ' H'
 |.brk=>∃σ' H',Inv X pins σ' H' s'/\D.bk σ' H'
 |.cont=>∃σ' H',Inv X pins σ' H' s'/\D.ct σ' H'
 |.ret u=>∃v σ' H',Inv X pins σ' H' s'/\RelV v u/\D.rt v H'
def PE(X:Cx)(e:Qx)(t:TE):Prop:=
 ∀(pins:L (Y7×Obj)) (s:Qz) (σ:St) (H:Hp) (Q:VK),Inv X pins σ H s->t σ H Q->wpAny (model X.prog X.w) X.A (Qb e X.env) (EP X pins σ Q) X.xe s
def PT(X:Cx)(e:Qx)(t:TT):Prop:=
 ∀(pins:L (Y7×Obj)) (s:Qz) (σ:St) (H:Hp) (Q:Yb->Hp->Prop),Inv X pins σ H s->t σ H Q->wpAny (model X.prog X.w) X.A (isTrue e X.env (Qb e X.env)) (TP X pins σ Q) X.xe s
def PW(X:Cx)(e:Qx)(t:TT):Prop:=
 ∀(whole:Sem Y8) (pins:L (Y7×Obj)) (s:Qz) (σ:St) (H:Hp) (Q:Yb->Hp->Prop),Inv X pins σ H s->t σ H Q->wpAny (model X.prog X.w) X.A (isTrue e X.env whole) (TP X pins σ Q) X.xe s
def PW.pt(h:PW X e t):PT X e t:=h _
def PA(X:Cx)(es:L Qx)(t:TA):Prop:=
 ∀(pos:Pos) (pins:L (Y7×Obj)) (s:Qz) (σ:St) (H:Hp) (Q:L V->Hp->Prop),Inv X pins σ H s->t σ H Q->wpAny (model X.prog X.w) X.A (spliced (backTo pos (starEach es X.env))) (AP X pins σ Q) X.xe s
def PS(X:Cx)(st:Stmt)(t:TS):Prop:=
 ∀(pins:L (Y7×Obj)) (s:Qz) (σ:St) (H:Hp) (D:Ends),Inv X pins σ H s->t D σ H->wpAny (model X.prog X.w) X.A (exec st X.env) (SP X pins D) X.xe s
def PSs(X:Cx)(st:L Stmt)(t:TS):Prop:=
 ∀(pins:L (Y7×Obj)) (s:Qz) (σ:St) (H:Hp) (D:Ends),Inv X pins σ H s->t D σ H->wpAny (model X.prog X.w) X.A (execs st X.env) (SP X pins D) X.xe s
def thn{t:Sem α}{Q b:α->Qz->Prop}(h:wpAny M A t Q E s)(c:∀a s,Q a s->b a s):wpAny M A t b E s:=Qi h c λ_ _ x=>x
section
def bin(r:PE X a j)(q:PE X b tb){R:V->V->Hp->Prop}(I:Inv X c d H s)(h:j d H λx H1=>tb d H1 λy H2=>R x y H2){Q:α->Qz->Prop}{f:Y8->Y8->Sem α}(p:∀v u i x y H2,Inv X c d H2 i->RelV x v->RelV y u->R x y H2->wpAny (model X.prog X.w) X.A (f v u) Q X.xe i):
  wpAny (model X.prog X.w) X.A (Qb a X.env) (λv g=>wpAny (model X.prog X.w) X.A (Qb b X.env) (λu e=>wpAny (model X.prog X.w) X.A (f v u) Q X.xe e) X.xe g) X.xe s:=by
 refine thn (r c s d H _ I h) λv k ⟨x,H1,w,m,o⟩=>?_;refine thn (q c k d H1 _ w o) λu i ⟨y,H2,t,l,n⟩=>?_;exact p v u i x y H2 t m l n
noncomputable def tVar(i:Y0):TE:=λσ H Q=>∃v,σ[i]?=Y (Y v)/\Q v H
noncomputable def tC(v:V):TE:=λ_ H Q=>Q v H
def pe_var(n:X.N[i]?=Y x)(j:Vis X.env.scope x)(hd:(x==("__debug__" : Y5))=false:=by decide)(f:(x==("__classdict__" : Y5))=false:=by decide):PE X (.Name x pos) (tVar i):=by
 intro pins s σ H Q I h;obtain⟨v,e,h⟩:=h;obtain⟨m,hn,hl⟩:=I.loc;obtain⟨u,r,l⟩:=hl i x v n e j;have d:EP X pins σ Q u s:=⟨v,H,I,r,h⟩
 rcases l with⟨b,k⟩|⟨b,c,g,a⟩
 ·exact wpAny_Name (wpAny_loadName_local I.ok.kind b hn k d) hd
 ·rcases b with b|b
  ·exact wpAny_Name (wpAny_loadName_cell I.ok.kind b g a d) hd
  ·exact wpAny_Name (wpAny_loadName_free I.ok.kind b g a d f) hd
def pe_int{i j pos}:PE X (.Constant (.int i) j pos) (tC (.int i)):=λ_ _ _ H _ I h=>wpAny_Constant_int ⟨.int i,H,I.tok _,⟨_,rfl⟩,h⟩
def pe_bl{b j pos}:PE X (.Constant (.bool b) j pos) (tC (.bl b)):=λ_ _ _ H _ I h=>Constant_bool ⟨.bl b,H,I,rfl,h⟩
def pe_non{j pos}:PE X (.Constant .none j pos) (tC .non):=λ_ _ _ H _ I h=>Constant_none ⟨.non,H,I,rfl,h⟩
def pe_str{x j pos}:PE X (.Constant (.str x) j pos) (tC (.str x)):=λ_ _ _ H _ I h=>Calls.Constant_str ⟨.str x,H,I.tok _,⟨_,rfl⟩,h⟩
def Gl(X:Cx)(x:Y5):Prop:=X.env.kindOf x=Y .globalImplicit
def qyc(I:Inv X a b H s)(d:Gl X x)(c:X.mg x=Y u)(h:Q u s)(hd:(x==("__debug__" : Y5))=false:=by decide):wpAny (model X.prog X.w) X.A (Qb (.Name x pos) X.env) Q E s:=
 Calls.Name_function_global I.ok.kind d (Calls.loadGlobal_global (by rw[I.ok.glob]; exact I.mod.glob.keeps I.bk) c h) hd
def qx9(I:Inv X a b H s)(f:Gl X x)(e:X.mg x=B)(c:Qd x=Y u)(h:Q u s)(d:x ≠ "__name__":=by decide)(hd:(x==("__debug__" : Y5))=false:=by decide):wpAny (model X.prog X.w) X.A (Qb (.Name x pos) X.env) Q E s:=by
 obtain⟨g,h1,h2⟩:=I.mod.blt;exact Calls.Name_function_global I.ok.kind f (Calls.loadGlobal_builtin (by rw[I.ok.glob]; exact I.mod.glob.keeps I.bk) e (by rw[I.ok.blt]; exact h1.keeps I.bk) ((h2 x d).trans c) h) hd
def qyj(b:Gl X x)(a:X.mg x=Y u)(r:RelV v u)(hd:(x==("__debug__" : Y5))=false:=by decide):PE X (.Name x pos) (tC v):=
 λ_ _ _ H _ I h=>qyc I b a ⟨v,H,I,r,h⟩ hd
def qjn(d:Gl X x)(c:X.mg x=B)(a:Qd x=Y u)(r:RelV v u)(b:x ≠ "__name__":=by decide)(hd:(x==("__debug__" : Y5))=false:=by decide):PE X (.Name x pos) (tC v):=
 λ_ _ _ H _ I h=>qx9 I d c a ⟨v,H,I,r,h⟩ b hd
def PC(X:Cx)(op:CmpOp)(a b:Qx)(t:TE):Prop:=
 ∀(pins:L (Y7×Obj)) (s:Qz) (σ:St) (H:Hp) (Q:VK),Inv X pins σ H s->t σ H Q->
  wpAny (model X.prog X.w) X.A (Qb a X.env) (λv s₁=>wpAny (model X.prog X.w) X.A (Qb b X.env) (λu s₂=>wpAny (model X.prog X.w) X.A (Qh op v u) (EP X pins σ Q) X.xe s₂) X.xe s₁) X.xe s
noncomputable def tB(t:TE):TT:=λσ H Q=>t σ H λx H1=>∃c,x=.bl c/\Q c H1
def qdv(h:PC X c a b t)(e:Zh c b=Y6):PE X (.Compare a [c] [b] pos) t:=λpins s σ H Q I d=>wpAny_Compare1 (h pins s σ H Q I d) e
def qc8(h:PC X e a b t)(f:Zh e b=Y6):PT X (.Compare a [e] [b] pos) (tB t):=by
 intro pins s σ H Q I j;refine wpAny_isTrue_Compare1 (thn (h pins s σ H _ I j) λv n f=>thn f λu m h2=>thn h2 λc l ⟨x,H1,k,g,i⟩=>?_) f;obtain⟨d,rfl,q⟩:=i;cases g;exact Qf ⟨H1,k,q⟩
noncomputable def tAnd(t u:TT):TT:=λσ H Q=>t σ H λc H1=>if c=O then u σ H1 Q else Q Y6 H1
noncomputable def tOr(t u:TT):TT:=λσ H Q=>t σ H λc H1=>if c=O then Q O H1 else u σ H1 Q
noncomputable def tNot(t:TT):TT:=λσ H Q=>t σ H λc H1=>Q (!c) H1
def ql6(d:PT X a tA):PW X (.BoolOp .And [a] pos) tA:=by
 intro f pins s σ H Q I h;refine isTrue_and (thn (d pins s σ H Q I h) λc g e=>?_)
 cases c with
 |true=>exact isTrue_and_nil e
 |false=>exact e
def pw_or1(d:PT X a tA):PW X (.BoolOp .Or [a] pos) tA:=by
 intro f pins s σ H Q I h;refine isTrue_or (thn (d pins s σ H Q I h) λc g e=>?_)
 cases c with
 |false=>exact isTrue_or_nil e
 |true=>exact e
def pw_and(j:PT X a tA)(i:PW X (.BoolOp .And (b::rest) pos) tB'):PW X (.BoolOp .And (a::b::rest) pos) (tAnd tA tB'):=by
 intro f pins s σ H Q I h;refine isTrue_and (thn (j pins s σ H _ I h) λc g ⟨H1,e,d⟩=>?_)
 cases c with
 |true=>exact i f pins g σ H1 Q e d
 |false=>exact⟨H1,e,d⟩
def pw_or(j:PT X a tA)(i:PW X (.BoolOp .Or (b::rest) pos) tB'):PW X (.BoolOp .Or (a::b::rest) pos) (tOr tA tB'):=by
 intro f pins s σ H Q I h;refine isTrue_or (thn (j pins s σ H _ I h) λc g ⟨H1,e,d⟩=>?_)
 cases c with
 |true=>exact⟨H1,e,d⟩
 |false=>exact i f pins g σ H1 Q e d
def pt_not(d:PT X a tA):PT X (.UnaryOp .Not a pos) (tNot tA):=by
 intro pins s σ H Q I h;exact isTrue_not (d pins s σ H (λc H1=>Q (!c) H1) I h)
noncomputable def tAndV(ta tb:TE):TE:=λσ H Q=>ta σ H λx H1=>∃c,x=.bl c/\if c=O then tb σ H1 Q else Q (.bl Y6) H1
noncomputable def tOrV(ta tb:TE):TE:=λσ H Q=>ta σ H λx H1=>∃c,x=.bl c/\if c=O then Q (.bl O) H1 else tb σ H1 Q
noncomputable def tNotV(ta:TE):TE:=λσ H Q=>ta σ H λx H1=>∃c,x=.bl c/\Q (.bl (!c)) H1
def qiv{op}(h:PE X a t):PE X (.BoolOp op [a] pos) t:=λpins s σ H Q I c=>BoolOp_one (h pins s σ H Q I c)
def pe_and(j:PE X a ta)(i:PE X (.BoolOp .And (b::rest) pos) tb):PE X (.BoolOp .And (a::b::rest) pos) (tAndV ta tb):=by
 intro pins s σ H Q I h;refine BoolOp_and (thn (j pins s σ H _ I h) λv f ⟨x,H1,e,g,d⟩=>?_);obtain⟨c,rfl,d⟩:=d;cases g;refine Qf ?_
 cases c with
 |true=>exact i pins f σ H1 Q e d
 |false=>exact⟨.bl Y6,H1,e,rfl,d⟩
def pe_or(j:PE X a ta)(i:PE X (.BoolOp .Or (b::rest) pos) tb):PE X (.BoolOp .Or (a::b::rest) pos) (tOrV ta tb):=by
 intro pins s σ H Q I h;refine BoolOp_or (thn (j pins s σ H _ I h) λv f ⟨x,H1,e,g,d⟩=>?_);obtain⟨c,rfl,d⟩:=d;cases g;refine Qf ?_
 cases c with
 |false=>exact i pins f σ H1 Q e d
 |true=>exact⟨.bl O,H1,e,rfl,d⟩
def pe_not(f:PE X a ta):PE X (.UnaryOp .Not a pos) (tNotV ta):=by
 intro pins s σ H Q I h;refine UnaryOp_ (thn (f pins s σ H _ I h) λv i ⟨x,H1,g,e,d⟩=>?_);obtain⟨c,rfl,d⟩:=d;cases e;exact not_of (Qf ⟨.bl (!c),H1,g,rfl,d⟩)
noncomputable def tIf(t:TT)(ta tb:TE):TE:=λσ H Q=>t σ H λc H1=>if c=O then ta σ H1 Q else tb σ H1 Q
def qgu(i:PT X c tA)(k:PE X a ta)(j:PE X b tb):PE X (.IfExp c a b pos) (tIf tA ta tb):=by
 intro pins s σ H Q I h;refine wpAny_IfExp (thn (i pins s σ H _ I h) λd e ⟨H1,g,f⟩=>?_)
 cases d with
 |true=>exact k pins e σ H1 Q g f
 |false=>exact j pins e σ H1 Q g f
end
def SqL(K:Qqq)(H:Hp)(a:Y7)(xs:L V):Prop:=
 Rd H a (.lst xs)\/
  ∃(o:Obj) (its:Array Y8) (n:Y0),K.lookup a=Y o/\o.cls=.type "list"/\o.dict=B/\o.data=.seq its n/\its.size<=sizeLine/\Vals xs its.toList
def SqT(K:Qqq)(H:Hp)(a:Y7)(xs:L V):Prop:=
 Rd H a (.tup xs)\/
  ∃(o:Obj) (its:Array Y8) (n:Y0),K.lookup a=Y o/\o.cls=.type "tuple"/\o.data=.seq its n/\its.size<=sizeLine/\Vals xs its.toList
noncomputable def absV:Y8->Y3 V
 |.none=>Y .non
 |.bool b=>Y (.bl b)
 |.int i _=>Y (.int i)
 |.str x _=>Y (.str x)
 |.bytes b _=>Y (.byt b)
 |.float b _=>Y (.flt b)
 |.ref a=>Y (.ref a)
 |.type n=>Y (.ty n)
 |_=>B
def RelV.abs(r:RelV x u):absV u=Y x:=by
 cases x with
 |non=>cases r; rfl
 |bl _=>cases r; rfl
 |int _=>obtain⟨t,rfl⟩:=r; rfl
 |str _=>obtain⟨t,rfl⟩:=r; rfl
 |byt _=>obtain⟨t,rfl⟩:=r; rfl
 |flt _=>obtain⟨t,rfl⟩:=r; rfl
 |ref _=>cases r; rfl
 |ty _=>cases r; rfl
theorem RelV.inj(r:RelV x u)(q:RelV y u):x=y:=Option.some.inj (r.abs.symm.trans q.abs)
theorem Vals.inj:∀{xs ys}{us},Vals xs us->Vals ys us->xs=ys
 |_,_,_,.nil,.nil=>rfl
 |_,_,_,.cons r t,.cons r' t'=>by rw[r.inj r',Vals.inj t t']
section
def SqL.of{K:Qqq}(h:H a=Y (.lst xs)):SqL K H a xs:=.inl (.inl h)
def SqT.of{K:Qqq}(h:H a=Y (.tup xs)):SqT K H a xs:=.inl (.inl h)
def Inv.list(I:Inv X pins σ H s)(h:SqL X.K H a xs):∃b:L Y8,Vals xs b/\PlainL s.heap a b.toArray/\xs.length<=sizeLine:=by
 rcases h with h|⟨o,b,n,c,d,hd,hs,f,r⟩
 ·obtain⟨z,b,n,r,e⟩:=h.ok I.hok;exact⟨b,r,⟨_,n,e,rfl,rfl,rfl⟩,z⟩
 ·refine⟨b.toList,r,⟨o,n,I.kIn a o c,d,hd,by simpa using hs⟩,?_⟩;have e:=r.length;simp only[Qzo]at e;omega
def Inv.tuple(I:Inv X pins σ H s)(h:SqT X.K H a xs):∃b:L Y8,Vals xs b/\IsTup s.heap a b.toArray/\xs.length<=sizeLine:=by
 rcases h with h|⟨o,b,n,c,d,hs,f,r⟩
 ·obtain⟨z,b,r,p⟩:=h.ok I.hok;exact⟨b,r,p,z⟩
 ·refine⟨b.toList,r,⟨o,I.kIn a o c,d,n,by simpa using hs⟩,?_⟩;have e:=r.length;simp only[Qzo]at e;omega
def Inv.list_inj(I:Inv X pins σ H s)(h:SqL X.K H a xs)(h':SqL X.K H a ys):xs=ys:=by
 obtain⟨b,r,⟨o,n,e,_,_,d⟩,_⟩:=I.list h;obtain⟨its',r',⟨o',i,c,_,_,f⟩,_⟩:=I.list h';rw[e]at c; cases c;rw[d]at f;injection f with g _;have:b=its':=by simpa using congrArg Array.toList g
 subst this;exact r.inj r'
def Inv.tuple_inj(I:Inv X pins σ H s)(h:SqT X.K H a xs)(h':SqT X.K H a ys):xs=ys:=by
 obtain⟨b,r,⟨o,e,_,n,d⟩,_⟩:=I.tuple h;obtain⟨its',r',⟨o',c,_,i,f⟩,_⟩:=I.tuple h';rw[e]at c; cases c;rw[d]at f;injection f with g _;have:b=its':=by simpa using congrArg Array.toList g
 subst this;exact r.inj r'
end
noncomputable abbrev Cx.wish(X:Cx)(E:Y8->Qz->Prop):Cx:={ X with xe:=E }
noncomputable abbrev Cx.nox(X:Cx):Cx:=X.wish λ_ _=>False
theorem Cx.Ok.wish{X:Cx}(ok:X.Ok)(E:Y8->Qz->Prop):(X.wish E).Ok:=
 ⟨ok.mod,ok.kind,ok.glob,ok.blt,ok.above,ok.inj,ok.has,ok.cab,ok.hd,ok.frames,ok.stk,ok.exf,ok.bs,ok.bsz,ok.noex,ok.exfs,ok.funs,ok.frf⟩
def Cx.Ok.unwish{X:Cx}(ok:(X.wish E).Ok):X.Ok:=
 ⟨ok.mod,ok.kind,ok.glob,ok.blt,ok.above,ok.inj,ok.has,ok.cab,ok.hd,ok.frames,ok.stk,ok.exf,ok.bs,ok.bsz,ok.noex,ok.exfs,ok.funs,ok.frf⟩
section
theorem Inv.wish(I:Inv X pins σ H s)(E:Y8->Qz->Prop):Inv (X.wish E) pins σ H s:=⟨I.ok.wish E,I.os,I.bare,I.base,I.loc,I.cell,I.free,I.freeC,I.pin,I.hok,I.len⟩
theorem Inv.unwish(I:Inv (X.wish E) pins σ H s):Inv X pins σ H s:=⟨I.ok.unwish,I.os,I.bare,I.base,I.loc,I.cell,I.free,I.freeC,I.pin,I.hok,I.len⟩
theorem SP.unwish(h:SP (X.wish E) pins D f s'):SP X pins D f s':=by
 cases f with
 |next=>obtain⟨a,H',I,q⟩:=h; exact⟨a,H',I.unwish,q⟩
 |brk=>obtain⟨a,H',I,q⟩:=h; exact⟨a,H',I.unwish,q⟩
 |cont=>obtain⟨a,H',I,q⟩:=h; exact⟨a,H',I.unwish,q⟩
 |ret u=>obtain⟨v,a,H',I,r,q⟩:=h; exact⟨v,a,H',I.unwish,r,q⟩
theorem PSs.nox{st:L Stmt}(h:PSs X.nox st t):PSs X st t:=λpins s σ H D I a=>
 Qi (h pins s σ H D (I.wish _) a) (λ_ _ q=>q.unwish) λ_ _ z=>False.elim z
end
section
variable {X:Cx}{st:Stmt}{rest:L Stmt}{t u:TS}
noncomputable def tNext:TS:=λD σ H=>D.nx σ H
noncomputable def tSeq(t u:TS):TS:=λD σ H=>t { D with nx:=u D } σ H
def pss_nil:PSs X [] tNext:=λ_ _ σ H _ I h=>wpAny_execs_nil ⟨σ,H,I,h⟩
def qav(d:PS X st t)(c:PSs X rest u):PSs X (st::rest) (tSeq t u):=by
 intro pins s σ H D I h;refine wpAny_execs_cons (thn (d pins s σ H { D with nx:=u D } I h) λf b q=>?_)
 cases f with
 |next=>
  obtain⟨a,H',g,q⟩:=q;exact c pins b a H' D g q
 |ret v=>exact q
 |brk=>exact q
 |cont=>exact q
def Inv.quiet(I:Inv X a b H s):interactive X.env=false:=by simp[interactive,I.ok.kind]
def ps_doc{x j pos pos'}:PS X (.Expr (.Constant (.str x) j pos) pos') tNext:=λ_ s σ H _ I h=>wpAny_Expr (Calls.Constant_str (show SP X _ _ .next { s with toks:=s.toks+1 } from⟨σ,H,I.tok _,h⟩)) I.quiet
noncomputable def tDrop(te:TE):TS:=λD σ H=>te σ H λ_ H1=>D.nx σ H1
def ql9(c:PE X e te)(b:swapsWith e B pos.line X.env=pure Y6):PS X (.Expr e pos) (tDrop te):=by
 intro pins s σ H D I h;exact wpAny_Expr_any (thn (c pins s σ H _ I h) λv f ⟨x,H1,d,g,a⟩=>⟨σ,H1,d,a⟩) I.quiet b
noncomputable def tRet(te:TE):TS:=λD σ H=>te σ H D.rt
def ps_ret(c:PE X e te):PS X (.Return (Y e) pos) (tRet te):=by
 intro pins s σ H D I h;exact wpAny_Return_some (thn (c pins s σ H _ I h) λv f ⟨x,H1,d,a,b⟩=>⟨x,σ,H1,d,a,b⟩)
noncomputable def tIfS(c:TT)(t u:TS):TS:=λD σ H=>c σ H λb H1=>if b=O then t D σ H1 else u D σ H1
def ps_if(j:PT X c tc)(l:PSs X a t)(k:PSs X b u):PS X (.If c a b pos) (tIfS tc t u):=by
 intro pins s σ H D I h;refine wpAny_If (thn (j pins s σ H _ I h) λd f ⟨H1,i,g⟩=>?_)
 cases d with
 |true=>exact l pins f σ H1 D i g
 |false=>exact k pins f σ H1 D i g
end
abbrev TG:=V->St->Hp->(St->Hp->Prop)->Prop
abbrev TGs:=L V->St->Hp->(St->Hp->Prop)->Prop
def PG(X:Cx)(target:Qx)(t:TG):Prop:=
 ∀(pins:L (Y7×Obj)) (s:Qz) (σ:St) (H:Hp) (v:V) (u:Y8) (Q:St->Hp->Prop),Inv X pins σ H s->RelV v u->t v σ H Q->
  wpAny (model X.prog X.w) X.A (assign target X.env u) (λ_ s'=>∃σ' H',Inv X pins σ' H' s'/\Q σ' H') X.xe s
def PGs(X:Cx)(ts:L Qx)(t:TGs):Prop:=
 ∀(pins:L (Y7×Obj)) (s:Qz) (σ:St) (H:Hp) (vs:L V) (us:L Y8) (Q:St->Hp->Prop),Inv X pins σ H s->Vals vs us->t vs σ H Q->
  wpAny (model X.prog X.w) X.A (assignInOrder ((Q6 ts X.env).map (·.2)) us) (λ_ s'=>∃σ' H',Inv X pins σ' H' s'/\Q σ' H') X.xe s
section
noncomputable def qyg(i:Y0):TG:=λv σ H Q=>Q (σ.set i (Y v)) H
def qdk(d:X.N.Nodup)(b:X.N[i]?=Y x)(a:Loc X.env.scope x)(c:X.fn x=O\/X.env.scope.names.lookup x=Y .local):PG X (.Name x pos) (qyg i):=by
 intro pins s σ H v u Q I r h;exact wpAny_assign_Name (qy5 I d b a r (λs' e=>⟨_,H,e,h⟩) c)
noncomputable def gNil:TGs:=λvs σ H Q=>vs=[]/\Q σ H
noncomputable def gCons(t:TG)(u:TGs):TGs:=λvs σ H Q=>∃v r,vs=v::r/\t v σ H λσ' H'=>u r σ' H' Q
def qmw:PGs X [] gNil:=by
 intro pins s σ H vs a Q I r h;obtain⟨e,h⟩:=h;subst e;cases r;exact assignInOrder_nil ⟨σ,H,I,h⟩
def qgs(i:PG X e t)(g:PGs X es u)(f:(Q6 (e::es) X.env).map (·.2)=assign e X.env::(Q6 es X.env).map (·.2):=by rfl):PGs X (e::es) (gCons t u):=by
 intro pins s σ H vs m Q I r h;obtain⟨v,l,j,h⟩:=h;subst j
 cases r with
 |cons r c=>
  rw[f];refine assignInOrder_cons (thn (i pins s σ H _ _ _ I r h) λ_ b ⟨a,H1,k,d⟩=>?_);exact g pins b a H1 _ _ Q k c d
noncomputable def gTup(K:Qqq)(n:Y0)(t:TGs):TG:=λv σ H Q=>∃a xs,v=.ref a/\SqT K H a xs/\xs.length=n/\t xs σ H Q
def pg_tup(p:X.calm=O)(h:PGs X es t)(m:(Q6 es X.env).length=n:=by rfl)(d:(Q6 es X.env).findIdx? (·.1)=none:=by rfl):PG X (.Tuple es k pos) (gTup X.K n t):=by
 intro pins s σ H v u Q I r c;obtain⟨a,xs,q,l,hl,c⟩:=c;subst q;cases r;obtain⟨g,f,j,x⟩:=I.tuple l;refine assign_Tuple_tuple (I.ok.hd p) j (by simp[m,<- hl,f.length]) d λh' i=>?_;have w:=I.kept (t':=s.toks) λb o e=>i b o (Qq3 (Qqe e)) e;exact h pins _ σ H xs _ Q w (by simpa using f) c
noncomputable def tAsg(te:TE)(g:TG):TS:=λD σ H=>te σ H λx H1=>g x σ H1 D.nx
def qix(m:X.N.Nodup)(j:X.N[i]?=Y x)(f:Loc X.env.scope x)(l:PE X e b)(g:swapsWith e (Y (.Name x a)) pos.line X.env=pure false:=by rfl)(k:X.fn x=O\/X.env.scope.names.lookup x=Y .local):
  PS X (.Assign [.Name x a] e pos) (tAsg b (qyg i)):=by
 intro pins s σ H D I h;refine wpAny_Assign_Name (thn (l pins s σ H _ I h) λv q ⟨y,H1,o,c,d⟩=>?_) g;exact qy5 o m j f c (λp n=>⟨_,H1,n,d⟩) k
end
section
end
structure It where
 go:Y0->Hp->Prop
 yld:Y0->Hp->V->Hp->Prop
 stop:Y0->Hp->Prop
def FpOk(X:Cx)(pins:L (Y7×Obj))(H:Hp)(b:Y7):Prop:=
 H b=B/\b≠X.env.locals/\b ∉ X.fs/\(b∈X.ex\/X.s₀.heap.objs.size<=b)/\(∀x c,X.env.cells.lookup x=Y c->c≠b)/\∀p∈X.pn++pins,p.1≠b
def Inv.fpOk(I:Inv X a f H s)(d:s.heap.objs.size<=b)(g:H' b=B):FpOk X a H' b:=by
 refine⟨g,Qxd (Qq4 I.lt d),I.nofs d,.inr (Qz0 I.sz d),λx c e z=>?_,λp hp z=>?_⟩
 ·obtain⟨v,q⟩:=I.cell x c e;exact absurd (Qq4 q.lt (by rw[z]; exact d)) (Qz8 _)
 ·exact absurd (Qq4 (Qqe (I.pin p hp).1) (by rw[z]; exact d)) (Qz8 _)
structure Turn (P:Program) (w:Qk) (K:Qqq) (tg:Qx) (Jq:It) (fp:L Y7) (it:Y7) (tn:Y0->Heap->Prop):Prop where
 mem:it∈fp
 obj:∀i h,tn i h->∀b∈fp,∃o,h.get? b=Y o/\∀v,o.data≠.cell v
 keep:∀i h h',tn i h->(∀b∈fp,∀o,h.get? b=Y o->h'.get? b=Y o)->tn i h'
 item:∀(X:Cx),X.prog=P->X.w=w->X.K=K->X.calm=O->∀(i:Y0) (pins:L (Y7×Obj)) (s:Qz) (σ:St) (H:Hp) (E:Y8->Qz->Prop),Inv X pins σ H s->(∀b∈fp,FpOk X pins H b)->tn i s.heap->Jq.go i H->
  wpAny (model P w) X.A (pyNext (.ref it)) (λr s1=>∃u,r=Y u/\
   wpAny (model P w) X.A (Zo tg (.ref it) u) (λ_ s2=>∃x H',Inv X pins σ H' s2/\RelV x u/\Jq.yld i H x H'/\tn (i+1) s2.heap/\∀b∈fp,H' b=B) E s1) E s
 done:∀(X:Cx),X.prog=P->X.w=w->X.K=K->X.calm=O->∀(i:Y0) (pins:L (Y7×Obj)) (s:Qz) (σ:St) (H:Hp) (E:Y8->Qz->Prop),Inv X pins σ H s->(∀b∈fp,FpOk X pins H b)->tn i s.heap->Jq.stop i H->
  wpAny (model P w) X.A (pyNext (.ref it)) (λr s1=>r=B/\Inv X pins σ H s1) E s
 self:∀(A:Qv) (i:Y0) (s:Qz) (Q:Y8->Qz->Prop) (E:Y8->Qz->Prop),tn i s.heap->Q (.ref it) s->wpAny (model P w) A (pyIter (.ref it)) Q E s
abbrev TI:=St->Hp->(It->Hp->Prop)->Prop
def PIE(X:Cx)(pins:L (Y7×Obj))(σ:St)(tg:Qx)(R:It->Hp->Prop)(itv:Y8)(s2:Qz):Prop:=
 ∃(it:Y7) (fp:L Y7) (tn:Y0->Heap->Prop) (Jq:It) (H':Hp),itv=.ref it/\Inv X pins σ H' s2/\Turn X.prog X.w X.K tg Jq fp it tn/\tn 0 s2.heap/\(∀b∈fp,FpOk X pins H' b)/\R Jq H'
def PI(X:Cx)(tg iter:Qx)(wi:TI):Prop:=
 ∀(pins:L (Y7×Obj)) (s:Qz) (σ:St) (H:Hp) (R:It->Hp->Prop),Inv X pins σ H s->wi σ H R->
  wpAny (model X.prog X.w) X.A (Qb iter X.env) (λv s1=>wpAny (model X.prog X.w) X.A (pyIter v) (PIE X pins σ tg R) X.xe s1) X.xe s
def qeb(b:s.heap.get? it=Y o)(d:o.cls=.type n)(hd:o.data=.fields vs)(c:["enumerate","zip","dict_itemiterator","dict_reverseitemiterator","odict_iterator","itertools.zip_longest","itertools.pairwise"].contains n=Y6)(a:Q () s):wpAny M A (Zo tg (.ref it) u) Q E s:=by
 unfold Zo
 cases tg<;>first
  |exact Qj a
  |(cases u<;>first
    |exact Qj a
    |(refine Qq (wpAny_load b ?_)
      rw[d,hd];show wpAny M A (if (["enumerate","zip","dict_itemiterator","dict_reverseitemiterator","odict_iterator","itertools.zip_longest","itertools.pairwise"].contains n&&vs[0]?==Y (rawInt _))=O then _ else _) Q E s;rw[Z5 (by intro h; rw[c,Bool.false_and]at h; cases h)]
      exact Qj a))
noncomputable def Itl(K:Qqq)(a:Y7):It:=
 ⟨λi H=>∃xs x,SqL K H a xs/\xs[i]?=Y x,λi H x H'=>H'=H/\∀xs,SqL K H a xs->xs[i]?=Y x,λi H=>∃xs,SqL K H a xs/\xs.length<=i⟩
noncomputable def Itt(K:Qqq)(a:Y7):It:=
 ⟨λi H=>∃xs x,SqT K H a xs/\xs[i]?=Y x,λi H x H'=>H'=H/\∀xs,SqT K H a xs->xs[i]?=Y x,λi H=>∃xs,SqT K H a xs/\xs.length<=i⟩
noncomputable def Itr(lo:J)(n:Y0):It:=⟨λi _=>i<n,λi H x H'=>H'=H/\x=.int (lo+i),λi _=>n<=i⟩
def qck{K:Qqq}(a it):Turn P w K tg (Itl K a) [it] it (λi h=>h.IsListIter it a i) where
 mem:=by simp
 obj:=λi h st b f=>by
  have e:b=it:=by simpa using f
  subst e;obtain⟨o,e,c,d⟩:=st;exact⟨o,e,λv z=>by rw[d]at z; cases z⟩
 keep:=λi h h' st k=>st.at λo e=>k it (by simp) o e
 item:=by
  intro X r n t G i pins s σ H E I hf st q;subst r n t;obtain⟨xs,x,g,m⟩:=q;obtain⟨l,j,p,R⟩:=I.list g;obtain⟨u,T,Q⟩:=j.get m;obtain⟨F,D,U,C,A,y⟩:=hf it (by simp);refine wpAny_pyNext_list_item st p.isList (x:=u) (by simpa using T) λh' st' N=>?_;have W:=I.turned (t':=s.toks) (λb o f e=>(N.2 b f).trans e) F D C A y;obtain⟨o,e,c,d⟩:=id st';exact⟨u,rfl,qeb e c d (by decide) ⟨x,H,W,Q,⟨rfl,λys S=>by rw[I.list_inj S g]; exact m⟩,st',λb f=>(hf b f).1⟩⟩
 done:=by
  intro X r n t G i pins s σ H E I hf st q;subst r n t;obtain⟨xs,g,m⟩:=q;obtain⟨l,j,p,R⟩:=I.list g;obtain⟨F,D,U,C,A,y⟩:=hf it (by simp);have hl:=j.length;exact wpAny_pyNext_list_end (I.ok.hd G) st p.isList (by simp; omega) λh' V=>⟨rfl,I.turned (λb o f e=>V b o f e) F D C A y⟩
 self:=λ_ _ _ _ _ st h=>wpAny_pyIter_listiter st h
def qbq{K:Qqq}(a it):Turn P w K tg (Itt K a) [it] it (λi h=>h.IsTupleIter it a i) where
 mem:=by simp
 obj:=λi h st b g=>by
  have e:b=it:=by simpa using g
  subst e;obtain⟨o,e,c,d⟩:=st;exact⟨o,e,λv z=>by rw[d]at z; cases z⟩
 keep:=λi h h' st k=>st.at λo e=>k it (by simp) o e
 item:=by
  intro X r n t G i pins s σ H E I hf st q;subst r n t;obtain⟨xs,x,j,m⟩:=q;obtain⟨f,l,p,R⟩:=I.tuple j;obtain⟨u,T,Q⟩:=l.get m;obtain⟨F,D,U,C,A,y⟩:=hf it (by simp);refine wpAny_pyNext_tuple_item st (p) (x:=u) (by simpa using T) λh' st' N=>?_;have W:=I.turned (t':=s.toks) (λb o g e=>(N.2 b g).trans e) F D C A y;obtain⟨o,e,c,d⟩:=id st';exact⟨u,rfl,qeb (s:={ s with heap:=h' }) e c d (by decide) ⟨x,H,W,Q,⟨rfl,λys S=>by rw[I.tuple_inj S j]; exact m⟩,st',λb g=>(hf b g).1⟩⟩
 done:=by
  intro X r n t G i pins s σ H E I hf st q;subst r n t;obtain⟨xs,j,m⟩:=q;obtain⟨f,l,p,R⟩:=I.tuple j;obtain⟨F,D,U,C,A,y⟩:=hf it (by simp);have hl:=l.length;exact wpAny_pyNext_tuple_end (I.ok.hd G) st (p) (by simp; omega) λh' V=>⟨rfl,I.turned (λb o g e=>V b o g e) F D C A y⟩
 self:=λ_ _ _ _ _ st h=>wpAny_pyIter_tupleiter st h
def qbx{K:Qqq}(it)(lo)(n):Turn P w K tg (Itr lo n) [it] it (λi h=>IsRangeIter h it (lo+(i:Y0)*1) ((n:J) - (i:Y0)) 1) where
 mem:=by simp
 obj:=λi h st b a=>by
  have e:b=it:=by simpa using a
  subst e
  exact⟨_,st,λv z=>by
   have u:=z
   cases u⟩
 keep:=λi h h' st k=>k it (by simp) _ st
 item:=by
  intro X g c j f i pins s σ H E I hf st d;subst g c j;obtain⟨r,q,A,p,m,l⟩:=hf it (by simp);have W:=Walks.range (prog:=X.prog) (w:=X.w) (I.ok.hd f) it lo 1 n;refine W.item i s _ _ d st λv h' tk y st' x=>?_;obtain⟨t,rfl⟩:=y;have D:Inv X pins σ H { s with heap:=h',toks:=tk }:=I.turned (λb o a e=>x b o (by simpa using a) e) r q p m l;refine⟨_,rfl,qeb st' rfl rfl (by decide) ⟨.int (lo+i),H,D,⟨t,?_⟩,⟨rfl,rfl⟩,st',λb a=>(hf b a).1⟩⟩;rw[Int.mul_one]
 done:=by
  intro X g c j f i pins s σ H E I hf st d;subst g c j;obtain⟨r,q,A,p,m,l⟩:=hf it (by simp);exact wpAny_pyNext_range_end (I.ok.hd f) st (by have:n<=i:=d; omega) λh' C=>⟨rfl,I.turned (λb o a e=>C b o a e) r q p m l⟩
 self:=λ_ _ _ _ _ st h=>wpAny_pyIter_rangeiter st h
section
def qak{lo:J}(I:Inv X c d H s)(l:-(2 ^ 62)<=lo)(k:lo<2 ^ 62)(j:-(2 ^ 62)<=a)(i:a<2 ^ 62)(q:R (Itr lo (a - lo).toNat) H):wpAny (model X.prog X.w) X.A (pyIter (.ref s.heap.objs.size)) (PIE X c d tg R) E { s with heap:=s.heap.push { cls:=.type "range",data:=.fields #[.int lo t,.int a u,.int 1 v] },toks:=f }:=by
 refine wpAny_pyIter_range (IsRange.new ..) (small_one l k j i) ?_;have g:Inv X c d H { s with heap:=s.heap.push { cls:=.type "range",data:=.fields #[.int lo t,.int a u,.int 1 v] },toks:=f }:=I.kept λb o e=>Qqx _ e
 refine⟨(s.heap.push { cls:=.type "range",data:=.fields #[.int lo t,.int a u,.int 1 v] }).objs.size,[(s.heap.push { cls:=.type "range",data:=.fields #[.int lo t,.int a u,.int 1 v] }).objs.size],_,_,H,rfl,
  g.kept λb o e=>Qqx _ e,qbx _ lo (a - lo).toNat,?_,λb h=>?_,q⟩
 ·have n:lo+((0:Y0):J)*1=lo:=by simp
  have m:(((a - lo).toNat:Y0):J) - ((0:Y0):J)=Builtin.Range.rangeSize lo a 1:=by rw[rangeSize_one]; split<;>omega
  rw[n,m];exact Qqg _ rfl
 ·have e:b=(s.heap.push { cls:=.type "range",data:=.fields #[.int lo t,.int a u,.int 1 v] }).objs.size:=by simpa using h
  subst e;exact g.fpOk (Qqk _) (g.hok.fresh (Qqk _))
noncomputable def iRng1(ta:TA):TI:=λσ H R=>ta σ H λvs H1=>∃j:J,vs=[.int j]/\-(2 ^ 62)<=j/\j<2 ^ 62/\R (Itr 0 j.toNat) H1
noncomputable def iRng2(ta:TA):TI:=λσ H R=>ta σ H λvs H1=>∃i j:J,vs=[.int i,.int j]/\(-(2 ^ 62)<=i/\i<2 ^ 62/\-(2 ^ 62)<=j/\j<2 ^ 62)/\R (Itr i (j - i).toNat) H1
def qdj(l:Gl X "range")(k:X.mg "range" = B)(m:PA X [a] c)(i:starEach [a] X.env=[(Y6,Qb a X.env)]:=by rfl):PI X tg (.Call (.Name "range" p) [a] [] pos) (iRng1 c):=by
 intro pins s σ H R I h;refine Call_ (qx9 I l k boot_range (PyProof.Rows.callWith_type1 (thn (m pos pins s σ H _ I h) λo u ⟨vs,H1,n,f,b⟩=>?_) i rfl));obtain⟨j,e,b,g,q⟩:=b;subst e
 cases f with
 |cons r d=>
  cases d;obtain⟨t,rfl⟩:=r;exact call_range_1 (qak n (by omega) (by omega) b g (by simpa using q))
def qdx(v:Gl X "range")(u:X.mg "range" = B)(w:PA X [a,b] g)(o:starEach [a,b] X.env=[(Y6,Qb a X.env),(Y6,Qb b X.env)]:=by rfl)(c:starEach [b] X.env=[(Y6,Qb b X.env)]:=by rfl):
  PI X tg (.Call (.Name "range" p) [a,b] [] pos) (iRng2 g):=by
 intro pins s σ H R I h;refine Call_ (qx9 I v u boot_range (PyProof.Rows.callWith_type1 (thn (w pos pins s σ H _ I h) λy A ⟨vs,H1,x,k,f⟩=>?_) (by rw[o,c]) (by rw[c]; rfl)));obtain⟨i,j,e,⟨f,n,m,l⟩,q⟩:=f;subst e
 cases k with
 |cons r d=>
  cases d with
  |cons r' d=>
   cases d;obtain⟨t,rfl⟩:=r;obtain⟨z,rfl⟩:=r';exact call_range_2 (qak x f n m l q)
noncomputable def tFor(wi:TI)(g:TG)(tb:TS):TS:=λD σ H=>wi σ H λJq H1=>∃W:Y0->Y0->St->Hp->Prop,(∃m,W 0 m σ H1)/\∀i m σ H,W i m σ H->
 (Jq.stop i H/\D.nx σ H)\/(Jq.go i H/\∃N:St->Hp->Prop,(∀σ' H',N σ' H'->∃m',m'<m/\W (i+1) m' σ' H')/\∀x H',Jq.yld i H x H'->g x σ H' λσ2 H2=>tb { D with nx:=N,ct:=N,bk:=D.nx } σ2 H2)
noncomputable def qv6(fp:L Y7)(h:Heap):L (Y7×Obj):=fp.filterMap λb=>(h.get? b).map λo=>(b,o)
def qq0(a:b∈fp)(e:h.get? b=Y o):(b,o)∈qv6 fp h:=Qxq.mpr ⟨b,a,by rw[e]; rfl⟩
def qdf(a:p∈qv6 fp h):p.1∈fp/\h.get? p.1=Y p.2:=by
 obtain⟨b,c,e⟩:=Qxq.mp a
 cases q:h.get? b with
 |none=>rw[q]at e; cases e
 |some o=>
  rw[q]at e;have d:=Option.some.inj e;subst d;exact⟨c,q⟩
def Inv.pinned(I:Inv X a c H s)(i:∀b∈fp,FpOk X a H b)(h:∀b∈fp,∃o,s.heap.get? b=Y o/\∀v,o.data≠.cell v):Inv X (a++qv6 fp s.heap) c H s:=
 I.pins_of λp hp=>(Qqn.mp hp).elim (λz=>I.pin p (Qqr _ z)) λz=>by
  obtain⟨f,e⟩:=qdf z;obtain⟨l,k,j,_⟩:=i p.1 f;obtain⟨o,g,d⟩:=h p.1 f;rw[e]at g; cases g;exact⟨e,l,k,j,d⟩
def Inv.unpinned(I:Inv X (a++pl) b H s):Inv X a b H s:=I.pins_of λp hp=>I.pin p (Qqr _ (Qze _ hp))
def qij(F:PassesOwn (model X.prog X.w) X.A X.env X.xe)(hc:X.calm=O)(hi:PI X tg l wi)(hg:PG X tg g)(p:PSs X body tb)(hs:∀x,foldedSetIterable l X.env x=pure x):PS X (.For tg l body [] pos) (tFor wi g tb):=by
 intro pins s σ H D I h;refine wpAny_For (thn (hi pins s σ H _ I h) λv s1 h1=>thn h1 λa0 s2 h2=>?_) hs;obtain⟨it,fp,tn,Jq,H2,e,I2,T,Q,f2,W,⟨m0,w0⟩,A⟩:=h2;subst e;have k:∀{H':Hp},(∀b∈fp,H' b=B)->∀b∈fp,FpOk X pins H' b:=λhn b p=>⟨hn b p,(f2 b p).2⟩
 refine codeAny_forLoop_any (λn s'=>∃i j H',Inv X pins j H' s'/\tn i s'.heap/\(∀b∈fp,H' b=B)/\W i n j H') ?_ m0 ⟨0,σ,H2,I2,Q,λb p=>(f2 b p).1,w0⟩;rintro n s3 ⟨i,c,K,I3,C,G,w3⟩;rcases A i n c K w3 with⟨stop,qn⟩|⟨go,N,hN,step⟩
 ·refine Zw F (thn (T.done X rfl rfl rfl hc i pins s3 c K X.xe I3 (k G) C stop) λr s4 ⟨S,I4⟩=>?_);subst S;exact wpAny_execs_nil ⟨c,K,I4,qn⟩
 ·refine Zw F (thn (T.item X rfl rfl rfl hc i pins s3 c K X.xe I3 (k G) C go) λr s4 ⟨u,S,h4⟩=>?_);subst S;refine Zw F (thn h4 λ_ s5 ⟨x,H5,I5,r5,y5,z,U⟩=>?_);have V:=I5.pinned (k U) (T.obj _ _ z);refine Zw F (thn (hg _ s5 c H5 x u _ V r5 (step x H5 y5)) λ_ s6 ⟨P,H6,I6,q6⟩=>?_);refine Zw F (thn (p _ s6 P H6 _ I6 q6) λf R y=>?_);have q:∀{a:St}{w:Hp},Inv X (pins++qv6 fp s5.heap) a w R->N a w->∃m,m<n/\∃i j H',Inv X pins j H' R/\tn i R.heap/\(∀b∈fp,H' b=B)/\W i m j H':=λ{a w} t E=>by
   obtain⟨m',hm,w7⟩:=hN a w E;refine⟨m',hm,i+1,a,w,t.unpinned,T.keep _ _ _ z λb p o e=>(t.pin (b,o) (Qqr _ (Qqr _ (qq0 p e)))).1,λb p=>?_,w7⟩;obtain⟨o,e,d⟩:=T.obj _ _ z b p;exact(t.pin (b,o) (Qqr _ (Qqr _ (qq0 p e)))).2.1
  cases f with
  |next=>obtain⟨a,w,t,E⟩:=y; exact q t E
  |cont=>obtain⟨a,w,t,E⟩:=y; exact q t E
  |brk=>obtain⟨a,w,t,y⟩:=y; exact⟨a,w,t.unpinned,y⟩
  |ret v=>obtain⟨x7,a,w,t,r7,y⟩:=y; exact⟨x7,a,w,t.unpinned,r7,y⟩
end
abbrev R2:=V->V->Hp->VK->Prop
def OpR(X:Cx)(f:Y8->Y8->Sem Y8)(r:R2):Prop:=
 ∀(pins:L (Y7×Obj)) (s:Qz) (σ:St) (H:Hp) (x y:V) (v u:Y8) (Q:VK),Inv X pins σ H s->RelV x v->RelV y u->r x y H Q->
  wpAny (model X.prog X.w) X.A (f v u) (EP X pins σ Q) X.xe s
def UnR(X:Cx)(f:Y8->Sem Y8)(r:V->Hp->VK->Prop):Prop:=
 ∀(pins:L (Y7×Obj)) (s:Qz) (σ:St) (H:Hp) (x:V) (v:Y8) (Q:VK),Inv X pins σ H s->RelV x v->r x H Q->
  wpAny (model X.prog X.w) X.A (f v) (EP X pins σ Q) X.xe s
def qqi(X:Cx)(f:Y8)(r:L V->Hp->VK->Prop):Prop:=
 ∀(pins:L (Y7×Obj)) (s:Qz) (σ:St) (H:Hp) (xs:L V) (us:L Y8) (Q:VK),Inv X pins σ H s->Vals xs us->r xs H Q->
  wpAny (model X.prog X.w) X.A (call f us) (EP X pins σ Q) X.xe s
def TruR(X:Cx)(r:V->Hp->(Yb->Hp->Prop)->Prop):Prop:=
 ∀(pins:L (Y7×Obj)) (s:Qz) (σ:St) (H:Hp) (x:V) (v:Y8) (Q:Yb->Hp->Prop),Inv X pins σ H s->RelV x v->r x H Q->
  wpAny (model X.prog X.w) X.A (truthy v) (TP X pins σ Q) X.xe s
noncomputable def tOp(r:R2)(ta tb:TE):TE:=λσ H Q=>ta σ H λx H1=>tb σ H1 λy H2=>r x y H2 Q
noncomputable def tUn(r:V->Hp->VK->Prop)(ta:TE):TE:=λσ H Q=>ta σ H λx H1=>r x H1 Q
noncomputable def rI(C:J->J->Prop)(g:J->J->V):R2:=λx y H Q=>∃i j,x=.int i/\y=.int j/\C i j/\Q (g i j) H
noncomputable def rI0(g:J->J->V):R2:=λx y H Q=>∃i j,x=.int i/\y=.int j/\Q (g i j) H
def rU(g:J->V):V->Hp->VK->Prop:=λx H Q=>∃i,x=.int i/\Q (g i) H
section
def binT(r:PE X a ta)(q:PE X b tb){R:V->V->Hp->Prop}(I:Inv X d e H s)(h:ta e H λx H1=>tb e H1 λy H2=>R x y H2){f:Y8->Y8->Sem Y8}(p:∀v u j x y H2,Inv X d e H2 j->RelV x v->RelV y u->R x y H2->wpAny (model X.prog X.w) X.A (f v u) Q X.xe j):
  wpAny (model X.prog X.w) X.A (Qb a X.env) (λv i=>wpAny (model X.prog X.w) X.A (Qb b X.env) (λu g=>wpAny (model X.prog X.w) X.A (f v u) Q X.xe g) X.xe i) X.xe s:=by
 refine thn (r d s e H _ I h) λv k ⟨x,H1,w,m,o⟩=>?_;refine thn (q d k e H1 _ w o) λu j ⟨y,H2,t,l,n⟩=>?_;exact p v u j x y H2 t m l n
def pe_op(i:OpR X (Q2 d) r)(k:PE X a ta)(j:PE X b tb):PE X (.BinOp a d b pos) (tOp r ta tb):=by
 intro pins s σ H Q I h;exact wpAny_BinOp (binT k j I h λv u e x y H2 l g f q=>i pins e σ H2 x y v u Q l g f q)
def pe_un(i:UnR X (unaryOp d) r)(j:PE X a ta):PE X (.UnaryOp d a pos) (tUn r ta):=by
 intro pins s σ H Q I h;exact UnaryOp_ (thn (j pins s σ H _ I h) λv e ⟨x,H1,k,f,g⟩=>i pins e σ H1 x v Q k f g)
def opI{g:J->J->J}(d:∀(i j:J) (t u:Tok) (s:Qz) (Q:Y8->Qz->Prop) (E:Y8->Qz->Prop),C i j->Q (.int (g i j) s.toks) { s with toks:=s.toks+1 }->wpAny (model X.prog X.w) X.A (f (.int i t) (.int j u)) Q E s):
  OpR X f (rI C λi j=>.int (g i j)):=by
 intro pins s σ H x y v u Q I l k h;obtain⟨i,j,rfl,rfl,m,q⟩:=h;obtain⟨t,rfl⟩:=l;obtain⟨e,rfl⟩:=k;exact d i j t e s _ _ m ⟨.int (g i j),H,I.tok _,⟨_,rfl⟩,q⟩
def opI0{g:J->J->J}(d:∀(i j:J) (t u:Tok) (s:Qz) (Q:Y8->Qz->Prop) (E:Y8->Qz->Prop),Q (.int (g i j) s.toks) { s with toks:=s.toks+1 }->wpAny (model X.prog X.w) X.A (f (.int i t) (.int j u)) Q E s):
  OpR X f (rI0 λi j=>.int (g i j)):=by
 intro pins s σ H x y v u Q I l k h;obtain⟨i,j,rfl,rfl,q⟩:=h;obtain⟨t,rfl⟩:=l;obtain⟨e,rfl⟩:=k;exact d i j t e s _ _ ⟨.int (g i j),H,I.tok _,⟨_,rfl⟩,q⟩
def opB0{g:J->J->Yb}(d:∀(i j:J) (t u:Tok) (s:Qz) (Q:Y8->Qz->Prop) (E:Y8->Qz->Prop),Q (.bool (g i j)) s->wpAny (model X.prog X.w) X.A (f (.int i t) (.int j u)) Q E s):
  OpR X f (rI0 λi j=>.bl (g i j)):=by
 intro pins s σ H x y v u Q I l k h;obtain⟨i,j,rfl,rfl,q⟩:=h;obtain⟨t,rfl⟩:=l;obtain⟨e,rfl⟩:=k;exact d i j t e s _ _ ⟨.bl (g i j),H,I,rfl,q⟩
def CPow(i j:J):Prop:=0<=j/\j<=1000000/\i.natAbs<2 ^ 64
def CMul(i j:J):Prop:=(-(2 ^ 64)<i/\i<2 ^ 64)\/(-(2 ^ 64)<j/\j<2 ^ 64)
def CMul.ok(h:CMul i j):IntMulOk i j:=by
 rcases h with⟨h1,h2⟩|⟨h1,h2⟩
 ·exact .of_left (intBits_le_64 h1 h2)
 ·exact .of_right (intBits_le_64 h1 h2)
def op_add:OpR X (Q2 .Add) (rI0 λi j=>.int (i+j)):=opI0 λ_ _ _ _ _ _ _ q=>add_int q
def op_sub:OpR X (Q2 .Sub) (rI0 λi j=>.int (i - j)):=opI0 λ_ _ _ _ _ _ _ q=>sub_int q
def op_mul:OpR X (Q2 .Mult) (rI CMul λi j=>.int (i*j)):=opI λ_ _ _ _ _ _ _ d q=>mul_int q d.ok
def op_mod:OpR X (Q2 .Mod) (rI (λ_ j=>0<j) λi j=>.int (i % j)):=opI λi j _ _ _ _ _ d q=>by
 have h1:=d;exact mod_int' (by omega) (by rw[Int.fmod_eq_emod_of_nonneg i (by omega)]; exact q)
def op_pow:OpR X (Q2 .Pow) (rI CPow λi j=>.int (i ^ j.toNat)):=opI λ_ _ _ _ _ _ _ d q=>pow_int_small d.1 d.2.1 d.2.2 q
def unI{g:J->J}(d:∀(i:J) (t:Tok) (s:Qz) (Q:Y8->Qz->Prop) (E:Y8->Qz->Prop),Q (.int (g i) s.toks) { s with toks:=s.toks+1 }->wpAny (model X.prog X.w) X.A (f (.int i t)) Q E s):
  UnR X f (rU λi=>.int (g i)):=by
 intro pins s σ H x v Q I e h;obtain⟨i,rfl,q⟩:=h;obtain⟨t,rfl⟩:=e;exact d i t s _ _ ⟨.int (g i),H,I.tok _,⟨_,rfl⟩,q⟩
def un_neg:UnR X (unaryOp .USub) (rU λi=>.int (-i)):=unI λ_ _ _ _ _ q=>neg_int q
end
section
def qit(I:Inv X d f H s)(q:Q (.bl k) H)(e:k=g):EP X d f Q (.bool g) s:=by
 subst e;exact⟨.bl k,H,I,rfl,q⟩
def op_lt:OpR X (Qh .Lt) (rI0 λi j=>.bl (decide (i<j))):=opB0 λ_ _ _ _ _ _ _ q=>lt_int q
def op_le:OpR X (Qh .LtE) (rI0 λi j=>.bl (decide (i<=j))):=opB0 λ_ _ _ _ _ _ _ q=>le_int q
def op_gt:OpR X (Qh .Gt) (rI0 λi j=>.bl (decide (j<i))):=opB0 λ_ _ _ _ _ _ _ q=>gt_int q
def op_ge:OpR X (Qh .GtE) (rI0 λi j=>.bl (decide (j<=i))):=opB0 λ_ _ _ _ _ _ _ q=>ge_int q
def op_isN:OpR X (Qh .Is) (λx y H Q=>y=.non/\Q (.bl (decide (x=.non))) H):=by
 intro pins s σ H x y v u Q I d e h;obtain⟨rfl,q⟩:=h;cases e;refine is_none_gen (qit I q ?_)
 cases x<;>first
  |(cases d; rfl)
  |(obtain⟨t,rfl⟩:=d; rfl)
def qmr:OpR X (Qh .IsNot) (λx y H Q=>y=.non/\Q (.bl (!decide (x=.non))) H):=by
 intro pins s σ H x y v u Q I d e h;obtain⟨rfl,q⟩:=h;cases e;refine isnot_none_gen (qit I q ?_)
 cases x<;>first
  |(cases d; rfl)
  |(obtain⟨t,rfl⟩:=d; rfl)
def qmh(i:OpR X (Qh d) r)(l:PE X a ta)(k:PE X b tb)(j:Zh d b=Y6):PE X (.Compare a [d] [b] pos) (tOp r ta tb):=by
 intro pins s σ H Q I h;exact wpAny_Compare1 (binT l k I h λv u e x y H2 m g f q=>i pins e σ H2 x y v u Q m g f q) j
noncomputable def tTest(t:TE):TT:=λσ H Q=>t σ H λx H'=>∃k,x=.bl k/\Q k H'
def ql7(p:OpR X (Qh d) r)(w:PE X a ta)(t:PE X b tb)(q:Zh d b=Y6):PT X (.Compare a [d] [b] pos) (tTest (tOp r ta tb)):=by
 intro pins s σ H Q I h
 refine wpAny_isTrue_Compare1 (thn (w pins s σ H _ I h) λv g ⟨x,H1,D,l,o⟩=>thn (t pins g σ H1 _ D o) λu f ⟨y,H2,C,j,n⟩=>
  thn (p pins f σ H2 x y v u _ C l j n) λc F ⟨z,E,A,i,k,e,m⟩=>?_) q
 subst e;cases i;exact Qf ⟨E,A,m⟩
noncomputable def qh8(r r':R2)(ta tb tc:TE):TE:=λσ H Q=>ta σ H λx H1=>tb σ H1 λy H2=>r x y H2 λz H3=>∃k,z=.bl k/\
 (if k=O then tc σ H3 λw' H4=>r' y w' H4 Q else Q (.bl Y6) H3)
def qg3(P:OpR X (Qh g) r)(i:OpR X (Qh f) l)(U:PE X a ta)(T:PE X b tb)(S:PE X c tc)(R:lastMarks [g,f] [b,c]=Y6):PE X (.Compare a [g,f] [b,c] pos) (qh8 r l ta tb tc):=by
 intro pins s σ H Q I h
 refine Compare_chain (thn (U pins s σ H _ I h) λv C ⟨x,H1,I1,F,N⟩=>chain_link (thn (T pins C σ H1 _ I1 N) λu A ⟨y,H2,W,j,K⟩=>
  thn (P pins A σ H2 x y v u _ W F j K) λd w ⟨z,o,n,E,k,e,m⟩=>?_)) R
 subst e;cases E;refine Qf ?_
 cases k with
 |false=>exact ite_ff ⟨.bl Y6,o,n,rfl,m⟩
 |true=>exact ite_tt (chain_last (thn (S pins w σ o _ n m) λq t ⟨p,H4,V,D,G⟩=>i pins t σ H4 y p u q Q V j D G))
def qgi(T:OpR X (Qh g) r)(i:OpR X (Qh f) l)(ha:PE X a ta)(W:PE X b tb)(V:PE X c tc)(U:lastMarks [g,f] [b,c]=Y6):PT X (.Compare a [g,f] [b,c] pos) (tTest (qh8 r l ta tb tc)):=by
 intro pins s σ H Q I h
 refine isTrue_chain (thn (ha pins s σ H _ I h) λv C ⟨x,H1,I1,G,R⟩=>test_link (thn (W pins C σ H1 _ I1 R) λu A ⟨y,H2,I2,j,P⟩=>
  thn (T pins A σ H2 x y v u _ I2 G j P) λd w ⟨z,o,n,F,k,e,m⟩=>?_)) U
 subst e;cases F;refine Qf ?_
 cases k with
 |false=>
  obtain⟨k',e',S⟩:=m;cases e';exact ite_ff ⟨o,n,S⟩
 |true=>
  refine ite_tt (test_last (thn (V pins w σ o _ n m) λq t ⟨p,H4,I4,E,N⟩=>thn (i pins t σ H4 y p u q _ I4 j E N) λd' s5 ⟨z2,H5,I5,D,k2,e2,K⟩=>?_));subst e2;cases D;exact Qf ⟨H5,I5,K⟩
def TruV(K:Qqq)(x:V)(H:Hp)(k:Yb):Prop:=
 match x with
 |.non=>k=Y6
 |.bl b=>k=b
 |.int i=>k=(i != 0)
 |.str y=>y.length<=sizeLine/\k=((y.length:J) != 0)
 |.byt y=>y.size<=sizeLine/\k=((y.size:J) != 0)
 |.ref p=>(∃xs,SqL K H p xs/\k = !xs.isEmpty)\/(∃xs,SqT K H p xs/\k = !xs.isEmpty)\/∃kvs,H p=Y (.dK kvs)/\k = !kvs.isEmpty
 |_=>False
def qbr{kvs:L (d×V)}{vs:L (d×Y8)}(r:KV kvs vs):(!vs.isEmpty) = !kvs.isEmpty:=by
 cases r<;>rfl
def qkm(r:Vals xs d):(!d.toArray.isEmpty) = !xs.isEmpty:=by
 cases r<;>simp
def qal:(sizeLine:Y0)<2 ^ 63:=by rw[Q0]; decide
def tru_ok:TruR X (λx H Q=>∃k,TruV X.K x H k/\Q k H):=by
 intro pins s σ H x v Q I g h;obtain⟨k,e,q⟩:=h;have hl:=qal;have hs:=Q0
 cases x with
 |non=>
  cases g;have d:=e;subst d;exact truthy_none ⟨H,I,q⟩
 |bl b=>
  cases g;have d:=e;subst d;exact Qf ⟨H,I,q⟩
 |int i=>
  obtain⟨t,rfl⟩:=g;have d:=e;subst d;exact PySem.P.truthy_int ⟨H,I,q⟩
 |str y=>
  obtain⟨t,rfl⟩:=g;obtain⟨o,d⟩:y.length<=sizeLine/\k=((y.length:J) != 0):=e;subst d;exact PySem.P.truthy_str (by omega) ⟨H,I.tok _,q⟩
 |byt y=>
  obtain⟨t,rfl⟩:=g;obtain⟨o,d⟩:y.size<=sizeLine/\k=((y.size:J) != 0):=e;subst d;exact PySem.W.truthy_bytes (by omega) ⟨H,I.tok _,q⟩
 |ref p=>
  cases g;have d:=e;rcases d with⟨xs,j,d⟩|⟨xs,j,d⟩|⟨kvs,j,d⟩
  ·subst d;obtain⟨l,r,pl,n⟩:=I.list j;have f:=r.length;exact wpAny_truthy_list pl.isList (by simp only[Qqd]; omega) ⟨H,I.tok _,by rw[qkm r]; exact q⟩
  ·subst d;obtain⟨l,r,pl,n⟩:=I.tuple j;have f:=r.length;exact truthy_tuple pl (by simp only[Qqd]; omega) ⟨H,I.tok _,by rw[qkm r]; exact q⟩
  ·subst d;obtain⟨n,u,vs,r,m⟩:kvs.length<=sizeLine/\(p==Qn)=Y6/\∃vs,KV kvs vs/\s.heap.DictOf (mixKind X.prog X.w) p vs:=I.hok p _ j;have f:=Paired.length r;exact wpAny_truthy_dict u m (by omega) ⟨H,I.tok _,by rw[qbr r]; exact q⟩
 |_=>exact(e).elim
def qgh(j:PE X a ta)(i:∀d,isTrue a X.env d=(do let v <- d; standAt a.pos; holding [v] (truthy v))):
  PT X a (λσ H Q=>ta σ H λx H'=>∃k,TruV X.K x H' k/\Q k H'):=by
 intro pins s σ H Q I h;exact isTrue_plain (thn (j pins s σ H _ I h) λv e ⟨x,H1,l,f,g⟩=>tru_ok pins e σ H1 x v Q l f g) (i _)
def vals1(r:Vals [x] us):∃u,us=[u]/\RelV x u:=by
 cases r with
 |cons e d=>cases d; exact⟨_,rfl,e⟩
def vals2(r:Vals [x,y] us):∃u w',us=[u,w']/\RelV x u/\RelV y w':=by
 cases r with
 |cons g f=>
  cases f with
  |cons e d=>cases d; exact⟨_,_,rfl,g,e⟩
def qfx(e:X.calm=O):qqi X (.builtin "min") (λxs H Q=>∃i j,xs=[.int i,.int j]/\Q (.int (if j<i then j else i)) H):=by
 intro pins s σ H xs g Q I r h;obtain⟨i,j,rfl,q⟩:=h;obtain⟨u,f,rfl,⟨t,rfl⟩,⟨l,rfl⟩⟩:=vals2 r;refine min_two_ints (I.ok.hd e) λh' tk k=>⟨_,H,I.kept k,?_,q⟩
 by_cases d:j<i
 ·rw[Z6 d,Z6 d]; exact⟨_,rfl⟩
 ·rw[Z5 d,Z5 d]; exact⟨_,rfl⟩
end
structure ObjM (h:Heap) (x dx C:Y7) (mA:Y5->Y3 Y8):Prop where
 obj:h.get? x=Y (PySem.W.instObj C dx)
 ns:h.Ns1 dx mA
 ne:dx≠x
def qds{h:Heap}(n:h.Ns1 f d):∃c,h.get? f=Y c/\∀name,PySem.W.lookIn name c=Y (d name):=by
 obtain⟨o,es,m,i,hd,k,_,j⟩:=n;refine⟨o,i,λname=>?_⟩;have e:=j name;unfold nsFind findBy at e;rw[<- Array.find?_toList]at e;unfold PySem.W.lookIn;rw[hd];dsimp only
 split
 ·rename_i y q;rw[q]at e;exact congrArg Y e
 ·rename_i q;rw[q]at e;have a:es.toList.any (·.refKey)=false:=by
   rw[Qjp];intro y g;obtain⟨z,t,b⟩:=k y (Array.mem_toList_iff.mp g);simp[DictEntry.refKey,b]
  have l:¬ es.toList.any (·.refKey)=true:=by rw[a]; exact Qqu
  rw[Z5 l];exact congrArg Y e
def ObjM.look(I:ObjM h x c C b):∃a,PySem.W.InstAt h x (PySem.W.instObj C c) C (Y a)/\∀name,PySem.W.lookIn name a=Y (b name):=
 let ⟨a,d,hl⟩:=qds I.ns
 ⟨a,⟨I.obj,rfl,rfl,d⟩,hl⟩
section
variable {prog:Program}{w:Qk}{A:Qv}{E:Y8->Qz->Prop}{s:Qz}{K:Qqq}{x dx C f:Y7}{mA:Y5->Y3 Y8}{name:Y5}{v:Y8}
def qnp(X:K.In s.heap)(I:ObjM s.heap x dx C mA)(d:PySem.W.plainGet K C name=O)(c:PySem.W.hasDictIn K C=O)(e:PySem.W.findIn K (.ref C) name=Y B)(b:mA name=Y v)(a:PySem.W.handedIn v=O)(h:Q v { s with toks:=s.toks+1 }):
  wpAny (model prog w) A (getAttr (.ref x) name expr) Q E s:=by
 obtain⟨g,Jq,hl⟩:=I.look;exact PySem.W.get_value X Jq (Qjh d).1 (PySem.W.findObj_own c e rfl (by rw[hl,b])) a h
def qha(X:K.In s.heap)(I:ObjM s.heap x dx C mA)(a:PySem.W.plainGet K C name=O)(e:PySem.W.findIn K (.ref C) name=Y (Y (.ref f)))(d:PySem.W.isFn K (.ref f)=O)(c:mA name=B)(h:Q (.ref f,[.ref x]) s):
  wpAny (model prog w) A (Z0 (.ref x) name pl) Q E s:=by
 obtain⟨b,Jq,hl⟩:=I.look;exact PySem.W.method_fn X Jq (Qjh a).1 (Qjh a).2 e (beq_iff_eq.mp d) (by show(PySem.W.lookIn name b).map (·.isSome)=Y Y6; rw[hl,c]; rfl) h
def qlt(X:K.In s.heap)(I:ObjM s.heap x dx C mA)(n:PySem.W.findIn K (.ref C) "__setattr__" = Y (Y (.builtin "object.__setattr__")))(o:PySem.W.plainOver K C=O)(m:PySem.W.takerIn K C name=Y B)(p:PySem.W.hasDictIn K C=O)(l:PySem.Within mA ns)(hsz:ns.length<=sizeLine)(h:∀h',ObjM h' x dx C (λy=>if y=name then Y v else mA y)->Heap.SameBut dx s.heap h'->Q () { s with heap:=h',toks:=s.toks+2 }):
  wpAny (model prog w) A (setAttr (.ref x) name v) Q E s:=by
 obtain⟨z,Jq,hl⟩:=I.look;refine PySem.W.set_plain X Jq n (PySem.W.osa_open X Jq o m λb=>?_);obtain⟨D,q,i⟩:=PySem.W.any_some p;have k:=I.obj;refine Qq (Qj (Qq (Qq (wpAny_loadPart k (Qq (PySem.W.Looks.here (PySem.W.looks_clsIn X q) ?_))))));rw[i];refine Qj (Qq (Qj (Qq ?_)));refine wpAny_nsSet1 I.ns λh' d c=>?_;obtain⟨oD,t,u,e,g,j⟩:=d.count (PySem.Within.cons name v l);refine Qq (wpAny_lookBehind e (by rw[g]; exact pastItsLine_dict (Qz0 j (by rw[Qqi]; omega))) ?_);exact Qj (h _ ⟨(c.2 _ (Ne.symm I.ne)).trans I.obj,d,I.ne⟩ c)
def qhx(X:K.In s.heap)(b:PySem.W.makesIn K C=O)(c:PySem.W.findIn K (.ref C) "__init__" = Y (Y (.ref f)))(e:PySem.W.typeIn K (.ref f)=Y (.type "function"))(h:Zd (model prog w) (A.under (.builtin "type.__call__" ⟨.ref C::vs,a⟩)) (.call (.ref f) ⟨.ref (s.heap.objs.size+1)::vs,a⟩) (PySem.W.InitBack (s.heap.objs.size+1) R)
   { s with heap:=(s.heap.push PySem.W.emptyDict).push (PySem.W.instObj C s.heap.objs.size) }):
  Zd (model prog w) A (.call (.ref C) ⟨vs,a⟩) R s:=by
 obtain⟨i,g,d,t,os⟩:=s;exact PySem.W.make_core (PySem.W.makes_of X b) (PySem.W.looks_findIn X c) (λself=>PySem.W.bind_fn X self e) (.inl rfl) h
end
noncomputable def putF(f:Y5)(v:V):L (Y5×V)->L (Y5×V)
 |[]=>[(f,v)]
 |(g,x)::r=>if g=f then(g,v)::r else(g,x)::putF f v r
theorem qjr(f g)(v):∀fs:L (Y5×V),(putF f v fs).lookup g=if g=f then Y v else fs.lookup g
 |[]=>by
  show List.lookup g [(f,v)]=_
  by_cases h:g=f
  ·have a:=beq_iff_eq.mpr h;simp only[List.lookup,a,Z6 h]
  ·have a:=beq_eq_false_iff_ne.mpr h;simp only[List.lookup,a,Z5 h]
 |(k,x)::r=>by
  have c:=qjr f g v r;rw[show putF f v ((k,x)::r)=(if k=f then(k,v)::r else(k,x)::putF f v r) from rfl]
  by_cases b:k=f
  ·rw[Z6 b]
   by_cases h:g=k
   ·have a:=beq_iff_eq.mpr h;simp only[List.lookup,a,Z6 (h.trans b)]
   ·have a:=beq_eq_false_iff_ne.mpr h;simp only[List.lookup,a,Z5 (λe:g=f=>h (e.trans b.symm))]
  ·rw[Z5 b]
   by_cases h:g=k
   ·have a:=beq_iff_eq.mpr h;simp only[List.lookup,a,Z5 (λe:g=f=>b (h.symm.trans e))]
   ·have a:=beq_eq_false_iff_ne.mpr h;simp only[List.lookup,a];exact c
theorem qj0(f)(v):∀fs:L (Y5×V),f∈(putF f v fs).map (·.1)/\∀g,g∈fs.map (·.1)->g∈(putF f v fs).map (·.1)
 |[]=>⟨by simp[putF],λg h=>by simp at h⟩
 |(k,x)::r=>by
  obtain⟨c,b⟩:=qj0 f v r;rw[show putF f v ((k,x)::r)=(if k=f then(k,v)::r else(k,x)::putF f v r) from rfl]
  by_cases a:k=f
  ·rw[Z6 a];subst a;exact⟨by simp,λg h=>by simpa using h⟩
  ·rw[Z5 a];refine⟨?_,λg h=>?_⟩
   ·rw[Qqm];exact Qqt _ c
   ·rw[Qqm]at h ⊢;rcases Qqy.mp h with e|e
    ·exact Qqy.mpr (.inl e)
    ·exact Qqt _ (b g e)
theorem qjs(f)(v):∀fs:L (Y5×V),(putF f v fs).length<=fs.length+1
 |[]=>by simp[putF]
 |(k,x)::r=>by
  have b:=qjs f v r;rw[show putF f v ((k,x)::r)=(if k=f then(k,v)::r else(k,x)::putF f v r) from rfl]
  by_cases a:k=f
  ·rw[Z6 a,Qqi,Qqi]; omega
  ·rw[Z5 a,Qqi,Qqi]; omega
def RelO.some_of(r:RelO (Y v) o):∃u,o=Y u/\RelV v u:=by
 cases o with
 |none=>exact(r).elim
 |some u=>exact⟨u,rfl,r⟩
def RelO.none_of(r:RelO B o):o=none:=by
 cases o with
 |none=>rfl
 |some u=>exact(r).elim
def qev(r:RelV v u):PySem.W.handedIn u=true:=by
 cases v with
 |non=>cases (r); rfl
 |bl b=>cases (r); rfl
 |int i=>obtain⟨t,e⟩:=(r); cases e; rfl
 |str x=>obtain⟨t,e⟩:=(r); cases e; rfl
 |byt b=>obtain⟨t,e⟩:=(r); cases e; rfl
 |flt b=>obtain⟨t,e⟩:=(r); cases e; rfl
 |ref a=>cases (r); rfl
 |ty n=>cases (r); rfl
section
def qqy(hok:HOk P w H h)(e:H a=Y (.ins C dx fs)):∃mA,ObjM h a dx C mA/\(∀f,RelO (fs.lookup f) (mA f))/\PySem.Within mA (fs.map (·.1))/\fs.length<=1000/\H dx=Y (.own a):=by
 obtain⟨d,z,ne,ob,mA,n,r,q⟩:=(hok a _ e)
 exact⟨mA,⟨ob,n,ne⟩,r,q,z,d⟩
end
structure Cls (K:Qqq) (C:Y7):Prop where
 pg:PySem.W.plainGet K C Str.empty=O
 hd:PySem.W.hasDictIn K C=O
 po:PySem.W.plainOver K C=O
 sa:PySem.W.findIn K (.ref C) "__setattr__" = Y (Y (.builtin "object.__setattr__"))
def Cls.get{K:Qqq}(c:Cls K C)(f):PySem.W.plainGet K C f=true:=c.pg
def NoAttr(K:Qqq)(C:Y7)(f:Y5):Prop:=PySem.W.findIn K (.ref C) f=Y B
def NoAttr.taker{K:Qqq}(n:NoAttr K C f):PySem.W.takerIn K C f=Y none:=by
 unfold PySem.W.takerIn;rw[show PySem.W.findIn K (.ref C) f=Y B from n]
 rfl
structure Meth (K:Qqq) (C:Y7) (m:Y5) (f:Y7):Prop where
 at_:PySem.W.findIn K (.ref C) m=Y (Y (.ref f))
 fn:PySem.W.isFn K (.ref f)=O
 kp:Qzm K (.ref f)=O
section
def qbs(I:Inv X pins σ H s)(e:H a=Y (.ins C dx fs))(c:Cls X.K C)(n:NoAttr X.K C f)(l:fs.lookup f=Y v)(h:∀u s',Inv X pins σ H s'->RelV v u->Q u s'):wpAny (model X.prog X.w) A (getAttr (.ref a) f b) Q E s:=by
 obtain⟨mA,i,r,_,_,_⟩:=qqy I.hok e;obtain⟨u,g,d⟩:=RelO.some_of (by rw[<- l]; exact r f);exact qnp I.kIn i (c.get f) c.hd n g (qev d) (h u _ (I.tok _) d)
def qx1(I:Inv X pins σ H s)(e:H a=Y (.ins C dx fs))(c:Cls X.K C)(k:Meth X.K C m g)(l:fs.lookup m=B)(h:Q (.ref g,[.ref a]) s):wpAny (model X.prog X.w) A (Z0 (.ref a) m pl) Q E s:=by
 obtain⟨mA,b,r,_,_,_⟩:=qqy I.hok e;have hn:=RelO.none_of (by rw[<- l]; exact r m);exact qha I.kIn b (c.get m) k.at_ k.fn hn h
def qba(I:Inv X pins σ H s)(e:H a=Y (.ins C dx fs))(c:Cls X.K C)(n:NoAttr X.K C f)(F:fs.length<1000)(m:RelV y u)(h:∀s',Inv X pins σ (upd H a (.ins C dx (putF f y fs))) s'->Q () s'):wpAny (model X.prog X.w) A (setAttr (.ref a) f u) Q E s:=by
 obtain⟨mA,d,r,j,_,k⟩:=qqy I.hok e;have p:(fs.map (·.1)).length<=sizeLine:=by rw[Qqz,Q0]; omega
 refine qlt I.kIn d c.sa c.po n.taker c.hd j p λh' i l=>h _ ?_;have hd:∃o,h'.get? dx=Y o:=let ⟨o,_,_,D,_⟩:=i.ns; ⟨o,D⟩;refine I.write (by rw[e]; exact True.intro) (.inr k) (λb q w z=>(l.2 b w).trans z) hd ?_;refine⟨by rw[qzq d.ne]; exact k,?_,d.ne,i.obj,_,i.ns,λg=>?_,λg t=>?_⟩
 ·have:=qjs f y fs; omega
 ·rw[qjr]
  by_cases q:g=f
  ·rw[Z6 q,Z6 q]; exact m
  ·rw[Z5 q,Z5 q]; exact r g
 ·by_cases q:g=f
  ·rw[q]; exact(qj0 f y fs).1
  ·refine(qj0 f y fs).2 g (j g λz=>t ?_);show(if g=f then Y u else mA g)=B;rw[Z5 q]; exact z
def Inv.made(I:Inv X pins σ H s):Inv X pins σ (upd (upd H s.heap.objs.size (.own (s.heap.objs.size+1))) (s.heap.objs.size+1) (.ins C s.heap.objs.size []))
  { s with heap:=(s.heap.push PySem.W.emptyDict).push (PySem.W.instObj C s.heap.objs.size) }:=by
 have c:(s.heap.push PySem.W.emptyDict).get? s.heap.objs.size=Y PySem.W.emptyDict:=Qqg s.heap rfl;have i:((s.heap.push PySem.W.emptyDict).push (PySem.W.instObj C s.heap.objs.size)).get? (s.heap.objs.size+1)=Y (PySem.W.instObj C s.heap.objs.size):=by
  have:=Qqg (s.heap.push PySem.W.emptyDict) (o:=PySem.W.instObj C s.heap.objs.size) rfl;rwa [Qxz]at this
 have h:(s.heap.push PySem.W.emptyDict).Ns s.heap.objs.size (λ_=>B):=⟨PySem.W.emptyDict,#[],_,c,rfl,(λe g=>absurd g (by simp)),λ_=>rfl⟩
 have j:=I.laid (o:=.own (s.heap.objs.size+1)) (t':=s.toks) (λb u q=>Qqx _ q) (Qqk _) ⟨_,c⟩;refine j.laid (λb u q=>Qqx _ q) (Nat.le_of_eq (Qxz _ _)) ?_;have ne:s.heap.objs.size≠s.heap.objs.size+1:=Qq3 (Qzb _);refine⟨by rw[qzq ne,qzk],Qq8 _,ne,i,λ_=>B,(Heap.Ns1.of_empty h).at λo q=>Qqx _ q,λ_=>True.intro,λy d=>absurd rfl d⟩
def qov(c:Zx e f env (Qb e env)=Qb e env)(h:wpAny (model prog w) A (Qb e env) (λo b=>wpAny (model prog w) A (getAttr o f O) Q E b) E s):wpAny (model prog w) A (Qb (.Attribute e f pos) env) Q E s:=
 Attribute_any_ h (by rw[arm_eval_Attribute,c])
end
noncomputable def tFld(K:Qqq)(ta:TE)(f:Y5):TE:=λσ H Q=>ta σ H λx H1=>∃a C dx fs v,x=.ref a/\H1 a=Y (.ins C dx fs)/\Cls K C/\NoAttr K C f/\fs.lookup f=Y v/\Q v H1
noncomputable def sFld(K:Qqq)(ta tv:TE)(f:Y5):TS:=λD σ H=>tv σ H λy H1=>ta σ H1 λx H2=>∃a C dx fs,x=.ref a/\H2 a=Y (.ins C dx fs)/\Cls K C/\NoAttr K C f/\fs.length<1000/\
 D.nx σ (upd H2 a (.ins C dx (putF f y fs)))
section
def pe_fld(g:PE X e ta)(i:Zx e f X.env (Qb e X.env)=Qb e X.env):PE X (.Attribute e f pos) (tFld X.K ta f):=by
 intro pins s σ H Q I h;refine qov i (thn (g pins s σ H _ I h) λu t ⟨x,H1,m,b,a,C,dx,fs,v,ex,j,c,n,l,q⟩=>?_);subst ex;obtain rfl:u=Value.ref a:=b;exact qbs m j c n l λp r k d=>⟨v,H1,k,d,q⟩
def ps_fld(p:PE X o ta)(k:PE X value tv)(m:swapsWith value (Y (.Attribute o f pos')) pos.line X.env=pure Y6):PS X (.Assign [.Attribute o f pos'] value pos) (sFld X.K ta tv f):=by
 intro pins s σ H D I h;refine plainObj_wpAny_Assign_Attribute (thn (k pins s σ H _ I h) λu b ⟨y,H1,w,d,q⟩=>thn (p pins b σ H1 _ w q) λj A ⟨x,H2,v,g,a,C,dx,fs,ex,r,c,n,l,i⟩=>?_) m;subst ex;obtain rfl:j=Value.ref a:=g;exact qba v r c n l d λz t=>⟨σ,_,t,i⟩
def qm3(y:PE X e p)(I:Inv X d j H s)(h:p j H λx H1=>∃a C dx fs g,x=.ref a/\H1 a=Y (.ins C dx fs)/\Cls X.K C/\Meth X.K C m g/\fs.lookup m=B/\
   ∀n,Inv X d j H1 n->wpAny (model X.prog X.w) X.A (callWith pos (.ref g) [.ref a] (backTo pos (starEach b X.env)) (backToKw pos (keywordEach [] X.env))) Q X.xe n)(w:Qb (.Call (.Attribute e m i) b [] pos) X.env=(do
   let r <- Qb e X.env
   standAt i.atName
   let (f,first) <- holding [r] (Z0 r m pl)
   callWith pos f first (backTo pos (starEach b X.env)) (backToKw pos (keywordEach [] X.env)))):
  wpAny (model X.prog X.w) X.A (Qb (.Call (.Attribute e m i) b [] pos) X.env) Q X.xe s:=by
 refine Qjx (thn (y d s j H _ I h) λu n ⟨x,H1,t,v,a,C,dx,fs,g,ex,z,c,k,l,q⟩=>?_) w;subst ex;obtain rfl:u=Value.ref a:=v;exact qx1 t z c k l (q n t)
end
section
end
structure Room (k:Y0) (A:Qv):Prop where
 hd:A.handled=B
 dp:A.depth+3*k+5<recursionLimit
 un:A.units+16*k+200<cLine
def Room.mono(r:Room k A)(h:j<=k):Room j A:=⟨r.hd,by have:=r.dp; omega,by have:=r.un; omega⟩
theorem Room.deeper(r:Room (k+1) A)(env):Room k (A.deeper env):=
 ⟨r.hd,by have:=r.dp; show A.depth+1+3*k+5<_; omega,by have:=r.un; show A.units+3+16*k+200<_; omega⟩
def qbo{A:Qv}:(A.under (.builtin "type.__call__" ⟨.ref C::us,a⟩)).depth=A.depth+1:=by
 first|rfl|simp[Around.under,Code.weight,Code.isCreation,Code.isGuard,Code.isCaller,Code.frames,Code.isFrame,guardIds]
def qbn{A:Qv}:(A.under (.builtin "type.__call__" ⟨.ref C::us,a⟩)).units=A.units+1:=by
 first|rfl|simp[Around.under,Code.cUnits,Code.frames,Code.isFrame]
def Room.make(r:Room (k+1) A)(C)(us)(a):Room k (A.under (.builtin "type.__call__" ⟨.ref C::us,a⟩)):=
 ⟨r.hd,by have:=r.dp; rw[qbo]; omega,by have:=r.un; rw[qbn]; omega⟩
theorem Room.depth(r:Room k A):A.depth<recursionLimit:=by have:=r.dp; omega
theorem Room.units(r:Room k A):A.units+64<cLine:=by have:=r.un; omega
noncomputable def tNil:TA:=λ_ H Q=>Q [] H
noncomputable def qlh(ta:TE)(tr:TA):TA:=λσ H Q=>ta σ H λx H1=>tr σ H1 λxs H2=>Q (x::xs) H2
section
def pa_nil:PA X [] tNil:=λ_ _ _ _ H Q I h=>Calls.spliced_nil ⟨[],H,I,.nil,h⟩
def qqn(j:PE X e te)(i:PA X es t)(g:starEach (e::es) X.env=(Y6,Qb e X.env)::starEach es X.env:=by rfl):PA X (e::es) (qlh te t):=by
 intro pos pins s σ H Q I h;rw[g];refine Calls.spliced_cons (thn (j pins s σ H _ I h) λu a ⟨x,H1,l,c,f⟩=>?_);exact thn (i pos pins a σ H1 _ l f) λm n ⟨xs,H2,k,b,d⟩=>⟨x::xs,H2,k,.cons c b,d⟩
noncomputable def tTup(t:TA):TE:=λσ H Q=>t σ H λxs H1=>xs.length<=sizeLine/\∀p,H1 p=B->Q (.ref p) (upd H1 p (.tup xs))
noncomputable def tLst(t:TA):TE:=λσ H Q=>t σ H λxs H1=>xs.length<=sizeLine/\∀p,H1 p=B->Q (.ref p) (upd H1 p (.lst xs))
def qik{x1}(h:PA X es t):PE X (.Tuple es x1 pos) (tTup t):=by
 intro pins s σ H Q I f;refine wpAny_Tuple_spliced (thn (h pos pins s σ H _ I f) λd a ⟨xs,H1,c,r,z,q⟩=>⟨by rw[<- r.length]; exact z,?_⟩);have hf:=c.hok.fresh (Qqk _);refine⟨.ref a.heap.objs.size,upd H1 a.heap.objs.size (.tup xs),c.laid (λb u e=>Qqx _ e) (Qqk _) ?_,rfl,q _ hf⟩;exact⟨z,d,r,⟨_,Qqg _ rfl,rfl,_,rfl⟩⟩
def pe_lst(h:PA X es t):PE X (.List es pos) (tLst t):=by
 intro pins s σ H Q I f;refine wpAny_List_spliced (thn (h pos pins s σ H _ I f) λd a ⟨xs,H1,c,r,z,q⟩=>⟨by rw[<- r.length]; exact z,?_⟩);have hf:=c.hok.fresh (Qqk _);refine⟨.ref a.heap.objs.size,upd H1 a.heap.objs.size (.lst xs),c.laid (λb u e=>Qqx _ e) (Qqk _) ?_,rfl,q _ hf⟩;exact⟨z,d,0,r,Qqg _ rfl⟩
end
abbrev Sp:=L V->Hp->VK->XK->Prop
abbrev CXT:=L Env->Hp->Qz->XK->Y8->Qz->Prop
structure Env0 (P:Program) (w:Qk) (K:Qqq) (mg:Y5->Y3 Y8) (base:Heap) (A:Qv) (outer:L Env) (s:Qz) (H:Hp):Prop where
 frames:A.frames=Y outer
 mod:Mod K mg base
 bs:∀b o,base.get? b=Y o->s.heap.get? b=Y o/\H b=B
 bsz:base.objs.size<=s.heap.objs.size
 funs:s.heap.FunFrames base outer
 frf:∀b∈frs outer,H b=B
 hok:HOk P w H s.heap
 bare:Zn s.gens
def CE(outer:L Env)(P:Program)(w:Qk)(H:Hp)(s:Qz)(Q:VK)(u:Y8)(s':Qz):Prop:=
 ∃v H',s'.os=s.os/\Zn s'.gens/\Un (frs outer) [] H H' s.heap s'.heap/\HOk P w H' s'.heap/\RelV v u/\Q v H'
def CR(CX:CXT)(outer:L Env)(P:Program)(w:Qk)(H:Hp)(s:Qz)(Q:VK)(E:XK)(r:Result)(s':Qz):Prop:=
 match r with
 |.ok (.ret u)=>CE outer P w H s Q u s'
 |.ok _=>False
 |.error e=>CX outer H s E e s'
structure FnOk (P:Program) (w:Qk) (K:Qqq) (mg:Y5->Y3 Y8) (base:Heap) (CX:CXT) (k:Y0) (f:Y7) (fd:Qp) (ps:L Y5) (sp:Sp):Prop where
 len:∀vs H Q E,sp vs H Q E->vs.length=ps.length
 run:∀(A:Qv) (outer:L Env) (s:Qz) (H:Hp) (args:Args) (us:L Y8) (vs:L V) (Q:VK) (E:XK),Room k A->Env0 P w K mg base A outer s H->BindsTo s fd args (ps.zip us)->Vals vs us->sp vs H Q E->
  Zd (model P w) A (.call (.ref f) args) (CR CX outer P w H s Q E) s
def FnOk.imp{K:Qqq}(F:FnOk P w K mg base d k f c ps b)(h:∀vs H Q E,sp' vs H Q E->b vs H Q E):FnOk P w K mg base d k f c ps sp':=
 ⟨λvs H Q E q=>F.len vs H Q E (h _ _ _ _ q),λA outer s H a e vs Q E i j l g hs=>F.run A outer s H a e vs Q E i j l g (h _ _ _ _ hs)⟩
def Env0.make{K:Qqq}(e:Env0 P w K mg base A outer s H)(C)(us)(a):
  Env0 P w K mg base (A.under (.builtin "type.__call__" ⟨.ref C::us,a⟩)) outer s H:=⟨by first|exact e.frames|(simpa[Around.under,Code.envs,Code.isFrame,pushEnvs] using e.frames),e.mod,e.bs,e.bsz,e.funs,e.frf,e.hok,e.bare⟩
section
def Inv.env0(I:Inv X pins σ H s):Env0 X.prog X.w X.K X.mg X.base X.A X.stack s H:=
 ⟨I.ok.frames,I.ok.mod,I.bs,Qz0 I.ok.bsz I.sz,I.stack,I.stkFree,I.hok,I.bare⟩
def Inv.after(I:Inv X pins σ H s)(h:CE X.stack X.prog X.w H s Q u s'):EP X pins σ Q u s':=by
 obtain⟨v,H',os,bare,un,hok,r,q⟩:=h;obtain⟨c,g,d,t,a⟩:=s';obtain rfl:a=s.os:=os;exact⟨v,H',I.call un hok bare (λb z=>absurd z (by simp)),r,q⟩
end
noncomputable def tCall(sp:Sp)(dvs:L V)(E:XK)(t:TA):TE:=λσ H Q=>t σ H λvs H1=>sp (vs++dvs) H1 Q E
noncomputable def qlf(C:Y7)(m:Y5)(sp:Sp)(dvs:L V)(E:XK)(ta:TE)(t:TA):TE:=λσ H Q=>ta σ H λx H1=>∃a dx fs,x=.ref a/\H1 a=Y (.ins C dx fs)/\fs.lookup m=B/\
 t σ H1 λvs H2=>sp (x::(vs++dvs)) H2 Q E
noncomputable def tMake(C:Y7)(sp:Sp)(dvs:L V)(E:XK)(t:TA):TE:=λσ H Q=>t σ H λvs H1=>∀x dx,H1 x=B->H1 dx=B->dx≠x->
 sp (.ref x::(vs++dvs)) (upd (upd H1 dx (.own x)) x (.ins C dx [])) (λv H2=>v=.non/\Q (.ref x) H2) E
def Binds(K:Qqq)(fd:Qp)(ps:L Y5)(ds:L Y8):Prop:=
 ∀(s:Qz) (us:L Y8),K.In s.heap->(us++ds).length=ps.length->BindsTo s fd ⟨us,[]⟩ (ps.zip (us++ds))
def Binds.all{K:Qqq}(h:∀a:L Y8,a.length=ps.length->bindArgs b ⟨a,[]⟩=pure (ps.zip a)):Binds K b ps []:=λs a _ hl=>by
 rw[Qq7]at hl ⊢;exact .of_eq (h a hl)
def qkx(CX:CXT)(X:Cx)(E:XK):Prop:=∀(pins:L (Y7×Obj)) (σ:St) (H:Hp) (s:Qz) (e:Y8) (s':Qz),Inv X pins σ H s->CX X.stack H s E e s'->X.xe e s'
section
def qc5(F:FnOk X.prog X.w X.K X.mg X.base CX k f fd ps sp)(i:Room k X.A)(j:Binds X.K fd ps ds)(hd:Vals dvs ds)(g:qkx CX X E)(I:Inv X a c H s)(r:Vals vs us)(h:sp (vs++dvs) H Q E):wpAny (model X.prog X.w) X.A (call (.ref f) us) (EP X a c Q) X.xe s:=by
 have d:=r.append hd;have hl:(us++ds).length=ps.length:=by rw[<- d.length]; exact F.len _ _ _ _ h
 refine wpAny_call (Q9 (F.run X.A X.stack s H ⟨us,[]⟩ (us++ds) (vs++dvs) Q E i I.env0 (j s us I.kIn hl) d h) λr s' b=>?_)
 cases r with
 |error e=>exact g a c H s e s' I b
 |ok l=>
  cases l with
  |ret u=>exact I.after b
  |next=>exact False.elim b
  |brk=>exact False.elim b
  |cont=>exact False.elim b
def qmi(F:FnOk X.prog X.w X.K X.mg X.base CX k f fd ps sp)(g:Room k X.A)(l:Gl X x)(i:X.mg x=Y (.ref f))(j:Qzm X.K (.ref f)=O)(u:Binds X.K fd ps ds)(hd:Vals dvs ds)(d:qkx CX X E)
  (v:PA X (e::es) t) (b:(x==("__debug__" : Y5))=false:=by decide) (n:starEach (e::es) X.env=(Y6,Qb e X.env)::starEach es X.env:=by rfl) (a:(backTo pos (starEach es X.env)).any (·.1)=false:=by rfl) :
  PE X (.Call (.Name x p) (e::es) [] pos) (tCall sp dvs E t):=by
 intro pins s σ H Q I h;refine Zc (qyc I l i ?_ b);refine Qji I.ok.mod.kin j (thn (v pos pins s σ H _ I h) λw y ⟨vs,H1,c,r,q⟩=>⟨c.kIn,?_⟩) n a;exact qc5 F g u hd d c r q
def qma(K:PE X o ta)(c:Cls X.K C)(i:Meth X.K C m f)(F:FnOk X.prog X.w X.K X.mg X.base CX k f fd ps sp)(G:Room k X.A)(N:Binds X.K fd ps ds)(hd:Vals dvs ds)(A:qkx CX X E)(P:PA X (e::es) t)(b:starEach (e::es) X.env=(Y6,Qb e X.env)::starEach es X.env:=by rfl)(d:(backTo pos (starEach es X.env)).any (·.1)=false:=by rfl)(D:Qb (.Call (.Attribute o m apos) (e::es) [] pos) X.env=(do
   let g <- Qb o X.env
   standAt apos.atName
   let (f,first) <- holding [g] (Z0 g m pl)
   callWith pos f first (backTo pos (starEach (e::es) X.env)) (backToKw pos (keywordEach [] X.env))):=by rfl):
  PE X (.Call (.Attribute o m apos) (e::es) [] pos) (qlf C m sp dvs E ta t):=by
 intro pins s σ H Q I h;refine Qjx (thn (K pins s σ H _ I h) λu w ⟨x,H1,n,y,a,dx,fs,ex,R,l,q⟩=>?_) D;subst ex;obtain rfl:u=Value.ref a:=y;refine qx1 n R c i l ?_;refine Qji I.ok.mod.kin i.kp (thn (P pos pins w σ H1 _ n q) λv S ⟨vs,H2,j,r,z⟩=>⟨j.kIn,?_⟩) b d;exact qc5 (vs:=.ref a::vs) F G N hd A j (.cons rfl r) z
def qgt(v:PE X o ta)(c:Cls X.K C)(g:Meth X.K C m f)(F:FnOk X.prog X.w X.K X.mg X.base CX k f fd ps sp)(r:Room k X.A)(w:Binds X.K fd ps ds)(hd:Vals dvs ds)(j:qkx CX X E)(n:Qb (.Call (.Attribute o m apos) [] [] pos) X.env=(do
   let d <- Qb o X.env
   standAt apos.atName
   let (f,first) <- holding [d] (Z0 d m pl)
   callWith pos f first (backTo pos (starEach [] X.env)) (backToKw pos (keywordEach [] X.env))):=by rfl):
  PE X (.Call (.Attribute o m apos) [] [] pos) (qlf C m sp dvs E ta tNil):=by
 intro pins s σ H Q I h;refine Qjx (thn (v pins s σ H _ I h) λu z ⟨x,H1,b,i,a,dx,fs,ex,y,l,q⟩=>?_) n;subst ex;obtain rfl:u=Value.ref a:=i;refine qx1 b y c g l ?_;exact PySem.W.callWith_K0 b.kIn g.kp (qc5 (vs:=[.ref a]) F r w hd j b (.cons rfl .nil) q)
structure Mk (K:Qqq) (C f:Y7):Prop where
 makes:PySem.W.makesIn K C=O
 init:PySem.W.findIn K (.ref C) "__init__" = Y (Y (.ref f))
 fn:PySem.W.isFn K (.ref f)=O
 kp:Qzm K (.ref C)=O
def qgd(M:Mk X.K C f)(F:FnOk X.prog X.w X.K X.mg X.base CX k f fd ps sp)(q:Room (k+1) X.A)(w:Binds X.K fd ps ds)(hd:Vals dvs ds)(n:qkx CX X E)(I:Inv X a d H s)(r:Vals vs us)(h:∀x dx,H x=B->H dx=B->dx≠x->sp (.ref x::(vs++dvs)) (upd (upd H dx (.own x)) x (.ins C dx [])) (λv H2=>v=.non/\Q (.ref x) H2) E):
  wpAny (model X.prog X.w) X.A (call (.ref C) us) (EP X a d Q) X.xe s:=by
 have i:=h (s.heap.objs.size+1) s.heap.objs.size (I.hok.fresh (Qxw _)) (I.hok.fresh (Qqk _)) (Qq3 (Qzb _));have c:=Inv.made (C:=C) I;have g:Vals (V.ref (s.heap.objs.size+1)::(vs++dvs)) (Value.ref (s.heap.objs.size+1)::(us++ds)):=.cons rfl (r.append hd);have hl:(Value.ref (s.heap.objs.size+1)::us++ds).length=ps.length:=by
  have e:=g.length;rw[F.len _ _ _ _ i]at e;exact e.symm
 refine wpAny_call (qhx I.kIn M.makes M.init (beq_iff_eq.mp M.fn) (Q9 (F.run _ X.stack _ _ ⟨Value.ref (s.heap.objs.size+1)::us,[]⟩ (Value.ref (s.heap.objs.size+1)::(us++ds)) _ _ E (q.make C us [])
  (c.env0.make C us []) (w _ (Value.ref (s.heap.objs.size+1)::us) c.kIn hl) g i) λr s' b=>?_))
 cases r with
 |error e=>exact n a d _ _ e s' c b
 |ok y=>
  cases y with
  |ret u=>
   obtain⟨v,H',z,j,ev,l⟩:=c.after b;subst ev;exact⟨j,⟨V.ref (s.heap.objs.size+1),H',z,rfl,l⟩⟩
  |next=>exact False.elim b
  |brk=>exact False.elim b
  |cont=>exact False.elim b
def qmb(M:Mk X.K C f)(F:FnOk X.prog X.w X.K X.mg X.base CX k f fd ps sp)(g:Room (k+1) X.A)(j:Gl X x)(i:X.mg x=Y (.ref C))(n:Binds X.K fd ps ds)(hd:Vals dvs ds)(d:qkx CX X E)
  (u:PA X (e::es) t) (b:(x==("__debug__" : Y5))=false:=by decide) (l:starEach (e::es) X.env=(Y6,Qb e X.env)::starEach es X.env:=by rfl) (a:(backTo pos (starEach es X.env)).any (·.1)=false:=by rfl) :
  PE X (.Call (.Name x p) (e::es) [] pos) (tMake C sp dvs E t):=by
 intro pins s σ H Q I h;refine Zc (qyc I j i ?_ b);refine Qji I.ok.mod.kin M.kp (thn (u pos pins s σ H _ I h) λv w ⟨vs,H1,c,r,q⟩=>⟨c.kIn,?_⟩) l a;exact qgd M F g n hd d c r q
end
section
end
structure FnScope (N P:L Y5) (sc:Scope):Prop where
 kind:sc.kind=.function
 co:sc.isCoroutine=Y6
 gen:sc.isGenerator=Y6
 nd:N.Nodup
 pre:N.take P.length=P
 par:∀x∈P,sc.names.lookup x=Y .local\/sc.names.lookup x=Y .cell
 nofree:∀y∈sc.names,y.2≠.free
theorem qw1:∀{binds}{m},(∀v,(x,v) ∉ binds)->bindL a binds m x=m x
 |[],_,_=>rfl
 |(n,v)::r,m,h=>by
  unfold bindL;rw[qw1 λw b=>h w (Qqt _ b)]
  split
  ·have:x≠n:=by rintro rfl; exact h v Qq5
   simp[this]
  ·rfl
theorem qw3:∀{binds}{m},(∀v,(x,v) ∉ binds)->bindC a binds m x=m x
 |[],_,_=>rfl
 |(n,v)::r,m,h=>by
  unfold bindC;rw[qw3 λw b=>h w (Qqt _ b)]
  split
  ·rfl
  ·have:x≠n:=by rintro rfl; exact h v Qq5
   simp[this]
theorem qw2:∀{P:L Y5}{vs:L Y8}{i:Y0}{m:Y5->Y3 Y8},P.Nodup->P[i]?=Y x->vs[i]?=Y v->a x=Y .local->
  bindL a (P.zip vs) m x=Y v
 |[],_,_,_,_,h,_,_=>by simp at h
 |_::_,[],_,_,_,_,h,_=>by simp at h
 |p::P,w::vs,0,m,nd,h1,h2,b=>by
  simp at h1 h2; subst h1; subst h2;show bindL a ((p,w)::P.zip vs) m p=_;unfold bindL;rw[qw1 λv c=>(Qzy.mp nd).1 (Qj9 c).1,Z6 b];simp
 |p::P,w::vs,i+1,m,nd,h1,h2,b=>by
  unfold bindL;exact qw2 (Qzy.mp nd).2 (by simpa using h1) (by simpa using h2) b
theorem qw4:∀{P:L Y5}{vs:L Y8}{i:Y0}{m:Y5->Y3 Y8},P.Nodup->P[i]?=Y x->vs[i]?=Y v->a x≠Y .local->
  bindC a (P.zip vs) m x=Y v
 |[],_,_,_,_,h,_,_=>by simp at h
 |_::_,[],_,_,_,_,h,_=>by simp at h
 |p::P,w::vs,0,m,nd,h1,h2,b=>by
  simp at h1 h2; subst h1; subst h2;show bindC a ((p,w)::P.zip vs) m p=_;unfold bindC;rw[qw3 λv c=>(Qzy.mp nd).1 (Qj9 c).1,Z5 b];simp
 |p::P,w::vs,i+1,m,nd,h1,h2,b=>by
  unfold bindC;exact qw4 (Qzy.mp nd).2 (by simpa using h1) (by simpa using h2) b
noncomputable def start(N:L Y5)(vs:L V):St:=vs.map Y++List.replicate (N.length - vs.length) B
noncomputable def cxOf(CX:CXT)(P:Program)(w:Qk)(K:Qqq)(mg:Y5->Y3 Y8)(base:Heap)(N:L Y5)(qual:Y5)(scope:Scope)(f:Y7)(cd:Y8)(A:Qv)(outer:L Env)(s:Qz)(H:Hp)(E:XK):Cx where
 prog:=P
 w:=w
 K:=K
 mg:=mg
 base:=base
 A:=A.deeper (envOfC qual scope s.heap.objs.size f cd)
 N:=N
 s₀:=s
 H₀:=H
 env:=envOfC qual scope s.heap.objs.size f cd
 outer:=outer
 stack:=envOfC qual scope s.heap.objs.size f cd::outer
 ex:=[]
 calm:=O
 fn:=λ_=>O
 pn:=[]
 xe:=λe s'=>wpAny (model P w) (A.deeper (envOfC qual scope s.heap.objs.size f cd)) (leaving (envOfC qual scope s.heap.objs.size f cd) e) (λ_ s''=>CX outer H s E e s'') (λe' s''=>CX outer H s E e' s'') s'
def qa9{sc:Scope}(h:sc.names.lookup x=Y .cell):∃c,(cellsFrom n sc.names []).lookup x=Y c:=by
 have q:=Qkq sc.names n [] (.inl h);exact Qz1.mp q
def qeq{K:Qqq}(S:FnScope N ps d)(hd:A.handled=B)(j:Env0 P w K mg base A outer s H)(R:vs.length=ps.length)(r:Vals vs us)(x:InCallC s s.heap.objs.size (bindL (envOfC g d s.heap.objs.size f t).kindOf (ps.zip us) λ_=>B) (cellsFrom (s.heap.objs.size+1) d.names []) (bindC (envOfC g d s.heap.objs.size f t).kindOf (ps.zip us) λ_=>B) s1):
  Inv (cxOf F P w K mg base N g d f t A outer s H E) [] (start N vs) H s1:=by
 have I:ps.length<=N.length:=by have:=congrArg List.length S.pre; rw[Qzz]at this; omega
 obtain⟨h1,tk,rfl,D⟩:=x.done;have l:∀b:Y7,b ∉ (cxOf F P w K mg base N g d f t A outer s H E).ex:=λb z=>absurd (show b∈([]:L Y7) from z) (by simp)
 refine⟨⟨j.mod,S.kind,rfl,rfl,Qqk _,λy z c h1 h2=>?_,λy m=>?_,λy c _ h=>?_,λ_=>hd,Around.frames_deeper j.frames,.inr ⟨rfl,rfl⟩,λb z=>absurd z (l b),j.bs,j.bsz,λb _ _=>l b,λb z=>absurd z (l b),j.funs,j.frf⟩,
  rfl,j.bare,Un.kept D,⟨_,x.toInCall.ns,λi y v h1 h2 T=>?_⟩,λy c h=>⟨_,x.cell y c h⟩,j.hok.fresh (Qqk _),λy c h=>?_,λp hp=>absurd (show p∈([]:L (Y7×Obj)) from hp) (by simp),j.hok.kept D,?_⟩
 ·exact name_of_addr x.apart (PySem.mem_of_lookup h1) (PySem.mem_of_lookup h2)
 ·have m:=m;rcases m with m|m
  ·exact qa9 m
  ·exact absurd rfl (S.nofree _ (PySem.mem_of_lookup m))
 ·exact Qxu (x.above y c (PySem.mem_of_lookup h))
 ·have hi:i<vs.length:=by
   unfold start at h2
   by_cases hi:i<vs.length
   ·exact hi
   ·rw[Qzi (by simpa using hi)]at h2;rw[Qj7]at h2
    split at h2<;>cases h2
  have Q:vs[i]?=Y v:=by
   unfold start at h2;rw[Qq0 (by simpa using hi),Qqw]at h2
   cases e:vs[i]? with
   |none=>rw[e]at h2; cases h2
   |some a=>rw[e]at h2; cases h2; rfl
  obtain⟨u,C,G⟩:=r.get Q;have hp:ps[i]?=Y y:=by
   rw[<- S.pre,Qj3 (by omega)]; exact h1
  have o:ps.Nodup:=by rw[<- S.pre]; exact S.nd.sublist (Qjr _ _)
  refine⟨u,G,?_⟩;rcases S.par y (Qqf hp) with k|k
  ·exact .inl ⟨k,qw2 o hp C k⟩
  ·obtain⟨c,e⟩:=qa9 k;refine .inr ⟨.inl k,c,e,?_⟩;have q:=x.cell y c e;rw[qw4 o hp C (by show d.names.lookup y≠_; rw[k]; decide)]at q;exact q
 ·exact j.hok.fresh (Qxu (x.above y c (PySem.mem_of_lookup h)))
 ·unfold start;show _=N.length;rw[Qqh,Qqz,Qjj];omega
def fn_of{K:Qqq}{kV:Y8}(lk:K.lookup f=Y ⟨oc,od,.func (PySem.W.fnOf name c g body a T kV doc R an d ct),D⟩)(G:PySem.W.codeIn K d c=O)(S:FnScope N ps a)(len:∀vs H Q E,sp vs H Q E->vs.length=ps.length)(j:∀(A:Qv) (outer:L Env) (s:Qz) (H:Hp) (vs:L V) (Q:VK) (E:XK),Room k (A.deeper (envOfC c a s.heap.objs.size f d))->sp vs H Q E->
   ∃t,PSs (cxOf z P w K mg base N c a f d A outer s H E) body t/\t { nx:=λ_ H'=>Q .non H',rt:=Q } (start N vs) H):
  FnOk P w K mg base z (k+1) f (PySem.W.fnOf name c g body a T kV doc R an d ct) ps sp:=by
 refine⟨len,λA outer s H U X vs Q E F p hb r l=>?_⟩;have hl:=len _ _ _ _ l;have W:=p.mod.kin.keeps λb o e=>(p.bs b o e).1;have lim:=p.mod.nolimit.keeps λb o e=>(p.bs b o e).1;have i:∀y∈ps.zip X,a.names.lookup y.1=Y .local\/(a.names.lookup y.1=Y .cell/\((cellsFrom (s.heap.objs.size+1) a.names []).lookup y.1).isSome=O):=λ⟨n,v⟩ hy=>by
  rcases S.par n (Qj9 hy).1 with q|q
  ·exact .inl q
  ·exact .inr ⟨q,Qkq _ _ _ (.inl q)⟩
 refine codeAny_call_function F.depth (W _ _ lk) rfl S.co S.gen rfl (PySem.W.codeRec_of W G) (hb _ _ _ _ ?_);refine wpAny_newFunctionEnv_cells S.kind i λenv he s1 x=>?_;subst he;refine⟨lim.keeps x.toInCall.keep,codeAny_func ?_⟩;obtain⟨t,ht,hq⟩:=j A outer s H vs Q E (F.deeper _) l;have I:Inv (cxOf z P w K mg base N c a f d A outer s H E) [] (start N vs) H s1:=qeq S F.hd p hl r x;refine Qi (ht [] s1 (start N vs) H _ I hq) (λfl s' hs=>?_) λe s' hs=>hs;have m:∀{h:St}{H':Hp}{v:V}{u:Y8},Inv (cxOf z P w K mg base N c a f d A outer s H E) [] h H' s'->RelV v u->Q v H'->CE outer P w H s Q u s':=
  λ{h H' v u} Jq C q=>⟨v,H',Jq.os,Jq.bare,Jq.base,Jq.hok,C,q⟩
 cases fl with
 |ret u=>
  obtain⟨v,h,H',Jq,C,q⟩:=hs;exact m Jq C q
 |next=>
  obtain⟨h,H',Jq,q⟩:=hs;exact m (v:=V.non) Jq rfl q
 |brk=>
  obtain⟨_,_,_,q⟩:=hs;exact False.elim q
 |cont=>
  obtain⟨_,_,_,q⟩:=hs;exact False.elim q
section
variable {X:Cx}{x:Y5}{p pos:Pos}{e:Qx}{es:L Qx}{t:TA}{id:String}{r:L V->Hp->VK->Prop}
noncomputable def tCB(r:L V->Hp->VK->Prop)(t:TA):TE:=λσ H Q=>t σ H λvs H1=>r vs H1 Q
def qqx(n:qqi X (.builtin id) r)(l:Gl X x)(k:X.mg x=B)(i:Qd x=Y (.builtin id))(o:PA X (e::es) t)(j:x ≠ "__name__":=by decide)(b:(x==("__debug__" : Y5))=false:=by decide)
  (m:starEach (e::es) X.env=(Y6,Qb e X.env)::starEach es X.env:=by rfl) (a:(backTo pos (starEach es X.env)).any (·.1)=false:=by rfl):PE X (.Call (.Name x p) (e::es) [] pos) (tCB r t):=by
 intro pins s σ H Q I h;refine Zc (qx9 I l k i ?_ j b);exact PyProof.Rows.callWith_builtin1 (thn (o pos pins s σ H _ I h) λc d ⟨vs,H1,q,f,g⟩=>n pins d σ H1 vs c Q q f g) m a
def qjm(n:qqi X (.type T) r)(l:Gl X x)(k:X.mg x=B)(i:Qd x=Y (.type T))(o:PA X (e::es) t)(j:x ≠ "__name__":=by decide)(b:(x==("__debug__" : Y5))=false:=by decide)
  (m:starEach (e::es) X.env=(Y6,Qb e X.env)::starEach es X.env:=by rfl) (a:(backTo pos (starEach es X.env)).any (·.1)=false:=by rfl):PE X (.Call (.Name x p) (e::es) [] pos) (tCB r t):=by
 intro pins s σ H Q I h;refine Zc (qx9 I l k i ?_ j b);exact PyProof.Rows.callWith_type1 (thn (o pos pins s σ H _ I h) λc d ⟨vs,H1,q,f,g⟩=>n pins d σ H1 vs c Q q f g) m a
end
end L2
namespace HT
open PySem PyProof.Rows
section
open PySem.SeqAt
open PySem.AutoSeq1 (wpAny_loadPart')
open PySem.MeetsSeq PySem.MeetsSeq2 PySem.MeetsSeq3
end
section
def cat_tup(p:IsTup s.heap t vs.toArray)(q:IsTup s.heap b ws.toArray)(k:vs≠[])(u:ws=[]->Q (.ref t) s)(r:ws≠[]->Q (.ref s.heap.objs.size) { s with heap:=s.heap.push { cls:=.type "tuple",data:=.seq (vs++ws).toArray } })(hsz:vs.length+ws.length<=sizeLine):wpAny (model prog w) A (Q2 .Add (.ref t) (.ref b)) Q E s:=by
 obtain⟨⟨cls,m,data,sl⟩,i,l,n,hd⟩:=id p;obtain⟨⟨o,g,j,c⟩,a,f,n2,d⟩:=id q;simp only at l hd f d;subst l hd f d;have e:vs.toArray++ws.toArray=(vs++ws).toArray:=by simp
 by_cases h:ws=[]
 ·exact concat_meets ⟨_,i,rfl⟩ ⟨_,a,rfl⟩ noFill_tuple_add seq_tuple_add PySem.F.slot_tuple_add PySem.F.entry_tuple_add (PySem.F.args_tuple_add_2 _ _)
   (tuple_addW1 t b vs.toArray ws.toArray n n2 m g sl c (by simpa using k) (by simp[h])) ⟨i,a,u h⟩
 ·refine concat_meets ⟨_,i,rfl⟩ ⟨_,a,rfl⟩ noFill_tuple_add seq_tuple_add PySem.F.slot_tuple_add PySem.F.entry_tuple_add (PySem.F.args_tuple_add_2 _ _)
   (tuple_addW2 t b vs.toArray ws.toArray n n2 m g sl c (by simpa using k) (by simpa using h) (by rw[Qqd,Qqd]; exact hsz)) ⟨i,a,?_⟩
  rw[e];exact r h
noncomputable def sIx(n d:Y0):Y3 J->Y0
 |none=>d
 |some v=>if v<0 then(v+(n:J)).toNat else min v.toNat n
def sIx_le(n d)(hd:d<=n)(o):sIx n d o<=n:=by
 cases o with
 |none=>exact hd
 |some v=>
  show(if v<0 then(v+(n:J)).toNat else min v.toNat n)<=n
  by_cases a:v<0
  ·rw[Z6 a]; omega
  ·rw[Z5 a]; exact Nat.min_le_right _ _
def qe6(v)(n d:Y0):(if v<0 then max (v+(n:J)) 0 else min v (n:J))=((sIx n d (Y v):Y0):J):=by
 show(if v<0 then max (v+(n:J)) 0 else min v (n:J))=(((if v<0 then(v+(n:J)).toNat else min v.toNat n):Y0):J)
 by_cases a:v<0
 ·simp only[Z6 a]; omega
 ·simp only[Z5 a]; omega
def qb6(lo a)(n:Y0):Builtin.Slice.sliceAdjust lo a 1 (n:J)=(((sIx n 0 lo:Y0):J),((sIx n n a:Y0):J)):=by
 have h1:¬ ((1:J)<0):=by omega
 unfold Builtin.Slice.sliceAdjust;simp only[h1,if_false];refine Prod.ext ?_ ?_
 ·cases lo with
  |none=>rfl
  |some v=>exact qe6 v n 0
 ·cases a with
  |none=>rfl
  |some v=>exact qe6 v n n
def qbf(i j:Y0):Builtin.Slice.slicePlaces (i:J) (j:J) 1=j - i:=by
 unfold Builtin.Slice.slicePlaces;have h1:(1:J) > 0:=by omega
 simp only[h1,if_true,Int.ediv_one]
 split<;>omega
def qkf(p:IsPart v o)(h:Q o s):wpAny (model prog w) A (Builtin.Slice.slicePartIndex v) Q E s:=by
 cases p with
 |none=>exact slicePart_none h
 |int i t=>exact slicePart_int h
def sliceApplied_gen{lo:Y3 J}{n:Y0}(f:s.heap.IsSliceOf sl vl d .none)(pl:IsPart vl lo)(e:IsPart d b)(h:Q (((sIx n 0 lo:Y0):J),1,sIx n n b - sIx n 0 lo) s):wpAny (model prog w) A (Builtin.Slice.sliceApplied (.ref sl) (pure (n:J))) Q E s:=by
 obtain⟨os,a,g,c⟩:=id f;unfold Builtin.Slice.sliceApplied Builtin.Slice.sliceFields;refine Qq (Qq (Qw a c rfl (Qq (Qw a c rfl (Qq (Qw a c rfl (Qj ?_)))))));refine Qq (slicePart_none ?_);rw[Z5 (by decide)];refine Qq (qkf pl (Qq (qkf e (Qq (Qj ?_)))));show wpAny _ _ (match Builtin.Slice.sliceAdjust lo b 1 (n:J) with|(lo,b)=>pure (lo,(1:J),Builtin.Slice.slicePlaces lo b 1)) _ _ s;rw[qb6 lo b n];show wpAny _ _ (pure (((sIx n 0 lo:Y0):J),(1:J),Builtin.Slice.slicePlaces ((sIx n 0 lo:Y0):J) ((sIx n n b:Y0):J) 1)) _ _ s;rw[qbf];exact Qj h
def qgr(xs:Array Y8)(i k:Y0):((List.range k).filterMap λ(m:Y0)=>xs[((i:J)+(m:J)*1).toNat]?).toArray=((xs.toList.drop i).take k).toArray:=by
 have e:(λ(m:Y0)=>xs[((i:J)+(m:J)*1).toNat]?)=λm=>xs[i+m]?:=by
  funext m
  have:((i:J)+(m:J)*1).toNat=i+m:=by omega
  rw[this]
 rw[e];have:=pick_run xs i k;rw[Qzg]at this;have a:((λx=>xs[x]?)∘λx=>i+x)=λm=>xs[i+m]?:=rfl;rw[a]at this;rw[this]
def getItem_tuple_cut{lo:Y3 J}(d:IsTup s.heap t a)(k:s.heap.IsSliceOf sl vl j .none)(pl:IsPart vl lo)(l:IsPart j c)(n:¬ (sIx a.size 0 lo=0/\sIx a.size a.size c=a.size))(h:Q (.ref s.heap.objs.size) { s with heap:=s.heap.push { cls:=.type "tuple",data:=.seq ((a.toList.drop (sIx a.size 0 lo)).take (sIx a.size a.size c - sIx a.size 0 lo)).toArray } })(hsz:a.size<=sizeLine):wpAny (model prog w) A (Zj (.ref t) (.ref sl)) Q E s:=by
 have b:sizeOk (.seq ((a.toList.drop (sIx a.size 0 lo)).take (sIx a.size a.size c - sIx a.size 0 lo)).toArray):=by
  show((a.toList.drop (sIx a.size 0 lo)).take (sIx a.size a.size c - sIx a.size 0 lo)).toArray.size<=sizeLine;rw[Qqd,Qzz,Qx9,Qzo];omega
 have u:sIx a.size a.size c<=a.size:=sIx_le _ _ (Qqk _) c;obtain⟨os,e,g,o⟩:=id k;have i:s.TypeIs (.ref sl) "slice":=⟨os,e,g⟩
 unfold Zj
 try with_reducible refine Q3 ?_
 first|refine Qq (Qj ?_)|skip
 refine Qq (wpAny_sequenceKey d.typeIs (by decide) ?_)
 refine Qq (Qc d.typeIs PyProof.Rows.slot_tuple_getitem
  (Qe PyProof.Rows.slot_tuple_getitem d.typeIs entry_tuple_getitem ?_ (args_tuple_getitem _ _)))
 show wpAny _ _ (Builtin.Tuple.tupleItemsOf (.ref t) >>= _) _ _ s;refine Qq (tupleItemsOf_ d ?_);refine Qq (wpAny_typeOf i ?_);rw[Z6 (by decide)];refine Qq (sliceApplied_gen k pl l ?_);have f:¬ ((((sIx a.size 0 lo:Y0):J)==0&&(1:J)==1&&(sIx a.size a.size c - sIx a.size 0 lo)==a.size)=O):=by
  intro q;rw[Qqs,Qqs]at q;have r:=eq_of_beq q.1.1;have p:=eq_of_beq q.2;exact n ⟨by omega,by omega⟩
 show wpAny _ _ (if (((sIx a.size 0 lo:Y0):J)==0&&(1:J)==1&&(sIx a.size a.size c - sIx a.size 0 lo)==a.size)=O then _ else _) _ _ s;rw[Z5 f,qgr]
 first
  |exact Qq (Ql (Qj ⟨_,rfl,Qj h⟩) b)
  |exact Qq (Ql (Qq (Qj (Qj ⟨_,rfl,Qj h⟩))) b)
  |exact Qq (Qq (Ql (Qj (Qj ⟨_,rfl,Qj h⟩)) b))
  |exact Qq (Qq (Ql (Qj ⟨_,rfl,Qj h⟩) b))
end
end HT
namespace L2
open PySem PySem.Spec PyProof.Rows
abbrev TO:=St->Hp->(Y3 J->Hp->Prop)->Prop
def PO(X:Cx)(e:Y3 Qx)(t:TO):Prop:=
 ∀(pins:L (Y7×Obj)) (s:Qz) (σ:St) (H:Hp) (Q:Y3 J->Hp->Prop),Inv X pins σ H s->t σ H Q->
  wpAny (model X.prog X.w) X.A (evalPart e X.env) (λu s'=>∃o H',Inv X pins σ H' s'/\IsPart u o/\Q o H') X.xe s
noncomputable def qle:TO:=λ_ H Q=>Q B H
noncomputable def tPart(t:TE):TO:=λσ H Q=>t σ H λx H1=>∃i,x=.int i/\Q (Y i) H1
def intsAre_of:∀{us},Vals (ns.map V.int) us->Zs us ns:=by
 induction ns with
 |nil=>intro us r; rw[Qxy]at r; cases r; exact .nil
 |cons n ns c=>
  intro us r;rw[Qqm]at r
  cases r with
  |cons b a=>
   obtain⟨t,e⟩:=b;subst e;exact .cons n t (c a)
section
variable {X:Cx}{e:Qx}{te:TE}{lo hi:Y3 Qx}{tl th:TO}{pos p2:Pos}
def qmx:PO X B qle:=by
 intro pins s σ H Q I h;rw[evalPart_none];exact Qj ⟨B,H,I,.none,h⟩
def qmq(h:PE X e te):PO X (Y e) (tPart te):=by
 intro pins s σ H Q I c;rw[evalPart_some];refine thn (h pins s σ H _ I c) λu f ⟨x,H1,d,a,b⟩=>?_;obtain⟨i,rfl,q⟩:=b;obtain⟨t,rfl⟩:=a;exact⟨Y i,H1,d,.int i t,q⟩
def SlR(X:Cx)(r:V->Y3 J->Y3 J->Hp->VK->Prop):Prop:=
 ∀(pins:L (Y7×Obj)) (s:Qz) (σ:St) (H:Hp) (x:V) (v vl vu:Y8) (lo hi:Y3 J) (sl:Y7) (Q:VK),Inv X pins σ H s->RelV x v->s.heap.IsSliceOf sl vl vu .none->IsPart vl lo->IsPart vu hi->r x lo hi H Q->
  ∃T id,typeLookup (.type T) "__getitem__" = pure (Y (.builtin id))/\s.TypeIs v T/\wpAny (model X.prog X.w) X.A (Zj v (.ref sl)) (EP X pins σ Q) X.xe s
noncomputable def tSl(r:V->Y3 J->Y3 J->Hp->VK->Prop)(te:TE)(tl th:TO):TE:=λσ H Q=>te σ H λx H1=>tl σ H1 λl H2=>th σ H2 λu H3=>r x l u H3 Q
def qay(p:SlR X r)(y:PE X e te)(t:PO X lo tl)(n:PO X hi th):PE X (.Subscript e (.Slice lo hi B p2) pos) (tSl r te tl th):=by
 intro pins s σ H Q I h;refine Subscript_ (thn (y pins s σ H _ I h) λv g ⟨x,H1,E,i,m⟩=>?_);refine wpAny_Slice (thn (t pins g σ H1 _ E m) λvl f ⟨l,H2,D,pl,k⟩=>thn (n pins f σ H2 _ D k) λc a ⟨u,d,C,pu,j⟩=>?_);rw[evalPart_none];refine Qj ?_;have A:Inv X pins σ d { a with heap:=a.heap.push { cls:=.type "slice",data:=.fields #[vl,c,.none] } }:=C.kept λb ob q=>Qqx _ q;obtain⟨T,id,z,o,w⟩:=p pins { a with heap:=a.heap.push { cls:=.type "slice",data:=.fields #[vl,c,.none] } } σ d x v vl c l u a.heap.objs.size Q A i (Heap.IsSliceOf.new ..) pl pu j;exact tail_any o z w (by with_unfolding_all rfl)
noncomputable def cutV(xs:L V)(lo hi:Y3 J):L V:=(xs.drop (HT.sIx xs.length 0 lo)).take (HT.sIx xs.length xs.length hi - HT.sIx xs.length 0 lo)
def qj9(xs)(lo a):(cutV xs lo a).length<=xs.length:=by
 unfold cutV;rw[Qzz,Qx9];omega
def rSlT(K:Qqq):V->Y3 J->Y3 J->Hp->VK->Prop:=λx lo hi H Q=>∃a xs,x=.ref a/\SqT K H a xs/\
 ¬ (HT.sIx xs.length 0 lo=0/\HT.sIx xs.length xs.length hi=xs.length)/\∀p,H p=B->Q (.ref p) (upd H p (.tup (cutV xs lo hi)))
def qiz:SlR X (rSlT X.K):=by
 intro pins s σ H x v vl l lo hi sl Q I i hs pl pu h;obtain⟨a,xs,rfl,j,k,q⟩:=h;cases i;obtain⟨d,r,g,f⟩:=I.tuple j;have c:d.toArray.size=xs.length:=by rw[Qqd]; exact r.length.symm
 refine⟨"tuple",_,PyProof.Rows.slot_tuple_getitem.lookup,g.typeIs,?_⟩;refine HT.getItem_tuple_cut g hs pl pu (by rw[c]; exact k) ?_ (by rw[c]; exact f);rw[c];refine⟨.ref s.heap.objs.size,_,I.laid (λb ob q=>Qqx _ q) (Qqk _) ?_,rfl,q _ (I.hok.fresh (Qqk _))⟩;exact⟨Qz0 (qj9 xs lo hi) f,_,(r.drop (HT.sIx xs.length 0 lo)).take (HT.sIx xs.length xs.length hi - HT.sIx xs.length 0 lo),IsTup.new _ _⟩
noncomputable def rCatT(K:Qqq):R2:=λx y H Q=>∃a b xs ys,x=.ref a/\y=.ref b/\SqT K H a xs/\SqT K H b ys/\xs≠[]/\xs.length+ys.length<=sizeLine/\
 (ys=[]->Q (.ref a) H)/\(ys≠[]->∀p,H p=B->Q (.ref p) (upd H p (.tup (xs++ys))))
def Vals.nil_iff(r:Vals xs us):us=[]↔xs=[]:=by
 cases r with
 |nil=>simp
 |cons _ _=>simp
def qms:OpR X (Q2 .Add) (rCatT X.K):=by
 intro pins s σ H x y v u Q I j i h;obtain⟨a,b,xs,ys,rfl,rfl,r,p,n,g,l,k⟩:=h;cases j;cases i;obtain⟨m,d,p1,_⟩:=I.tuple r;obtain⟨f,c,p2,_⟩:=I.tuple p;refine HT.cat_tup p1 p2 (λz=>n (d.nil_iff.mp z)) (λz=>⟨.ref a,H,I,rfl,l (c.nil_iff.mp z)⟩) (λz=>?_) (by rw[<- d.length,<- c.length]; exact g);refine⟨.ref s.heap.objs.size,_,I.laid (λb ob q=>Qqx _ q) (Qqk _) ?_,rfl,k (λw=>z (c.nil_iff.mpr w)) _ (I.hok.fresh (Qqk _))⟩;exact⟨by rw[Qqh]; exact g,_,d.append c,IsTup.new _ _⟩
end
noncomputable def ixN(n:Y0)(i:J):Y3 Nat:=if 0<=i then(if i<n then Y i.toNat else B) else if -(n:J)<=i then Y (i+n).toNat else B
noncomputable def atI{α:Type}(xs:L α)(i:J):Y3 α:=(ixN xs.length i).bind λj=>xs[j]?
def qnd(h:ixN n i=Y j):seqIndex? i n=Y j/\j<n/\-(n:J)<=i/\i<n:=by
 unfold ixN at h
 by_cases a:0<=i
 ·rw[Z6 a]at h
  by_cases h1:i<n
  ·rw[Z6 h1]at h;have e:=Option.some.inj h;exact⟨by rw[seqIndex_of a h1,e],by omega,by omega,h1⟩
  ·rw[Z5 h1]at h; cases h
 ·rw[Z5 a]at h
  by_cases h1:-(n:J)<=i
  ·rw[Z6 h1]at h;have e:=Option.some.inj h;exact⟨by rw[seqIndex_neg (by omega) h1,e],by omega,h1,by omega⟩
  ·rw[Z5 h1]at h; cases h
def qfi(h:atI xs i=Y v):∃j,seqIndex? i xs.length=Y j/\xs[j]?=Y v/\j<xs.length/\-(xs.length:J)<=i/\i<xs.length:=by
 unfold atI at h
 cases e:ixN xs.length i with
 |none=>rw[e]at h; cases h
 |some j=>
  rw[e]at h;obtain⟨h1,h2,b,a⟩:=qnd e;exact⟨j,h1,h,h2,b,a⟩
def qob(b:Qx):Prop:=∀o i,subscripted b Y6 o i=operate [o,i] (Zj o i)
def IxR(X:Cx)(r:R2):Prop:=
 ∀(value slice:Qx) (pins:L (Y7×Obj)) (s:Qz) (σ:St) (H:Hp) (x y:V) (v u:Y8) (Q:VK),Inv X pins σ H s->RelV x v->RelV y u->r x y H Q->
  subscripted slice Y6 v u=operate [v,u] (Zj v u)->wpAny (model X.prog X.w) X.A (subscriptTail value slice v u) (EP X pins σ Q) X.xe s
def MtR(X:Cx)(id:String)(r:V->L V->Hp->VK->Prop):Prop:=
 ∀(pins:L (Y7×Obj)) (s:Qz) (σ:St) (H:Hp) (x:V) (xs:L V) (v:Y8) (us:L Y8) (Q:VK),Inv X pins σ H s->RelV x v->Vals xs us->r x xs H Q->
  wpAny (model X.prog X.w) X.A (call (.builtin id) (v::us)) (EP X pins σ Q) X.xe s
section
variable {X:Cx}
def pe_ix(g:IxR X r)(j:PE X a ta)(i:PE X b tb)(f:qob b):PE X (.Subscript a b pos) (tOp r ta tb):=by
 intro pins s σ H Q I h;exact Subscript_ (binT j i I h λv u c x y H2 k e d q=>g a b pins c σ H2 x y v u Q k e d q (f _ _))
noncomputable def rIxL(K:Qqq):R2:=λx y H Q=>∃p xs i v,x=.ref p/\y=.int i/\SqL K H p xs/\atI xs i=Y v/\Q v H
noncomputable def rIxT(K:Qqq):R2:=λx y H Q=>∃p xs i v,x=.ref p/\y=.int i/\SqT K H p xs/\atI xs i=Y v/\Q v H
def qnc:IxR X (rIxL X.K):=by
 intro value d pins s σ H x y v u Q I n m h hs;obtain⟨p,xs,i,z,rfl,rfl,o,A,q⟩:=h;cases n;obtain⟨t,rfl⟩:=m;obtain⟨f,r,pl,E⟩:=I.list o;obtain⟨j,h1,h2,F,D,C⟩:=qfi A;obtain⟨w,l,e⟩:=r.get h2;have hl:=r.length;have hn:=qal;have c:EP X pins σ Q w s:=⟨z,H,I,e,q⟩
 by_cases k:0<=i
 ·have g:i.toNat=j:=by
   rw[seqIndex_of k C]at h1;exact Option.some.inj h1
  exact item_listR pl.isList k (by omega) (by rw[g]; simpa using l) c hs
 ·have g:(i+(f.toArray.size:J)).toNat=j:=by
   rw[seqIndex_neg (by omega) D]at h1;rw[Qqd,<- hl];exact Option.some.inj h1
  exact subscriptTail_builtinR pl.isList.typeIs slot_list_getitem.lookup
   (wpAny_getItem_list_neg pl.isList (by omega) (by rw[Qqd]<;>omega) (by omega) (by rw[g]; simpa using l) ⟨rfl,c⟩) hs
def ix_tup:IxR X (rIxT X.K):=by
 intro value c pins s σ H x y v u Q I g f h hs;obtain⟨p,xs,i,z,rfl,rfl,l,m,q⟩:=h;cases g;obtain⟨t,rfl⟩:=f;obtain⟨k,r,pl,o⟩:=I.tuple l;obtain⟨j,h1,h2,D,C,A⟩:=qfi m;obtain⟨w,n,d⟩:=r.get h2;have hl:=r.length;have hn:=qal;have e:EP X pins σ Q w s:=⟨z,H,I,d,q⟩
 exact subscriptTail_builtinR pl.typeIs slot_tuple_getitem.lookup
  (getItem_tuple pl (by omega) (by omega) (by rw[Qqd,<- hl]; exact h1) (by simpa using n) ⟨rfl,e⟩) hs
def qv0(lo c)(n):(Zk lo c B n).1=((HT.sIx n 0 lo:Y0):J)/\(Zk lo c B n).2.1=((HT.sIx n n c:Y0):J)/\(Zk lo c B n).2.2=1:=by
 refine⟨?_,?_,rfl⟩
 ·cases lo with
  |none=>simp[Zk,HT.sIx]
  |some i=>
   simp only[Zk,HT.sIx,Option.getD_none,show(1:J) > 0 by decide,if_true]
   by_cases h:i<0
   ·simp only[h,if_true]<;>omega
   ·simp only[h,if_false]<;>omega
 ·cases c with
  |none=>simp[Zk,HT.sIx]
  |some i=>
   simp only[Zk,HT.sIx,Option.getD_none,show(1:J) > 0 by decide,if_true]
   by_cases h:i<0
   ·simp only[h,if_true]<;>omega
   ·simp only[h,if_false]<;>omega
def qk5(c:L Y8)(lo d):slicePick c.toArray lo d B=((c.drop (HT.sIx c.length 0 lo)).take (HT.sIx c.length c.length d - HT.sIx c.length 0 lo)).toArray:=by
 obtain⟨h1,h2,e⟩:=qv0 lo d c.toArray.size;unfold slicePick;rw[h1,h2,e];simp only[sliceRange_one,pick_run,Qqd]<;>rfl
def rSlL(K:Qqq):V->Y3 J->Y3 J->Hp->VK->Prop:=λx lo hi H Q=>∃a xs,x=.ref a/\SqL K H a xs/\∀p,H p=B->Q (.ref p) (upd H p (.lst (cutV xs lo hi)))
def qln:SlR X (rSlL X.K):=by
 intro pins s σ H x v vl j lo hi sl Q I e hs pl pu h;obtain⟨a,xs,rfl,i,q⟩:=h;cases e;obtain⟨f,r,d,g⟩:=I.list i;have c:=r.length;refine⟨"list",_,slot_list_getitem.lookup,d.isList.typeIs,?_⟩;refine wpAny_getItem_list_slice d.isList hs pl pu .none (by simp) ?_ (by rw[Qqd]<;>omega);rw[qk5,<- c];refine⟨.ref s.heap.objs.size,_,I.laid (λb ob q=>Qqx _ q) (Qqk _) ?_,rfl,q _ (I.hok.fresh (Qqk _))⟩;exact⟨Qz0 (qj9 xs lo hi) g,_,0,(r.drop (HT.sIx xs.length 0 lo)).take (HT.sIx xs.length xs.length hi - HT.sIx xs.length 0 lo),Qqg _ rfl⟩
def qjq:qqi X (.builtin "len") (λxs H Q=>∃p ys,xs=[.ref p]/\(SqL X.K H p ys\/SqT X.K H p ys)/\Q (.int ys.length) H):=by
 intro pins s σ H xs i Q I r h;obtain⟨p,ys,rfl,d,q⟩:=h;obtain⟨u,rfl,f⟩:=vals1 r;cases f;have hn:=qal;rcases d with d|d
 ·obtain⟨e,r',pl,g⟩:=I.list d;have c:=r'.length;exact Calls.call_len_list pl.isList (by simp only[Qqd]<;>omega) ⟨.int ys.length,H,I.tok _,⟨s.toks+1,by rw[Qqd,c]⟩,q⟩
 ·obtain⟨e,r',pl,g⟩:=I.tuple d;have c:=r'.length;exact len_tuple pl (by simp only[Qqd]<;>omega) ⟨.int ys.length,H,I.tok _,⟨s.toks+1,by rw[Qqd,c]⟩,q⟩
def qjz:qqi X (.type "list") (λxs H Q=>∃p ys,xs=[.ref p]/\(SqL X.K H p ys\/SqT X.K H p ys)/\∀l,H l=B->Q (.ref l) (upd H l (.lst ys))):=by
 intro pins s σ H xs v Q I r h;obtain⟨p,ys,rfl,g,q⟩:=h;obtain⟨u,rfl,t⟩:=vals1 r;cases t;have j:∀(c:L Y8),Vals ys c->ys.length<=sizeLine->∀(h':Heap) (d:Y0),(∀b o',s.heap.get? b=Y o'->h'.get? b=Y o')->
   h'.get? s.heap.objs.size=Y { cls:=.type "list",dict:=B,data:=.seq c.toArray d,slots:=#[] }->EP X pins σ Q (.ref s.heap.objs.size) { s with heap:=h' }:=λc r' f h' d kp e=>
  ⟨.ref s.heap.objs.size,_,I.laid kp (Qqk _) (show ObjOk X.prog X.w _ h' _ (.lst ys) from⟨f,c,d,r',e⟩),rfl,q _ (I.hok.fresh (Qqk _))⟩
 rcases g with g|g
 ·obtain⟨c,r',pl,f⟩:=I.list g;have i:=r'.length;obtain⟨o,k,m,n,hd⟩:=pl.isList;exact call_list_seq p (.inl rfl) k m hd (λh' d kp e=>j c r' f h' d kp e) (by simp only[Qqd]<;>omega)
 ·obtain⟨c,r',pl,f⟩:=I.tuple g;have i:=r'.length;obtain⟨o,k,m,n,hd⟩:=pl;exact call_list_seq p (.inr rfl) k m hd (λh' d kp e=>j c r' f h' d kp e) (by simp only[Qqd]<;>omega)
def qxp:qqi X (.type "tuple") (λxs H Q=>∃p ys,xs=[.ref p]/\((SqL X.K H p ys/\∀l,H l=B->Q (.ref l) (upd H l (.tup ys)))\/(SqT X.K H p ys/\Q (.ref p) H))):=by
 intro pins s σ H xs m Q I r h;obtain⟨p,ys,rfl,h⟩:=h;obtain⟨u,rfl,j⟩:=vals1 r;cases j;rcases h with⟨d,q⟩|⟨d,q⟩
 ·obtain⟨c,r',pl,f⟩:=I.list d;have g:=r'.length;refine call_tuple_list pl.isList (λh' kp=>?_) (by simp only[Qqd]<;>omega);have i:=I.kept (t':=s.toks) kp;have k:=
   i.laid (t':=s.toks) (λb o e=>Qqx _ e) (Qqk _) (show ObjOk X.prog X.w _ _ _ (.tup ys) from⟨f,c,r',IsTup.new _ _⟩)
  exact⟨.ref h'.objs.size,_,k,rfl,q _ (i.hok.fresh (Qqk _))⟩
 ·obtain⟨c,r',pl,f⟩:=I.tuple d;exact call_tuple_same pl ⟨.ref p,H,I,rfl,q⟩
def tyV(K:Qqq)(T:String)(x:V)(H:Hp):Prop:=match x with
 |.str _=>T = "str"
 |.int _=>T = "int"
 |.ref p=>(T = "list"/\∃xs,SqL K H p xs)\/(T = "tuple"/\∃o,K.lookup p=Y o/\o.cls=.type "tuple"/\o.dict=B)\/
   (T = "dict"/\((∃kvs,H p=Y (.dK kvs))\/∃kvs,H p=Y (.dT kvs)))\/(T = "set"/\∃S n,H p=Y (.set S n))
 |_=>False
def tyV_is(I:Inv X f h H s)(r:RelV x v)(ty:tyV X.K T x H):
  s.TypeIs v T/\∀a,v=.ref a->∃ob,s.heap.get? a=Y ob/\ob.dict=none:=by
 cases x with
 |str z=>
  obtain⟨t,rfl⟩:=r;cases (ty);exact⟨typeIs_str s z t,λ_ e=>nomatch e⟩
 |int i=>
  obtain⟨t,rfl⟩:=r;cases (ty);exact⟨typeIs_int s i t,λ_ e=>nomatch e⟩
 |ref p=>
  cases r;rcases ty with⟨rfl,xs,k⟩|⟨rfl,o,d,l,hd⟩|⟨rfl,d⟩|⟨rfl,S,n,d⟩
  ·obtain⟨j,_,pl,_⟩:=I.list k;refine⟨pl.isList.typeIs,λa e=>?_⟩;cases e;obtain⟨o,n,e,c,hd,_⟩:=pl;exact⟨o,e,hd⟩
  ·refine⟨⟨o,I.kIn p o d,l⟩,λa e=>?_⟩;cases e;exact⟨o,I.kIn _ o d,hd⟩
  ·have z:∃o,s.heap.get? p=Y o/\o.ExactDict:=by
    rcases d with⟨kvs,d⟩|⟨kvs,d⟩
    ·obtain⟨_,_,_,_,o,_,_,e,ex,_⟩:=I.hok p _ d;exact⟨o,e,ex⟩
    ·obtain⟨_,_,_,_,o,_,_,e,ex,_⟩:=I.hok p _ d;exact⟨o,e,ex⟩
   obtain⟨o,e,ex⟩:=z;refine⟨⟨o,e,ex.1⟩,λa g=>?_⟩;cases g;exact⟨o,e,ex.2.1⟩
  ·obtain⟨o,_,_,_,e,ex,_⟩:=I.hok p _ d;refine⟨⟨o,e,ex.1⟩,λa g=>?_⟩;cases g;exact⟨o,e,ex.2.1⟩
 |_=>exact False.elim ty
noncomputable def tBM(K:Qqq)(T:String)(r:V->L V->Hp->VK->Prop)(to:TE)(t:TA):TE:=λσ H Q=>to σ H λx H1=>tyV K T x H1/\t σ H1 λxs H2=>r x xs H2 Q
variable {o e:Qx}{es:L Qx}{to:TE}{t:TA}{name:Y5}{apos cpos:Pos}{T id:String}{r:V->L V->Hp->VK->Prop}
def qg4(y:PlainAttrs T)(slot:Slot T name id)(i:typeOf (.builtin id)=pure (.type "method_descriptor"))(C:MtR X id r)(A:PE X o to)(D:PA X (e::es) t)
  (f:Zx o name X.env (Qb o X.env)=Qb o X.env:=by rfl)
  (g:((backTo cpos (starEach (e::es) X.env)).all (λx=>!x.1)&&(backToKw cpos (keywordEach [] X.env)).all (λx=>x.1.isSome)
   && decide ((e::es).length+([]:L Zr).length+(if ([]:L Zr).isEmpty then 0 else 1)<30))=true:=by rfl)
  (d:(apos.endLine==cpos.line)=true:=by rfl) (z:starEach (e::es) X.env=(Y6,Qb e X.env)::starEach es X.env:=by rfl) (c:(backTo cpos (starEach es X.env)).any (·.1)=false:=by rfl) :
  PE X (.Call (.Attribute o name apos) (e::es) [] cpos) (tBM X.K T r to t):=by
 intro pins s σ H Q I h;refine wpAny_Call_method_late f g d rfl (thn (A pins s σ H _ I h) λv p ⟨x,H1,l,j,ty,w⟩=>?_);obtain⟨h1,h2⟩:=tyV_is l j ty;refine⟨T,id,y,slot,i,h1,h2,?_⟩;have k:=D cpos pins p σ H1 _ l w;rw[z]at k ⊢;refine Calls.callWith_builtin (by show(Y6||(backTo cpos (starEach es X.env)).any (·.1))=Y6; rw[c]<;>rfl) (Calls.evalArgs_plain ?_);exact thn k λm n ⟨vs,H2,E,q,u⟩=>C pins n σ H2 x vs v m Q E j q u
end
def MtM(X:Cx)(id:String)(r:V->L V->Hp->VK->Prop):Prop:=
 ∀(pins:L (Y7×Obj)) (s:Qz) (σ:St) (H:Hp) (x:V) (xs:L V) (v:Y8) (us:L Y8) (Q:VK),Inv X pins σ H s->RelV x v->Vals xs us->r x xs H Q->
  wpAny (model X.prog X.w) X.A (call (.builtin id) (v::us)) (EP X pins σ Q) X.xe s
def Vals.one:∀{x}{us},Vals [x] us->∃u,us=[u]/\RelV x u
 |_,_,.cons r .nil=>⟨_,rfl,r⟩
def Vals.two:∀{x y}{us},Vals [x,y] us->∃u v,us=[u,v]/\RelV x u/\RelV y v
 |_,_,_,.cons r (.cons q .nil)=>⟨_,_,rfl,r,q⟩
theorem Vals.rep(h:Vals xs us):∀k:Y0,Vals (List.replicate k xs).flatten (List.replicate k us).flatten
 |0=>.nil
 |k+1=>by
  rw[Qzp,Qzp,Qxa,Qxa];exact Vals.append h (Vals.rep h k)
theorem foldl_rep(its):∀(k:Y0) (a:L Y8),
  List.foldl (λx1 x2=>x1++x2) a.toArray (List.replicate k its.toArray)=(a++(List.replicate k its).flatten).toArray
 |0,a=>by simp
 |k+1,a=>by
  have e:a.toArray++its.toArray=(a++its).toArray:=by simp
  have b:(a++its)++(List.replicate k its).flatten=a++(List.replicate (k+1) its).flatten:=by
   rw[Qzp,Qxa,Qzx]
  rw[<- b,<- foldl_rep its k (a++its),<- e,Qzp,Qjy]
section
def Inv.lset{a:L Y8}(I:Inv X pins σ H s)(j:H l=Y (.lst xs))(e:s.heap.get? l=Y { cls:=.type "list",data:=.seq a.toArray n })(h:f a.toArray=its'.toArray)(d:Vals ys its')(c:ys.length<=sizeLine):
  Inv X pins σ (upd H l (.lst ys)) { s with heap:=s.heap.update l (Obj.mapSeq f),toks:=t' }:=by
 have q:=PySem.IsL.update e f;rw[h]at q;refine I.write (by rw[j]; exact trivial) (.inl rfl) (λk u i g=>(Qx5 s.heap (Obj.mapSeq f) (Ne.symm i)).trans g) ⟨_,q⟩ ?_;exact⟨c,its',_,d,q⟩
def Inv.lnew(I:Inv X pins σ H s)(d:Vals ys a)(c:ys.length<=sizeLine):
  Inv X pins σ (upd H s.heap.objs.size (.lst ys)) { s with heap:=s.heap.push { cls:=.type "list",data:=.seq a.toArray },toks:=t' }:=
 I.laid (λ_ _ q=>Qqx _ q) (Qqk _) ⟨c,a,0,d,Qqg _ rfl⟩
theorem Inv.fresh(I:Inv X pins σ H s):H s.heap.objs.size=none:=I.hok.fresh (Qqk _)
def Inv.lstM(I:Inv X pins σ H s)(c:H l=Y (.lst xs)):xs.length<=sizeLine/\∃(a:L Y8) (n:Y0),Vals xs a/\xs.length=a.length/\s.heap.get? l=Y { cls:=.type "list",data:=.seq a.toArray n }:=by
 obtain⟨z,a,n,r,e⟩:=I.hok l _ c;exact⟨z,a,n,r,r.length,e⟩
def qab(h:n<=sizeLine):Builtin.List.listTooLong n=false:=by
 unfold Builtin.List.listTooLong;exact Z4 (by omega)
end
section
def ql5:V->L V->Hp->VK->Prop:=λx vs H Q=>∃l xs y,x=.ref l/\vs=[y]/\H l=Y (.lst xs)/\xs.length<sizeLine/\Q .non (upd H l (.lst (xs++[y])))
def qdi:MtM X "list.append" ql5:=by
 intro pins s σ H x vs v g Q I c d h;obtain⟨l,xs,y,rfl,rfl,b,i,q⟩:=h;cases c;obtain⟨u,rfl,f⟩:=d.one;obtain⟨z,a,n,r,hl,e⟩:=I.lstM b;refine Qt F.slot_list_append ⟨_,e,rfl⟩ F.entry_list_append (F.args_list_append_2 _ _) (PySem.list_append l a.toArray n u (by rw[Qqd]; omega)) ⟨e,?_⟩;refine⟨.non,_,I.lset b e (by simp) (r.append (.cons f .nil)) ?_,rfl,q⟩;rw[Qqh,Qxx];omega
def len_rep{α:Type}(xs:L α)(k):(List.replicate k xs).flatten.length=k*xs.length:=by
 induction k with
 |zero=>simp
 |succ k a=>rw[Qzp,Qxa,Qqh,a,Nat.succ_mul,Nat.add_comm]
end
section
end
section
end
end L2
namespace Att
open PySem PySem.W PySem.Calls PyProof.Rows
def qj5:∀(ns:L J) (vs:L Y8),WellAll P h vs (ns.map WData.int)->Zs vs ns:=by
 intro ns
 induction ns with
 |nil=>
  intro vs w;rw[Qxy]at w;cases w;exact .nil
 |cons n ns c=>
  intro vs w;rw[Qqm]at w
  cases w with
  |cons a b=>
   cases a;exact .cons _ _ (c _ b)
def qc0{l:OpenLaw}(s:l.most=Y n)(c:l.row.toRowW.claim.pre args=O)(j:WellAll P h b args):
  ∃a vs ns,b=[Value.ref a]/\args=[WData.list (ns.map WData.int)]/\h.get? a=Y { cls:=.type "list",data:=.seq vs.toArray }/\Zs vs ns/\ns.length<=n:=by
 have k:=(pre_splitW c).1;have m:l.pre.holds [] { args:=args }=true:=(pre_splitW c).2;obtain⟨d,r,rfl,h1,h2⟩:=hasAllW_cons k;obtain rfl:=hasAllW_nil h2;obtain⟨xs,rfl,t⟩:=hasW_list h1;obtain⟨ns,rfl⟩:=items_int t;have e:ns.length<=n:=by
  unfold OpenLaw.pre at m;have i:(WTm.not (.lt (.lit (.int (n:J))) (.len (.arg 0)))).holds [] { args:=[.list (ns.map .int)] }=true:=by
   have i:=(holds_andW m).1;rw[s]at i;exact i
  have g:=condW_of i (w_not (w_lt w_lit (w_len_list (w_arg rfl))));rw[Qqz]at g;refine Nat.le_of_not_lt λq=>?_;have o:(n:J)<((ns.length:Y0):J):=by omega
  first
   |(rw[Z3 o]at g; exact absurd g (by decide))
   |(simp at g; omega)
 cases j with
 |cons w1 w2=>
  cases w2
  cases w1 with
  |list p f=>exact⟨_,_,ns,rfl,rfl,p,qj5 ns _ f,e⟩
def qdq(l:OpenLaw)(args):l.row.toRowW.claim.post args (.bool O) args=true:=
 postW_of
  (by first|rfl|decide|simp[WShape.has,WShape.arms,WShape.armsAll])
  (show(WTm.eq .res (.lit (.bool O))).value [] { args:=args,res:=Y (.bool O),after:=args }=Y (.bool (O==O)) from w_eq_bool (w_res rfl) w_lit) rfl
def attach_call{l:OpenLaw}(E:l.most=Y n)(t:d.params.defaults=[])(call:∀(w:Qk) (s₀ b:Qz) (mg m:Y5->Y3 Y8) (i:Y7) (o:Obj) (k j doc:Y8) (a:Y7) (vs:L Y8) (ns:L J),
   Ground q loose [] XP w s₀ mg m b.heap->YP w b.heap->
   b.heap.get? i=Y o->o.data=.func (docDef d.name d.params d.body d.scope k j doc)->b.heap.CodeRec j d.name->mg d.name=Y (.ref i)->
   b.heap.get? a=Y { cls:=.type "list",data:=.seq vs.toArray }->Zs vs ns->ns.length<=n->b.gens=#[]->
   Zd (model l.prog w) Zu (.call (.ref i) ⟨[.ref a],[]⟩) (λr s'=>r=.ok (.ret (.bool O))/\OldK b.heap s'.heap/\s'.os=b.os/\Zn s'.gens) b):
  WalkO q loose XP YP l.row.toRowW d [] (λf vs=>PySem.call f vs):=by
 intro w s₀ b mg m G Q i o k j doc P kV D hd u y s I z v R e x A p H;obtain rfl:P=.none:=Dflts.none y t;obtain rfl:kV=.none:=Dflts.noKw y;obtain⟨a,vs,ns,rfl,rfl,g,c,h⟩:=qc0 E e p;refine enter_call (Q9 (call w s₀ b mg m i o k j doc a vs ns G Q D (fd_plain hd) u s g c h I) λr s' C=>?_);obtain⟨rfl,h2,N,K⟩:=C;exact⟨.inl ⟨.bool O,.bool O,[],rfl,λ_=>rfl,.bool O,qdq l _,λ_=>⟨List.Pairwise.nil,λ_ F=>(nomatch F)⟩⟩,h2,N,K⟩
section
end
end Att
namespace L2
open PySem PySem.Spec PyProof.Rows
theorem qxk:∀{vs}{ns},Zs vs ns->Vals (ns.map V.int) vs
 |_,_,.nil=>.nil
 |_,_,.cons n t h=>.cons ⟨t,rfl⟩ (qxk h)
def Only(H:Hp):Prop:=∀b,H b=B\/∃o xs,H b=Y (.frz o (.lst xs))
def qhj{K:Qqq}(KX:K.In s₁.heap)(y:s₁.heap.Ns mainGlobals mg)(f:s₁.heap.Ns builtinsNs G)(Q:∀x:Y5,x ≠ "__name__"->G x=Qd x)(A:s₁.heap.NoLimit)(hg:s₁.gens=#[])(D:s₁.heap.get? a=Y { cls:=.type "list",data:=.seq vs.toArray })(hi:Zs vs ns)(X:ns.length<=sizeLine)(hr:Room k Zu)(F:∀base:Heap,K.In base->base.Ns mainGlobals mg->FnOk P w K mg base CX k S fd [x] U)(j:∀(s:Qz) (u:Y8),BindsTo s fd ⟨[u],[]⟩ [(x,u)])(I:∀H:Hp,Only H->SqL K H a (ns.map V.int)->U [.ref a] H (λv _=>v=.bl O) λ_ _ _=>False)(R:∀H e s',CX [] H s₁ (λ_ _ _=>False) e s'->False):
  Zd (model P w) Zu (.call (.ref S) ⟨[.ref a],[]⟩) (λr s'=>r=.ok (.ret (.bool O))/\OldK s₁.heap s'.heap/\s'.os=s₁.os/\Zn s'.gens) s₁:=by
 have W:=qxk hi;have p:=hi.length;have i:∀H:Hp,Only H->SqL K H a (ns.map V.int)->HOk P w H s₁.heap->(∀b,H b≠B->b=a)->(H a≠B->K.lookup a=B)->
   Zd (model P w) Zu (.call (.ref S) ⟨[.ref a],[]⟩) (λr s'=>r=.ok (.ret (.bool O))/\OldK s₁.heap s'.heap/\s'.os=s₁.os/\Zn s'.gens) s₁:=by
  intro H hO hS hok hA hK;have c:∀{b:Y7}{o:Obj},s₁.heap.get? b=Y o->H b=B->(hidT s₁.heap H).get? b=Y o:=λe n=>qhy e n;have E:∀{b:Y7}{o:Obj}{es:Array Q1}{ep:Y0},s₁.heap.get? b=Y o->o.data=.dict es ep->H b=none:=λ{b o es ep} e d=>by
   cases q:H b with
   |none=>rfl
   |some u=>
    have T:=hA b (by rw[q]; simp);subst T;rw[D]at e; cases e;have d':=d;cases d'
  have g:∀{b:Y7}{m:Y5->Y3 Y8},s₁.heap.Ns b m->(hidT s₁.heap H).Ns b m:=λ{b m} ⟨o,es,ep,e,d,r⟩=>⟨o,es,ep,c e (E e d),d,r⟩
  have C:=λb o e=>c (KX b o e) (by
   cases q:H b with
   |none=>rfl
   |some u=>
    have T:=hA b (by rw[q]; simp);subst T
    rw[hK (by rw[q]; simp)]at e; cases e)
  have hM:Mod K mg (hidT s₁.heap H):=⟨C,g y,⟨G,g f,Q⟩,let ⟨mc,h1,h2⟩:=A; ⟨mc,g h1,h2⟩⟩
  have e0:Env0 P w K mg (hidT s₁.heap H) Zu [] s₁ H:=⟨rfl,hM,λb o e=>qm1 e,Nat.le_of_eq (qek _ _),trivial,λb f=>absurd (show b∈([]:L Y7) from f) (by simp),hok,.of_eq hg⟩
  refine Q9 ((F _ C (g y)).run Zu [] s₁ H ⟨[.ref a],[]⟩ [.ref a] [.ref a] _ _ hr e0 (j s₁ (.ref a)) (.cons rfl .nil) (I H hO hS)) λr s' h=>?_
  cases r with
  |error e=>exact(R H e s' h).elim
  |ok fl=>
   cases fl with
   |next=>exact False.elim h
   |brk=>exact False.elim h
   |cont=>exact False.elim h
   |ret u=>
    obtain⟨v,H',os,bare,un,t,r',q⟩:=h;have q':=q;subst q';obtain rfl:u=Value.bool true:=r';refine⟨rfl,OldK.of_keep λb o e=>?_,os,bare⟩
    cases q:H b with
    |none=>exact un.keep b o e q (by intro z; exact absurd (show b∈([]:L Y7) from z) (by simp)) (by simp)
    |some u=>
     rcases hO b with z|⟨ob,xs,z⟩
     ·rw[q]at z; cases z
     ·have z2:=un.frzs b ob _ z;obtain⟨e1,_⟩:=hok b _ z;obtain⟨e2,_⟩:=t b _ z2;rw[e]at e1; cases e1;exact e2
 cases N:K.lookup a with
 |some o=>
  have e:=KX a o N;rw[D]at e;cases e;refine i (λ_=>B) (λ_=>.inl rfl) (.inr ⟨_,vs.toArray,_,N,rfl,rfl,rfl,by rw[Qqd,p]; exact X,by simpa using W⟩) (λb u z=>by have l:=z; cases l) (λb z=>absurd rfl z) λz=>absurd rfl z
 |none=>
  refine i (λb=>if b=a then Y (.frz { cls:=.type "list",data:=.seq vs.toArray } (.lst (ns.map V.int))) else B) (λb=>?_) (.inl (.inr ⟨{ cls:=.type "list",data:=.seq vs.toArray },Z6 rfl⟩)) (λb u z=>?_) (λb z=>?_) λ_=>N
  ·by_cases f:b=a
   ·exact .inr ⟨_,_,Z6 f⟩
   ·exact .inl (Z5 f)
  ·by_cases f:b=a
   ·have l:=(Z6 f).symm.trans z;cases l;subst f;exact⟨D,by rw[Qqz]; exact X,vs,_,W,D⟩
   ·have l:=(Z5 f).symm.trans z;cases l
  ·by_cases f:b=a
   ·exact f
   ·exact absurd (Z5 f) z
def walk_of{l:PySem.W.OpenLaw}{K:Qr->Qqq}{D:Qk->CXT}{A:Qk->Sp}(I:l.most=Y n)(r:n<=sizeLine)(y:d.params.defaults=[])(E:Room k Zu)(R:∀(w:Qk) (h:Heap),YP w h->(K w.params).In h)(F:∀(w:Qk) (mg:Y5->Y3 Y8) (j:Y7) (h:Heap),(K w.params).In h->h.Ns mainGlobals mg->mg d.name=Y (.ref j)->
   ∃fd:Qp,(∀(s:Qz) (u:Y8),BindsTo s fd ⟨[u],[]⟩ [(x,u)])/\
    ∀base:Heap,(K w.params).In base->base.Ns mainGlobals mg->FnOk l.prog w (K w.params) mg base (D w) k j fd [x] (A w))(p:∀(w:Qk) (H:Hp) (a:Y7) (ns:L J),ns.length<=n->Only H->SqL (K w.params) H a (ns.map V.int)->A w [.ref a] H (λv _=>v=.bl O) λ_ _ _=>False)(z:∀(w:Qk) (H:Hp) (s:Qz) (e:Y8) (m:Qz),D w [] H s (λ_ _ _=>False) e m->False):
  PySem.W.WalkO q loose XP YP l.row.toRowW d [] (λf vs=>PySem.call f vs):=by
 refine Att.attach_call I y λw s₀ g mg mb j o X cd doc a vs ns G W ho hd P t i c b N=>?_;have C:=R w _ W;obtain⟨fd,Q,U⟩:=F w mg j _ C G.T.g t;exact qhj C G.T.g G.T.b G.T.builtins G.T.nolimit N i c (Qz0 b r) E U Q (λH T S=>p w H a ns b T S) λH e m=>z w H g e m
noncomputable abbrev CX0:CXT:=λ_ _ _ _ _ _=>False
noncomputable abbrev E0:XK:=λ_ _ _=>False
def qg5:qkx CX0 X E0:=λ_ _ _ _ _ _ _ h=>h.elim
structure Fun (K:Qqq) (x qual:Y5) (st:Stmt) (f:Y7) (fd:Qp):Prop where
 ex:∃(oc:Y8) (od:Y3 Y7) (kV doc pm:Y8) (an:Y3 Y7) (cdv ct:Y8) (osl:Array (Y3 Y8)),
  fd=PySem.W.fnOf x qual (qqf st) (qzu st) (qzd st) .none kV doc pm an cdv ct/\K.lookup f=Y ⟨oc,od,.func fd,osl⟩/\PySem.W.codeIn K cdv qual=O
 kp:Qzm K (.ref f)=O
section
variable {P:Program}{w:Qk}{K:Qqq}{mg:Y5->Y3 Y8}{base:Heap}
def Fun.ok{st:Stmt}(F:Fun K x a st f g)(S:FnScope N ps (qzd st))(len:∀vs H Q E,sp vs H Q E->vs.length=ps.length)(c:∀(b:Y8) (A:Qv) (outer:L Env) (s:Qz) (H:Hp) (vs:L V) (Q:VK) (E:XK),Room k (A.deeper (envOfC a (qzd st) s.heap.objs.size f b))->sp vs H Q E->
   ∃t,PSs (cxOf CX0 P w K mg base N a (qzd st) f b A outer s H E).nox (qzu st) t/\t { nx:=λ_ H'=>Q .non H',rt:=Q } (start N vs) H):FnOk P w K mg base CX0 (k+1) f g ps sp:=by
 obtain⟨n,m,kV,doc,l,an,b,ct,i,rfl,lk,e⟩:=F.ex;refine fn_of lk e S len λA outer s H vs Q E j d=>?_;obtain⟨t,h,q⟩:=c b A outer s H vs Q E j d;exact⟨t,h.nox,q⟩
def Fun.binds{st:Stmt}(F:Fun K x a st f d)(h:∀(kV doc c:Y8) (an:Y3 Y7) (b ct:Y8) (us:L Y8),us.length=ps.length->bindArgs (PySem.W.fnOf x a (qqf st) (qzu st) (qzd st) .none kV doc c an b ct) ⟨us,[]⟩=pure (ps.zip us)):Binds K d ps []:=by
 obtain⟨j,i,kV,doc,c,an,b,ct,e,rfl,lk,g⟩:=F.ex;exact .all (h kV doc c an b ct)
def qwe{st:Stmt}{kV:Y8}(l:K.lookup f=Y ⟨h,g,.func (PySem.W.fnOf x a (qqf st) (qzu st) (qzd st) .none kV doc e an b ct),d⟩)(c:PySem.W.codeIn K b a=O)(k:Qzm K (.ref f)=O):Fun K x a st f (PySem.W.fnOf x a (qqf st) (qzu st) (qzd st) .none kV doc e an b ct):=⟨⟨h,g,kV,doc,e,an,b,ct,d,rfl,l,c⟩,k⟩
end
def qcs(h:n<=1000):n<sizeLine:=Qx0 h (by decide)
section
end
def Same(H H':Hp):Prop:=∀b o,H b=Y o->H' b=Y o
end L2
end
section
namespace L2
open PySem PySem.Spec PyProof.Rows
section
variable [DecidableEq κ]
noncomputable def valV(kvs:L (κ×V))(k:κ):Y3 V:=(kvs.find? λkv=>decide (kv.1=k)).map (·.2)
noncomputable def putK(kvs:L (κ×V))(k:κ)(v:V):L (κ×V):=
 if (kvs.any λkv=>decide (kv.1=k))=O then kvs.map (λkv=>if kv.1=k then(kv.1,v) else kv) else kvs++[(k,v)]
def qxv{k:κ}(e:p.1=k):valV (p::r) k=Y p.2:=by simp[valV,Qza,e]
def qxw{k:κ}(e:¬ p.1=k):valV (p::r) k=valV r k:=by simp[valV,Qza,e]
theorem qyt(k):∀kvs:L (κ×V),(kvs.any λa=>decide (a.1=k))=(valV kvs k).isSome
 |[]=>rfl
 |p::r=>by
  rw[Qz3]
  by_cases e:p.1=k
  ·simp only[qxv e,Z3 e,Bool.true_or,Option.isSome_some]
  ·rw[qxw e,Z4 e,Bool.false_or]; exact qyt k r
def qxq(kvs:L (κ×V))(k)(v):(putK kvs k v).length<=kvs.length+1:=by
 unfold putK
 split
 ·rw[Qqz]; omega
 ·rw[Qqh,Qqi,Qja]; omega
def RelO.isSome_eq(r:RelO o u):o.isSome=u.isSome:=by
 cases o with
 |none=>cases u with
  |none=>rfl
  |some _=>exact(r).elim
 |some _=>cases u with
  |none=>exact(r).elim
  |some _=>rfl
theorem RelO.getD(r:RelO o u)(rd:RelV d d'):RelV (o.getD d) (u.getD d'):=by
 cases o with
 |none=>cases u with
  |none=>exact rd
  |some _=>exact(r).elim
 |some _=>cases u with
  |none=>exact(r).elim
  |some _=>exact r
def KV.val{vs:L (κ×Y8)}(r:KV kvs vs)(k):RelO (valV kvs k) (valueAt vs k):=by
 unfold KV at r
 induction r with
 |nil=>exact True.intro
 |@cons p q ps a h t d=>
  obtain⟨h1,h2⟩:=h
  by_cases e:p.1=k
  ·have c:=h1.symm.trans e;have b:valueAt (q::a) k=Y q.2:=by simp[valueAt,Qza,c]
   rw[qxv e,b]; exact h2
  ·have c:¬ q.1=k:=λz=>e (h1.trans z);have b:valueAt (q::a) k=valueAt a k:=by simp[valueAt,Qza,c]
   rw[qxw e,b]; exact d
theorem KV.any{vs:L (κ×Y8)}(r:KV kvs vs)(k):(kvs.any λa=>decide (a.1=k))=vs.any λa=>decide (a.1=k):=by
 unfold KV at r
 induction r with
 |nil=>rfl
 |cons h t b=>rw[Qz3,Qz3,b,h.1]
def KV.repl(r:KV kvs vs)(k:κ)(b:RelV y u):
  KV (kvs.map λa=>if a.1=k then(a.1,y) else a) (vs.map λa=>if a.1=k then(a.1,u) else a):=by
 unfold KV at r ⊢
 induction r with
 |nil=>exact .nil
 |@cons p q ps d h t c=>
  rw[Qqm,Qqm];refine .cons ?_ c;obtain⟨h1,h2⟩:=h
  by_cases e:p.1=k
  ·rw[Z6 e,Z6 (h1.symm.trans e)]; exact⟨h1,b⟩
  ·rw[Z5 e,Z5 (λz=>e (h1.trans z))]; exact⟨h1,h2⟩
def KV.put(r:KV kvs vs)(k:κ)(a:RelV y u):KV (putK kvs k y) (stored vs k u):=by
 unfold putK stored;rw[r.any k]
 by_cases e:(vs.any λb=>decide (b.1=k))=O
 ·rw[Z6 e,Z6 e]; exact r.repl k a
 ·rw[Z5 e,Z5 e]; exact Paired.snoc r ⟨rfl,a⟩
def KV.keys{vs:L (κ×Y8)}(r:KV kvs vs):kvs.map (·.1)=vs.map (·.1):=by
 unfold KV at r
 induction r with
 |nil=>rfl
 |cons h t a=>rw[Qqm,Qqm,a,h.1]
theorem KV.length{vs:L (κ×Y8)}(r:KV kvs vs):kvs.length=vs.length:=Paired.length r
end
def qky(r:RelV (kV k) u):(mixKind P w).is k u=true:=by
 cases k with
 |inl i=>obtain⟨t,e⟩:=(r); subst e; exact qyw P w i t
 |inr x=>obtain⟨t,e⟩:=(r); subst e; exact qxz P w x t
theorem qwy:∀{ks}{us},Vals (ks.map kV) us->ItemsAre (mixKind P w) ks us
 |[],_,r=>by rw[Qxy]at r; cases r; exact .nil
 |k::ks,_,r=>by
  rw[Qqm]at r
  cases r with
  |cons h t=>exact .cons (qky h) (qwy t)
abbrev KT(H:Hp):L (L Key×V)->L (L Key×Y7×Y8)->Prop:=Paired λp q=>p.1=q.1/\H q.2.1=Y (.tup (p.1.map kV))/\RelV p.2 q.2.2
def KT.val(r:KT H kvs xs)(k):RelO (valV kvs k) ((atKey xs k).map (·.2)):=by
 induction r with
 |nil=>exact True.intro
 |@cons p q ps a h t d=>
  obtain⟨h1,_,h2⟩:=h
  by_cases e:p.1=k
  ·have c:=h1.symm.trans e;have b:atKey (q::a) k=Y q.2:=by simp[atKey,Qza,c]
   rw[qxv e,b]; exact h2
  ·have c:¬ q.1=k:=λz=>e (h1.trans z);have b:atKey (q::a) k=atKey a k:=by simp[atKey,Qza,c]
   rw[qxw e,b]; exact d
def KT.repl(r:KT H kvs xs)(k)(b:RelV y u):
  KT H (kvs.map λa=>if a.1=k then(a.1,y) else a) (xs.map (putAt k u)):=by
 induction r with
 |nil=>exact .nil
 |@cons p q ps f h t c=>
  rw[Qqm,Qqm];refine .cons ?_ c;obtain⟨h1,h2,d⟩:=h;unfold putAt
  by_cases e:p.1=k
  ·rw[Z6 e,Z6 (h1.symm.trans e)]; exact⟨h1,h2,b⟩
  ·rw[Z5 e,Z5 (λz=>e (h1.trans z))]; exact⟨h1,h2,d⟩
def KT.put(r:KT H kvs xs)(k)(d:H b=Y (.tup (k.map kV)))(a:RelV y u):
  KT H (putK kvs k y) (storedH xs k b u):=by
 have e:(kvs.any λc=>decide (c.1=k))=(atKey xs k).isSome:=by
  rw[qyt,(r.val k).isSome_eq,Qjs]
 unfold putK storedH;rw[e]
 by_cases q:(atKey xs k).isSome=O
 ·rw[Z6 q,Z6 q]; exact r.repl k a
 ·rw[Z5 q,Z5 q]; exact Paired.snoc r ⟨rfl,d,a⟩
def KT.keeps(r:KT H kvs xs)(a:∀b ys,H b=Y (.tup ys)->H' b=Y (.tup ys)):KT H' kvs xs:=
 Paired.mapP r λ_ _ z=>⟨z.1,a _ _ z.2.1,z.2.2⟩
section
def rd_of(ok:HOk P w H h)(e:Rd H a u):ObjOk P w H h a u:=e.ok ok
def qwl(ok:HOk P w H h)(e:Rd H a (.dK kvs)):kvs.length<=sizeLine/\(a==Qn)=Y6/\∃vs,KV kvs vs/\h.DictOf (mixKind P w) a vs:=
 show ObjOk P w H h a (.dK kvs) from rd_of ok e
def dk_of(ok:HOk P w H h)(e:H a=Y (.dK kvs)):kvs.length<=sizeLine/\(a==Qn)=Y6/\∃vs,KV kvs vs/\h.DictOf (mixKind P w) a vs:=qwl ok (.inl e)
def qq5(ok:HOk P w H h)(e:H a=Y (.tup (ks.map kV))):(tupleKind (mixKind P w)).is h ks a:=by
 obtain⟨_,b,r,o,h1,h2,n,c⟩:=(ok a _ e)
 exact⟨o,b.toArray,n,h1,h2,c,by simpa using qwy r⟩
def qyh(ok:HOk P w H h)(e:Rd H a (.dT kvs)):kvs.length<=sizeLine/\(a==Qn)=Y6/\
  ∃xs,KT H kvs xs/\h.DictOfH (tupleKind (mixKind P w)) a xs:=by
 obtain⟨z,y,xs,r,o,es,j,h1,h2,i,g,f⟩:=(rd_of ok e)
 refine⟨z,y,xs,r,o,es,j,h1,h2,i,g,λx b=>?_,f⟩;have all:∀{l:L (L Key×V)}{m:L (L Key×Y7×Y8)},KT H l m->∀x∈m,(tupleKind (mixKind P w)).is h x.1 x.2.1:=by
  intro l m q
  induction q with
  |nil=>intro x b; exact nomatch b
  |@cons p q ps k c t d=>
   intro x b;rcases Qqy.mp b with e|b
   ·subst e;exact qq5 ok (by rw[<- c.1]; exact c.2.1)
   ·exact d x b
 exact all r x b
def dt_of(ok:HOk P w H h)(e:H a=Y (.dT kvs)):kvs.length<=sizeLine/\(a==Qn)=Y6/\
  ∃xs,KT H kvs xs/\h.DictOfH (tupleKind (mixKind P w)) a xs:=qyh ok (.inl e)
end
def DGet(H:Hp)(a:Y7)(y:V)(r:Y3 V):Prop:=
 (∃kvs k,Rd H a (.dK kvs)/\y=kV k/\r=valV kvs k)\/∃kvs k b,Rd H a (.dT kvs)/\y=.ref b/\H b=Y (.tup (k.map kV))/\r=valV kvs k
def DPut(H:Hp)(a:Y7)(y v:V)(H':Hp):Prop:=
 (∃kvs k,H a=Y (.dK kvs)/\y=kV k/\kvs.length<sizeLine/\H'=upd H a (.dK (putK kvs k v)))\/
 ∃kvs k b,H a=Y (.dT kvs)/\y=.ref b/\H b=Y (.tup (k.map kV))/\kvs.length<sizeLine/\H'=upd H a (.dT (putK kvs k v))
theorem DPut.k{H:Hp}{a:Y7}{kvs:L (Key×V)}{k:Key}{v:V}(e:H a=Y (.dK kvs))(b:kvs.length<sizeLine):DPut H a (kV k) v (upd H a (.dK (putK kvs k v))):=.inl ⟨kvs,k,e,rfl,b,rfl⟩
def DPut.t{H:Hp}{a b:Y7}{kvs:L (L Key×V)}{k:L Key}{v:V}(e:H a=Y (.dT kvs))(d:H b=Y (.tup (k.map kV)))(c:kvs.length<sizeLine):
  DPut H a (.ref b) v (upd H a (.dT (putK kvs k v))):=.inr ⟨kvs,k,b,e,rfl,d,c,rfl⟩
section
def Inv.big(I:Inv X pins σ H s):Qn<s.heap.objs.size:=by
 have h:=(I.mod.glob.keeps I.bk).lt;exact Nat.lt_trans (by decide) h
def qe3(t:A.units+1<cLine)(I:Inv X pins σ H s)(g:DGet H a y (Y v))(q:RelV y u)(h:∀f s',Inv X pins σ H s'->RelV v f->Q f s'):
  wpAny (model X.prog X.w) A (Zj (.ref a) u) Q E s:=by
 rcases g with⟨kvs,k,e,m,l⟩|⟨kvs,k,b,e,m,w,l⟩
 ·subst m;obtain⟨z,hd,vs,d,n⟩:=qwl I.hok e;obtain⟨f,i,c⟩:=RelO.some_of (by rw[l]; exact d.val k);exact wpAny_getItem_of (qky q) n.mapOf i (h f _ (I.tok _) c)
 ·subst m;cases (q);obtain⟨z,hd,xs,d,n⟩:=qyh I.hok e;obtain⟨f,i,c⟩:=RelO.some_of (by rw[l]; exact d.val k);obtain⟨p,hp,j⟩:=Qqb.mp i;refine wpAny_getItem_heap (Q7 t) (qq5 I.hok w) n hp ?_;rw[j];exact h f _ (I.tok _) c
def d_in(j:A.units+1<cLine)(I:Inv X pins σ H s)(g:DGet H a y o)(i:RelV y u)(h:∀s',Inv X pins σ H s'->Q (.bool o.isSome) s'):
  wpAny (model X.prog X.w) A (Qh .In u (.ref a)) Q E s:=by
 rcases g with⟨kvs,k,e,d,l⟩|⟨kvs,k,b,e,d,m,l⟩
 ·subst d;obtain⟨z,hd,vs,c,f⟩:=qwl I.hok e;refine wpAny_in_of (qky i) hd f.mapOf ?_;rw[<- (c.val k).isSome_eq,<- l];exact h _ (I.tok _)
 ·subst d;cases (i);obtain⟨z,hd,xs,c,f⟩:=qyh I.hok e;refine wpAny_in_heap (Q7 j) (qq5 I.hok m) hd f ?_;have q:=(c.val k).isSome_eq;rw[Qjs]at q;rw[<- q,<- l];exact h _ (I.tok _)
def qn8(j:A.units+1<cLine)(I:Inv X pins σ H s)(g:DGet H a y o)(i:RelV y u)(h:∀s',Inv X pins σ H s'->Q (.bool (!o.isSome)) s'):
  wpAny (model X.prog X.w) A (Qh .NotIn u (.ref a)) Q E s:=by
 rcases g with⟨kvs,k,e,d,l⟩|⟨kvs,k,b,e,d,m,l⟩
 ·subst d;obtain⟨z,hd,vs,c,f⟩:=qwl I.hok e;refine wpAny_notIn_of (qky i) hd f.mapOf ?_;rw[<- (c.val k).isSome_eq,<- l];exact h _ (I.tok _)
 ·subst d;cases (i);obtain⟨z,hd,xs,c,f⟩:=qyh I.hok e;refine wpAny_notIn_heap (Q7 j) (qq5 I.hok m) hd f ?_;have q:=(c.val k).isSome_eq;rw[Qjs]at q;rw[<- q,<- l];exact h _ (I.tok _)
def qym(I:Inv X pins σ H s)(c:Mut (H a))(d:Heap.SameBut a s.heap h')(f:∃q,h'.get? a=Y q)(new:ObjOk X.prog X.w (upd H a ob) h' a ob):
  Inv X pins σ (upd H a ob) { s with heap:=h',toks:=t' }:=
 I.write c (.inl rfl) (λb q g z=>(d.2 b g).trans z) f new
def dk_new(z:kvs.length<=sizeLine)(hd:(a==Qn)=Y6)(b:KV kvs vs)(c:h'.DictOf (mixKind P w) a vs):
  ObjOk P w H' h' a (.dK kvs):=⟨z,hd,vs,b,c⟩
def qe2(D:A.units+1<cLine)(I:Inv X pins σ H s)(g:DPut H a y v H')(t:RelV y u)(w:RelV v r)(h:∀s',Inv X pins σ H' s'->Q () s'):
  wpAny (model X.prog X.w) A (setItem (.ref a) u r) Q E s:=by
 rcases g with⟨kvs,k,e,m,l,n⟩|⟨kvs,k,b,e,m,C,l,n⟩
 ·subst m n;obtain⟨z,hd,vs,d,p⟩:=dk_of I.hok e;have j:vs.length<=sizeLine:=by rw[<- d.length]; exact z
  have hl:(putK kvs k v).length<=sizeLine:=by have:=qxq kvs k v; omega
  refine wpAny_setItem_pairs (qky t) p λh' f hs=>h _ ?_;have F:∃q,h'.get? a=Y q:=let ⟨q,_,_,i,_⟩:=f; ⟨q,i⟩;exact qym I (by rw[e]; exact True.intro) hs F (dk_new hl hd (d.put k w) f)
 ·subst m n;cases (t);obtain⟨z,hd,xs,d,p⟩:=dt_of I.hok e;have j:xs.length<=sizeLine:=by rw[<- Paired.length d]; exact z
  have hl:(putK kvs k v).length<=sizeLine:=by have:=qxq kvs k v; omega
  refine wpAny_setItem_heap (Q7 D) (qq5 I.hok C) p λh' f hs=>h _ ?_;obtain⟨q,es,P,i,h2,N,K,_,G⟩:=f;refine qym I (by rw[e]; exact True.intro) hs ⟨q,i⟩ ⟨hl,hd,_,(d.put k C w).keeps λc ys x=>?_,q,es,P,i,h2,N,K,G⟩;rw[qzq (qzr x e (λz=>nomatch z))];exact x
end
section
end
def NoSl(i:Qx):Prop:=∀ov iv,subscripted i Y6 ov iv=operate [ov,iv] (Zj ov iv)
def qcl(n:typeLookup (.type T) "__getitem__" = pure (Y (.builtin l)))(m:NoSl a)(h:wpAny (model prog w) A (Qb b env) (λo e=>wpAny (model prog w) A (Qb a env) (λi s₂=>s₂.TypeIs o T/\wpAny (model prog w) A (Zj o i) Q E s₂) E e) E s):
  wpAny (model prog w) A (Qb (.Subscript b a pos) env) Q E s:=by
 refine Subscript_ (Qi h (λo e j=>Qi j (λi s₂ c=>?_) λ_ _ x=>x) λ_ _ x=>x);obtain⟨k,c⟩:=c;unfold subscriptTail;refine Qq ?_;rw[getitemInPython_of_ne k.not_modules];refine Qq (Za k n ?_);have f:wpAny (model prog w) A (subscripted a Y6 o i) (λr d=>wpAny (model prog w) A (letTemporaryGo b o r >>= λ_=>pure r) Q E d) E s₂:=by
  rw[m o i];exact wpAny_operating (Qi c (λr d g=>Qq (wpAny_letTemporaryGo (Qj g))) λ_ _ x=>x)
 first
  |exact Qj (Qq f)
  |exact Qq (Qj (Qq f))
  |exact Qq f
def qyi(I:Inv X c f H s)(g:DGet H a y o):s.TypeIs (.ref a) "dict":=by
 rcases g with⟨kvs,k,e,_,_⟩|⟨kvs,k,b,e,_,_,_⟩
 ·obtain⟨_,_,vs,_,d⟩:=qwl I.hok e;exact d.typeIs
 ·obtain⟨_,_,xs,_,d⟩:=qyh I.hok e;exact d.typeIs
noncomputable def tDGet(td ty:TE):TE:=λσ H Q=>td σ H λx H1=>ty σ H1 λy H2=>∃a v,x=.ref a/\DGet H2 a y (Y v)/\Q v H2
noncomputable def tDIn(ty td:TE):TE:=λσ H Q=>ty σ H λy H1=>td σ H1 λx H2=>∃a o,x=.ref a/\DGet H2 a y o/\Q (.bl o.isSome) H2
noncomputable def qw8(ty td:TE):TE:=λσ H Q=>ty σ H λy H1=>td σ H1 λx H2=>∃a o,x=.ref a/\DGet H2 a y o/\Q (.bl (!o.isSome)) H2
noncomputable def sDPut(td ty tv:TE):TS:=λD σ H=>tv σ H λv H1=>td σ H1 λx H2=>ty σ H2 λy H3=>∃a H4,x=.ref a/\DPut H3 a y v H4/\D.nx σ H4
section
def qmf(m:X.A.units+1<cLine)(p:PE X o td)(q:PE X i ty)(n:NoSl i):PE X (.Subscript o i pos) (tDGet td ty):=by
 intro pins s σ H Q I h;refine qcl PySem.F.slot_dict_getitem.lookup n (thn (p pins s σ H _ I h) λu d ⟨x,H1,t,j,l⟩=>thn (q pins d σ H1 _ t l) λC A ⟨y,H2,c,f,a,v,ex,g,k⟩=>?_);subst ex;obtain rfl:u=Value.ref a:=j;exact⟨qyi c g,qe3 m c g f λw z r b=>⟨v,H2,r,b,k⟩⟩
def qiw(l:X.A.units+1<cLine)(n:PE X i ty)(m:PE X o td):PC X .In i o (tDIn ty td):=by
 intro pins s σ H Q I h;refine thn (n pins s σ H _ I h) λw b ⟨y,H1,r,c,j⟩=>thn (m pins b σ H1 _ r j) λu v ⟨x,H2,q,d,a,k,ex,g,f⟩=>?_;subst ex;obtain rfl:u=Value.ref a:=d;exact d_in l q g c λt p=>⟨.bl k.isSome,H2,p,rfl,f⟩
def qv7(l:X.A.units+1<cLine)(n:PE X i ty)(m:PE X o td):PC X .NotIn i o (qw8 ty td):=by
 intro pins s σ H Q I h;refine thn (n pins s σ H _ I h) λw b ⟨y,H1,r,c,j⟩=>thn (m pins b σ H1 _ r j) λu v ⟨x,H2,q,d,a,k,ex,g,f⟩=>?_;subst ex;obtain rfl:u=Value.ref a:=d;exact qn8 l q g c λt p=>⟨.bl (!k.isSome),H2,p,rfl,f⟩
def qc9(p:X.A.units+1<cLine)(t:PE X o td)(w:PE X i ty)(n:PE X value tv)(q:swapsWith value (Y (.Subscript o i pos')) pos.line X.env=pure Y6):
  PS X (.Assign [.Subscript o i pos'] value pos) (sDPut td ty tv):=by
 intro pins s σ H D I h;refine wpAny_Assign_Subscript (thn (n pins s σ H _ I h) λr c ⟨v,H1,E,j,m⟩=>thn (t pins c σ H1 _ E m) λu b ⟨x,H2,C,f,l⟩=>thn (w pins b σ H2 _ C l) λN K ⟨y,P,A,d,a,F,ex,g,k⟩=>?_) q;subst ex;obtain rfl:u=Value.ref a:=f;exact qe2 p A g d j λG z=>⟨σ,F,z,k⟩
end
def qa5(h:Heap)(a:Qn<h.objs.size):ObjOk P w H (h.push { cls:=.type "dict",data:=.dict #[] }) h.objs.size (.dK []):=
 ⟨Qq8 _,beq_eq_false_iff_ne.mpr (Ne.symm (Qq3 a)),[],.nil,Heap.DictOf.new h⟩
def qhh(h:Heap)(a:Qn<h.objs.size):ObjOk P w H (h.push { cls:=.type "dict",data:=.dict #[] }) h.objs.size (.dT []):=
 ⟨Qq8 _,beq_eq_false_iff_ne.mpr (Ne.symm (Qq3 a)),[],.nil,_,#[],0,Qqg _ rfl,⟨rfl,rfl,rfl⟩,rfl,rfl,List.nodup_nil⟩
noncomputable def tDNewK:TE:=λ_ H Q=>∀p,H p=B->Q (.ref p) (upd H p (.dK []))
noncomputable def tDNewT:TE:=λ_ H Q=>∀p,H p=B->Q (.ref p) (upd H p (.dT []))
section
def pe_dnewK:PE X (.Dict [] [] pos) tDNewK:=λpins s σ H Q I h=>
 wpAny_Dict_empty ⟨.ref s.heap.objs.size,_,I.laid (λ_ _ q=>Qqx _ q) (Qqk _) (qa5 s.heap I.big),rfl,h _ (I.hok.fresh (Qqk _))⟩
def pe_dnewT:PE X (.Dict [] [] pos) tDNewT:=λpins s σ H Q I h=>
 wpAny_Dict_empty ⟨.ref s.heap.objs.size,_,I.laid (λ_ _ q=>Qqx _ q) (Qqk _) (qhh s.heap I.big),rfl,h _ (I.hok.fresh (Qqk _))⟩
end
noncomputable def qy4:L (TE×TE)->St->Hp->(L (V×V)->Hp->Prop)->Prop
 |[],_,H,Q=>Q [] H
 |(tk,tv)::r,σ,H,Q=>tk σ H λx H1=>tv σ H1 λy H2=>qy4 r σ H2 λps H3=>Q ((x,y)::ps) H3
abbrev VV:L (V×V)->L (Y8×Y8)->Prop:=Paired λp q=>RelV p.1 q.1/\RelV p.2 q.2
def PPs(X:Cx)(pos:Pos)(keys:L (Y3 Qx))(values:L Qx)(trs:L (TE×TE)):Prop:=
 ∀(pins:L (Y7×Obj)) (s:Qz) (σ:St) (H:Hp) (Q:L (V×V)->Hp->Prop),Inv X pins σ H s->qy4 trs σ H Q->
  wpAny (model X.prog X.w) X.A (evalPairs (pairTrees keys values X.env pos)) (λvs s'=>∃ps H',Inv X pins σ H' s'/\VV ps vs/\Q ps H') X.xe s
def qmz:PPs X pos [] [] []:=λpins s σ H Q I h=>pairTrees_nil_walk ⟨[],H,I,.nil,h⟩
def qgm(p:PE X k d)(n:PE X v c)(o:PPs X pos ks vs a):
  PPs X pos (Y k::ks) (v::vs) ((d,c)::a):=λpins s σ H Q I h=>
 pairTrees_cons_walk (thn (p pins s σ H _ I h) λu f ⟨x,H1,t,i,m⟩=>thn (n pins f σ H1 _ t m) λw2 e ⟨y,H2,r,g,l⟩=>
  thn (o pins e σ H2 _ r l) λz A ⟨ps,w,q,b,j⟩=>⟨(x,y)::ps,w,q,.cons ⟨i,g⟩ b,j⟩)
noncomputable def qki(kvs more:L (Key×V)):L (Key×V):=more.foldl (λacc kv=>putK acc kv.1 kv.2) kvs
def KV.merge:∀{more}{a}{kvs}{vs},KV more a->KV kvs vs->KV (qki kvs more) (merged vs a):=by
 intro more a kvs vs r;unfold KV at r
 induction r generalizing kvs vs with
 |nil=>intro q; exact q
 |@cons p q ps d h t c=>
  intro b;have e:KV (putK kvs p.1 p.2) (stored vs q.1 q.2):=by
   have:=b.put p.1 h.2;rw[<- h.1]; exact this
  exact c e
theorem qxf:∀(more kvs:L (Key×V)),(qki kvs more).length<=kvs.length+more.length
 |[],kvs=>by show kvs.length<=kvs.length+0; omega
 |p::r,kvs=>by
  have h1:=qxf r (putK kvs p.1 p.2);have h2:=qxq kvs p.1 p.2;show(qki (putK kvs p.1 p.2) r).length<=_;rw[Qqi]; omega
theorem qku:∀{kvs}{ws},VV (kvs.map λe=>(kV e.1,e.2)) ws->∃d,Carries (mixKind P w) ws d/\KV kvs d
 |[],_,r=>by rw[Qxy]at r; cases r; exact⟨[],True.intro,.nil⟩
 |p::kvs,_,r=>by
  rw[Qqm]at r
  cases r with
  |@cons a b f bs h t=>
   obtain⟨d,c,q⟩:=qku t;obtain⟨b1,b2⟩:=b;exact⟨(p.1,b2)::d,⟨qky h.1,rfl,c⟩,.cons ⟨rfl,h.2⟩ q⟩
noncomputable def tDisp(trs:L (TE×TE)):TE:=λσ H Q=>∀p,H p=B->qy4 trs σ (upd H p (.dK [])) λps H2=>H2 p=Y (.dK [])/\∃kvs:L (Key×V),ps=kvs.map (λkv=>(kV kv.1,kv.2))/\kvs.length<=15/\Q (.ref p) (upd H2 p (.dK (qki [] kvs)))
def qmd(h:PPs X pos keys b d)(f:keys.all (·.isSome)=O)(v:keys.length=b.length)(y:keys≠[])(j:keys.length<=15):PE X (.Dict keys b pos) (tDisp d):=by
 intro pins s σ H Q I q;have hn:=I.hok.fresh (Qqk s.heap.objs.size);have D:=I.laid (t':=s.toks) (λ_ _ q=>Qqx _ q) (Qqk _) (qa5 s.heap I.big);refine wpAny_Dict_walk (knd:=mixKind X.prog X.w) f v y j (thn (h pins _ σ _ _ D (q _ hn)) λE F ⟨ps,H2,k,i,e,kvs,A,lk,r⟩=>?_);subst A;obtain⟨m,c,n⟩:=qku i;obtain⟨z,hd,l,p,C⟩:=dk_of k.hok e;cases p;refine⟨m,c,C,λh' g hs=>⟨.ref s.heap.objs.size,_,?_,rfl,r⟩⟩;have t:(qki [] kvs).length<=sizeLine:=by
  have h1:=qxf kvs [];rw[Qja]at h1;rw[Q0]; omega
 have x:∃q,h'.get? s.heap.objs.size=Y q:=let ⟨q,_,_,u,_⟩:=g; ⟨q,u⟩;exact qym k (by rw[e]; exact True.intro) hs x (dk_new t hd (n.merge .nil) g)
structure M1 (X:Cx) (o:Qx) (m:Y5) (apos:Pos) (e:Qx) (cpos:Pos):Prop where
 base:Zx o m X.env (Qb o X.env)=Qb o X.env
 few:((backTo cpos (starEach [e] X.env)).all (λx=>!x.1)&&(backToKw cpos (keywordEach [] X.env)).all (λx=>x.1.isSome)
  && decide (([e]:L Qx).length+([]:L Zr).length+(if ([]:L Zr).isEmpty then 0 else 1)<30))=O
 line:(apos.endLine==cpos.line)=O
 trees:backTo cpos (starEach [e] X.env)=[(Y6,Qb e X.env)]
def IsD(H:Hp)(a:Y7):Prop:=(∃kvs,Rd H a (.dK kvs))\/∃kvs,Rd H a (.dT kvs)
def isD_at(I:Inv X c g H s)(d:IsD H a):
  s.TypeIs (.ref a) "dict"/\(∀b,Value.ref a=.ref b->∃ob,s.heap.get? b=Y ob/\ob.dict=B)/\(a==Qn)=false:=by
 rcases d with⟨kvs,e⟩|⟨kvs,e⟩
 ·obtain⟨_,hd,vs,_,f⟩:=qwl I.hok e;refine⟨f.typeIs,λb q=>?_,hd⟩;cases q;obtain⟨ob,_,_,h1,h2,_⟩:=f;exact⟨ob,h1,h2.2.1⟩
 ·obtain⟨_,hd,xs,_,f⟩:=qyh I.hok e;refine⟨f.typeIs,λb q=>?_,hd⟩;cases q;obtain⟨ob,_,_,h1,h2,_⟩:=f;exact⟨ob,h1,h2.2.1⟩
section
def d_get1(n:A.units+1<cLine)(I:Inv X pins σ H s)(g:DGet H a y o)(m:RelV y u)(h:∀j s',Inv X pins σ H s'->RelV (o.getD .non) j->Q j s'):
  wpAny (model X.prog X.w) A (call (.builtin "dict.get") [.ref a,u]) Q E s:=by
 rcases g with⟨kvs,k,e,i,l⟩|⟨kvs,k,b,e,i,p,l⟩
 ·subst i;obtain⟨z,hd,vs,c,f⟩:=qwl I.hok e;refine call_meetsIn PySem.F.slot_dict_get f.typeIs PySem.F.entry_dict_get (PySem.F.args_dict_get_2 _ _) (meets_dict_get (mixKind X.prog X.w) a (qky m) hd) ⟨_,f.mapOf,h _ _ (I.tok _) ?_⟩;rw[l];exact(c.val k).getD rfl
 ·subst i;cases (m);obtain⟨z,hd,xs,c,f⟩:=qyh I.hok e;refine call_meetsIn PySem.F.slot_dict_get f.typeIs PySem.F.entry_dict_get (PySem.F.args_dict_get_2 _ _) (meetsH_dict_get (tupleKind (mixKind X.prog X.w)) a b hd) ⟨Q7 n,k,xs,qq5 I.hok p,f,h _ _ (I.tok _) ?_⟩;rw[l];exact(c.val k).getD rfl
end
noncomputable def tDGet1(td ty:TE):TE:=λσ H Q=>td σ H λx H1=>∃a,x=.ref a/\IsD H1 a/\ty σ H1 λy H2=>∃o,DGet H2 a y o/\Q (o.getD .non) H2
section
def qg2(p:X.A.units+1<cLine)(q:PE X o td)(r:PE X e ty)(m:M1 X o "get" apos e cpos):PE X (.Call (.Attribute o "get" apos) [e] [] cpos) (tDGet1 td ty):=by
 intro pins s σ H Q I h;refine wpAny_Call_method m.base m.few m.line PySem.F.plainAttrs_dict PySem.F.slot_dict_get PySem.F.type_dict_get (thn (q pins s σ H _ I h) λu i ⟨x,H1,c,k,a,ex,d,n⟩=>?_);subst ex;obtain rfl:u=Value.ref a:=k;obtain⟨t1,t2,_⟩:=isD_at c d;refine⟨t1,t2,?_⟩;rw[m.trees];refine Calls.callWith_builtin rfl (Calls.evalArgs_plain (Calls.spliced_cons (thn (r pins i σ H1 _ c n) λD A ⟨y,H2,v,j,C,g,l⟩=>Calls.spliced_nil ?_)));exact d_get1 p v g j λw z t b=>⟨_,H2,t,b,l⟩
end
section
end
section
end
end L2
end
section
namespace M
open PySem (Str Operator CmpOp)
inductive D where
 |non|bl (b:Yb)|int (i:J)|str (s:Y5)|tup (ds:L D)|lst (ds:L D)|loc (l:Y0)|fup (ks:L J)
 deriving Inhabited
inductive Ya where
 |lst (w:Yb) (ds:L D)
 |dic (w:Yb) (kvs:L (D×D))
 |obj (C:Y0) (fs:L (Y5×D))
 |tdc (w:Yb) (kvs:L (L J×D))
 deriving Inhabited
abbrev Y4:=L Ya
abbrev Sl:=L (Y3 D)
noncomputable def lim:Nat:=16777216
inductive Ty where
 |non|bl|int|str|tup|lst
 deriving DecidableEq
noncomputable def Ty.name:Ty->String
 |.non=>"NoneType"
 |.bl=>"bool"
 |.int=>"int"
 |.str=>"str"
 |.tup=>"tuple"
 |.lst=>"list"
inductive Bq where
 |len|min|tuple|list|all|sorted|any
inductive Mt where
 |append|extend|index|insert
inductive T where
 |var (i:Y0)
 |tup (is:L Y0)
noncomputable def T.slots:T->L Y0
 |.var i=>[i]
 |.tup is=>is
inductive E where
 |var (i:Y0)
 |lit (d:D)
 |glo (x:Y5) (d:D)
 |bin (op:Zl) (a b:E)
 |neg (a:E)
 |not (a:E)
 |cmp (op:CmpOp) (a b:E)
 |cmp2 (op op':CmpOp) (a b c:E)
 |and (a b:E)
 |or (a b:E)
 |ite (c a b:E)
 |tup (es:L E)
 |lst (es:L E)
 |idx (a b:E)
 |sli (a:E) (lo hi:Y3 E)
 |call (f:Y0) (es:L E)
 |bcall (f:Bq) (es:L E)
 |isi (a:E) (ts:L Ty) (many:Yb)
 |meth (a:E) (m:Mt) (es:L E)
 |gc (a:E)
 |rng1 (a:E)
 |rng2 (a b:E)
 |zip (a b:E)
 |enu (a:E)
 |rev (a:E)
 |dic (es:L E)
 |didx (a b:E)
 |din (neg:Yb) (a b:E)
 |dgt (a b:E)
 |gidx (x:Y5) (ks:L Y5) (ds:L D) (b:E)
 |gin (neg:Yb) (x:Y5) (ks:L Y5) (b:E)
 |lenset (a:E)
 |comp (t:T) (it:E) (test:Y3 E) (elt:E) (src:L (Y3 Y0))
 |tsli (a:E) (lo hi:Y3 E)
 |unt (a:E)
 |tdn
 |tdi (neg:Yb) (a b:E)
 |attr (C:Y0) (a:E) (f:Y5)
 |mcall (C f:Y0) (m:Y5) (a:E) (es:L E)
 |new (C f:Y0) (es:L E)
inductive S where
 |set (t:T) (e:E)
 |dset (a i e:E)
 |tds (a i e:E)
 |setA (C:Y0) (a:E) (f:Y5) (e:E)
 |ford (t:T) (a:E) (body:L S)
 |bad
 |expr (e:E)
 |ret (e:E)
 |ite (c:E) (a b:L S)
 |forr (t:T) (it:E) (body:L S)
structure Fn where
 np:Y0
 nl:Y0
 body:L S
mutual
noncomputable def eqT:D->D->Yb
 |.non,.non=>O
 |.bl a,.bl b=>a==b
 |.bl a,.int j=>(if a then 1 else 0)==j
 |.int i,.bl b=>i==(if b then 1 else 0)
 |.int i,.int j=>i==j
 |.str a,.str b=>a==b
 |.tup a,.tup b=>eqTs a b
 |_,_=>Y6
noncomputable def eqTs:L D->L D->Yb
 |[],[]=>O
 |a::as,b::bs=>eqT a b&&eqTs as bs
 |_,_=>Y6
end
noncomputable def isI:D->Yb
 |.int _=>O
 |_=>Y6
noncomputable def flat(_:Y0):D->Yb
 |.int _=>O
 |.str _=>O
 |.tup ds=>ds.all isI
 |_=>Y6
noncomputable abbrev flats(n:Y0)(ds:L D):Bool:=ds.all (flat n)
noncomputable def mulOk(i j:J):Bool:=(decide (-(2 ^ 64)<i)&&decide (i<2 ^ 64))||(decide (-(2 ^ 64)<j)&&decide (j<2 ^ 64))
noncomputable def listAt(st:Y4)(l:Y0):Y3 (L D):=match st[l]? with|some (.lst _ ds)=>Y ds|_=>B
noncomputable def wlistAt(st:Y4)(l:Y0):Y3 (L D):=match st[l]? with|some (.lst O ds)=>Y ds|_=>B
noncomputable def seqAt(st:Y4):D->Y3 (L D)
 |.loc l=>listAt st l
 |.lst ds=>Y ds
 |_=>B
mutual
/-- no place of the store within -/
noncomputable def noLoc:D->Yb
 |.loc _=>Y6
 |.tup ds=>noLocs ds
 |.lst ds=>noLocs ds
 |_=>O
noncomputable def noLocs:L D->Yb
 |[]=>O
 |d::ds=>noLoc d&&noLocs ds
end
mutual
/-- every place of the store within is one of the first n -/
noncomputable def lt(n:Y0):D->Yb
 |.loc l=>Nat.blt l n
 |.tup ds=>lts n ds
 |.lst ds=>lts n ds
 |_=>O
noncomputable def lts(n:Y0):L D->Yb
 |[]=>O
 |d::ds=>lt n d&&lts n ds
end
noncomputable def ltC(n:Y0):Ya->Yb
 |.lst _ ds=>lts n ds
 |.dic _ kvs=>kvs.all λp=>lt n p.2
 |.obj _ fs=>fs.all λp=>lt n p.2
 |.tdc _ kvs=>kvs.all λp=>lt n p.2
noncomputable def gcX(n:Y0)(p:D×Y4):D×Y4:=
 if noLoc p.1 then(p.1,p.2.take n) else match p.1 with
  |.loc l=>if n<=l then(match p.2[l]? with
   |some (.lst O ds)=>if noLocs ds then(.lst ds,p.2.take n) else p
   |_=>p) else p
  |_=>p
open Classical in
noncomputable def gcD(st:Y4)(p:D×Y4):D×Y4:=
 if (p.2.take st.length).all (ltC st.length)=O then gcX st.length p else if p.2.take st.length=st then gcX st.length p else p
noncomputable def dicAt(st:Y4)(l:Y0):Y3 (L (D×D)):=match st[l]? with|some (.dic _ kvs)=>Y kvs|_=>B
noncomputable def wdicAt(st:Y4)(l:Y0):Y3 (L (D×D)):=match st[l]? with|some (.dic O kvs)=>Y kvs|_=>B
noncomputable def tdcAt(st:Y4)(l:Y0):Y3 (L (L J×D)):=match st[l]? with|some (.tdc _ kvs)=>Y kvs|_=>B
noncomputable def wtdcAt(st:Y4)(l:Y0):Y3 (L (L J×D)):=match st[l]? with|some (.tdc O kvs)=>Y kvs|_=>B
noncomputable def tget(kvs:L (L J×D))(k:L J):Y3 D:=(kvs.find? λp=>decide (p.1=k)).map (·.2)
noncomputable def tput(kvs:L (L J×D))(k:L J)(v:D):L (L J×D):=if kvs.any λp=>decide (p.1=k) then kvs.map λp=>if p.1=k then(p.1,v) else p else kvs++[(k,v)]
noncomputable def objAt(st:Y4)(C:Y0):D->Y3 (L (Y5×D))
 |.loc l=>match st[l]? with|some (.obj C' fs)=>if C'=C then Y fs else B|_=>B
 |_=>B
noncomputable def putA(f:Y5)(v:D):L (Y5×D)->L (Y5×D)
 |[]=>[(f,v)]
 |(g,x)::r=>if g=f then(g,v)::r else(g,x)::putA f v r
noncomputable def keysOf(kvs:L (D×D)):L D:=kvs.map (·.1)
noncomputable def dkeys(st:Y4):D->Y3 (L D)
 |.loc l=>(dicAt st l).map keysOf
 |_=>B
noncomputable def isKey:D->Yb
 |.int _=>O
 |.str _=>O
 |_=>Y6
noncomputable def dget(kvs:L (D×D))(k:D):Y3 D:=(kvs.find? λp=>eqT p.1 k).map (·.2)
noncomputable def dput(kvs:L (D×D))(k v:D):L (D×D):=if kvs.any λp=>eqT p.1 k then kvs.map (λp=>if eqT p.1 k then(p.1,v) else p) else kvs++[(k,v)]
noncomputable def pairUp:L D->Y3 (L (D×D))
 |[]=>Y []
 |k::v::r=>if isKey k then(pairUp r).map ((k,v)::·) else B
 |_=>B
noncomputable def dall(kvs:L (D×D)):L (D×D):=kvs.foldl (λacc p=>dput acc p.1 p.2) []
noncomputable def alloc(st:Y4)(c:Ya):D×Y4:=(.loc st.length,st++[c])
noncomputable def binop(st:Y4):Zl->D->D->Y3 (D×Y4)
 |.Add,.int i,.int j=>Y (.int (i+j),st)
 |.Add,.tup a,.tup b=>if a.isEmpty||decide (lim<a.length+b.length) then B else Y (.tup (a++b),st)
 |.Add,a,b=>(seqAt st a).bind λx=>(seqAt st b).bind λy=>if lim<x.length+y.length then B else Y (alloc st (.lst O (x++y)))
 |.Sub,.int i,.int j=>Y (.int (i - j),st)
 |.Mult,.int i,.int j=>if mulOk i j then Y (.int (i*j),st) else B
 |.Mult,.tup a,.int k=>if decide (k < -(2 ^ 62))||decide (2 ^ 62<=k)||decide (lim<a.length*k.toNat) then B else Y (.tup (List.replicate k.toNat a).flatten,st)
 |.FloorDiv,.int i,.int j=>if 0<j/\j<2 ^ 64 then Y (.int (i / j),st) else B
 |.Mod,.int i,.int j=>if 0<j then Y (.int (i % j),st) else B
 |.Pow,.int i,.int j=>if 0<=j/\j<=1000/\i.natAbs<2 ^ 64 then Y (.int (i ^ j.toNat),st) else B
 |_,_,_=>B
noncomputable def addK(S:L (L J))(k:L J):L (L J):=if k∈S then S else S++[k]
noncomputable def distinct(ks:L (L J)):L (L J):=ks.foldl addK []
noncomputable def keyD:D->Y3 (L J)
 |.tup ds=>ds.mapM λd=>match d with|.int i=>Y i|_=>B
 |_=>B
noncomputable def qvk:D->Y3 D
 |.tup ds=>(ds.mapM keyD).bind λks=>if ds.length<=16 then Y (.int (distinct ks).length) else B
 |_=>B
noncomputable def ixN(n:Y0)(i:J):Y3 Nat:=if 0<=i then(if i<n then Y i.toNat else B) else if -(n:J)<=i then Y (i+n).toNat else B
noncomputable def atI{α:Type}(xs:L α)(i:J):Y3 α:=(ixN xs.length i).bind λj=>xs[j]?
noncomputable def idxD(st:Y4):D->D->Y3 D
 |.tup ds,.int i=>atI ds i
 |d,.int i=>(seqAt st d).bind λds=>atI ds i
 |_,_=>B
noncomputable def cutIx(n d:Y0):Y3 J->Y0
 |none=>d
 |some v=>if v<0 then(v+(n:J)).toNat else min v.toNat n
noncomputable def cut{α:Type}(xs:L α)(lo hi:Y3 J):L α:=(xs.drop (cutIx xs.length 0 lo)).take (cutIx xs.length xs.length hi - cutIx xs.length 0 lo)
noncomputable def sliD(st:Y4):D->Y3 J->Y3 J->Y3 (D×Y4)
 |.tup ds,lo,hi=>Y (.tup (cut ds lo hi),st)
 |d,lo,hi=>(seqAt st d).map λds=>alloc st (.lst O (cut ds lo hi))
noncomputable def inD(st:Y4)(x:D):D->Y3 Yb
 |.tup ds=>if flat 9 x&&flats 9 ds then Y (ds.any λy=>eqT y x) else B
 |d=>(seqAt st d).bind λds=>if flat 9 x&&flats 9 ds then Y (ds.any λy=>eqT y x) else B
noncomputable def isNon:D->Yb
 |.non=>O
 |_=>Y6
noncomputable def eqD(_:Y4)(x y:D):Y3 Bool:=match x,y with
 |.bl a,.bl b=>Y (a==b)
 |.non,.non=>Y O
 |x,y=>if flat 9 x&&(flat 9 y||isNon y) then Y (eqT x y) else B
noncomputable def neD(_:Y4):D->D->Y3 Yb
 |.int i,.int j=>Y (!(i==j))
 |.str i,.str j=>Y (!(i==j))
 |_,_=>B
noncomputable def cmpD(st:Y4):CmpOp->D->D->Y3 Yb
 |.Lt,.int i,.int j=>Y (decide (i<j))
 |.LtE,.int i,.int j=>Y (decide (i<=j))
 |.Gt,.int i,.int j=>Y (decide (j<i))
 |.GtE,.int i,.int j=>Y (decide (j<=i))
 |.Eq,x,y=>eqD st x y
 |.NotEq,x,y=>neD st x y
 |.Is,x,.non=>Y (isNon x)
 |.IsNot,x,.non=>Y (!isNon x)
 |.In,x,y=>inD st x y
 |.NotIn,x,y=>(inD st x y).map (!·)
 |_,_,_=>B
noncomputable def tyName(st:Y4):D->Y3 Ty
 |.non=>Y .non
 |.bl _=>Y .bl
 |.int _=>Y .int
 |.str _=>Y .str
 |.tup _=>Y .tup
 |d=>(seqAt st d).map λ_=>.lst
noncomputable def tyIs(t n:Ty):Bool:=t==n||(t==.int&&n==.bl)
noncomputable def truth(st:Y4):D->Y3 Yb
 |.non=>Y Y6
 |.bl b=>Y b
 |.int i=>Y (i != 0)
 |.tup ds=>Y (!ds.isEmpty)
 |d=>(seqAt st d).map λds=>!ds.isEmpty
noncomputable def insInt(x:J):L J->L J
 |[]=>[x]
 |y::r=>if x<=y then x::y::r else y::insInt x r
noncomputable def sortInt:L J->L J
 |[]=>[]
 |x::r=>insInt x (sortInt r)
noncomputable def asInts:L D->Y3 (L J)
 |[]=>Y []
 |.int i::r=>(asInts r).map (i::·)
 |_=>B
noncomputable def asBools:L D->Y3 (L Yb)
 |[]=>Y []
 |.bl i::r=>(asBools r).map (i::·)
 |_=>B
noncomputable def bLen(st:Y4):L D->Y3 (D×Y4)
 |[.tup ds]=>Y (.int ds.length,st)
 |[d]=>(seqAt st d).map λds=>(.int ds.length,st)
 |_=>B
noncomputable def bMin(st:Y4):L D->Y3 (D×Y4)
 |[.int i,.int j]=>Y (.int (if j<i then j else i),st)
 |_=>B
noncomputable def bTuple(st:Y4):L D->Y3 (D×Y4)
 |[.tup ds]=>Y (.tup ds,st)
 |[d]=>(seqAt st d).map λds=>(.tup ds,st)
 |_=>B
noncomputable def bList(st:Y4):L D->Y3 (D×Y4)
 |[.tup ds]=>Y (alloc st (.lst O ds))
 |[d]=>((seqAt st d).or (dkeys st d)).map λds=>alloc st (.lst O ds)
 |_=>B
noncomputable def bAll(st:Y4):L D->Y3 (D×Y4)
 |[d]=>(seqAt st d).bind λds=>(asBools ds).map λbs=>(.bl (bs.all id),st)
 |_=>B
noncomputable def bAny(st:Y4):L D->Y3 (D×Y4)
 |[d]=>(seqAt st d).bind λds=>(asBools ds).map λbs=>(.bl (bs.any id),st)
 |_=>B
noncomputable def bSorted(st:Y4):L D->Y3 (D×Y4)
 |[d]=>((seqAt st d).or (dkeys st d)).bind λds=>(if 64<=ds.length then B else asInts ds).map λns=>alloc st (.lst O ((sortInt ns).map .int))
 |_=>B
noncomputable def bfun(st:Y4):Bq->L D->Y3 (D×Y4)
 |.len=>bLen st
 |.min=>bMin st
 |.tuple=>bTuple st
 |.list=>bList st
 |.all=>bAll st
 |.sorted=>bSorted st
 |.any=>bAny st
noncomputable def mAppend(st:Y4):D->L D->Y3 (D×Y4)
 |.loc l,[d]=>(wlistAt st l).bind λds=>if ds.length<lim then Y (.non,st.set l (.lst O (ds++[d]))) else B
 |_,_=>B
noncomputable def mExtend(st:Y4):D->L D->Y3 (D×Y4)
 |.loc l,[d]=>(wlistAt st l).bind λds=>(match d with|.tup es=>Y es|d=>seqAt st d).bind λes=>if ds.length+es.length<=lim then Y (.non,st.set l (.lst O (ds++es))) else B
 |_,_=>B
noncomputable def mIndex(st:Y4):D->L D->Y3 (D×Y4)
 |d,[x]=>(seqAt st d).bind λds=>if flat 9 x&&flats 9 ds then(ds.findIdx? λy=>eqT y x).map λ(j:Y0)=>(.int (j:J),st) else B
 |_,_=>B
noncomputable def mInsert(st:Y4):D->L D->Y3 (D×Y4)
 |.loc l,[.int i,d]=>(wlistAt st l).bind λds=>if 0<=i/\i<=ds.length/\ds.length<lim then Y (.non,st.set l (.lst O (ds.take i.toNat++d::ds.drop i.toNat))) else B
 |_,_=>B
noncomputable def mfun(st:Y4):Mt->D->L D->Y3 (D×Y4)
 |.append=>mAppend st
 |.extend=>mExtend st
 |.index=>mIndex st
 |.insert=>mInsert st
noncomputable def Mt.ofList(_:Mt):Bool:=O
noncomputable def mty(st:Y4)(m:Mt):D->Yb
 |.str _=>!m.ofList
 |d=>m.ofList&&(seqAt st d).isSome
inductive Out where
 |nx (τ:Sl)
 |rt (d:D)
 |bk (τ:Sl)
 |ct (τ:Sl)
structure R where
 ev:Sl->Y4->E->Y3 (D×Y4)
 tst:Sl->Y4->E->Y3 (Yb×Y4)
 ex:Sl->Y4->L S->Y3 (Out×Y4)
 call:Y0->L D->Y4->Y3 (D×Y4)
noncomputable def evs(f:Y4->E->Y3 (D×Y4)):L E->Y4->Y3 (L D×Y4)
 |[],st=>Y ([],st)
 |e::es,st=>(f st e).bind λp=>(evs f es p.2).bind λq=>Y (p.1::q.1,q.2)
noncomputable def setIs:L Y0->L D->Sl->Y3 Sl
 |[],[],τ=>Y τ
 |i::is,d::ds,τ=>if i<τ.length then setIs is ds (τ.set i (Y d)) else B
 |_,_,_=>B
noncomputable def setT:T->D->Sl->Y3 Sl
 |.var i,d,τ=>if i<τ.length then Y (τ.set i (Y d)) else B
 |.tup is,.tup ds,τ=>setIs is ds τ
 |_,_,_=>B
inductive Src where
 |tup (ds:L D)
 |lst (d:D)
 |rng (lo:J) (n:Y0)
 |zip (a b:D)
 |enu (a:D)
 |rev (ds:L D)
noncomputable def rowAt(st:Y4):D->Y3 (L D)
 |.tup ds=>Y ds
 |d=>seqAt st d
noncomputable def pairAt(xs ys:L D)(i:Y0):Y3 D:=match xs[i]?,ys[i]? with
 |some x,Y y=>Y (.tup [x,y])
 |_,_=>B
noncomputable def Src.at(st:Y4)(i:Y0):Src->Y3 (Y3 D)
 |.tup ds=>Y ds[i]?
 |.lst d=>(seqAt st d).map λds=>ds[i]?
 |.rng lo n=>Y (if i<n then Y (.int (lo+i)) else B)
 |.zip a b=>(rowAt st a).bind λxs=>(rowAt st b).map λys=>pairAt xs ys i
 |.enu a=>(rowAt st a).map λxs=>xs[i]?.map λx=>.tup [.int i,x]
 |.rev ds=>Y (if i<ds.length then ds[ds.length - 1 - i]? else B)
noncomputable def Src.size(st:Y4):Src->Y0
 |.tup ds=>ds.length
 |.lst d=>((seqAt st d).getD []).length
 |.rng _ n=>n
 |.zip a b=>min ((rowAt st a).getD []).length ((rowAt st b).getD []).length
 |.enu a=>((rowAt st a).getD []).length
 |.rev ds=>ds.length
noncomputable def big(i:J):Bool:=decide (i < -(2 ^ 62))||decide (2 ^ 62<=i)
noncomputable def src(r:R)(τ:Sl)(st:Y4):E->Y3 (Src×Y4)
 |.rng1 a=>(r.ev τ st a).bind λp=>match p.1 with
  |.int n=>if big n then B else Y (.rng 0 n.toNat,p.2)
  |_=>B
 |.rng2 a b=>(r.ev τ st a).bind λp=>(r.ev τ p.2 b).bind λq=>match p.1,q.1 with
  |.int i,.int j=>if big i||big j then B else Y (.rng i (j - i).toNat,q.2)
  |_,_=>B
 |.zip a b=>(r.ev τ st a).bind λp=>(r.ev τ p.2 b).bind λq=>(rowAt q.2 p.1).bind λ_=>(rowAt q.2 q.1).map λ_=>(.zip p.1 q.1,q.2)
 |.enu a=>(r.ev τ st a).bind λp=>(rowAt p.2 p.1).map λ_=>(.enu p.1,p.2)
 |.rev a=>(r.ev τ st a).bind λp=>match p.1 with
  |.tup ds=>Y (.rev ds,p.2)
  |_=>B
 |e=>(r.ev τ st e).bind λp=>match p.1 with
  |.tup ds=>Y (.tup ds,p.2)
  |d=>(seqAt p.2 d).map λ_=>(.lst d,p.2)
noncomputable def loop(it:Src)(f:Sl->Y4->D->Y3 (Out×Y4)):Y0->Y0->Sl->Y4->Y3 (Out×Y4)
 |0,_,_,_=>B
 |k+1,i,τ,st=>(it.at st i).bind λo=>match o with
  |none=>Y (.nx τ,st)
  |some d=>(f τ st d).bind λp=>match p.1 with
   |.nx τ'=>loop it f k (i+1) τ' p.2
   |.ct τ'=>loop it f k (i+1) τ' p.2
   |.bk τ'=>Y (.nx τ',p.2)
   |.rt v=>Y (.rt v,p.2)
noncomputable def turnC(r:R)(t:T)(test:Y3 E)(elt:E)(τ:Sl)(st:Y4)(d:D):Y3 (Y3 D×Sl×Y4):=
 (setT t d τ).bind λτ'=>match test with
  |none=>(r.ev τ' st elt).map λp=>(Y p.1,τ',p.2)
  |some c=>(r.tst τ' st c).bind λb=>if b.1 then(r.ev τ' b.2 elt).map λp=>(Y p.1,τ',p.2) else Y (B,τ',b.2)
noncomputable def loopC(it:Src)(f:Sl->Y4->D->Y3 (Y3 D×Sl×Y4)):Y0->Y0->L D->Sl->Y4->Y3 (L D×Y4)
 |0,_,_,_,_=>B
 |k+1,i,acc,τ,st=>(it.at st i).bind λo=>match o with
  |none=>if lim<acc.length then B else Y (acc,st)
  |some d=>if lim<=acc.length then B else(f τ st d).bind λp=>loopC it f k (i+1) (match p.1 with|some x=>acc++[x]|none=>acc) p.2.1 p.2.2
noncomputable def inner(src:L (Y3 Y0))(τ:Sl):Sl:=src.map λo=>o.bind λi=>(τ[i]?).bind id
noncomputable def part(r:R)(τ:Sl)(st:Y4):Y3 E->Y3 (Y3 J×Y4)
 |none=>Y (B,st)
 |some e=>(r.ev τ st e).bind λp=>match p.1 with
  |.int i=>Y (Y i,p.2)
  |_=>B
noncomputable def dinR(r:R)(τ:Sl)(st:Y4)(neg:Yb)(a b:E):Y3 (D×Y4):=
 (r.ev τ st a).bind λp=>(r.ev τ p.2 b).bind λq=>match q.1 with
  |.loc l=>(dicAt q.2 l).bind λkvs=>if isKey p.1 then Y (.bl ((dget kvs p.1).isSome != neg),q.2) else B
  |_=>B
noncomputable def tdiR(r:R)(τ:Sl)(st:Y4)(neg:Yb)(a b:E):Y3 (D×Y4):=
 (r.ev τ st a).bind λp=>(r.ev τ p.2 b).bind λq=>match p.1,q.1 with
  |.fup k,.loc l=>(tdcAt q.2 l).map λkvs=>(.bl ((tget kvs k).isSome != neg),q.2)
  |_,_=>B
noncomputable def ginR(r:R)(τ:Sl)(st:Y4)(neg:Yb)(ks:L Y5)(b:E):Y3 (D×Y4):=
 (r.ev τ st b).bind λp=>match p.1 with
  |.str z=>Y (.bl (ks.contains z != neg),p.2)
  |_=>B
noncomputable def stepEv(r:R)(τ:Sl)(st:Y4):E->Y3 (D×Y4)
 |.var i=>match τ[i]? with
  |some (Y d)=>Y (d,st)
  |_=>B
 |.lit d=>Y (d,st)
 |.glo _ d=>Y (d,st)
 |.bin op a b=>(r.ev τ st a).bind λp=>(r.ev τ p.2 b).bind λq=>binop q.2 op p.1 q.1
 |.neg a=>(r.ev τ st a).bind λp=>match p.1 with
  |.int i=>Y (.int (-i),p.2)
  |_=>B
 |.not a=>(r.ev τ st a).bind λp=>match p.1 with
  |.bl b=>Y (.bl (!b),p.2)
  |_=>B
 |.cmp op a b=>(r.ev τ st a).bind λp=>(r.ev τ p.2 b).bind λq=>(cmpD q.2 op p.1 q.1).map λk=>(.bl k,q.2)
 |.cmp2 op op' a b c=>(r.ev τ st a).bind λp=>(r.ev τ p.2 b).bind λq=>(cmpD q.2 op p.1 q.1).bind λk=>
   if k then(r.ev τ q.2 c).bind λu=>(cmpD u.2 op' q.1 u.1).map λk'=>(.bl k',u.2) else Y (.bl Y6,q.2)
 |.and a b=>(r.ev τ st a).bind λp=>match p.1 with
  |.bl O=>r.ev τ p.2 b
  |.bl Y6=>Y (.bl Y6,p.2)
  |_=>B
 |.or a b=>(r.ev τ st a).bind λp=>match p.1 with
  |.bl Y6=>r.ev τ p.2 b
  |.bl O=>Y (.bl O,p.2)
  |_=>B
 |.ite c a b=>(r.tst τ st c).bind λp=>if p.1 then r.ev τ p.2 a else r.ev τ p.2 b
 |.tup es=>(evs (r.ev τ) es st).bind λp=>if lim<p.1.length then B else Y (.tup p.1,p.2)
 |.lst es=>(evs (r.ev τ) es st).bind λp=>if lim<p.1.length then B else Y (alloc p.2 (.lst O p.1))
 |.idx a b=>(r.ev τ st a).bind λp=>(r.ev τ p.2 b).bind λq=>(idxD q.2 p.1 q.1).map λd=>(d,q.2)
 |.sli a lo hi=>(r.ev τ st a).bind λp=>(part r τ p.2 lo).bind λl=>(part r τ l.2 hi).bind λh=>sliD h.2 p.1 l.1 h.1
 |.call f es=>(evs (r.ev τ) es st).bind λp=>r.call f p.1 p.2
 |.bcall f es=>(evs (r.ev τ) es st).bind λp=>bfun p.2 f p.1
 |.isi a ts _=>(r.ev τ st a).bind λp=>(tyName p.2 p.1).map λn=>(.bl (ts.any λt=>tyIs t n),p.2)
 |.meth a m es=>(r.ev τ st a).bind λp=>if mty p.2 m p.1 then(evs (r.ev τ) es p.2).bind λq=>mfun q.2 m p.1 q.1 else B
 |.gc a=>(r.ev τ st a).map λp=>gcD st p
 |.rng1 _=>B
 |.rng2 _ _=>B
 |.zip _ _=>B
 |.enu _=>B
 |.rev _=>B
 |.dic es=>(evs (r.ev τ) es (st++[.dic O []])).bind λp=>match wdicAt p.2 st.length with
  |some []=>(pairUp p.1).bind λkvs=>if kvs.length<=15 then Y (.loc st.length,p.2.set st.length (.dic O (dall kvs))) else B
  |_=>B
 |.didx a b=>(r.ev τ st a).bind λp=>(r.ev τ p.2 b).bind λq=>match p.1 with
  |.loc l=>(dicAt q.2 l).bind λkvs=>if isKey q.1 then(dget kvs q.1).map λd=>(d,q.2) else B
  |_=>B
 |.din neg a b=>dinR r τ st neg a b
 |.dgt a b=>(r.ev τ st a).bind λp=>match p.1 with
  |.loc l=>(dicAt p.2 l).bind λ_=>(r.ev τ p.2 b).bind λq=>(dicAt q.2 l).bind λkvs=>if isKey q.1 then Y ((dget kvs q.1).getD .non,q.2) else B
  |_=>B
 |.gidx _ ks ds b=>(r.ev τ st b).bind λp=>match p.1 with
  |.str z=>((ks.zip ds).find? λq=>q.1==z).map λq=>(q.2,p.2)
  |_=>B
 |.gin neg _ ks b=>ginR r τ st neg ks b
 |.lenset a=>(r.ev τ st a).bind λp=>(qvk p.1).map λd=>(d,p.2)
 |.comp t it test elt sr=>(src r τ st it).bind λp=>
   (loopC p.1 (turnC r t test elt) (p.1.size p.2+1) 0 [] (inner sr τ) p.2).map λq=>alloc q.2 (.lst O q.1)
 |.tsli a lo hi=>(r.ev τ st a).bind λp=>(part r τ p.2 lo).bind λl=>(part r τ l.2 hi).bind λh=>match p.1 with
  |.tup ds=>(asInts (cut ds l.1 h.1)).bind λks=>if ks.length<ds.length then Y (.fup ks,h.2) else B
  |_=>B
 |.unt a=>(r.ev τ st a).bind λp=>match p.1 with
  |.fup ks=>Y (.tup (ks.map .int),p.2)
  |_=>B
 |.tdn=>Y (alloc st (.tdc O []))
 |.tdi neg a b=>tdiR r τ st neg a b
 |.attr C a f=>(r.ev τ st a).bind λp=>(objAt p.2 C p.1).bind λfs=>(fs.lookup f).map λd=>(d,p.2)
 |.mcall C f m a es=>(r.ev τ st a).bind λp=>(objAt p.2 C p.1).bind λfs=>if (fs.lookup m).isSome then B else(evs (r.ev τ) es p.2).bind λq=>r.call f (p.1::q.1) q.2
 |.new C f es=>(evs (r.ev τ) es st).bind λp=>(r.call f (.loc p.2.length::p.1) (p.2++[.obj C []])).bind λq=>if isNon q.1 then Y (.loc p.2.length,q.2) else B
noncomputable def stepTst(r:R)(τ:Sl)(st:Y4):E->Y3 (Yb×Y4)
 |.not a=>(r.tst τ st a).map λp=>(!p.1,p.2)
 |.and a b=>(r.tst τ st a).bind λp=>if p.1 then r.tst τ p.2 b else Y (Y6,p.2)
 |.or a b=>(r.tst τ st a).bind λp=>if p.1 then Y (O,p.2) else r.tst τ p.2 b
 |.ite _ _ _=>B
 |.din neg a b=>(dinR r τ st neg a b).bind λp=>(truth p.2 p.1).map λk=>(k,p.2)
 |.tdi neg a b=>(tdiR r τ st neg a b).bind λp=>(truth p.2 p.1).map λk=>(k,p.2)
 |.gin neg _ ks b=>(ginR r τ st neg ks b).bind λp=>(truth p.2 p.1).map λk=>(k,p.2)
 |.cmp op a b=>(r.ev τ st a).bind λp=>(r.ev τ p.2 b).bind λq=>(cmpD q.2 op p.1 q.1).map λk=>(k,q.2)
 |.cmp2 op op' a b c=>(r.ev τ st a).bind λp=>(r.ev τ p.2 b).bind λq=>(cmpD q.2 op p.1 q.1).bind λk=>
   if k then(r.ev τ q.2 c).bind λu=>(cmpD u.2 op' q.1 u.1).map λk'=>(k',u.2) else Y (Y6,q.2)
 |e=>(r.ev τ st e).bind λp=>(truth p.2 p.1).map λk=>(k,p.2)
noncomputable def stepEx(r:R)(τ:Sl)(st:Y4):S->Y3 (Out×Y4)
 |.set t e=>(r.ev τ st e).bind λp=>(setT t p.1 τ).map λτ'=>(.nx τ',p.2)
 |.dset a i e=>(r.ev τ st e).bind λp=>(r.ev τ p.2 a).bind λq=>(r.ev τ q.2 i).bind λu=>match q.1 with
  |.loc l=>(wdicAt u.2 l).bind λkvs=>if isKey u.1&&decide (kvs.length<lim) then Y (.nx τ,u.2.set l (.dic O (dput kvs u.1 p.1))) else B
  |_=>B
 |.tds a i e=>(r.ev τ st e).bind λp=>(r.ev τ p.2 a).bind λq=>(r.ev τ q.2 i).bind λu=>match q.1,u.1 with
  |.loc l,.fup k=>(wtdcAt u.2 l).bind λkvs=>if kvs.length<lim then Y (.nx τ,u.2.set l (.tdc O (tput kvs k p.1))) else B
  |_,_=>B
 |.setA C a f e=>(r.ev τ st e).bind λp=>(r.ev τ p.2 a).bind λq=>(objAt q.2 C q.1).bind λfs=>match q.1 with
  |.loc l=>if fs.length<900 then Y (.nx τ,q.2.set l (.obj C (putA f p.1 fs))) else B
  |_=>B
 |.ford t a body=>(r.ev τ st a).bind λp=>match p.1 with
  |.loc l=>(wdicAt p.2 l).bind λkvs=>(loop (.tup (keysOf kvs)) (λτ st d=>(setT t d τ).bind λτ'=>r.ex τ' st body) (kvs.length+1) 0 τ (p.2.set l (.dic Y6 kvs))).bind λq=>
   match q.2[l]? with
   |some (.dic Y6 kvs')=>Y (q.1,q.2.set l (.dic O kvs'))
   |_=>B
  |_=>B
 |.bad=>B
 |.expr e=>(r.ev τ st e).map λp=>(.nx τ,p.2)
 |.ret e=>(r.ev τ st e).map λp=>(.rt p.1,p.2)
 |.ite c a b=>(r.tst τ st c).bind λp=>if p.1 then r.ex τ p.2 a else r.ex τ p.2 b
 |.forr t it body=>(src r τ st it).bind λp=>
   loop p.1 (λτ st d=>(setT t d τ).bind λτ'=>r.ex τ' st body) (p.1.size p.2+1) 0 τ p.2
noncomputable def exs(f:Sl->Y4->S->Y3 (Out×Y4)):L S->Sl->Y4->Y3 (Out×Y4)
 |[],τ,st=>Y (.nx τ,st)
 |s::ss,τ,st=>(f τ st s).bind λp=>match p.1 with
  |.nx τ'=>exs f ss τ' p.2
  |o=>Y (o,p.2)
noncomputable def stepCall(fns:L Fn)(r:R)(f:Y0)(ds:L D)(st:Y4):Y3 (D×Y4):=
 match fns[f]? with
 |some F=>if ds.length=F.np then(r.ex (ds.map Y++List.replicate (F.nl - ds.length) B) st F.body).bind λp=>match p.1 with
   |.rt d=>Y (d,p.2)
   |.nx _=>Y (.non,p.2)
   |_=>B
  else B
 |none=>B
noncomputable def step(c:Y0->L D->Y4->Y3 (D×Y4))(r:R):R:=⟨stepEv r,stepTst r,λτ st ss=>exs (stepEx r) ss τ st,c⟩
noncomputable def runK(c:Y0->L D->Y4->Y3 (D×Y4)):Y0->R
 |0=>⟨λ_ _ _=>B,λ_ _ _=>B,λ_ _ _=>B,c⟩
 |k+1=>step c (runK c k)
open Classical in
noncomputable def lim1{α:Type}(f:Y0->Y3 α):Y3 α:=if h:∃x,∃n,f n=Y x then Y h.choose else B
noncomputable def RL(c:Y0->L D->Y4->Y3 (D×Y4)):R:=⟨λτ st e=>lim1 λn=>(runK c n).ev τ st e,λτ st e=>lim1 λn=>(runK c n).tst τ st e,λτ st e=>lim1 λn=>(runK c n).ex τ st e,c⟩
noncomputable def callD(fns:L Fn):Y0->Y0->L D->Y4->Y3 (D×Y4)
 |0=>λ_ _ _=>B
 |d+1=>stepCall fns (RL (callD fns d))
noncomputable abbrev rn(fns:L Fn)(d n:Y0):R:=runK (callD fns d) n
noncomputable abbrev Lv(fns:L Fn)(d:Y0):R:=RL (callD fns d)
def lim1_is(h:lim1 f=Y x):∃n,f n=Y x:=by
 unfold lim1 at h
 split at h
 ·rename_i a;obtain⟨n,hn⟩:=a.choose_spec;exact⟨n,by rw[hn]; exact h⟩
 ·cases h
def runK_call(c:Y0->L D->Y4->Y3 (D×Y4)):∀n,(runK c n).call=c
 |0=>rfl
 |_+1=>rfl
end M
end
section
namespace M
open PySem (Str)
def Co{α:Type}(a:Y3 α)(b:Y0->Y3 α):Prop:=∀x,a=Y x->∃n,∀m,n<=m->b m=Y x
def Co.refl(a:Y3 α):Co a λ_=>a:=λ_ h=>⟨0,λ_ _=>h⟩
theorem Co.none(b:Y0->Y3 α):Co Option.none b:=λ_ h=>by cases h
theorem Co.bind{f:Y3 α}{c:Y0->Y3 α}{g:α->Y3 b}{g':Y0->α->Y3 b}(j:Co f c)(i:∀a,Co (g a) λm=>g' m a):Co (f.bind g) λm=>(c m).bind (g' m):=λx h=>by
 cases e:f with
 |none=>rw[e]at h; cases h
 |some a=>
  rw[e]at h;obtain⟨n,hn⟩:=j a e;obtain⟨k,d⟩:=i a x h;refine⟨max n k,λm l=>?_⟩;simp only;rw[hn m (by lia)];exact d m (by lia)
theorem Co.map{f:Y3 α}{b:Y0->Y3 α}(g:α->c)(i:Co f b):Co (f.map g) λm=>(b m).map g:=λx h=>by
 cases e:f with
 |none=>rw[e]at h; cases h
 |some a=>
  rw[e]at h;obtain⟨n,hn⟩:=i a e;refine⟨n,λm d=>?_⟩;simp only;rw[hn m d];exact h
def Co.ite[Decidable c]{a b:Y3 α}{e d:Y0->Y3 α}(g:Co a e)(f:Co b d):Co (if c then a else b) λm=>if c then e m else d m:=by
 by_cases h:c
 ·simp only[Z6 h]; exact g
 ·simp only[Z5 h]; exact f
structure Le (r:R) (r':Y0->R):Prop where
 ev:∀τ st e,Co (r.ev τ st e) λm=>(r' m).ev τ st e
 tst:∀τ st e,Co (r.tst τ st e) λm=>(r' m).tst τ st e
 ex:∀τ st e,Co (r.ex τ st e) λm=>(r' m).ex τ st e
 call:∀f ds st,Co (r.call f ds st) λm=>(r' m).call f ds st
theorem qz3{a:Y0->Y4->E->Y3 (D×Y4)}(h:∀st e,Co (f st e) λm=>a m st e):∀(es:L E) (st:Y4),Co (evs f es st) λm=>evs (a m) es st
 |[],st=>.refl _
 |e::es,st=>(h st e).bind λp=>(qz3 h es p.2).bind λq=>.refl _
theorem qxe{b:Y0->Sl->Y4->D->Y3 (Out×Y4)}(h:∀τ st d,Co (f τ st d) λm=>b m τ st d):∀(k i:Y0) (τ:Sl) (st:Y4),Co (loop it f k i τ st) λm=>loop it (b m) k i τ st
 |0,_,_,_=>.refl _
 |k+1,i,τ,st=>by
  unfold loop;refine(Co.refl _).bind λo=>?_
  cases o with
  |none=>exact .refl _
  |some d=>
   refine(h τ st d).bind λp=>?_
   cases hp:p.1 with
   |nx a=>exact qxe h k _ _ _
   |ct a=>exact qxe h k _ _ _
   |bk a=>exact .refl _
   |rt v=>exact .refl _
theorem qkl{b:Y0->Sl->Y4->D->Y3 (Y3 D×Sl×Y4)}(h:∀τ st d,Co (f τ st d) λm=>b m τ st d):∀(k i:Y0) (a:L D) (τ:Sl) (st:Y4),Co (loopC it f k i a τ st) λm=>loopC it (b m) k i a τ st
 |0,_,_,_,_=>.refl _
 |k+1,i,a,τ,st=>by
  unfold loopC;refine(Co.refl _).bind λo=>?_
  cases o with
  |none=>exact .refl _
  |some d=>exact Co.ite (.refl _) ((h τ st d).bind λp=>qkl h k _ _ _ _)
theorem qvc{b:Y0->Sl->Y4->S->Y3 (Out×Y4)}(h:∀τ st s,Co (f τ st s) λm=>b m τ st s):∀(a:L S) (τ:Sl) (st:Y4),Co (exs f a τ st) λm=>exs (b m) a τ st
 |[],_,_=>.refl _
 |s::a,τ,st=>by
  unfold exs;refine(h τ st s).bind λp=>?_
  cases hp:p.1 with
  |nx c=>exact qvc h a _ _
  |_=>exact .refl _
section
variable (h:Le r r')
include h
theorem qy8(τ)(st)(e):Co (src r τ st e) λm=>src (r' m) τ st e:=by
 cases e with
 |rng1 a=>exact(h.ev τ st a).bind λp=>.refl _
 |rng2 a b=>exact(h.ev τ st a).bind λp=>(h.ev τ _ b).bind λq=>.refl _
 |zip a b=>exact(h.ev τ st a).bind λp=>(h.ev τ _ b).bind λq=>.refl _
 |enu a=>exact(h.ev τ st a).bind λp=>.refl _
 |rev a=>exact(h.ev τ st a).bind λp=>.refl _
 |_=>exact(h.ev τ st _).bind λp=>.refl _
theorem qxb(τ)(st)(e):Co (part r τ st e) λm=>part (r' m) τ st e:=by
 cases e with
 |none=>exact .refl _
 |some e=>exact(h.ev τ st e).bind λp=>.refl _
theorem qbj(t)(test)(elt)(τ)(st)(d):Co (turnC r t test elt τ st d) λm=>turnC (r' m) t test elt τ st d:=by
 unfold turnC;refine(Co.refl _).bind λa=>?_
 cases test with
 |none=>exact(h.ev _ _ _).map _
 |some c=>exact(h.tst _ _ _).bind λb=>Co.ite ((h.ev _ _ _).map _) (.refl _)
theorem qwm(τ)(st)(neg)(a b):Co (dinR r τ st neg a b) λm=>dinR (r' m) τ st neg a b:=(h.ev τ st a).bind λp=>(h.ev τ _ b).bind λq=>.refl _
theorem qvr(τ)(st)(neg)(a b):Co (tdiR r τ st neg a b) λm=>tdiR (r' m) τ st neg a b:=(h.ev τ st a).bind λp=>(h.ev τ _ b).bind λq=>.refl _
theorem qwd(τ)(st)(neg)(ks)(b):Co (ginR r τ st neg ks b) λm=>ginR (r' m) τ st neg ks b:=(h.ev τ st b).bind λp=>.refl _
theorem qjg(τ)(st)(e):Co (stepEv r τ st e) λm=>stepEv (r' m) τ st e:=by
 cases e with
 |var i=>exact .refl _
 |lit d=>exact .refl _
 |glo x d=>exact .refl _
 |bin j a b=>exact(h.ev τ st a).bind λp=>(h.ev τ _ b).bind λq=>.refl _
 |neg a=>exact(h.ev τ st a).bind λp=>.refl _
 |not a=>exact(h.ev τ st a).bind λp=>.refl _
 |cmp j a b=>exact(h.ev τ st a).bind λp=>(h.ev τ _ b).bind λq=>.refl _
 |cmp2 j n a b c=>exact(h.ev τ st a).bind λp=>(h.ev τ _ b).bind λq=>(Co.refl _).bind λk=>Co.ite ((h.ev τ _ c).bind λu=>.refl _) (.refl _)
 |and a b=>
  refine(h.ev τ st a).bind λp=>?_;obtain⟨d,s⟩:=p
  cases d with
  |bl k=>cases k with
   |true=>exact h.ev τ _ b
   |false=>exact .refl _
  |_=>exact .refl _
 |or a b=>
  refine(h.ev τ st a).bind λp=>?_;obtain⟨d,s⟩:=p
  cases d with
  |bl k=>cases k with
   |false=>exact h.ev τ _ b
   |true=>exact .refl _
  |_=>exact .refl _
 |ite c a b=>exact(h.tst τ st c).bind λp=>Co.ite (h.ev τ _ a) (h.ev τ _ b)
 |tup es=>exact(qz3 (h.ev τ) es st).bind λp=>.refl _
 |lst es=>exact(qz3 (h.ev τ) es st).bind λp=>.refl _
 |idx a b=>exact(h.ev τ st a).bind λp=>(h.ev τ _ b).bind λq=>.refl _
 |sli a lo hi=>exact(h.ev τ st a).bind λp=>(qxb h τ _ lo).bind λl=>(qxb h τ _ hi).bind λu=>.refl _
 |call f es=>exact(qz3 (h.ev τ) es st).bind λp=>h.call f _ _
 |bcall f es=>exact(qz3 (h.ev τ) es st).bind λp=>.refl _
 |isi a o m=>exact(h.ev τ st a).bind λp=>.refl _
 |lenset a=>exact(h.ev τ st a).bind λp=>.refl _
 |gc a=>exact(h.ev τ st a).map _
 |meth a m es=>exact(h.ev τ st a).bind λp=>Co.ite ((qz3 (h.ev τ) es _).bind λq=>.refl _) (.refl _)
 |rng1 a=>exact .refl _
 |rng2 a b=>exact .refl _
 |zip a b=>exact .refl _
 |enu a=>exact .refl _
 |rev a=>exact .refl _
 |dic es=>exact(qz3 (h.ev τ) es _).bind λp=>.refl _
 |didx a b=>exact(h.ev τ st a).bind λp=>(h.ev τ _ b).bind λq=>.refl _
 |din neg a b=>exact qwm h τ st neg a b
 |dgt a b=>
  refine(h.ev τ st a).bind λp=>?_;obtain⟨d,s⟩:=p
  cases d with
  |loc l=>exact(Co.refl _).bind λ_=>(h.ev τ _ b).bind λq=>.refl _
  |_=>exact .refl _
 |gidx x ks ds b=>exact(h.ev τ st b).bind λp=>.refl _
 |gin neg x ks b=>exact qwd h τ st neg ks b
 |comp t it g elt sr=>exact(qy8 h τ st it).bind λp=>(qkl (qbj h t g elt) _ _ _ _ _).map _
 |attr C a f=>exact(h.ev τ st a).bind λp=>.refl _
 |tsli a lo hi=>exact(h.ev τ st a).bind λp=>(qxb h τ _ lo).bind λl=>(qxb h τ _ hi).bind λu=>.refl _
 |unt a=>exact(h.ev τ st a).bind λp=>.refl _
 |tdn=>exact .refl _
 |tdi neg a b=>exact qvr h τ st neg a b
 |mcall C f m a es=>exact(h.ev τ st a).bind λp=>(Co.refl _).bind λfs=>Co.ite (.refl _) ((qz3 (h.ev τ) es _).bind λq=>h.call f _ _)
 |new C f es=>exact(qz3 (h.ev τ) es st).bind λp=>(h.call f _ _).bind λq=>.refl _
theorem qx6(τ)(st)(e):Co (stepTst r τ st e) λm=>stepTst (r' m) τ st e:=by
 cases e with
 |not a=>exact(h.tst τ st a).map _
 |and a b=>exact(h.tst τ st a).bind λp=>Co.ite (h.tst τ _ b) (.refl _)
 |or a b=>exact(h.tst τ st a).bind λp=>Co.ite (.refl _) (h.tst τ _ b)
 |ite _ _ _=>exact .refl _
 |din neg a b=>exact(qwm h τ st neg a b).bind λp=>.refl _
 |gin neg x ks b=>exact(qwd h τ st neg ks b).bind λp=>.refl _
 |tdi neg a b=>exact(qvr h τ st neg a b).bind λp=>.refl _
 |cmp f a b=>exact(h.ev τ st a).bind λp=>(h.ev τ _ b).bind λq=>.refl _
 |cmp2 f d a b c=>exact(h.ev τ st a).bind λp=>(h.ev τ _ b).bind λq=>(Co.refl _).bind λk=>Co.ite ((h.ev τ _ c).bind λu=>.refl _) (.refl _)
 |_=>exact(h.ev τ st _).bind λp=>.refl _
theorem qjf(τ)(st)(s):Co (stepEx r τ st s) λm=>stepEx (r' m) τ st s:=by
 cases s with
 |set t e=>exact(h.ev τ st e).bind λp=>.refl _
 |dset a i e=>exact(h.ev τ st e).bind λp=>(h.ev τ _ a).bind λq=>(h.ev τ _ i).bind λu=>.refl _
 |tds a i e=>exact(h.ev τ st e).bind λp=>(h.ev τ _ a).bind λq=>(h.ev τ _ i).bind λu=>.refl _
 |bad=>exact .refl _
 |setA C a f e=>exact(h.ev τ st e).bind λp=>(h.ev τ _ a).bind λq=>.refl _
 |ford t a body=>
  refine(h.ev τ st a).bind λp=>?_;obtain⟨d,s⟩:=p
  cases d with
  |loc l=>exact(Co.refl _).bind λkvs=>(qxe (λτ st d=>(Co.refl _).bind λg=>h.ex g st body) _ _ _ _).bind λq=>.refl _
  |_=>exact .refl _
 |expr e=>exact(h.ev τ st e).map _
 |ret e=>exact(h.ev τ st e).map _
 |ite c a b=>exact(h.tst τ st c).bind λp=>Co.ite (h.ex τ _ a) (h.ex τ _ b)
 |forr t it body=>exact(qy8 h τ st it).bind λp=>qxe (λτ st d=>(Co.refl _).bind λg=>h.ex g st body) _ _ _ _
theorem qcm(c:Y0->L D->Y4->Y3 (D×Y4)):Le (step c r) λm=>step c (r' m):=
 ⟨qjg h,qx6 h,λτ st a=>qvc (qjf h) a τ st,λf ds st=>.refl _⟩
end
theorem qjv(c:Y0->L D->Y4->Y3 (D×Y4)):∀n,Le (runK c n) λ_=>runK c (n+1)
 |0=>⟨λ_ _ _=>.none _,λ_ _ _=>.none _,λ_ _ _=>.none _,λ_ _ _=>.refl _⟩
 |n+1=>qcm (qjv c n) c
section
def ev_up(h:(runK c n).ev τ st e=Y x)(d:n<=N):(runK c N).ev τ st e=Y x:=by
 induction d with
 |refl=>exact h
 |step _ a=>obtain⟨k,b⟩:=(qjv c _).ev τ st e x a; exact b k (Qqk _)
def qh3(h:(runK c n).tst τ st e=Y x)(d:n<=N):(runK c N).tst τ st e=Y x:=by
 induction d with
 |refl=>exact h
 |step _ a=>obtain⟨k,b⟩:=(qjv c _).tst τ st e x a; exact b k (Qqk _)
def ex_up(h:(runK c n).ex τ st e=Y x)(d:n<=N):(runK c N).ex τ st e=Y x:=by
 induction d with
 |refl=>exact h
 |step _ a=>obtain⟨k,b⟩:=(qjv c _).ex τ st e x a; exact b k (Qqk _)
end
def qyb(up:∀n N x,f n=Y x->n<=N->f N=Y x)(h:f n=Y x):lim1 f=Y x:=by
 have a:∃x,∃n,f n=Y x:=⟨x,n,h⟩
 unfold lim1;rw[dif_pos a];obtain⟨k,c⟩:=a.choose_spec;have d:=up _ (max n k) _ h (by lia);have b:=up _ (max n k) _ c (by lia);rw[d]at b;exact b.symm
section
end
section
variable {r:R}{s:Src}{S:Y4}{rest:Sl}{elt:E}{ds:L D}
theorem qwq(a:∀i,s.at S i=Y ds[i]?)(c:es.length=ds.length)(b:ds.length<lim)(f:∀(i:Y0) (d e:D),ds[i]?=Y d->es[i]?=Y e->r.ev (Y d::rest) S elt=Y (e,S)):
  ∀(k i:Y0) (o:Y3 D),i+k=ds.length->loopC s (turnC r (.var 0) B elt) (k+1) i (es.take i) (o::rest) S=Y (es,S)
 |0,i,o,h=>by
  have e:i=ds.length:=by lia
  subst e;have h1:es.take ds.length=es:=Qxi (by lia);rw[loopC,a,h1];simp only[oBs,Qzc (Qqk _)];rw[Z5 (by lia)]
 |k+1,i,o,h=>by
  have hi:i<ds.length:=by lia
  have h1:ds[i]?=Y ds[i]:=by simp
  have h2:es[i]?=Y (es[i]'(by lia)):=by simp
  have g:=f i _ _ h1 h2;rw[loopC,a,h1];simp only[oBs];rw[Z5 (by rw[Qzz]; lia)];have j:turnC r (.var 0) B elt (o::rest) S ds[i]=Y (Y (es[i]'(by lia)),Y ds[i]::rest,S):=by
   unfold turnC;simp only[setT,Qqi,Qj4,if_true,Qjl,oBs,g,oMs]
  rw[j];simp only[oBs];rw[show es.take i++[es[i]'(by lia)]=es.take (i+1) by rw[Qzh (by lia)]];exact qwq a c b f k (i+1) _ (by lia)
theorem qx8(a:∀i,s.at S i=Y ds[i]?)(b:ds.length<lim)(j:∀(i:Y0) (d:D),ds[i]?=Y d->r.tst (Y d::rest) S c=Y (p d,S))(f:D->D)(m:∀(i:Y0) (d:D),ds[i]?=Y d->p d=O->r.ev (Y d::rest) S elt=Y (f d,S)):
  ∀(k i:Y0) (o:Y3 D),i+k=ds.length->loopC s (turnC r (.var 0) (Y c) elt) (k+1) i (((ds.take i).filter p).map f) (o::rest) S=Y ((ds.filter p).map f,S)
 |0,i,o,h=>by
  have e:i=ds.length:=by lia
  subst e;rw[loopC,a,Qxi (Qqk _)];simp only[oBs,Qzc (Qqk _)];have:=Qzu p ds;rw[Z5 (by rw[Qqz]; lia)]
 |k+1,i,o,h=>by
  have hi:i<ds.length:=by lia
  have h1:ds[i]?=Y ds[i]:=by simp
  rw[loopC,a,h1];simp only[oBs];have t:=Qzu p (ds.take i);have q:(ds.take i).length<=ds.length:=by rw[Qzz]; lia
  rw[Z5 (by rw[Qqz]; lia)];have n:=Qzh (by omega);have g:=qx8 a b j f m k (i+1) (Y ds[i]) (by lia)
  cases hp:p ds[i] with
  |true=>
   have l:turnC r (.var 0) (Y c) elt (o::rest) S ds[i]=Y (Y (f ds[i]),Y ds[i]::rest,S):=by
    unfold turnC;simp only[setT,Qqi,Qj4,if_true,Qjl,oBs,j i _ h1,hp,m i _ h1 hp,oMs]
   rw[l];simp only[oBs];rw[n,Qz2,Qql]at g;simpa[hp] using g
  |false=>
   have l:turnC r (.var 0) (Y c) elt (o::rest) S ds[i]=Y (B,Y ds[i]::rest,S):=by
    unfold turnC;simp only[setT,Qqi,Qj4,if_true,Qjl,oBs,j i _ h1,hp,Qzw,if_false]
   rw[l];simp only[oBs];rw[n,Qz2,Qql]at g;simpa[hp] using g
end
def qa7{S:Y4}{ds:L D}(b:src r τ S it=Y (s,a))(j:∀i,s.at a i=Y ds[i]?)(hsz:s.size a=ds.length)(g:inner sr τ=B::rest)(f:es.length=ds.length)(c:ds.length<lim)(k:∀(i:Y0) (d e:D),ds[i]?=Y d->es[i]?=Y e->r.ev (Y d::rest) a elt=Y (e,a)):stepEv r τ S (.comp (.var 0) it B elt sr)=Y (.loc a.length,a++[.lst O es]):=by
 have h:=qwq j f c k ds.length 0 B (by lia);show((src r τ S it).bind λp=>(loopC p.1 (turnC r (.var 0) B elt) (p.1.size p.2+1) 0 [] (inner sr τ) p.2).map λq=>alloc q.2 (.lst O q.1))=_;rw[b];simp only[oBs,hsz,g];rw[show([]:L D)=es.take 0 by simp,h]
 rfl
def qyn{S:Y4}{ds:L D}(f:D->D)(b:src r τ S it=Y (s,a))(j:∀i,s.at a i=Y ds[i]?)(hsz:s.size a=ds.length)(g:inner sr τ=B::rest)(e:ds.length<lim)(l:∀(i:Y0) (d:D),ds[i]?=Y d->r.tst (Y d::rest) a c=Y (p d,a))(k:∀(i:Y0) (d:D),ds[i]?=Y d->p d=O->r.ev (Y d::rest) a elt=Y (f d,a)):stepEv r τ S (.comp (.var 0) it (Y c) elt sr)=Y (.loc a.length,a++[.lst O ((ds.filter p).map f)]):=by
 have h:=qx8 j e l f k ds.length 0 B (by lia);show((src r τ S it).bind λp=>(loopC p.1 (turnC r (.var 0) (Y c) elt) (p.1.size p.2+1) 0 [] (inner sr τ) p.2).map λq=>alloc q.2 (.lst O q.1))=_;rw[b];simp only[oBs,hsz,g];simp only[Qkj,List.filter_nil,Qxy]at h;rw[h]
 rfl
def qqs{S:Y4}(h:seqAt S q=Y ds)(i):(Src.lst q).at S i=Y ds[i]?:=by simp[Src.at,h]
def qzs{S:Y4}(h:seqAt S q=Y ds):(Src.lst q).size S=ds.length:=by simp[Src.size,h]
def qw5{S:Y4}(lo)(n)(i):(Src.rng lo n).at S i=Y ((List.range n).map λ(j:Y0)=>D.int (lo+j))[i]?:=by
 simp only[Src.at,Qqw]
 by_cases h:i<n
 ·rw[Z6 h,Qxo h]; rfl
 ·rw[Z5 h,Qzc (by simpa using h)]; rfl
theorem qjp{ds:L D}(P:Y0->Sl->Y4->Prop)(Q:Sl->Y4->Prop)(b:∀i τ st,P i τ st->s.at st i=Y ds[i]?)(c:∀i τ st d,ds[i]?=Y d->P i τ st->(∃a st',(f τ st d=Y (.nx a,st')\/f τ st d=Y (.ct a,st'))/\P (i+1) a st')\/∃a st',f τ st d=Y (.bk a,st')/\Q a st'):
  ∀(k i:Y0) (τ:Sl) (st:Y4),i+k=ds.length->P i τ st->∃a st',loop s f (k+1) i τ st=Y (.nx a,st')/\(P ds.length a st'\/Q a st')
 |0,i,τ,st,h,p=>by
  have e:i=ds.length:=by lia
  subst e;refine⟨τ,st,?_,.inl p⟩;rw[loop,b _ _ _ p];simp[Qzc (Qqk _)]
 |k+1,i,τ,st,h,p=>by
  have hi:i<ds.length:=by lia
  have h1:ds[i]?=Y ds[i]:=by simp
  rw[loop,b _ _ _ p,h1];simp only[oBs];rcases c i τ st _ h1 p with⟨a,st',e|e,q⟩|⟨a,st',e,q⟩
  ·rw[e];exact qjp P Q b c k (i+1) a st' (by lia) q
  ·rw[e];exact qjp P Q b c k (i+1) a st' (by lia) q
  ·rw[e];exact⟨a,st',rfl,.inr q⟩
def qvx{ds:L D}(P:Y0->Sl->Y4->Prop)(Q:Sl->Y4->Prop)(e:P 0 τ st)(hsz:s.size st=ds.length)(b:∀i τ st,P i τ st->s.at st i=Y ds[i]?)(c:∀i τ st d,ds[i]?=Y d->P i τ st->(∃a st',(f τ st d=Y (.nx a,st')\/f τ st d=Y (.ct a,st'))/\P (i+1) a st')\/∃a st',f τ st d=Y (.bk a,st')/\Q a st'):
  ∃a st',loop s f (s.size st+1) 0 τ st=Y (.nx a,st')/\(P ds.length a st'\/Q a st'):=by
 rw[hsz];exact qjp P Q b c ds.length 0 τ st (by lia) e
section
def gc_x(h:p.2.take st.length=st):gcD st p=gcX st.length p:=by
 unfold gcD;rw[Z6 h,ite_self]
def qxc:noLoc (.tup ds)=noLocs ds:=by rw[noLoc]
def qyv:noLocs (d::ds)=(noLoc d&&noLocs ds):=rfl
theorem qkh:∀{ds},noLocs ds=ds.all noLoc
 |[]=>rfl
 |d::ds=>by rw[qyv,Qzl,qkh]
def qdg(h:∀d∈ds,noLoc d=O):noLocs ds=true:=by rw[qkh,Qzj]; exact h
def qzb{α:Type}{xs:L α}{g:α->D}(h:∀x∈xs,noLoc (g x)=O):noLocs (xs.map g)=true:=qdg λd hd=>by
 obtain⟨x,a,rfl⟩:=Qqv.mp hd;exact h x a
def qzw(h:noLocs ds=O):gcD st (.loc st.length,st++[.lst O ds])=(.lst ds,st):=by
 rw[gc_x (by simp)];unfold gcX;rw[Z5 (by simp[noLoc])];simp[h]
end
def qqw(d:-(2 ^ 64)<b)(c:b<2 ^ 64):mulOk a b=true:=by unfold mulOk; simp; lia
section
end
def bMo(S)(a)(h:0<b):binop S .Mod (.int a) (.int b)=Y (.int (a % b),S):=by
 simp only[binop];rw[Z6 h]
def bDi(S)(a)(h:0<b)(c:b<2 ^ 64):binop S .FloorDiv (.int a) (.int b)=Y (.int (a / b),S):=by
 simp only[binop];rw[Z6 ⟨h,c⟩]
abbrev CF:=Y0->L D->Y4->Y3 (D×Y4)
section
end
section
end
section
end
end M
end
section
namespace M
open PySem (Str CmpOp Operator)
inductive It where
 /-- a test comes out so -/
 |b (k:Yb)
 /-- a call answers so -/
 |c (a:D×Y4)
 /-- seen by the kernel -/
 |k
 /-- what lies in a cell -/
 |r (c:Ya)
 /-- what a dict has at a key -/
 |q (o:Y3 D)
 /-- what lies at an index -/
 |i (d:D)
 |n
 /-- a part leaves nothing behind -/
 |g
 /-- a part leaves a list -/
 |l (ds:L D)
 /-- a loop ends so -/
 |s (o:Out×Y4)
abbrev Tp:=L It
noncomputable def TM(α:Type):=Tp->(α->Tp->Prop)->Prop
noncomputable def TM.bind{α β:Type}(x:TM α)(f:α->TM β):TM β:=λt K=>x t λa t'=>f a t' K
noncomputable def TM.map{α β:Type}(x:TM α)(f:α->β):TM β:=λt K=>x t λa t'=>K (f a) t'
noncomputable def no{α:Type}:TM α:=λ_ _=>False
noncomputable def lf{α:Type}:Y3 α->TM α
 |some a=>λt K=>K a t
 |none=>no
noncomputable def ys{α:Type}(a:α):TM α:=λt K=>K a t
noncomputable def askB(p:Yb):TM Bool:=λt K=>match t with
 |.b k::t'=>p=k/\K k t'
 |.k::t'=>K p t'
 |_=>False
noncomputable def askC(o:Y3 (D×Y4)):TM (D×Y4):=λt K=>match t with
 |.c a::t'=>o=Y a/\K a t'
 |_=>False
noncomputable def askD(o:Y3 (D×Y4)):TM (D×Y4):=λt K=>match t with
 |.c a::t'=>o=Y a/\K a t'
 |t=>lf o t K
noncomputable def askE(o:Y3 (D×Y4))(x:TM (D×Y4)):TM (D×Y4):=λt K=>match t with
 |.c a::t'=>o=Y a/\K a t'
 |t=>x t K
noncomputable def askS(o:Y3 (Out×Y4))(x:TM (Out×Y4)):TM (Out×Y4):=λt K=>match t with
 |.s a::t'=>o=Y a/\K a t'
 |t=>x t K
noncomputable def askQ(o:Y3 D):TM (Y3 D):=λt K=>match t with
 |.q a::t'=>o=a/\K a t'
 |.k::t'=>K o t'
 |_=>False
noncomputable def askI(o:Y3 D):TM D:=λt K=>match t with
 |.i a::t'=>o=Y a/\K a t'
 |.n::t'=>lf o t' K
 |t=>lf o t K
noncomputable def askR(o:Y3 Ya):TM Ya:=λt K=>match t with
 |.r c::t'=>o=Y c/\K c t'
 |_=>False
noncomputable def rdT(n:Y0)(st:Y4)(l:Y0):TM Ya:=if Nat.blt l n then lf st[l]? else askR st[l]?
noncomputable def Ya.ls:Ya->Y3 (L D)
 |.lst _ ds=>Y ds
 |_=>B
noncomputable def Ya.wls:Ya->Y3 (L D)
 |.lst O ds=>Y ds
 |_=>B
noncomputable def Ya.dc:Ya->Y3 (L (D×D))
 |.dic _ ds=>Y ds
 |_=>B
noncomputable def Ya.wdc:Ya->Y3 (L (D×D))
 |.dic O ds=>Y ds
 |_=>B
noncomputable def Ya.tc:Ya->Y3 (L (L J×D))
 |.tdc _ ds=>Y ds
 |_=>B
noncomputable def Ya.wtc:Ya->Y3 (L (L J×D))
 |.tdc O ds=>Y ds
 |_=>B
noncomputable def Ya.ob(C:Y0):Ya->Y3 (L (Y5×D))
 |.obj C' fs=>if C'=C then Y fs else B
 |_=>B
noncomputable def seqT(n:Y0)(st:Y4):D->TM (L D)
 |.loc l=>(rdT n st l).bind λc=>lf c.ls
 |.lst ds=>ys ds
 |_=>no
noncomputable def rowT(n:Y0)(st:Y4):D->TM (L D)
 |.tup ds=>ys ds
 |d=>seqT n st d
noncomputable def wlT(n:Y0)(st:Y4)(l:Y0):TM (L D):=(rdT n st l).bind λc=>lf c.wls
noncomputable def dcT(n:Y0)(st:Y4)(l:Y0):TM (L (D×D)):=(rdT n st l).bind λc=>lf c.dc
noncomputable def wdT(n:Y0)(st:Y4)(l:Y0):TM (L (D×D)):=(rdT n st l).bind λc=>lf c.wdc
noncomputable def tcT(n:Y0)(st:Y4)(l:Y0):TM (L (L J×D)):=(rdT n st l).bind λc=>lf c.tc
noncomputable def wtT(n:Y0)(st:Y4)(l:Y0):TM (L (L J×D)):=(rdT n st l).bind λc=>lf c.wtc
noncomputable def obT(n:Y0)(st:Y4)(C:Y0):D->TM (L (Y5×D))
 |.loc l=>(rdT n st l).bind λc=>lf (c.ob C)
 |_=>no
noncomputable def qne:CmpOp->D->Yb
 |.Lt,_=>O
 |.LtE,_=>O
 |.Gt,_=>O
 |.GtE,_=>O
 |.Is,_=>O
 |.IsNot,_=>O
 |.Eq,.int _=>O
 |.NotEq,.int _=>O
 |_,_=>Y6
noncomputable def isLs:D->Yb
 |.loc _=>O
 |.lst _=>O
 |_=>Y6
noncomputable def isAsk:CmpOp->D->D->Yb
 |.In,_,y=>isLs y
 |.NotIn,_,y=>isLs y
 |.Eq,x,_=>isLs x
 |.NotEq,x,_=>isLs x
 |_,_,_=>Y6
noncomputable def askO(o:Y3 Yb):TM Bool:=λt K=>match t with
 |.b k::t'=>o=Y k/\K k t'
 |.k::t'=>lf o t' K
 |_=>False
noncomputable def cmpT(st:Y4)(op:CmpOp)(x y:D):TM Bool:=if isAsk op x y then askO (cmpD st op x y) else(lf (cmpD st op x y)).bind λp=>if qne op x then askB p else ys p
noncomputable def qh5(n:Y0)(st:Y4)(d:D):TM Bool:=match d with
 |.loc l=>(seqT n st (.loc l)).bind λds=>askB (!ds.isEmpty)
 |.lst ds=>askB (!ds.isEmpty)
 |d=>lf (truth st d)
noncomputable def addT(n:Y0)(st:Y4)(a b:D):TM (D×Y4):=(seqT n st a).bind λx=>(seqT n st b).bind λy=>(askB (decide (lim<x.length+y.length))).bind λk=>if k then no else ys (alloc st (.lst O (x++y)))
noncomputable def binT(n:Y0)(st:Y4)(op:Zl)(a b:D):TM (D×Y4):=match op,a with
 |.Add,.loc l=>addT n st (.loc l) b
 |.Add,.lst l=>addT n st (.lst l) b
 |.Mult,.int i=>match b with
  |.int j=>(askB (mulOk i j)).bind λk=>if k then ys (.int (i*j),st) else no
  |b=>lf (binop st .Mult (.int i) b)
 |.Mult,.tup l=>askD (binop st .Mult (.tup l) b)
 |.Mod,.int i=>askD (binop st .Mod (.int i) b)
 |.FloorDiv,.int i=>askD (binop st .FloorDiv (.int i) b)
 |op,a=>lf (binop st op a b)
noncomputable def qbm(n:Y0)(st:Y4)(m:Mt)(d:D)(es:L D):TM (D×Y4):=match m with
 |.append=>match d,es with
  |.loc l,[d]=>(wlT n st l).bind λds=>(askB (decide (ds.length<lim))).bind λb=>if b then ys (.non,st.set l (.lst O (ds++[d]))) else no
  |_,_=>no
 |.extend=>match d,es with
  |.loc l,[d]=>(wlT n st l).bind λds=>(rowT n st d).bind λes=>(askB (decide (ds.length+es.length<=lim))).bind λb=>if b then ys (.non,st.set l (.lst O (ds++es))) else no
  |_,_=>no
 |.insert=>match d,es with
  |.loc l,[.int i,d]=>(wlT n st l).bind λds=>(askB (decide (0<=i/\i<=ds.length/\ds.length<lim))).bind λb=>if b then ys (.non,st.set l (.lst O (ds.take i.toNat++d::ds.drop i.toNat))) else no
  |_,_=>no
 |.index=>match es with
  |[x]=>(seqT n st d).bind λds=>askD (if flat 9 x&&flats 9 ds then(ds.findIdx? λy=>eqT y x).map λ(j:Y0)=>(.int (j:J),st) else B)
  |_=>no
noncomputable def mtyT(n:Y0)(st:Y4)(m:Mt)(d:D):TM Bool:=match d with
 |.str _=>ys (!m.ofList)
 |.lst _=>ys m.ofList
 |.loc l=>(seqT n st (.loc l)).bind λ_=>ys m.ofList
 |_=>no
noncomputable def qoj(n:Y0)(st:Y4)(f:Bq)(ds:L D):TM (D×Y4):=match f with
 |.len=>match ds with
  |[.loc l]=>(seqT n st (.loc l)).bind λxs=>ys (.int xs.length,st)
  |ds=>lf (bfun st .len ds)
 |.list=>match ds with
  |[.loc l]=>(rdT n st l).bind λc=>(lf (c.ls.or (c.dc.map keysOf))).bind λxs=>ys (alloc st (.lst O xs))
  |ds=>lf (bfun st .list ds)
 |.tuple=>match ds with
  |[.loc l]=>(seqT n st (.loc l)).bind λxs=>ys (.tup xs,st)
  |ds=>lf (bfun st .tuple ds)
 |.min=>match ds with
  |[.int i,.int j]=>(askB (decide (j<i))).bind λk=>ys (.int (if k then j else i),st)
  |_=>no
 |f=>askD (bfun st f ds)
structure RT where
 rl:R
 ev:Sl->Y4->E->TM (D×Y4)
 tst:Sl->Y4->E->TM (Yb×Y4)
 ex:Sl->Y4->L S->TM (Out×Y4)
 call:Y0->L D->Y4->TM (D×Y4)
noncomputable def gcT(st:Y4)(p:D×Y4):TM (D×Y4):=λt K=>match t with
 |.g::t'=>(noLoc p.1=O/\p.2.take st.length=st)/\K (p.1,st) t'
 |.l ds::t'=>gcD st p=(.lst ds,st)/\K (.lst ds,st) t'
 |.k::t'=>K (gcD st p) t'
 |_=>False
noncomputable def evsT(f:Y4->E->TM (D×Y4)):L E->Y4->TM (L D×Y4)
 |[],st=>ys ([],st)
 |e::es,st=>(f st e).bind λp=>(evsT f es p.2).bind λq=>ys (p.1::q.1,q.2)
noncomputable def srcT(n:Y0)(r:RT)(τ:Sl)(st:Y4):E->TM (Src×Y4)
 |.rng1 a=>(r.ev τ st a).bind λp=>match p.1 with
  |.int n=>if big n then no else ys (.rng 0 n.toNat,p.2)
  |_=>no
 |.zip a b=>(r.ev τ st a).bind λp=>(r.ev τ p.2 b).bind λq=>lf ((rowAt q.2 p.1).bind λ_=>(rowAt q.2 q.1).map λ_=>(.zip p.1 q.1,q.2))
 |.enu a=>(r.ev τ st a).bind λp=>lf ((rowAt p.2 p.1).map λ_=>(.enu p.1,p.2))
 |.rev a=>(r.ev τ st a).bind λp=>lf (match p.1 with
  |.tup ds=>Y (.rev ds,p.2)
  |_=>B)
 |.rng2 _ _=>no
 |e=>(r.ev τ st e).bind λp=>match p.1 with
  |.tup ds=>ys (.tup ds,p.2)
  |.str z=>no
  |d=>(seqT n p.2 d).map λ_=>(.lst d,p.2)
noncomputable def qdr(it:Src)(f:Sl->Y4->D->TM (Out×Y4)):Y0->Y0->Sl->Y4->TM (Out×Y4)
 |0,_,_,_=>no
 |k+1,i,τ,st=>(lf (it.at st i)).bind λo=>match o with
  |none=>ys (.nx τ,st)
  |some d=>(f τ st d).bind λp=>match p.1 with
   |.nx τ'=>qdr it f k (i+1) τ' p.2
   |.ct τ'=>qdr it f k (i+1) τ' p.2
   |.bk τ'=>ys (.nx τ',p.2)
   |.rt v=>ys (.rt v,p.2)
noncomputable def turnT(r:RT)(t:T)(test:Y3 E)(elt:E)(τ:Sl)(st:Y4)(d:D):TM (Y3 D×Sl×Y4):=
 (lf (setT t d τ)).bind λτ'=>match test with
  |none=>(r.ev τ' st elt).map λp=>(Y p.1,τ',p.2)
  |some c=>(r.tst τ' st c).bind λb=>if b.1 then(r.ev τ' b.2 elt).map λp=>(Y p.1,τ',p.2) else ys (B,τ',b.2)
noncomputable def qah(it:Src)(f:Sl->Y4->D->TM (Y3 D×Sl×Y4)):Y0->Y0->L D->Sl->Y4->TM (L D×Y4)
 |0,_,_,_,_=>no
 |k+1,i,acc,τ,st=>(lf (it.at st i)).bind λo=>match o with
  |none=>if lim<acc.length then no else ys (acc,st)
  |some d=>if lim<=acc.length then no else(f τ st d).bind λp=>qah it f k (i+1) (match p.1 with|some x=>acc++[x]|none=>acc) p.2.1 p.2.2
noncomputable def qdc(r:RT)(τ:Sl)(st:Y4):Y3 E->TM (Y3 J×Y4)
 |none=>ys (B,st)
 |some e=>(r.ev τ st e).bind λp=>match p.1 with
  |.int i=>ys (Y i,p.2)
  |_=>no
noncomputable def dgT(n:Y0)(p:D×Y4)(k:D)(st:Y4):TM (Y3 D):=match p.1 with
 |.loc l=>(dcT n st l).bind λkvs=>if isKey k then askQ (dget kvs k) else no
 |_=>no
noncomputable def tgT(n:Y0)(p k:D)(st:Y4):TM (Y3 D):=match p,k with
 |.loc l,.fup ks=>(tcT n st l).bind λkvs=>askQ (tget kvs ks)
 |_,_=>no
noncomputable def qco(n:Y0)(r:RT)(τ:Sl)(st:Y4):E->TM (D×Y4)
 |.var i=>lf (match τ[i]? with
  |some (Y d)=>Y (d,st)
  |_=>B)
 |.lit d=>ys (d,st)
 |.glo _ d=>ys (d,st)
 |.bin op a b=>(r.ev τ st a).bind λp=>(r.ev τ p.2 b).bind λq=>binT n q.2 op p.1 q.1
 |.neg a=>(r.ev τ st a).bind λp=>lf (match p.1 with
  |.int i=>Y (.int (-i),p.2)
  |_=>B)
 |.not a=>(r.ev τ st a).bind λp=>lf (match p.1 with
  |.bl b=>Y (.bl (!b),p.2)
  |_=>B)
 |.cmp op a b=>(r.ev τ st a).bind λp=>(r.ev τ p.2 b).bind λq=>(cmpT q.2 op p.1 q.1).map λk=>(.bl k,q.2)
 |.cmp2 op op' a b c=>(r.ev τ st a).bind λp=>(r.ev τ p.2 b).bind λq=>(cmpT q.2 op p.1 q.1).bind λk=>
   if k then(r.ev τ q.2 c).bind λu=>(cmpT u.2 op' q.1 u.1).map λk'=>(.bl k',u.2) else ys (.bl Y6,q.2)
 |.and a b=>(r.ev τ st a).bind λp=>match p.1 with
  |.bl O=>r.ev τ p.2 b
  |.bl Y6=>ys (.bl Y6,p.2)
  |_=>no
 |.or a b=>(r.ev τ st a).bind λp=>match p.1 with
  |.bl Y6=>r.ev τ p.2 b
  |.bl O=>ys (.bl O,p.2)
  |_=>no
 |.ite c a b=>(r.tst τ st c).bind λp=>if p.1 then r.ev τ p.2 a else r.ev τ p.2 b
 |.tup es=>(evsT (r.ev τ) es st).bind λp=>if lim<p.1.length then no else ys (.tup p.1,p.2)
 |.lst es=>(evsT (r.ev τ) es st).bind λp=>if lim<p.1.length then no else ys (alloc p.2 (.lst O p.1))
 |.idx a b=>(r.ev τ st a).bind λp=>(r.ev τ p.2 b).bind λq=>(askI (idxD q.2 p.1 q.1)).map λd=>(d,q.2)
 |.sli a lo hi=>(r.ev τ st a).bind λp=>(qdc r τ p.2 lo).bind λl=>(qdc r τ l.2 hi).bind λh=>lf (sliD h.2 p.1 l.1 h.1)
 |.call f es=>(evsT (r.ev τ) es st).bind λp=>r.call f p.1 p.2
 |.bcall f es=>(evsT (r.ev τ) es st).bind λp=>qoj n p.2 f p.1
 |.isi a ts _=>(r.ev τ st a).bind λp=>(lf (tyName p.2 p.1)).map λn=>(.bl (ts.any λt=>tyIs t n),p.2)
 |.meth a m es=>(r.ev τ st a).bind λp=>(mtyT n p.2 m p.1).bind λk=>if k then(evsT (r.ev τ) es p.2).bind λq=>qbm n q.2 m p.1 q.1 else no
 |.gc a=>(r.ev τ st a).bind λp=>gcT st p
 |.dic es=>(evsT (r.ev τ) es (st++[.dic O []])).bind λp=>(wdT n p.2 st.length).bind λk0=>lf (match k0 with
  |[]=>(pairUp p.1).bind λkvs=>if kvs.length<=15 then Y (.loc st.length,p.2.set st.length (.dic O (dall kvs))) else B
  |_=>B)
 |.didx a b=>(r.ev τ st a).bind λp=>(r.ev τ p.2 b).bind λq=>(dgT n p q.1 q.2).bind λo=>(lf o).map λd=>(d,q.2)
 |.din neg a b=>(r.ev τ st a).bind λp=>(r.ev τ p.2 b).bind λq=>(dgT n q p.1 q.2).map λo=>(.bl (o.isSome != neg),q.2)
 |.dgt a b=>(r.ev τ st a).bind λp=>match p.1 with
  |.loc l=>(dcT n p.2 l).bind λ_=>(r.ev τ p.2 b).bind λq=>(dgT n p q.1 q.2).bind λo=>ys (o.getD .non,q.2)
  |_=>no
 |.tsli a lo hi=>(r.ev τ st a).bind λp=>(qdc r τ p.2 lo).bind λl=>(qdc r τ l.2 hi).bind λh=>lf (match p.1 with
  |.tup ds=>(asInts (cut ds l.1 h.1)).bind λks=>if ks.length<ds.length then Y (.fup ks,h.2) else B
  |_=>B)
 |.unt a=>(r.ev τ st a).bind λp=>lf (match p.1 with
  |.fup ks=>Y (.tup (ks.map .int),p.2)
  |_=>B)
 |.tdn=>ys (alloc st (.tdc O []))
 |.tdi neg a b=>(r.ev τ st a).bind λp=>(r.ev τ p.2 b).bind λq=>(tgT n q.1 p.1 q.2).bind λo=>ys (.bl (o.isSome != neg),q.2)
 |.gidx _ ks ds b=>(r.ev τ st b).bind λp=>lf (match p.1 with
  |.str z=>((ks.zip ds).find? λq=>q.1==z).map λq=>(q.2,p.2)
  |_=>B)
 |.gin neg _ ks b=>(r.ev τ st b).bind λp=>lf (match p.1 with
  |.str z=>Y (.bl (ks.contains z != neg),p.2)
  |_=>B)
 |.lenset a=>(r.ev τ st a).bind λp=>(askI (qvk p.1)).map λd=>(d,p.2)
 |.comp t it test elt sr=>askE (stepEv r.rl τ st (.comp t it test elt sr)) ((srcT n r τ st it).bind λp=>
   (qah p.1 (turnT r t test elt) (p.1.size p.2+1) 0 [] (inner sr τ) p.2).map λq=>alloc q.2 (.lst O q.1))
 |.attr C a f=>(r.ev τ st a).bind λp=>(obT n p.2 C p.1).bind λfs=>lf ((fs.lookup f).map λd=>(d,p.2))
 |.mcall C f m a es=>(r.ev τ st a).bind λp=>(obT n p.2 C p.1).bind λfs=>if (fs.lookup m).isSome then no else(evsT (r.ev τ) es p.2).bind λq=>r.call f (p.1::q.1) q.2
 |.new C f es=>(evsT (r.ev τ) es st).bind λp=>(r.call f (.loc p.2.length::p.1) (p.2++[.obj C []])).bind λq=>if isNon q.1 then ys (.loc p.2.length,q.2) else no
 |_=>no
noncomputable def qy6(n:Y0)(r:RT)(τ:Sl)(st:Y4):E->TM (Yb×Y4)
 |.not a=>(r.tst τ st a).map λp=>(!p.1,p.2)
 |.and a b=>(r.tst τ st a).bind λp=>if p.1 then r.tst τ p.2 b else ys (Y6,p.2)
 |.or a b=>(r.tst τ st a).bind λp=>if p.1 then ys (O,p.2) else r.tst τ p.2 b
 |.ite _ _ _=>no
 |.din neg a b=>(r.ev τ st a).bind λp=>(r.ev τ p.2 b).bind λq=>(dgT n q p.1 q.2).map λo=>(o.isSome != neg,q.2)
 |.tdi neg a b=>(r.ev τ st a).bind λp=>(r.ev τ p.2 b).bind λq=>(tgT n q.1 p.1 q.2).bind λo=>ys (o.isSome != neg,q.2)
 |.gin neg _ ks b=>(r.ev τ st b).bind λp=>lf (match p.1 with
  |.str z=>Y (ks.contains z != neg,p.2)
  |_=>B)
 |.cmp op a b=>(r.ev τ st a).bind λp=>(r.ev τ p.2 b).bind λq=>(cmpT q.2 op p.1 q.1).map λk=>(k,q.2)
 |.cmp2 op op' a b c=>(r.ev τ st a).bind λp=>(r.ev τ p.2 b).bind λq=>(cmpT q.2 op p.1 q.1).bind λk=>
   if k then(r.ev τ q.2 c).bind λu=>(cmpT u.2 op' q.1 u.1).map λk'=>(k',u.2) else ys (Y6,q.2)
 |e=>(r.ev τ st e).bind λp=>(qh5 n p.2 p.1).map λk=>(k,p.2)
noncomputable def qk4(n:Y0)(r:RT)(τ:Sl)(st:Y4):S->TM (Out×Y4)
 |.set t e=>(r.ev τ st e).bind λp=>(lf (setT t p.1 τ)).map λτ'=>(.nx τ',p.2)
 |.dset a i e=>(r.ev τ st e).bind λp=>(r.ev τ p.2 a).bind λq=>(r.ev τ q.2 i).bind λu=>match q.1 with
  |.loc l=>(wdT n u.2 l).bind λkvs=>if isKey u.1 then(askB (decide (kvs.length<lim))).bind λb=>if b then ys (.nx τ,u.2.set l (.dic O (dput kvs u.1 p.1))) else no else no
  |_=>no
 |.tds a i e=>(r.ev τ st e).bind λp=>(r.ev τ p.2 a).bind λq=>(r.ev τ q.2 i).bind λu=>match q.1,u.1 with
  |.loc l,.fup k=>(wtT n u.2 l).bind λkvs=>(askB (decide (kvs.length<lim))).bind λb=>if b then ys (.nx τ,u.2.set l (.tdc O (tput kvs k p.1))) else no
  |_,_=>no
 |.setA C a f e=>(r.ev τ st e).bind λp=>(r.ev τ p.2 a).bind λq=>(obT n q.2 C q.1).bind λfs=>match q.1 with
  |.loc l=>if fs.length<900 then ys (.nx τ,q.2.set l (.obj C (putA f p.1 fs))) else no
  |_=>no
 |.expr e=>(r.ev τ st e).map λp=>(.nx τ,p.2)
 |.ret e=>(r.ev τ st e).map λp=>(.rt p.1,p.2)
 |.ite c a b=>(r.tst τ st c).bind λp=>if p.1 then r.ex τ p.2 a else r.ex τ p.2 b
 |.forr t it body=>askS (stepEx r.rl τ st (.forr t it body)) ((srcT n r τ st it).bind λp=>
   qdr p.1 (λτ st d=>(lf (setT t d τ)).bind λτ'=>r.ex τ' st body) (p.1.size p.2+1) 0 τ p.2)
 |.ford t a body=>askS (stepEx r.rl τ st (.ford t a body)) no
 |_=>no
noncomputable def exsT(f:Sl->Y4->S->TM (Out×Y4)):L S->Sl->Y4->TM (Out×Y4)
 |[],τ,st=>ys (.nx τ,st)
 |s::ss,τ,st=>(f τ st s).bind λp=>match p.1 with
  |.nx τ'=>exsT f ss τ' p.2
  |o=>ys (o,p.2)
abbrev CT:=Y0->L D->Y4->TM (D×Y4)
noncomputable def runT(n:Y0)(R0:R)(c:CT):Y0->RT
 |0=>⟨R0,λ_ _ _=>no,λ_ _ _=>no,λ_ _ _=>no,c⟩
 |k+1=>⟨R0,qco n (runT n R0 c k),qy6 n (runT n R0 c k),λτ st ss=>exsT (qk4 n (runT n R0 c k)) ss τ st,c⟩
noncomputable def qvg(fns:L Fn)(n:Y0)(Oq:L Y0)(k:Y0):Y0->CT
 |0=>λ_ _ _=>no
 |d+1=>λf ds st=>if Oq.contains f then askC (callD fns (k+(d+1)) f ds st) else match fns[f]? with
   |some F=>if ds.length=F.np then((runT n (RL (callD fns (k+d))) (qvg fns n Oq k d) 40).ex (ds.map Y++List.replicate (F.nl - ds.length) B) st F.body).bind λp=>(match p.1 with
     |.rt d=>ys (d,p.2)
     |.nx _=>ys (.non,p.2)
     |_=>no)
    else no
   |none=>no
def Sn{α:Type}(x:TM α)(y:Y3 α):Prop:=∀t K,x t K->∃a t',y=Y a/\K a t'
theorem Sn.lf:∀(o:Y3 α),Sn (lf o) o
 |some a=>λt K h=>⟨a,t,rfl,h⟩
 |none=>λt K h=>h.elim
theorem Sn.ys(a:α):Sn (ys a) (Y a):=λt K h=>⟨a,t,rfl,h⟩
theorem Sn.no(o:Y3 α):Sn no o:=λt K h=>h.elim
theorem Sn.bind{x:TM α}{y:Y3 α}{f:α->TM b}{g:α->Y3 b}(h:Sn x y)(h':∀a,Sn (f a) (g a)):Sn (x.bind f) (y.bind g):=λt K e=>by
 obtain⟨a,d,rfl,c⟩:=h _ _ e;exact h' a _ _ c
theorem Sn.map{x:TM α}{y:Y3 α}(f:α->b)(h:Sn x y):Sn (x.map f) (y.map f):=λt K e=>by
 obtain⟨a,c,rfl,d⟩:=h _ _ e;exact⟨f a,c,rfl,d⟩
def Sn.ite[Decidable c]{a b:TM α}{e d:Y3 α}(g:Sn a e)(f:Sn b d):Sn (if c then a else b) (if c then e else d):=by
 by_cases h:c
 ·rw[Z6 h,Z6 h]; exact g
 ·rw[Z5 h,Z5 h]; exact f
def Sn.up{x:TM α}{y y':Y3 α}(h:∀a,y=Y a->y'=Y a)(e:Sn x y):Sn x y':=λt K h1=>by
 obtain⟨a,b,d,c⟩:=e t K h1;exact⟨a,b,h a d,c⟩
def Sn.eq{x:TM α}{y y':Y3 α}(h:y=y')(e:Sn x y):Sn x y':=h▸e
def bm{α a:Type}{o:Y3 α}{f:α->a}:(o.bind λx=>Y (f x))=o.map f:=by cases o<;>rfl
theorem Sn.askB(p):Sn (askB p) (Y p):=λt K h=>by
 cases t with
 |nil=>exact h.elim
 |cons i t=>
  cases i with
  |b k=>obtain⟨rfl,e⟩:=h; exact⟨_,_,rfl,e⟩
  |k=>exact⟨p,t,rfl,h⟩
  |_=>exact h.elim
theorem Sn.askC(o):Sn (askC o) o:=λt K h=>by
 cases t with
 |nil=>exact h.elim
 |cons i t=>
  cases i with
  |c a=>exact⟨a,t,h.1,h.2⟩
  |_=>exact h.elim
theorem Sn.askD(o):Sn (askD o) o:=λt K h=>by
 cases t with
 |nil=>exact Sn.lf o _ _ h
 |cons i t=>
  cases i with
  |c a=>exact⟨a,t,h.1,h.2⟩
  |_=>exact Sn.lf o _ _ h
theorem Sn.askE(h:Sn x o):Sn (askE o x) o:=λt K e=>by
 cases t with
 |nil=>exact h _ _ e
 |cons i t=>
  cases i with
  |c a=>exact⟨a,t,e.1,e.2⟩
  |_=>exact h _ _ e
theorem Sn.askS(h:Sn x o):Sn (askS o x) o:=λt K e=>by
 cases t with
 |nil=>exact h _ _ e
 |cons i t=>
  cases i with
  |s a=>exact⟨a,t,e.1,e.2⟩
  |_=>exact h _ _ e
theorem Sn.askQ(o):Sn (askQ o) (Y o):=λt K h=>by
 cases t with
 |nil=>exact h.elim
 |cons i t=>
  cases i with
  |q a=>exact⟨a,t,congrArg Y h.1,h.2⟩
  |k=>exact⟨o,t,rfl,h⟩
  |_=>exact h.elim
theorem Sn.askI(o):Sn (askI o) o:=λt K h=>by
 cases t with
 |nil=>exact Sn.lf o _ _ h
 |cons i t=>
  cases i with
  |i a=>exact⟨a,t,h.1,h.2⟩
  |n=>exact Sn.lf o _ _ h
  |_=>exact Sn.lf o _ _ h
theorem Sn.askR(o):Sn (askR o) o:=λt K h=>by
 cases t with
 |nil=>exact h.elim
 |cons i t=>
  cases i with
  |r c=>exact⟨c,t,h.1,h.2⟩
  |_=>exact h.elim
def Sn.rd(n)(st)(l):Sn (rdT n st l) st[l]?:=by
 unfold rdT
 by_cases a:Nat.blt l n=O
 ·rw[Z6 a]; exact .lf _
 ·rw[Z5 a]; exact .askR _
def Sn.seq(n)(st)(d):Sn (seqT n st d) (seqAt st d):=by
 cases d with
 |loc l=>exact((Sn.rd n st l).bind λc=>.lf _).eq (by show _=listAt st l; unfold listAt; cases st[l]? with|none=>rfl|some c=>cases c<;>rfl)
 |lst ds=>exact .ys _
 |_=>exact .no _
def Sn.row(n)(st)(d):Sn (rowT n st d) (rowAt st d):=by
 cases d with
 |tup ds=>exact .ys _
 |non=>exact Sn.seq n st .non
 |bl b=>exact Sn.seq n st (.bl b)
 |int b=>exact Sn.seq n st (.int b)
 |str b=>exact Sn.seq n st (.str b)
 |lst b=>exact Sn.seq n st (.lst b)
 |loc b=>exact Sn.seq n st (.loc b)
 |fup b=>exact Sn.seq n st (.fup b)
def Sn.wl(n)(st)(l):Sn (wlT n st l) (wlistAt st l):=((Sn.rd n st l).bind λc=>.lf _).eq (by
 unfold wlistAt
 cases st[l]? with
 |none=>rfl
 |some c=>cases c with
  |lst w ds=>cases w<;>rfl
  |_=>rfl)
def Sn.dc(n)(st)(l):Sn (dcT n st l) (dicAt st l):=((Sn.rd n st l).bind λc=>.lf _).eq (by unfold dicAt; cases st[l]? with|none=>rfl|some c=>cases c<;>rfl)
def Sn.wd(n)(st)(l):Sn (wdT n st l) (wdicAt st l):=((Sn.rd n st l).bind λc=>.lf _).eq (by
 unfold wdicAt
 cases st[l]? with
 |none=>rfl
 |some c=>cases c with
  |dic w ds=>cases w<;>rfl
  |_=>rfl)
def Sn.tc(n)(st)(l):Sn (tcT n st l) (tdcAt st l):=((Sn.rd n st l).bind λc=>.lf _).eq (by unfold tdcAt; cases st[l]? with|none=>rfl|some c=>cases c<;>rfl)
def Sn.wt(n)(st)(l):Sn (wtT n st l) (wtdcAt st l):=((Sn.rd n st l).bind λc=>.lf _).eq (by
 unfold wtdcAt
 cases st[l]? with
 |none=>rfl
 |some c=>cases c with
  |tdc w ds=>cases w<;>rfl
  |_=>rfl)
def Sn.ob(n)(st)(C)(d):Sn (obT n st C d) (objAt st C d):=by
 cases d with
 |loc l=>exact((Sn.rd n st l).bind λc=>.lf _).eq (by unfold objAt; dsimp only; cases st[l]? with|none=>rfl|some c=>cases c<;>rfl)
 |_=>exact .no _
def Sn.gc(st)(p):Sn (gcT st p) (Y (gcD st p)):=λt K h=>by
 cases t with
 |nil=>exact h.elim
 |cons i t=>
  cases i with
  |g=>
   obtain⟨⟨h1,h2⟩,h⟩:=h;refine⟨_,t,?_,h⟩;unfold gcD gcX;rw[h2,Z6 h1,Z6 rfl,ite_self]
  |l ds=>exact⟨_,t,congrArg Y h.1,h.2⟩
  |k=>exact⟨_,t,rfl,h⟩
  |_=>exact h.elim
def Sn.cond(p)(a:α):Sn (TM.bind (M.askB p) λb=>if b=O then M.ys a else M.no) (if p=O then Y a else B):=
 (Sn.askB p).bind λb=>Sn.ite (Sn.ys a) (.no B)
def Sn.meth(n)(st)(m)(d)(es):Sn (qbm n st m d es) (mfun st m d es):=by
 cases m with
 |append=>
  unfold qbm;dsimp only
  split
  ·refine(Sn.wl n st _).bind λds=>(Sn.cond _ _).eq ?_;simp only[decide_eq_true_eq]
  ·exact .no _
 |extend=>
  unfold qbm;dsimp only
  split
  ·rename_i l d;refine(Sn.wl n st _).bind λds=>((Sn.row n st d).bind λes=>Sn.cond _ _).eq ?_;simp only[decide_eq_true_eq];cases d<;>rfl
  ·exact .no _
 |insert=>
  unfold qbm;dsimp only
  split
  ·refine(Sn.wl n st _).bind λds=>(Sn.cond _ _).eq ?_;simp only[decide_eq_true_eq]
  ·exact .no _
 |index=>
  unfold qbm;dsimp only
  split
  ·exact(Sn.seq n st _).bind λds=>.askD _
  ·exact .no _
def Sn.mt(n)(st)(m)(d){x:TM α}{y:Y3 α}(h:Sn x y):Sn (TM.bind (mtyT n st m d) λk=>if k=O then x else M.no) (if mty st m d then y else B):=by
 cases d with
 |str z=>exact λt K e=>Sn.ite h (.no B) t K e
 |lst z=>
  refine((Sn.ys m.ofList).bind λk=>Sn.ite h (.no B)).eq ?_
  show(if m.ofList=O then y else B)=if (m.ofList&&O)=O then y else B
  rw[Qx7]
 |loc l=>
  have e:=((Sn.seq n st (.loc l)).bind λ_=>Sn.ys m.ofList).bind λk=>Sn.ite (c:=k=O) h (.no B);refine e.up λa e=>?_;show(if (m.ofList&&(seqAt st (.loc l)).isSome)=O then y else B)=Y a
  cases hs:seqAt st (.loc l) with
  |none=>rw[hs]at e; cases e
  |some xs=>rw[hs]at e; rw[Option.isSome_some,Qx7]; exact e
 |_=>exact λt K e=>e.elim
theorem Sn.askO(o):Sn (askO o) o:=λt K h=>by
 cases t with
 |nil=>exact h.elim
 |cons i t=>
  cases i with
  |b k=>exact⟨k,t,h.1,h.2⟩
  |k=>exact Sn.lf o _ _ h
  |_=>exact h.elim
def Sn.cmp(st)(a)(x y):Sn (cmpT st a x y) (cmpD st a x y):=by
 unfold cmpT
 by_cases b:isAsk a x y=O
 ·rw[Z6 b]; exact .askO _
 ·rw[Z5 b];have h:Sn ((M.lf (cmpD st a x y)).bind λp=>if qne a x=O then M.askB p else M.ys p) ((cmpD st a x y).bind λp=>if qne a x=O then Y p else Y p):=(Sn.lf _).bind λp=>Sn.ite (Sn.askB p) (Sn.ys p);simpa using h
theorem Sn.truth(n)(st)(d):Sn (qh5 n st d) (truth st d):=by
 cases d with
 |loc l=>exact((Sn.seq n st (.loc l)).bind λds=>Sn.askB _).eq (by show _=(seqAt st (.loc l)).map _; rw[Option.map_eq_bind]; rfl)
 |lst l=>exact .askB _
 |non=>exact .lf (M.truth st .non)
 |bl b=>exact .lf (M.truth st (.bl b))
 |int b=>exact .lf (M.truth st (.int b))
 |str b=>exact .lf (M.truth st (.str b))
 |tup b=>exact .lf (M.truth st (.tup b))
 |fup b=>exact .lf (M.truth st (.fup b))
def Sn.add(n)(st)(a b):Sn (addT n st a b) ((seqAt st a).bind λx=>(seqAt st b).bind λy=>if lim<x.length+y.length then B else Y (alloc st (.lst O (x++y)))):=
 (Sn.seq n st a).bind λx=>(Sn.seq n st b).bind λy=>by
  have h:=(Sn.askB (decide (lim<x.length+y.length))).bind λk=>Sn.ite (c:=k=O) (.no B) (Sn.ys (alloc st (.lst O (x++y))));simpa only[oBs,decide_eq_true_eq] using h
def Sn.bin(n)(st)(c)(a b):Sn (binT n st c a b) (binop st c a b):=by
 unfold binT
 split
 ·exact(Sn.add n st _ b).eq (by cases b<;>rfl)
 ·exact(Sn.add n st _ b).eq (by cases b<;>rfl)
 ·split
  ·exact Sn.cond _ _
  ·exact .lf _
 ·exact .askD _
 ·exact .askD _
 ·exact .askD _
 ·exact .lf _
def Sn.bf(n)(st)(f)(ds):Sn (qoj n st f ds) (bfun st f ds):=by
 unfold qoj
 split
 ·split
  ·exact((Sn.seq n st _).bind λxs=>.ys _).eq (bm)
  ·exact .lf _
 ·split
  ·rename_i l;refine((Sn.rd n st l).bind λc=>(Sn.lf _).bind λxs=>.ys _).eq ?_;show _=bList st [.loc l];unfold bList seqAt listAt dkeys dicAt;dsimp only
   cases st[l]? with
   |none=>rfl
   |some c=>cases c<;>rfl
  ·exact .lf _
 ·split
  ·exact((Sn.seq n st _).bind λxs=>.ys _).eq (bm)
  ·exact .lf _
 ·split
  ·rename_i i j;refine((Sn.askB _).bind λk=>.ys _).eq ?_;show Y _=Y _
   by_cases h:j<i<;>simp[h]
  ·exact .no _
 ·exact .askD _
structure SnR (r:RT) (r':R):Prop where
 rl:r.rl=r'
 ev:∀τ st e,Sn (r.ev τ st e) (r'.ev τ st e)
 tst:∀τ st e,Sn (r.tst τ st e) (r'.tst τ st e)
 ex:∀τ st e,Sn (r.ex τ st e) (r'.ex τ st e)
 call:∀f ds st,Sn (r.call f ds st) (r'.call f ds st)
theorem qxm(h:∀st e,Sn (f st e) (a st e)):∀(es:L E) (st:Y4),Sn (evsT f es st) (evs a es st)
 |[],st=>.ys _
 |e::es,st=>(h st e).bind λp=>(qxm h es p.2).bind λq=>.ys _
theorem qya(h:∀τ st d,Sn (f τ st d) (b τ st d)):∀(k i:Y0) (τ:Sl) (st:Y4),Sn (qdr it f k i τ st) (loop it b k i τ st)
 |0,_,_,_=>.no _
 |k+1,i,τ,st=>by
  unfold loop qdr;refine(Sn.lf _).bind λo=>?_
  cases o with
  |none=>exact .ys _
  |some d=>
   refine(h τ st d).bind λp=>?_;obtain⟨o,s⟩:=p
   cases o with
   |nx a=>exact qya h k _ _ _
   |ct a=>exact qya h k _ _ _
   |bk a=>exact .ys _
   |rt v=>exact .ys _
theorem qag(h:∀τ st d,Sn (f τ st d) (b τ st d)):∀(k i:Y0) (a:L D) (τ:Sl) (st:Y4),Sn (qah it f k i a τ st) (loopC it b k i a τ st)
 |0,_,_,_,_=>.no _
 |k+1,i,a,τ,st=>by
  unfold loopC qah;refine(Sn.lf _).bind λo=>?_
  cases o with
  |none=>exact Sn.ite (.no _) (.ys _)
  |some d=>exact Sn.ite (.no _) ((h τ st d).bind λp=>qag h k _ _ _ _)
theorem qel(h:∀τ st s,Sn (f τ st s) (b τ st s)):∀(a:L S) (τ:Sl) (st:Y4),Sn (exsT f a τ st) (exs b a τ st)
 |[],_,_=>.ys _
 |s::a,τ,st=>by
  unfold exs exsT;refine(h τ st s).bind λp=>?_;obtain⟨o,q⟩:=p
  cases o with
  |nx c=>exact qel h a _ _
  |rt _=>exact .ys _
  |bk _=>exact .ys _
  |ct _=>exact .ys _
section
variable (h:SnR r r')
include h
theorem qh9(τ)(st)(e):Sn (srcT n r τ st e) (src r' τ st e):=by
 cases e with
 |rng1 a=>
  refine(h.ev τ st a).bind λp=>?_;obtain⟨d,s⟩:=p
  cases d with
  |int n=>exact Sn.ite (.no _) (.ys _)
  |_=>exact .no _
 |rng2 a b=>exact .no _
 |zip a b=>exact(h.ev τ st a).bind λp=>(h.ev τ _ b).bind λq=>.lf _
 |enu a=>exact(h.ev τ st a).bind λp=>.lf _
 |rev a=>exact(h.ev τ st a).bind λp=>.lf _
 |_=>
  refine(h.ev τ st _).bind λp=>?_;obtain⟨d,s⟩:=p
  cases d with
  |tup n=>exact .ys _
  |str z=>exact .no _
  |_=>exact(Sn.seq n s _).map _
theorem qk9(τ)(st)(e):Sn (qdc r τ st e) (part r' τ st e):=by
 cases e with
 |none=>exact .ys _
 |some e=>
  refine(h.ev τ st e).bind λp=>?_;obtain⟨d,s⟩:=p
  cases d with
  |int n=>exact .ys _
  |_=>exact .no _
theorem qi9(t)(test)(elt)(τ)(st)(d):Sn (turnT r t test elt τ st d) (turnC r' t test elt τ st d):=(Sn.lf _).bind λa=>by
 cases test with
 |none=>exact(h.ev _ _ _).map _
 |some c=>exact(h.tst _ _ _).bind λb=>Sn.ite ((h.ev _ _ _).map _) (.ys _)
omit h in
theorem qhl(p)(k)(st){f:Y3 D->TM α}{g:Y3 D->Y3 α}(a:∀o,Sn (f o) (g o)):Sn ((dgT n p k st).bind f) (match p.1 with
  |.loc l=>(dicAt st l).bind λkvs=>if isKey k then g (dget kvs k) else B
  |_=>B):=by
 obtain⟨d,s⟩:=p
 cases d with
 |loc l=>
  refine(((Sn.dc n st l).bind λkvs=>Sn.ite (Sn.askQ (dget kvs k)) (.no B)).bind a).eq ?_;dsimp only
  cases dicAt st l with
  |none=>rfl
  |some kvs=>
   show Option.bind (if isKey k=O then Y (dget kvs k) else B) g=if isKey k=O then g (dget kvs k) else B
   by_cases e:isKey k=O
   ·rw[Z6 e,Z6 e]; rfl
   ·rw[Z5 e,Z5 e]; rfl
 |_=>exact λt K e=>e.elim
omit h in
theorem tg_sn(p k)(st){f:Y3 D->TM α}{g:Y3 D->Y3 α}(a:∀o,Sn (f o) (g o)):Sn ((tgT n p k st).bind f) (match p,k with
  |.loc l,.fup ks=>(tdcAt st l).bind λkvs=>g (tget kvs ks)
  |_,_=>B):=by
 cases p with
 |loc l=>
  cases k with
  |fup ks=>
   refine(((Sn.tc n st l).bind λkvs=>Sn.askQ (tget kvs ks)).bind a).eq ?_;dsimp only;cases tdcAt st l<;>rfl
  |_=>exact λt K e=>e.elim
 |_=>exact λt K e=>e.elim
theorem qcn(τ)(st)(e):Sn (qco n r τ st e) (stepEv r' τ st e):=by
 cases e with
 |var i=>exact .lf _
 |lit d=>exact .ys _
 |glo x d=>exact .ys _
 |bin j a b=>exact(h.ev τ st a).bind λp=>(h.ev τ _ b).bind λq=>.bin _ _ _ _ _
 |neg a=>exact(h.ev τ st a).bind λp=>.lf _
 |not a=>exact(h.ev τ st a).bind λp=>.lf _
 |cmp j a b=>exact(h.ev τ st a).bind λp=>(h.ev τ _ b).bind λq=>(Sn.cmp _ _ _ _).map _
 |cmp2 j w a b c=>exact(h.ev τ st a).bind λp=>(h.ev τ _ b).bind λq=>(Sn.cmp _ _ _ _).bind λk=>Sn.ite ((h.ev τ _ c).bind λu=>(Sn.cmp _ _ _ _).map _) (.ys _)
 |and a b=>
  refine(h.ev τ st a).bind λp=>?_;obtain⟨d,s⟩:=p
  cases d with
  |bl k=>cases k with
   |true=>exact h.ev τ _ b
   |false=>exact .ys _
  |_=>exact .no _
 |or a b=>
  refine(h.ev τ st a).bind λp=>?_;obtain⟨d,s⟩:=p
  cases d with
  |bl k=>cases k with
   |false=>exact h.ev τ _ b
   |true=>exact .ys _
  |_=>exact .no _
 |ite c a b=>exact(h.tst τ st c).bind λp=>Sn.ite (h.ev τ _ a) (h.ev τ _ b)
 |tup es=>exact(qxm (h.ev τ) es st).bind λp=>Sn.ite (.no _) (.ys _)
 |lst es=>exact(qxm (h.ev τ) es st).bind λp=>Sn.ite (.no _) (.ys _)
 |idx a b=>exact(h.ev τ st a).bind λp=>(h.ev τ _ b).bind λq=>(Sn.askI _).map _
 |sli a lo hi=>exact(h.ev τ st a).bind λp=>(qk9 h τ _ lo).bind λl=>(qk9 h τ _ hi).bind λu=>.lf _
 |call f es=>exact(qxm (h.ev τ) es st).bind λp=>h.call f _ _
 |bcall f es=>exact(qxm (h.ev τ) es st).bind λp=>.bf _ _ _ _
 |isi a y m=>exact(h.ev τ st a).bind λp=>(Sn.lf _).map _
 |lenset a=>exact(h.ev τ st a).bind λp=>(Sn.askI _).map _
 |gc a=>exact((h.ev τ st a).bind λp=>Sn.gc st p).eq (bm)
 |meth a m es=>exact(h.ev τ st a).bind λp=>Sn.mt _ _ _ _ ((qxm (h.ev τ) es _).bind λq=>.meth _ _ _ _ _)
 |dic es=>
  refine(qxm (h.ev τ) es _).bind λp=>((Sn.wd n p.2 st.length).bind λv=>Sn.lf _).eq ?_
  cases wdicAt p.2 st.length with
  |none=>rfl
  |some v=>cases v<;>rfl
 |didx a b=>exact(h.ev τ st a).bind λp=>(h.ev τ _ b).bind λq=>qhl p q.1 q.2 λo=>(Sn.lf o).map _
 |din neg a b=>exact(h.ev τ st a).bind λp=>(h.ev τ _ b).bind λq=>qhl q p.1 q.2 λo=>Sn.ys _
 |dgt a b=>
  refine(h.ev τ st a).bind λp=>?_;obtain⟨d,s⟩:=p
  cases d with
  |loc l=>exact(Sn.dc n s l).bind λ_=>(h.ev τ _ b).bind λq=>qhl (.loc l,s) q.1 q.2 λo=>Sn.ys _
  |_=>exact .no _
 |tsli a lo hi=>exact(h.ev τ st a).bind λp=>(qk9 h τ _ lo).bind λl=>(qk9 h τ _ hi).bind λu=>.lf _
 |unt a=>exact(h.ev τ st a).bind λp=>.lf _
 |tdn=>exact .ys _
 |tdi neg a b=>
  refine(h.ev τ st a).bind λp=>(h.ev τ _ b).bind λq=>(tg_sn q.1 p.1 q.2 λo=>Sn.ys _).eq ?_
  cases q.1 with
  |loc l=>
   cases p.1 with
   |fup k=>dsimp only; cases tdcAt q.2 l<;>rfl
   |_=>rfl
  |_=>cases p.1<;>rfl
 |gidx x ks ds b=>exact(h.ev τ st b).bind λp=>.lf _
 |gin neg x ks b=>exact(h.ev τ st b).bind λp=>.lf _
 |comp t it g elt sr=>
  show Sn (askE (stepEv r.rl τ st (.comp t it g elt sr)) _) _;rw[h.rl];exact Sn.askE ((qh9 h τ st it).bind λp=>(qag (qi9 h t g elt) _ _ _ _ _).map _)
 |attr C a f=>exact(h.ev τ st a).bind λp=>(Sn.ob _ _ _ _).bind λfs=>.lf _
 |mcall C f m a es=>exact(h.ev τ st a).bind λp=>(Sn.ob _ _ _ _).bind λfs=>Sn.ite (.no _) ((qxm (h.ev τ) es _).bind λq=>h.call f _ _)
 |new C f es=>exact(qxm (h.ev τ) es st).bind λp=>(h.call f _ _).bind λq=>Sn.ite (.ys _) (.no _)
 |_=>exact .no _
theorem qbk(τ)(st)(e):Sn (qy6 n r τ st e) (stepTst r' τ st e):=by
 cases e with
 |not a=>exact(h.tst τ st a).map _
 |and a b=>exact(h.tst τ st a).bind λp=>Sn.ite (h.tst τ _ b) (.ys _)
 |or a b=>exact(h.tst τ st a).bind λp=>Sn.ite (.ys _) (h.tst τ _ b)
 |ite _ _ _=>exact .no _
 |din neg a b=>
  refine((h.ev τ st a).bind λp=>(h.ev τ _ b).bind λq=>qhl q p.1 q.2 λo=>Sn.ys _).eq ?_;show _=(dinR r' τ st neg a b).bind _;unfold dinR;simp only[Qjt];refine congrArg _ (funext λp=>congrArg _ (funext λq=>?_))
  cases q.1 with
  |loc l=>
   dsimp only
   cases dicAt q.2 l with
   |none=>rfl
   |some kvs=>
    simp only[oBs]
    by_cases e:isKey p.1=O
    ·rw[Z6 e,Z6 e]; rfl
    ·rw[Z5 e,Z5 e]; rfl
  |_=>rfl
 |tdi neg a b=>
  refine((h.ev τ st a).bind λp=>(h.ev τ _ b).bind λq=>tg_sn q.1 p.1 q.2 λo=>Sn.ys _).eq ?_;show _=(tdiR r' τ st neg a b).bind _;unfold tdiR;simp only[Qjt];refine congrArg _ (funext λp=>congrArg _ (funext λq=>?_))
  cases q.1 with
  |loc l=>
   cases p.1 with
   |fup k=>dsimp only; cases tdcAt q.2 l<;>rfl
   |_=>rfl
  |_=>cases p.1<;>rfl
 |gin neg x ks b=>
  refine((h.ev τ st b).bind λp=>Sn.lf _).eq ?_;show _=(ginR r' τ st neg ks b).bind _;unfold ginR;simp only[Qjt];refine congrArg _ (funext λp=>?_);cases p.1<;>rfl
 |cmp f a b=>exact(h.ev τ st a).bind λp=>(h.ev τ _ b).bind λq=>(Sn.cmp _ _ _ _).map _
 |cmp2 f d a b c=>exact(h.ev τ st a).bind λp=>(h.ev τ _ b).bind λq=>(Sn.cmp _ _ _ _).bind λk=>Sn.ite ((h.ev τ _ c).bind λu=>(Sn.cmp _ _ _ _).map _) (.ys _)
 |_=>exact(h.ev τ st _).bind λp=>(Sn.truth _ _ _).map _
theorem qvt(τ)(st)(s):Sn (qk4 n r τ st s) (stepEx r' τ st s):=by
 cases s with
 |set t e=>exact(h.ev τ st e).bind λp=>(Sn.lf _).map _
 |dset a i e=>
  refine(h.ev τ st e).bind λp=>(h.ev τ _ a).bind λq=>(h.ev τ _ i).bind λu=>?_;obtain⟨d,s⟩:=q
  cases d with
  |loc l=>
   refine((Sn.wd n u.2 l).bind λkvs=>Sn.ite (Sn.cond (decide (kvs.length<lim)) (Out.nx τ,u.2.set l (.dic O (dput kvs u.1 p.1)))) (.no B)).eq ?_;refine congrArg _ (funext λkvs=>?_)
   cases isKey u.1 with
   |true=>rfl
   |false=>rfl
  |_=>exact .no _
 |tds a i e=>
  refine(h.ev τ st e).bind λp=>(h.ev τ _ a).bind λq=>(h.ev τ _ i).bind λu=>?_;obtain⟨d,s⟩:=q;obtain⟨k,s'⟩:=u
  cases d with
  |loc l=>
   cases k with
   |fup k=>
    refine((Sn.wt n s' l).bind λkvs=>Sn.cond (decide (kvs.length<lim)) (Out.nx τ,s'.set l (.tdc O (tput kvs k p.1)))).eq ?_;refine congrArg _ (funext λkvs=>?_)
    by_cases g:kvs.length<lim
    ·rw[Z3 g,Z6 g]; rfl
    ·rw[Z4 g,Z5 g]; rfl
   |_=>exact .no _
  |_=>exact .no _
 |setA C a f e=>
  refine(h.ev τ st e).bind λp=>(h.ev τ _ a).bind λq=>(Sn.ob n _ _ _).bind λfs=>?_;obtain⟨d,s⟩:=q
  cases d with
  |loc l=>exact Sn.ite (.ys _) (.no _)
  |_=>exact .no _
 |expr e=>exact(h.ev τ st e).map _
 |ret e=>exact(h.ev τ st e).map _
 |ite c a b=>exact(h.tst τ st c).bind λp=>Sn.ite (h.ex τ _ a) (h.ex τ _ b)
 |forr t it body=>
  show Sn (askS (stepEx r.rl τ st (.forr t it body)) _) _;rw[h.rl];exact Sn.askS ((qh9 h τ st it).bind λp=>qya (λτ st d=>(Sn.lf _).bind λj=>h.ex j st body) _ _ _ _)
 |ford t a body=>
  show Sn (askS (stepEx r.rl τ st (.ford t a body)) _) _;rw[h.rl];exact Sn.askS (.no _)
 |_=>exact .no _
end
def ql2(c):Le (RL c) λm=>runK c m:=
 ⟨λτ st e x h=>by obtain⟨n,e⟩:=lim1_is h; exact⟨n,λm a=>ev_up e a⟩,λτ st e x h=>by obtain⟨n,e⟩:=lim1_is h; exact⟨n,λm a=>qh3 e a⟩,λτ st e x h=>by obtain⟨n,e⟩:=lim1_is h; exact⟨n,λm a=>ex_up e a⟩,λf ds st x h=>⟨0,λm _=>by show(runK c m).call f ds st=_; rw[runK_call]; exact h⟩⟩
def qqm(c)(τ)(st)(e)(x)(h:stepEv (RL c) τ st e=Y x):(RL c).ev τ st e=Y x:=by
 obtain⟨n,hn⟩:=qjg (ql2 c) τ st e x h;exact qyb (n:=n+1) (λ_ _ _ h k=>ev_up h k) (hn n (Qqk _))
def rl_tst(c)(τ)(st)(e)(x)(h:stepTst (RL c) τ st e=Y x):(RL c).tst τ st e=Y x:=by
 obtain⟨n,hn⟩:=qx6 (ql2 c) τ st e x h;exact qyb (n:=n+1) (λ_ _ _ h k=>qh3 h k) (hn n (Qqk _))
def ql3(c)(τ)(st)(e)(x)(h:exs (stepEx (RL c)) e τ st=Y x):(RL c).ex τ st e=Y x:=by
 obtain⟨n,hn⟩:=qvc (qjf (ql2 c)) e τ st x h;exact qyb (n:=n+1) (λ_ _ _ h k=>ex_up h k) (hn n (Qqk _))
theorem qji(h:∀f ds st,Sn (c f ds st) (c' f ds st)):∀k,SnR (runT n (RL c') c k) (RL c')
 |0=>⟨rfl,λ_ _ _=>.no _,λ_ _ _=>.no _,λ_ _ _=>.no _,h⟩
 |k+1=>⟨rfl,λτ st e=>(qcn (qji h k) τ st e).up (qqm c' τ st e),λτ st e=>(qbk (qji h k) τ st e).up (rl_tst c' τ st e),λτ st a=>(qel (qvt (qji h k)) a τ st).up (ql3 c' τ st a),h⟩
theorem qx3:∀(d f:Y0) (ds:L D) (st:Y4),Sn (qvg fns n b k d f ds st) (callD fns (k+d) f ds st)
 |0,f,ds,st=>.no _
 |d+1,f,ds,st=>by
  unfold qvg
  by_cases a:b.contains f=O
  ·rw[Z6 a];exact .askC _
  ·rw[Z5 a];show Sn _ (stepCall fns (RL (callD fns (k+d))) f ds st);unfold stepCall
   cases hf:fns[f]? with
   |none=>exact .no _
   |some F=>
    refine Sn.ite (((qji (λf ds st=>qx3 d f ds st) 40).ex _ _ _).bind λp=>?_) (.no _);obtain⟨o,s⟩:=p
    cases o with
    |rt _=>exact .ys _
    |nx _=>exact .ys _
    |bk _=>exact .no _
    |ct _=>exact .no _
def qqj(n)(g)(d)(P:Prop->Prop)(t)(c:P (r=r))(h:exsT (qk4 n (runT n (RL (callD fns (k+d))) (qvg fns n g k d) 40)) b τ st t (λa _=>a=r)=P (r=r):=by kernel_rfl):exs (stepEx (RL (callD fns (k+d)))) b τ st=Y r:=by
 rw[<- h]at c;obtain⟨a,i,e,rfl⟩:=qel (qvt (qji (λf ds st=>qx3 d f ds st) 40)) b τ st t _ c;exact e
def qzy(n)(c)(d)(P:Prop->Prop)(t)(e:P (r=r))(h:exsT (qk4 n (runT n (RL (callD fns (k+d))) (qvg fns n c k d) 40)) b τ st t (λa _=>a=r)=P (r=r):=by kernel_rfl):(RL (callD fns (k+d))).ex τ st b=Y r:=ql3 _ _ _ _ _ (qqj n c d P t e h)
def qzc(n)(c)(d)(P:Prop->Prop)(t)(b:P (r=r))(h:(runT n (RL (callD fns (k+d))) (qvg fns n c k d) 40).ev τ st e t (λa _=>a=r)=P (r=r):=by kernel_rfl):(RL (callD fns (k+d))).ev τ st e=Y r:=by
 rw[<- h]at b;obtain⟨a,g,e,rfl⟩:=(qji (λf ds st=>qx3 d f ds st) 40).ev τ st e t _ b;exact e
def qzh(n)(c)(d)(P:Prop->Prop)(t)(b:P (r=r))(h:(runT n (RL (callD fns (k+d))) (qvg fns n c k d) 40).tst τ st e t (λa _=>a=r)=P (r=r):=by kernel_rfl):(RL (callD fns (k+d))).tst τ st e=Y r:=by
 rw[<- h]at b;obtain⟨a,g,e,rfl⟩:=(qji (λf ds st=>qx3 d f ds st) 40).tst τ st e t _ b;exact e
def qzz(n)(c)(d)(P:Prop->Prop)(t)(b:P (r=r))(h:qvg fns n c k d f ds st t (λa _=>a=r)=P (r=r):=by kernel_rfl):callD fns (k+d) f ds st=Y r:=by
 rw[<- h]at b;obtain⟨a,g,e,rfl⟩:=qx3 d f ds st t _ b;exact e
def qjc(n)(g)(d)(c)(P:Prop->Prop)(t)(b:P (c=r))(h:qvg fns n g k d f ds st t (λa _=>a=r)=P (c=r):=by kernel_rfl):callD fns (k+d) f ds st=Y r:=by
 rw[<- h]at b;obtain⟨a,i,e,rfl⟩:=qx3 d f ds st t _ b;exact e
end M
end
section
namespace MS
open PySem PySem.Spec PyProof.Rows L2
def qjx:fillsNumberSlot (.type "tuple") "mul" = pure false:=
 PySem.fillsNumberSlot_seq F.slot_tuple_mul.lookup (by decide +kernel) F.slot_tuple_rmul.lookup (by decide +kernel)
def qv4:seqRepeat? (.type "tuple")=pure (Y (.builtin "tuple.__mul__")):=by
 unfold seqRepeat?;rw[PySem.seqSlot_of (name:="__mul__") F.slot_tuple_mul.lookup (by decide +kernel),PySem.seqSlot_of (name:="__rmul__") F.slot_tuple_rmul.lookup (by decide +kernel)]
 rfl
def qka(a)(t)(l)(b)(n)(c)(sl):
  Meets (Qs.«int.__rmul__» ⟨[.int a t,.ref l],[]⟩) (λ_ R s=>s.heap.get? l=Y { cls:=.type "tuple",dict:=c,data:=.seq b n,slots:=sl }/\R (.ok (.ret Value.notImplemented)) s):=
 .of_wp λprog w A R s h=>by obtain⟨hp,g,d,tk,os⟩:=s; obtain⟨hl,h⟩:=h; wp_walk; exact⟨_,rfl,h⟩
def qkj(l)(a)(n)(c)(sl)(x)(u)(b:¬ (decide (x < -(2 ^ 63))||decide (x >= 2 ^ 63))=O)(e:(a.isEmpty||x==1)=O):
  Meets (Qs.«tuple.__mul__» ⟨[.ref l,.int x u],[]⟩) (λ_ R s=>s.heap.get? l=Y { cls:=.type "tuple",dict:=c,data:=.seq a n,slots:=sl }/\R (.ok (.ret (Value.ref l))) s):=
 .of_wp λprog w A R s h=>by
  obtain⟨hp,g,d,tk,os⟩:=s; obtain⟨hl,h⟩:=h
  wp_walk
  simp only[Z5 b]
  wp_walk
  exact⟨_,rfl,h⟩
def qkk(l)(a)(n)(c)(sl)(x)(u)(b:¬ (decide (x < -(2 ^ 63))||decide (x >= 2 ^ 63))=O)(f:¬ (a.isEmpty||x==1)=O)(e:(decide (x<=0)||a.isEmpty)=O):
  Meets (Qs.«tuple.__mul__» ⟨[.ref l,.int x u],[]⟩) (λ_ R s=>s.heap.get? l=Y { cls:=.type "tuple",dict:=c,data:=.seq a n,slots:=sl }/\R (.ok (.ret (Value.ref s.heap.objs.size))) { s with heap:=s.heap.push { cls:=.type "tuple",data:=.seq #[] } }):=
 .of_wp λprog w A R s h=>by
  obtain⟨hp,g,d,tk,os⟩:=s; obtain⟨hl,h⟩:=h
  wp_walk
  simp only[Z5 b]
  wp_walk
  exact⟨_,rfl,h⟩
def qkv(l)(a)(n)(e)(sl)(x)(u)(c:¬ (decide (x < -(2 ^ 63))||decide (x >= 2 ^ 63))=O)(k:¬ (a.isEmpty||x==1)=O)(j:¬ (decide (x<=0)||a.isEmpty)=O)(b:¬ ((a.size:J)*x > (2 ^ 63 - 1) / 8))(i:¬ Builtin.Tuple.tupleTooMany ((a.size:J)*x)=O)(f:(List.foldl (λx1 x2=>x1++x2) #[] (List.replicate x.toNat a)).size<=sizeLine):
  Meets (Qs.«tuple.__mul__» ⟨[.ref l,.int x u],[]⟩) (λ_ R s=>s.heap.get? l=Y { cls:=.type "tuple",dict:=e,data:=.seq a n,slots:=sl }/\R (.ok (.ret (Value.ref s.heap.objs.size))) { s with heap:=s.heap.push { cls:=.type "tuple",data:=.seq (List.foldl (λx1 x2=>x1++x2) #[] (List.replicate x.toNat a)) } }):=
 .of_wp λprog w A R s h=>by
  obtain⟨hp,g,d,tk,os⟩:=s; obtain⟨hl,h⟩:=h
  wp_walk
  simp only[Z5 c]
  wp_walk
  simp only[Z5 b]
  wp_walk
  exact⟨_,rfl,h⟩
noncomputable def rRepT(K:Qqq):R2:=λx y H Q=>∃l k xs,x=.ref l/\y=.int k/\SqT K H l xs/\-(2 ^ 62)<=k/\k<2 ^ 62/\xs.length*k.toNat<=sizeLine/\
 (∀ys,ys=(List.replicate k.toNat xs).flatten->(ys=xs->Q (.ref l) H)/\∀p,H p=B->Q (.ref p) (upd H p (.tup ys)))
def qmp:OpR X (Q2 .Mult) (rRepT X.K):=by
 intro pins s σ H x y v u Q I E D h;obtain⟨l,k,xs,rfl,rfl,P,V,U,p,q⟩:=h;cases E;obtain⟨t,rfl⟩:=D;obtain⟨a,r,hp,K⟩:=I.tuple P;obtain⟨⟨cls,d,C,sl⟩,b,w,n,hd⟩:=id hp;simp only at w hd;subst w hd;have hl:=r.length;obtain⟨G,o⟩:=q _ rfl;have A:=λm=>by
  have:=foldl_rep a m [];rw[List.nil_append]at this;exact this
 have i:¬ (decide (k < -(2 ^ 63))||decide (k >= 2 ^ 63))=true:=by simp; omega
 refine wpAny_binaryOp_repeat_ref (by decide) ⟨_,b,rfl⟩ (λs'=>typeIs_int s' k t) qjx F.fills_int_mul F.slot_int_rmul qv4 F.slot_int_index.lookup
  (Qt F.slot_int_rmul (typeIs_int s k t) F.entry_int_rmul (F.args_int_rmul_2 _ _) (qka k t l a.toArray n d sl) ⟨b,rfl,⟨_,b,rfl⟩,?_⟩)
 by_cases h1:(a.toArray.isEmpty||k==1)=O
 ·refine Qt F.slot_tuple_mul ⟨_,b,rfl⟩ F.entry_tuple_mul (F.args_tuple_mul_2 _ _) (qkj l a.toArray n d sl k t i h1) ⟨b,⟨.ref l,H,I,rfl,G ?_⟩⟩;rw[Qxf]at h1;rcases h1 with z|z
  ·have j:a=[]:=by simpa using z
   have S:=Qz4.mp (by rw[hl,j]; rfl);rw[S];simp
  ·have j:k=1:=by simpa using z
   rw[j];simp
 ·have g:a≠[]:=λz=>h1 (by rw[z]; rfl)
  by_cases h2:(decide (k<=0)||a.toArray.isEmpty)=O
  ·refine Qt F.slot_tuple_mul ⟨_,b,rfl⟩ F.entry_tuple_mul (F.args_tuple_mul_2 _ _) (qkk l a.toArray n d sl k t i h1 h2) ⟨b,?_⟩;have R:k<=0:=by
    rw[Qxf]at h2;rcases h2 with z|z
    ·simpa using z
    ·exact absurd (by simpa using z) g
   have T:k.toNat=0:=by omega
   refine⟨.ref _,_,I.laid (λ_ _ e=>Qqx _ e) (Qqk _) ?_,rfl,o _ I.fresh⟩;rw[T];exact⟨Qq8 _,[],.nil,IsTup.new s.heap _⟩
  ·have R:0<k:=by
    simp at h2; omega
   have c:((a.toArray.size:Y0):J)*k=((a.length*k.toNat:Y0):J):=by
    rw[Qqd,Int.natCast_mul]
    congr 1
    omega
   have f:a.length*k.toNat<=sizeLine:=by rw[<- hl]; exact p
   have N:(sizeLine:Y0)<2 ^ 60:=by rw[Q0]; decide
   refine Qt F.slot_tuple_mul ⟨_,b,rfl⟩ F.entry_tuple_mul (F.args_tuple_mul_2 _ _) (qkv l a.toArray n d sl k t i h1 h2 ?_ ?_ ?_) ⟨b,?_⟩
   ·rw[c]; omega
   ·unfold Builtin.Tuple.tupleTooMany;rw[c,decide_eq_true_eq];omega
   ·rw[A,Qqd,len_rep,Nat.mul_comm]; exact f
   ·refine⟨.ref _,_,I.laid (λ_ _ e=>Qqx _ e) (Qqk _) ?_,rfl,o _ I.fresh⟩;rw[A];exact⟨by rw[len_rep,Nat.mul_comm]; exact p,_,r.rep k.toNat,IsTup.new s.heap _⟩
section
def qxj{lo:Y3 J}(c:IsTup s.heap t a)(k:s.heap.IsSliceOf sl vl i .none)(pl:IsPart vl lo)(l:IsPart i d)(j:HT.sIx a.size 0 lo=0/\HT.sIx a.size a.size d=a.size)(h:Q (.ref t) s):wpAny (model prog w) A (Zj (.ref t) (.ref sl)) Q E s:=by
 obtain⟨os,e,f,m⟩:=id k;have g:s.TypeIs (.ref sl) "slice":=⟨os,e,f⟩
 unfold Zj
 try with_reducible refine Q3 ?_
 first|refine Qq (Qj ?_)|skip
 refine Qq (wpAny_sequenceKey c.typeIs (by decide) ?_)
 refine Qq (Qc c.typeIs PyProof.Rows.slot_tuple_getitem
  (Qe PyProof.Rows.slot_tuple_getitem c.typeIs entry_tuple_getitem ?_ (args_tuple_getitem _ _)))
 show wpAny _ _ (Builtin.Tuple.tupleItemsOf (.ref t) >>= _) _ _ s;refine Qq (tupleItemsOf_ c ?_);refine Qq (wpAny_typeOf g ?_);rw[Z6 (by decide)];refine Qq (HT.sliceApplied_gen k pl l ?_);have b:(((HT.sIx a.size 0 lo:Y0):J)==0&&(1:J)==1&&(HT.sIx a.size a.size d - HT.sIx a.size 0 lo)==a.size)=true:=by
  rw[j.1,j.2];simp
 show wpAny _ _ (if (((HT.sIx a.size 0 lo:Y0):J)==0&&(1:J)==1&&(HT.sIx a.size a.size d - HT.sIx a.size 0 lo)==a.size)=O then _ else _) _ _ s;rw[Z6 b];refine Qq ?_;unfold Builtin.Tuple.tupleIsExact;refine Qq (wpAny_typeOf c.typeIs (Qj ?_));rw[Z6 (by decide)]
 first
  |exact Qq (Zz (Qj ⟨_,rfl,Qj h⟩))
  |exact Qq (Zz (Qq (Qj (Qj ⟨_,rfl,Qj h⟩))))
  |exact Qq (Qq (Zz (Qj (Qj ⟨_,rfl,Qj h⟩))))
end
end MS
end
section
namespace MS
open PySem PySem.Spec PyProof.Rows L2
open M (D Ya Y4 Sl)
def nn{α:Type}{a:α}{P:Prop}(h:B=Y a):P:=by cases h
def SqF(K:Qqq)(H:Hp)(a:Y7)(xs:L V):Prop:=
 (∃o,H a=Y (.frz o (.lst xs)))\/∃(o:Obj) (its:Array Y8) (n:Y0),K.lookup a=Y o/\o.cls=.type "list"/\o.dict=B/\o.data=.seq its n/\its.size<=sizeLine/\Vals xs its.toList
mutual
noncomputable def IsD(K:Qqq)(m:L Y7)(H:Hp):D->V->Prop
 |.non,v=>v=.non
 |.bl b,v=>v=.bl b
 |.int i,v=>v=.int i
 |.str s,v=>v=.str s
 |.tup ds,v=>∃a xs,v=.ref a/\SqT K H a xs/\IsDs K m H ds xs
 |.lst ds,v=>∃a xs,v=.ref a/\SqF K H a xs/\IsDs K m H ds xs
 |.loc l,v=>∃a,m[l]?=Y a/\v=.ref a
 |.fup ks,v=>∃a,v=.ref a/\H a=Y (.tup (ks.map .int))
noncomputable def IsDs(K:Qqq)(m:L Y7)(H:Hp):L D->L V->Prop
 |[],xs=>xs=[]
 |d::ds,xs=>∃x r,xs=x::r/\IsD K m H d x/\IsDs K m H ds r
end
def Sub(m m':L Y7):Prop:=∀(l:Y0) (a:Y7),m[l]?=Y a->m'[l]?=Y a
noncomputable def Sq:HO->Prop
 |.lst _=>True
 |.tup _=>True
 |_=>False
structure Tr (H H':Hp):Prop where
 tup:∀b xs,H b=Y (.tup xs)->H' b=Y (.tup xs)
 frz:∀b o u,H b=Y (.frz o u)->H' b=Y (.frz o u)
structure Tw (H H':Hp):Prop where
 tup:∀b xs,H b=Y (.tup xs)->H' b=Y (.tup xs)
 frz:∀b o u,Sq u->H b=Y (.frz o u)->H' b=Y (.frz o u)
def Tr.w(t:Tr H H'):Tw H H':=⟨t.tup,λb o u _=>t.frz b o u⟩
def Sub.refl(m):Sub m m:=λ_ _ h=>h
def Sub.trans(a:Sub m c)(b:Sub c m2):Sub m m2:=λl x h=>b l x (a l x h)
def Sub.app(m r):Sub m (m++r):=λl a h=>by
 rw[Qq0 (Qqj.mp h).1]; exact h
def Tr.refl(H):Tr H H:=⟨λ_ _ h=>h,λ_ _ _ h=>h⟩
def Tr.trans(a:Tr H d)(b:Tr d H2):Tr H H2:=⟨λc xs h=>b.tup c xs (a.tup c xs h),λc o u h=>b.frz c o u (a.frz c o u h)⟩
def Tr.of_same(h:Same H H'):Tr H H':=⟨λb xs e=>h b _ e,λb o u e=>h b _ e⟩
def qza(a:H p=B):Same H (upd H p o):=λb u e=>by
 rw[qzq (qzl e a)]; exact e
def Tr.put(a:H p=Y (.lst xs)):Tr H (upd H p (.lst ys)):=
 ⟨λb zs e=>by rw[qzq (qzr e a (by intro z; cases z))]; exact e,λb o u e=>by rw[qzq (qzr e a (by intro z; cases z))]; exact e⟩
def Tw.sqT{K:Qqq}(t:Tw H H')(h:SqT K H a xs):SqT K H' a xs:=by
 rcases h with (h|⟨o,h⟩)|h
 ·exact .inl (.inl (t.tup _ _ h))
 ·exact .inl (.inr ⟨o,t.frz _ _ _ trivial h⟩)
 ·exact .inr h
def SqF.sq{K:Qqq}(h:SqF K H a xs):SqL K H a xs:=by
 rcases h with h|h
 ·exact .inl (.inr h)
 ·exact .inr h
def Tw.sqF{K:Qqq}(t:Tw H H')(h:SqF K H a xs):SqF K H' a xs:=by
 rcases h with⟨o,h⟩|h
 ·exact .inl ⟨o,t.frz _ _ _ trivial h⟩
 ·exact .inr h
theorem Tr.sqT{K:Qqq}(t:Tr H H')(h:SqT K H a xs):SqT K H' a xs:=t.w.sqT h
theorem Tr.sqF{K:Qqq}(t:Tr H H')(h:SqF K H a xs):SqF K H' a xs:=t.w.sqF h
section
variable {K:Qqq}{m m':L Y7}{H H':Hp}
mutual
theorem qz7(c:Sub m m')(b:Tw H H'):∀(d:D) (v:V),IsD K m H d v->IsD K m' H' d v
 |.non,_,h=>h
 |.bl _,_,h=>h
 |.int _,_,h=>h
 |.str _,_,h=>h
 |.tup ds,_,h=>by
  unfold IsD at h ⊢;obtain⟨a,xs,e,q,r⟩:=h;exact⟨a,xs,e,b.sqT q,qz4 c b ds xs r⟩
 |.lst ds,_,h=>by
  unfold IsD at h ⊢;obtain⟨a,xs,e,q,r⟩:=h;exact⟨a,xs,e,b.sqF q,qz4 c b ds xs r⟩
 |.loc l,_,h=>by
  unfold IsD at h ⊢;obtain⟨a,e,q⟩:=h;exact⟨a,c l a e,q⟩
 |.fup ks,_,h=>by
  unfold IsD at h ⊢;obtain⟨a,e,q⟩:=h;exact⟨a,e,b.tup _ _ q⟩
theorem qz4(b:Sub m m')(a:Tw H H'):∀(ds:L D) (xs:L V),IsDs K m H ds xs->IsDs K m' H' ds xs
 |[],_,h=>h
 |d::ds,_,h=>by
  unfold IsDs at h ⊢;obtain⟨x,r,e,q,t⟩:=h;exact⟨x,r,e,qz7 b a d x q,qz4 b a ds r t⟩
end
def qzv(b:Sub m m')(a:Tr H H')(d)(v)(h:IsD K m H d v):IsD K m' H' d v:=qz7 b a.w d v h
def qze(b:Sub m m')(a:Tr H H')(ds)(xs)(h:IsDs K m H ds xs):IsDs K m' H' ds xs:=qz4 b a.w ds xs h
theorem IsD.int(h:IsD K m H (.int i) v):v=.int i:=by unfold IsD at h; exact h
theorem IsD.bl(h:IsD K m H (.bl i) v):v=.bl i:=by unfold IsD at h; exact h
theorem IsD.str(h:IsD K m H (.str i) v):v=.str i:=by unfold IsD at h; exact h
theorem IsD.non(h:IsD K m H .non v):v=.non:=by unfold IsD at h; exact h
theorem IsD.tup(h:IsD K m H (.tup ds) v):∃a xs,v=.ref a/\SqT K H a xs/\IsDs K m H ds xs:=by unfold IsD at h; exact h
theorem IsD.fup(h:IsD K m H (.fup ks) v):∃a,v=.ref a/\H a=Y (.tup (ks.map .int)):=by unfold IsD at h; exact h
theorem IsD.lst(h:IsD K m H (.lst ds) v):∃a xs,v=.ref a/\SqF K H a xs/\IsDs K m H ds xs:=by unfold IsD at h; exact h
theorem IsD.loc(h:IsD K m H (.loc l) v):∃a,m[l]?=Y a/\v=.ref a:=by unfold IsD at h; exact h
def mkInt(i):IsD K m H (.int i) (.int i):=by unfold IsD; rfl
def mkBl(i):IsD K m H (.bl i) (.bl i):=by unfold IsD; rfl
def mkStr(i):IsD K m H (.str i) (.str i):=by unfold IsD; rfl
def qvq:IsD K m H .non .non:=by unfold IsD; rfl
def qq3(h:SqT K H a xs)(q:IsDs K m H ds xs):IsD K m H (.tup ds) (.ref a):=by unfold IsD; exact⟨a,xs,rfl,h,q⟩
def qbl(h:SqF K H a xs)(q:IsDs K m H ds xs):IsD K m H (.lst ds) (.ref a):=by unfold IsD; exact⟨a,xs,rfl,h,q⟩
def qhq(h:H a=Y (.tup (ks.map .int))):IsD K m H (.fup ks) (.ref a):=by unfold IsD; exact⟨a,rfl,h⟩
def qhz(h:m[l]?=Y a):IsD K m H (.loc l) (.ref a):=by unfold IsD; exact⟨a,h,rfl⟩
def IsDs.nil(h:IsDs K m H [] xs):xs=[]:=by unfold IsDs at h; exact h
def IsDs.cons(h:IsDs K m H (d::ds) xs):∃x r,xs=x::r/\IsD K m H d x/\IsDs K m H ds r:=by unfold IsDs at h; exact h
def qz9:IsDs K m H [] []:=by unfold IsDs; rfl
def qzm(h:IsD K m H d x)(t:IsDs K m H ds r):IsDs K m H (d::ds) (x::r):=by unfold IsDs; exact⟨x,r,rfl,h,t⟩
def IsDs.one(h:IsDs K m H [d] xs):∃x,xs=[x]/\IsD K m H d x:=by
 obtain⟨x,r,rfl,q,t⟩:=h.cons;rw[t.nil];exact⟨x,rfl,q⟩
def IsDs.two(h:IsDs K m H [d,e] xs):∃x y,xs=[x,y]/\IsD K m H d x/\IsD K m H e y:=by
 obtain⟨x,r,rfl,q,t⟩:=h.cons;obtain⟨y,rfl,a⟩:=t.one;exact⟨x,y,rfl,q,a⟩
theorem IsDs.length:∀{ds}{xs},IsDs K m H ds xs->ds.length=xs.length
 |[],_,h=>by rw[h.nil]; rfl
 |_::_,_,h=>by
  obtain⟨x,r,rfl,_,t⟩:=h.cons;rw[Qqi,Qqi,t.length]
theorem IsDs.get:∀{ds:L D}{xs:L V}{i:Y0}{d:D},IsDs K m H ds xs->ds[i]?=Y d->∃x,xs[i]?=Y x/\IsD K m H d x
 |[],_,_,_,_,e=>by simp at e
 |d::ds,_,0,d',h,e=>by
  obtain⟨x,r,rfl,q,_⟩:=h.cons;have c:d=d':=by simpa using e
  subst c;exact⟨x,rfl,q⟩
 |d::ds,_,i+1,d',h,e=>by
  obtain⟨x,r,rfl,_,t⟩:=h.cons;obtain⟨y,b,a⟩:=t.get (by simpa using e);exact⟨y,by simpa using b,a⟩
theorem IsDs.append:∀{ds es}{xs ys},IsDs K m H ds xs->IsDs K m H es ys->IsDs K m H (ds++es) (xs++ys)
 |[],_,_,_,h,q=>by rw[h.nil]; exact q
 |_::_,_,_,_,h,q=>by
  obtain⟨x,r,rfl,a,t⟩:=h.cons;exact qzm a (t.append q)
end
noncomputable def keyOf:D->Y3 Key
 |.int i=>Y (.inl i)
 |.str z=>Y (.inr z)
 |_=>B
noncomputable def IsKV(K:Qqq)(m:L Y7)(H:Hp):L (D×D)->L (Key×V)->Prop
 |[],xs=>xs=[]
 |p::r,xs=>∃k v xr,xs=(k,v)::xr/\keyOf p.1=Y k/\IsD K m H p.2 v/\IsKV K m H r xr
theorem qqd{K:Qqq}(d:Sub m b)(c:Tw H H'):∀(kvs:L (D×D)) (xs:L (Key×V)),IsKV K m H kvs xs->IsKV K b H' kvs xs
 |[],_,h=>h
 |p::r,_,⟨k,v,a,e,i,f,g⟩=>⟨k,v,a,e,i,qz7 d c _ _ f,qqd d c r a g⟩
def qj1{K:Qqq}(c:Sub m a)(b:Tr H H')(kvs)(xs)(h:IsKV K m H kvs xs):IsKV K a H' kvs xs:=qqd c b.w kvs xs h
theorem IsKV.length{K:Qqq}:∀{kvs}{xs},IsKV K m H kvs xs->kvs.length=xs.length
 |[],_,h=>by rw[show _=[] from h]; rfl
 |p::r,_,⟨k,v,b,e,_,_,a⟩=>by rw[e,Qqi,Qqi,a.length]
def qen(d:keyOf a=Y k)(c:keyOf b=Y j):M.eqT a b=decide (k=j):=by
 cases a with
 |int i=>
  cases d
  cases b with
  |int e=>cases c; rw[M.eqT]; by_cases h:i=e<;>simp[h]
  |str z=>cases c; simp[M.eqT]
  |_=>exact nn c
 |str z=>
  cases d
  cases b with
  |int e=>cases c; simp[M.eqT]
  |str f=>cases c; rw[M.eqT]; by_cases h:z=f<;>simp[h]
  |_=>exact nn c
 |_=>exact nn d
def qq5(h:M.isKey a=O):∃k,keyOf a=Y k:=by
 cases a with
 |int i=>exact⟨_,rfl⟩
 |str z=>exact⟨_,rfl⟩
 |_=>cases h
def qnw{K:Qqq}(h:keyOf a=Y k)(i:IsD K m H a v):v=kV k:=by
 cases a with
 |int b=>cases h; exact i.int
 |str z=>cases h; exact i.str
 |_=>exact nn h
theorem IsKV.get{K:Qqq}(c:keyOf a=Y j):∀{kvs}{xs},IsKV K m H kvs xs->(M.dget kvs a=B/\valV xs j=B)\/∃d v,M.dget kvs a=Y d/\valV xs j=Y v/\IsD K m H d v
 |[],_,h=>by rw[show _=[] from h]; exact .inl ⟨rfl,rfl⟩
 |p::r,_,⟨k,v,n,e,i,f,g⟩=>by
  subst e;have eq:=qen i c
  by_cases b:k=j
  ·refine .inr ⟨p.2,v,?_,qxv b,f⟩;rw[Z3 b]at eq;simp[M.dget,eq]
  ·rw[Z4 b]at eq;have l:M.dget (p::r) a=M.dget r a:=by simp[M.dget,eq]
   rw[l,qxw b];exact g.get c
theorem IsKV.any{K:Qqq}(b:keyOf a=Y j):∀{kvs}{xs},IsKV K m H kvs xs->(kvs.any λp=>M.eqT p.1 a)=(xs.any λp=>decide (p.1=j))
 |[],_,h=>by rw[show _=[] from h]; rfl
 |p::r,_,⟨k,v,f,e,d,g,c⟩=>by
  subst e;rw[Qz3,Qz3,qen d b,c.any b]
theorem IsKV.repl{K:Qqq}(f:keyOf a=Y j)(hd:IsD K m H d w):∀{kvs}{xs},IsKV K m H kvs xs->IsKV K m H (kvs.map λp=>if M.eqT p.1 a then(p.1,d) else p) (xs.map λp=>if p.1=j then(p.1,w) else p)
 |[],_,h=>by rw[show _=[] from h]; rfl
 |p::r,_,⟨k,v,l,e,c,i,g⟩=>by
  subst e;have eq:=qen c f;rw[Qqm,Qqm]
  by_cases b:k=j
  ·rw[Z3 b]at eq;rw[Z6 eq,Z6 b];exact⟨k,w,_,rfl,c,hd,g.repl f hd⟩
  ·rw[Z4 b]at eq;rw[Z5 (by rw[eq]; nofun),Z5 b];exact⟨k,v,_,rfl,c,i,g.repl f hd⟩
theorem IsKV.snoc{K:Qqq}(b:keyOf a=Y j)(hd:IsD K m H d w):∀{kvs}{xs},IsKV K m H kvs xs->IsKV K m H (kvs++[(a,d)]) (xs++[(j,w)])
 |[],_,h=>by rw[show _=[] from h]; exact⟨j,w,[],rfl,b,hd,rfl⟩
 |p::r,_,⟨k,v,i,e,g,c,f⟩=>by
  subst e;exact⟨k,v,_,rfl,g,c,f.snoc b hd⟩
def IsKV.put{K:Qqq}(h:IsKV K m H kvs xs)(b:keyOf a=Y j)(hd:IsD K m H d w):IsKV K m H (M.dput kvs a d) (putK xs j w):=by
 unfold M.dput putK;rw[h.any b]
 split
 ·exact h.repl b hd
 ·exact h.snoc b hd
theorem IsKV.merge{K:Qqq}:∀{more}{ms}{kvs}{xs},IsKV K m H more ms->IsKV K m H kvs xs->IsKV K m H (more.foldl (λa p=>M.dput a p.1 p.2) kvs) (qki xs ms)
 |[],_,kvs,xs,h,q=>by rw[show _=[] from h]; exact q
 |p::r,_,kvs,xs,⟨k,v,f,e,d,b,c⟩,q=>by
  subst e;exact c.merge (q.put d b)
noncomputable def IsFs(K:Qqq)(m:L Y7)(H:Hp):L (Y5×D)->L (Y5×V)->Prop
 |[],ys=>ys=[]
 |p::r,ys=>∃v yr,ys=(p.1,v)::yr/\IsD K m H p.2 v/\IsFs K m H r yr
theorem qx0{K:Qqq}(d:Sub m b)(c:Tw H H'):∀(fs:L (Y5×D)) (ys:L (Y5×V)),IsFs K m H fs ys->IsFs K b H' fs ys
 |[],_,h=>h
 |p::r,_,⟨v,a,e,f,g⟩=>⟨v,a,e,qz7 d c _ _ f,qx0 d c r a g⟩
def qd9{K:Qqq}(c:Sub m a)(b:Tr H H')(fs)(ys)(h:IsFs K m H fs ys):IsFs K a H' fs ys:=qx0 c b.w fs ys h
theorem IsFs.length{K:Qqq}:∀{fs}{ys},IsFs K m H fs ys->fs.length=ys.length
 |[],_,h=>by rw[show _=[] from h]; rfl
 |p::r,_,⟨v,b,e,_,a⟩=>by rw[e,Qqi,Qqi,a.length]
theorem IsFs.get{K:Qqq}(f):∀{fs}{ys},IsFs K m H fs ys->(fs.lookup f=B/\ys.lookup f=B)\/∃d v,fs.lookup f=Y d/\ys.lookup f=Y v/\IsD K m H d v
 |[],_,h=>by rw[show _=[] from h]; exact .inl ⟨rfl,rfl⟩
 |(g,d)::r,_,⟨v,c,e,a,b⟩=>by
  subst e;rw[Qzk,Qzk]
  cases f==g with
  |true=>exact .inr ⟨d,v,rfl,rfl,a⟩
  |false=>exact b.get f
theorem IsFs.put{K:Qqq}(hd:IsD K m H d w):∀{fs}{ys},IsFs K m H fs ys->IsFs K m H (M.putA f d fs) (putF f w ys)
 |[],_,h=>by rw[show _=[] from h]; exact⟨w,[],rfl,hd,rfl⟩
 |(g,x)::r,_,⟨v,b,e,c,a⟩=>by
  subst e;unfold M.putA putF
  split
  ·exact⟨w,b,rfl,hd,a⟩
  ·exact⟨v,_,rfl,c,a.put hd⟩
noncomputable def IsKT(K:Qqq)(m:L Y7)(H:Hp):L (L J×D)->L (L Key×V)->Prop
 |[],xs=>xs=[]
 |p::r,xs=>∃v xr,xs=(p.1.map Sum.inl,v)::xr/\IsD K m H p.2 v/\IsKT K m H r xr
theorem qq1{K:Qqq}(d:Sub m b)(c:Tw H H'):∀(kvs:L (L J×D)) (xs:L (L Key×V)),IsKT K m H kvs xs->IsKT K b H' kvs xs
 |[],_,h=>h
 |p::r,_,⟨v,a,e,f,g⟩=>⟨v,a,e,qz7 d c _ _ f,qq1 d c r a g⟩
def inl_inj{b:L J}:(a.map (Sum.inl:J->Key)=b.map Sum.inl)↔a=b:=by
 refine⟨λh=>?_,λh=>by rw[h]⟩;have:=congrArg (List.map (Sum.elim id λ_=>0:Key->J)) h;rw[Qq6,Qq6,show(Sum.elim id λ_=>0:Key->J)∘Sum.inl=id from rfl,Qx6,Qx6]at this;exact this
theorem IsKT.length{K:Qqq}:∀{kvs}{xs},IsKT K m H kvs xs->kvs.length=xs.length
 |[],_,h=>by rw[show _=[] from h]; rfl
 |p::r,_,⟨v,b,e,_,a⟩=>by rw[e,Qqi,Qqi,a.length]
theorem IsKT.get{K:Qqq}(k):∀{kvs}{xs},IsKT K m H kvs xs->(M.tget kvs k=B/\valV xs (k.map Sum.inl)=B)\/∃d v,M.tget kvs k=Y d/\valV xs (k.map Sum.inl)=Y v/\IsD K m H d v
 |[],_,h=>by rw[show _=[] from h]; exact .inl ⟨rfl,rfl⟩
 |p::r,_,⟨v,g,e,b,c⟩=>by
  subst e
  by_cases a:p.1=k
  ·exact .inr ⟨p.2,v,by simp[M.tget,a],qxv (inl_inj.mpr a),b⟩
  ·have f:M.tget (p::r) k=M.tget r k:=by simp[M.tget,a]
   rw[f,qxw λz=>a (inl_inj.mp z)];exact c.get k
def IsKT.put{K:Qqq}(hd:IsD K m H d w)(h:IsKT K m H kvs xs):IsKT K m H (M.tput kvs k d) (putK xs (k.map Sum.inl) w):=by
 have g:∀{kvs:L (L J×D)}{xs:L (L Key×V)},IsKT K m H kvs xs->(kvs.any λp=>decide (p.1=k))=xs.any λp=>decide (p.1=k.map Sum.inl):=λ{kvs}=>by
  induction kvs with
  |nil=>intro xs h; rw[show _=[] from h]; rfl
  |cons p r b=>
   rintro xs ⟨v,f,rfl,_,a⟩;rw[Qz3,Qz3,b a]
   congr 1
   rw[Qjb,decide_eq_true_eq,decide_eq_true_eq];exact inl_inj.symm
 have a:∀{kvs:L (L J×D)}{xs:L (L Key×V)},IsKT K m H kvs xs->IsKT K m H (kvs.map λp=>if p.1=k then(p.1,d) else p) (xs.map λp=>if p.1=k.map Sum.inl then(p.1,w) else p):=λ{kvs}=>by
  induction kvs with
  |nil=>intro xs h; rw[show _=[] from h]; rfl
  |cons p r b=>
   rintro xs ⟨v,f,rfl,e,a⟩;rw[Qqm,Qqm]
   by_cases c:p.1=k
   ·rw[Z6 c,Z6 (inl_inj.mpr c)]; exact⟨w,_,rfl,hd,b a⟩
   ·rw[Z5 c,Z5 λz=>c (inl_inj.mp z)]; exact⟨v,_,rfl,e,b a⟩
 have hs:∀{kvs:L (L J×D)}{xs:L (L Key×V)},IsKT K m H kvs xs->IsKT K m H (kvs++[(k,d)]) (xs++[(k.map Sum.inl,w)]):=λ{kvs}=>by
  induction kvs with
  |nil=>intro xs h; rw[show _=[] from h]; exact⟨w,[],rfl,hd,rfl⟩
  |cons p r b=>
   rintro xs ⟨v,f,rfl,e,a⟩;exact⟨v,_,rfl,e,b a⟩
 unfold M.tput putK;rw[g h]
 split
 ·exact a h
 ·exact hs h
noncomputable def IsC(K:Qqq)(m:L Y7)(H:Hp):Ya->Y7->Prop
 |.lst O ds,a=>∃xs,H a=Y (.lst xs)/\IsDs K m H ds xs
 |.lst Y6 ds,a=>∃xs,SqF K H a xs/\IsDs K m H ds xs
 |.dic O kvs,a=>∃xs,H a=Y (.dK xs)/\IsKV K m H kvs xs
 |.dic Y6 kvs,a=>∃o xs,H a=Y (.frz o (.dK xs))/\IsKV K m H kvs xs
 |.obj C fs,a=>∃dx ys,H a=Y (.ins C dx ys)/\IsFs K m H fs ys
 |.tdc O kvs,a=>∃xs,H a=Y (.dT xs)/\IsKT K m H kvs xs
 |.tdc Y6 kvs,a=>∃o xs,H a=Y (.frz o (.dT xs))/\IsKT K m H kvs xs
noncomputable def Wr:Ya->Yb
 |.lst w _=>w
 |_=>O
structure Rel (K:Qqq) (m:L Y7) (st:Y4) (H:Hp):Prop where
 len:m.length=st.length
 nd:∀(l l':Y0) (a:Y7) (c c':Ya),m[l]?=Y a->m[l']?=Y a->st[l]?=Y c->st[l']?=Y c'->Wr c=O->Wr c'=O->l=l'
 cell:∀(l:Y0) (c:Ya) (a:Y7),st[l]?=Y c->m[l]?=Y a->IsC K m H c a
section
variable {K:Qqq}{m:L Y7}{st:Y4}{H:Hp}
def Rel.addr(h:Rel K m st H){l:Y0}(e:st[l]?=Y c):∃a,m[l]?=Y a:=by
 have hl:=(Qqj.mp e).1;have:=h.len;exact⟨m[l]'(by lia),by simp⟩
def IsC.wr(h:IsC K m H c a)(w:Wr c=O):∃o,H a=Y o:=by
 cases c with
 |lst b ds=>
  have e:=w;subst e;obtain⟨xs,e,_⟩:=h;exact⟨_,e⟩
 |dic b kvs=>
  cases b with
  |true=>obtain⟨xs,e,_⟩:=h; exact⟨_,e⟩
  |false=>obtain⟨o,xs,e,_⟩:=h; exact⟨_,e⟩
 |obj C fs=>
  obtain⟨dx,ys,e,_⟩:=h;exact⟨_,e⟩
 |tdc b kvs=>
  cases b with
  |true=>obtain⟨xs,e,_⟩:=h; exact⟨_,e⟩
  |false=>obtain⟨o,xs,e,_⟩:=h; exact⟨_,e⟩
def Rel.list(h:Rel K m st H)(e:M.listAt st l=Y ds)(g:IsD K m H (.loc l) v):∃a xs,m[l]?=Y a/\v=.ref a/\SqL K H a xs/\IsDs K m H ds xs:=by
 obtain⟨a,b,rfl⟩:=g.loc;unfold M.listAt at e
 split at e
 ·rename_i w i q;cases e;have c:=h.cell l _ a q b
  cases w with
  |true=>
   obtain⟨xs,f,d⟩:=c;exact⟨a,xs,b,rfl,SqL.of f,d⟩
  |false=>
   obtain⟨xs,f,d⟩:=c;exact⟨a,xs,b,rfl,f.sq,d⟩
 ·exact nn e
def Rel.seq(h:Rel K m st H)(e:M.seqAt st d=Y ds)(b:IsD K m H d v):∃a xs,True/\v=.ref a/\SqL K H a xs/\IsDs K m H ds xs:=by
 cases d with
 |loc l=>
  obtain⟨a,xs,_,q⟩:=h.list e b;exact⟨a,xs,trivial,q⟩
 |lst es=>
  cases e;obtain⟨a,xs,e,q,r⟩:=b.lst;exact⟨a,xs,trivial,e,q.sq,r⟩
 |_=>exact nn e
def Rel.wlist(h:Rel K m st H)(e:M.wlistAt st l=Y ds)(c:IsD K m H (.loc l) v):∃a xs,m[l]?=Y a/\v=.ref a/\H a=Y (.lst xs)/\IsDs K m H ds xs/\st[l]?=Y (.lst O ds):=by
 obtain⟨a,b,rfl⟩:=c.loc;unfold M.wlistAt at e
 split at e
 ·rename_i g q;cases e;obtain⟨xs,f,d⟩:=h.cell l _ a q b;exact⟨a,xs,b,rfl,f,d,q⟩
 ·exact nn e
def qwc(d:Sub m g)(b:Tw H H')(h:IsC K m H c a)(f:Wr c=O->H' a=H a):IsC K g H' c a:=by
 cases c with
 |lst w ds=>
  cases w with
  |true=>
   obtain⟨xs,e,q⟩:=h;exact⟨xs,(f rfl).trans e,qz4 d b ds xs q⟩
  |false=>
   obtain⟨xs,e,q⟩:=h;exact⟨xs,b.sqF e,qz4 d b ds xs q⟩
 |dic w kvs=>
  cases w with
  |true=>
   obtain⟨xs,e,q⟩:=h;exact⟨xs,(f rfl).trans e,qqd d b kvs xs q⟩
  |false=>
   obtain⟨o,xs,e,q⟩:=h;exact⟨o,xs,(f rfl).trans e,qqd d b kvs xs q⟩
 |obj C fs=>
  obtain⟨dx,ys,e,q⟩:=h;exact⟨dx,ys,(f rfl).trans e,qx0 d b fs ys q⟩
 |tdc w kvs=>
  cases w with
  |true=>
   obtain⟨xs,e,q⟩:=h;exact⟨xs,(f rfl).trans e,qq1 d b kvs xs q⟩
  |false=>
   obtain⟨o,xs,e,q⟩:=h;exact⟨o,xs,(f rfl).trans e,qq1 d b kvs xs q⟩
def qjy(f:Sub m b)(e:Tr H H')(h:IsC K m H c a)(d:Wr c=O->H' a=H a):IsC K b H' c a:=qwc f e.w h d
def Rel.dict(h:Rel K m st H)(e:M.dicAt st l=Y kvs)(i:IsD K m H (.loc l) v):∃a xs,m[l]?=Y a/\v=.ref a/\Rd H a (.dK xs)/\IsKV K m H kvs xs:=by
 obtain⟨a,b,rfl⟩:=i.loc;unfold M.dicAt at e
 split at e
 ·rename_i w g q;cases e;have c:=h.cell l _ a q b
  cases w with
  |true=>
   obtain⟨xs,f,d⟩:=c;exact⟨a,xs,b,rfl,.inl f,d⟩
  |false=>
   obtain⟨o,xs,f,d⟩:=c;exact⟨a,xs,b,rfl,.inr ⟨o,f⟩,d⟩
 ·exact nn e
def Rel.wdict(h:Rel K m st H)(e:M.wdicAt st l=Y kvs)(d:IsD K m H (.loc l) v):∃a xs,m[l]?=Y a/\v=.ref a/\H a=Y (.dK xs)/\IsKV K m H kvs xs/\st[l]?=Y (.dic O kvs):=by
 obtain⟨a,c,rfl⟩:=d.loc;unfold M.wdicAt at e
 split at e
 ·rename_i b q;cases e;obtain⟨xs,g,f⟩:=h.cell l _ a q c;exact⟨a,xs,c,rfl,g,f,q⟩
 ·exact nn e
def Rel.tdict(h:Rel K m st H)(e:M.tdcAt st l=Y kvs)(i:IsD K m H (.loc l) v):∃a xs,m[l]?=Y a/\v=.ref a/\Rd H a (.dT xs)/\IsKT K m H kvs xs:=by
 obtain⟨a,b,rfl⟩:=i.loc;unfold M.tdcAt at e
 split at e
 ·rename_i w g q;cases e;have c:=h.cell l _ a q b
  cases w with
  |true=>
   obtain⟨xs,f,d⟩:=c;exact⟨a,xs,b,rfl,.inl f,d⟩
  |false=>
   obtain⟨o,xs,f,d⟩:=c;exact⟨a,xs,b,rfl,.inr ⟨o,f⟩,d⟩
 ·exact nn e
def Rel.wtdict(h:Rel K m st H)(e:M.wtdcAt st l=Y kvs)(d:IsD K m H (.loc l) v):∃a xs,m[l]?=Y a/\v=.ref a/\H a=Y (.dT xs)/\IsKT K m H kvs xs/\st[l]?=Y (.tdc O kvs):=by
 obtain⟨a,c,rfl⟩:=d.loc;unfold M.wtdcAt at e
 split at e
 ·rename_i b q;cases e;obtain⟨xs,g,f⟩:=h.cell l _ a q c;exact⟨a,xs,c,rfl,g,f,q⟩
 ·exact nn e
def Rel.inst(h:Rel K m st H)(e:M.objAt st C d=Y fs)(f:IsD K m H d v):∃l a dx ys,d=.loc l/\m[l]?=Y a/\v=.ref a/\H a=Y (.ins C dx ys)/\IsFs K m H fs ys/\st[l]?=Y (.obj C fs):=by
 cases d with
 |loc l=>
  obtain⟨a,b,rfl⟩:=f.loc;have e:(match st[l]? with|some (.obj c fs)=>if c=C then Y fs else B|_=>B)=Y fs:=e
  split at e
  ·rename_i c fs' q
   split at e
   ·rename_i g;cases e;subst g;obtain⟨dx,ys,j,i⟩:=h.cell l _ a q b;exact⟨l,a,dx,ys,rfl,b,rfl,j,i,q⟩
   ·exact nn e
  ·exact nn e
 |_=>exact nn e
def Rel.same(h:Rel K m st H)(s:Same H H'):Rel K m st H':=
 ⟨h.len,h.nd,λl c a e b=>qjy (Sub.refl m) (Tr.of_same s) (h.cell l c a e b) λw=>by
  obtain⟨xs,q⟩:=(h.cell l c a e b).wr w
  rw[q]; exact s _ _ q⟩
def Rel.newC(h:Rel K m st H)(j:H p=B)(A:Wr c=O->True)(hd:IsC K (m++[p]) (upd H p o) c p):Rel K (m++[p]) (st++[c]) (upd H p o):=by
 have x:Tr H (upd H p o):=Tr.of_same (qza j);have old:∀(l:Y0) (e:Ya) (a:Y7),(st++[c])[l]?=Y e->(m++[p])[l]?=Y a->(l<st.length/\st[l]?=Y e/\m[l]?=Y a)\/(l=st.length/\e=c/\a=p):=by
  intro l e a f g
  by_cases hl:l<st.length
  ·rw[Qq0 hl]at f;rw[Qq0 (by rw[h.len]; exact hl)]at g;exact .inl ⟨hl,f,g⟩
  ·have q:=(Qqj.mp f).1;rw[Qqh,Qxx]at q;have t:l=st.length:=by lia
   subst t;rw[Qzi (Qqk _)]at f;rw[Qzi (by rw[h.len]; exact Qqk _),h.len]at g;have s:c=e:=by simpa using f
   have r:p=a:=by simpa using g
   exact .inr ⟨rfl,s.symm,r.symm⟩
 refine⟨by simp[h.len],λl n a e u t s r y w v=>?_,λl e a f g=>?_⟩
 ·rcases old l e a r t with⟨h1,d,b⟩|⟨h1,d,b⟩<;>rcases old n u a y s with⟨h2,k,i⟩|⟨h2,k,i⟩
  ·exact h.nd l n a e u b i d k w v
  ·obtain⟨ys,z⟩:=(h.cell l e a d b).wr w;rw[i,j]at z; cases z
  ·obtain⟨ys,z⟩:=(h.cell n u a k i).wr v;rw[b,j]at z; cases z
  ·rw[h1,h2]
 ·rcases old l e a f g with⟨h1,d,b⟩|⟨h1,d,b⟩
  ·refine qjy (Sub.app m [p]) x (h.cell l e a d b) λw=>?_;obtain⟨ys,z⟩:=(h.cell l e a d b).wr w;exact qzq (qzl z j)
  ·rw[d,b];exact hd
def Rel.new(h:Rel K m st H)(a:H p=B)(hd:IsDs K m H ds xs):Rel K (m++[p]) (st++[.lst O ds]) (upd H p (.lst xs)):=
 h.newC a (λ_=>trivial) ⟨xs,qzk,qze (Sub.app m [p]) (Tr.of_same (qza a)) ds xs hd⟩
def Rel.newD(h:Rel K m st H)(a:H p=B)(hd:IsKV K m H kvs xs):Rel K (m++[p]) (st++[.dic O kvs]) (upd H p (.dK xs)):=
 h.newC a (λ_=>trivial) ⟨xs,qzk,qj1 (Sub.app m [p]) (Tr.of_same (qza a)) kvs xs hd⟩
def Rel.newLoc(h:Rel K m st H):IsD K (m++[p]) H' (.loc st.length) (.ref p):=qhz (by
 rw[Qzi (by rw[h.len]; exact Qqk _),h.len]; simp)
def Rel.putW(h:Rel K m st H)(e:st[l]?=Y c)(i:Wr c=O)(t:m[l]?=Y a)(v:Tw H (upd H a o))(hd:IsC K m (upd H a o) c' a):
  Rel K m (st.set l c') (upd H a o):=by
 have hl:=(Qqj.mp e).1;have wr:∀(j:Y0) (d:Ya),(st.set l c')[j]?=Y d->(j=l/\d=c')\/(j≠l/\st[j]?=Y d):=by
  intro j d q
  by_cases k:j=l
  ·subst k;rw[Qzq hl]at q;exact .inl ⟨rfl,(Option.some.inj q).symm⟩
  ·rw[Qqo (Ne.symm k)]at q;exact .inr ⟨k,q⟩
 refine⟨by rw[Qzs]; exact h.len,λj u b d A p n y x w s=>?_,λj d b q g=>?_⟩
 ·rcases wr j d y with⟨f,b1⟩|⟨f,b1⟩<;>rcases wr u A x with⟨r,b2⟩|⟨r,b2⟩
  ·rw[f,r]
  ·subst f; exact h.nd _ _ b _ _ p n e b2 i s
  ·subst r; exact h.nd _ _ b _ _ p n b1 e w i
  ·exact h.nd _ _ b _ _ p n b1 b2 w s
 ·rcases wr j d q with⟨f,b1⟩|⟨f,b1⟩
  ·subst f b1;rw[t]at g; cases g;exact hd
  ·refine qwc (Sub.refl m) v (h.cell j d b b1 g) λw=>qzq λz=>?_;subst z;exact f (h.nd _ _ b _ _ g t b1 e w i)
def Rel.putC(h:Rel K m st H)(e:st[l]?=Y c)(b:Wr c=O)(f:m[l]?=Y a)(d:Tr H (upd H a o))(hd:IsC K m (upd H a o) c' a):
  Rel K m (st.set l c') (upd H a o):=h.putW e b f d.w hd
theorem Rel.put(h:Rel K m st H)(e:st[l]?=Y (.lst O ds))(d:m[l]?=Y a)(c:H a=Y (.lst xs))(hd:IsDs K m H b ys):
  Rel K m (st.set l (.lst O b)) (upd H a (.lst ys)):=
 h.putC e rfl d (Tr.put c) ⟨ys,qzk,qze (Sub.refl m) (Tr.put c) b ys hd⟩
def Tr.putD(a:H p=Y (.dK xs)):Tr H (upd H p (.dK ys)):=
 ⟨λb zs e=>by rw[qzq (qzr e a (by intro z; cases z))]; exact e,λb o u e=>by rw[qzq (qzr e a (by intro z; cases z))]; exact e⟩
theorem Rel.putD(h:Rel K m st H)(e:st[l]?=Y (.dic O kvs))(d:m[l]?=Y a)(c:H a=Y (.dK xs))(hd:IsKV K m H b ys):
  Rel K m (st.set l (.dic O b)) (upd H a (.dK ys)):=
 h.putC e rfl d (Tr.putD c) ⟨ys,qzk,qj1 (Sub.refl m) (Tr.putD c) b ys hd⟩
end
def Tr.putI(a:H p=Y (.ins C c xs)):Tr H (upd H p (.ins C c ys)):=
 ⟨λb zs e=>by rw[qzq (qzr e a (by intro z; cases z))]; exact e,λb o u e=>by rw[qzq (qzr e a (by intro z; cases z))]; exact e⟩
theorem Rel.putI{K:Qqq}{st:Y4}(h:Rel K m st H)(e:st[l]?=Y (.obj C fs))(f:m[l]?=Y a)(d:H a=Y (.ins C c xs))(hd:IsFs K m H b ys):
  Rel K m (st.set l (.obj C b)) (upd H a (.ins C c ys)):=
 h.putC e rfl f (Tr.putI d) ⟨c,ys,qzk,qd9 (Sub.refl m) (Tr.putI d) b ys hd⟩
def Rel.newI{K:Qqq}{st:Y4}(h:Rel K m st H)(i:H x=B)(f:H a=B)(d:a≠x):Same H (upd (upd H a (.own x)) x (.ins C a []))/\Rel K (m++[x]) (st++[.obj C []]) (upd (upd H a (.own x)) x (.ins C a [])):=by
 have g:Same H (upd H a (.own x)):=qza f;have c:(upd H a (.own x)) x=none:=by rw[qzq (Ne.symm d)]; exact i
 exact⟨λb u e=>qza c b u (g b u e),(h.same g).newC c (λ_=>trivial) ⟨a,[],qzk,rfl⟩⟩
def Tr.ice(h:H a=Y (.dK xs)):Tr H (upd H a (.frz o (.dK xs))):=
 ⟨λb zs e=>by rw[qzq (qzr e h (by intro z; cases z))]; exact e,λb o u e=>by rw[qzq (qzr e h (by intro z; cases z))]; exact e⟩
def Tr.thaw(h:H a=Y (.dK xs))(t:Tr (upd H a (.frz o (.dK xs))) H'):Tr H (upd H' a (.dK ys)):=
 ⟨λb zs e=>by
  have c:=qzr e h (by intro z; cases z);rw[qzq c];exact t.tup b zs (by rw[qzq c]; exact e),λb o u e=>by
  have c:=qzr e h (by intro z; cases z);rw[qzq c]
  exact t.frz b o u (by rw[qzq c]; exact e)⟩
def Tw.thaw(h:H a=Y (.frz o (.dK xs))):Tw H (upd H a (.dK ys)):=
 ⟨λb zs e=>by rw[qzq (qzr e h (by intro z; cases z))]; exact e,λb o u hs e=>by rw[qzq (qzr e h (by intro z; cases z; exact hs))]; exact e⟩
theorem Rel.ice{K:Qqq}{st:Y4}(h:Rel K m st H)(e:st[l]?=Y (.dic O kvs))(c:m[l]?=Y a)(b:H a=Y (.dK xs))(hd:IsKV K m H kvs xs):
  Rel K m (st.set l (.dic Y6 kvs)) (upd H a (.frz o (.dK xs))):=
 h.putC e rfl c (Tr.ice b) ⟨o,xs,qzk,qj1 (Sub.refl m) (Tr.ice b) kvs xs hd⟩
theorem Rel.thaw{K:Qqq}{st:Y4}(h:Rel K m st H)(e:st[l]?=Y (.dic Y6 kvs))(c:m[l]?=Y a)(b:H a=Y (.frz o (.dK xs))):
  Rel K m (st.set l (.dic O kvs)) (upd H a (.dK xs)):=by
 obtain⟨o',ys,d,q⟩:=h.cell l _ a e c;rw[b]at d;cases d;exact h.putW e rfl c (Tw.thaw b) ⟨xs,qzk,qqd (Sub.refl m) (Tw.thaw b) kvs xs q⟩
structure SlotOk (K:Qqq) (m:L Y7) (H:Hp) (τ:Sl) (σ:L2.St):Prop where
 len:τ.length=σ.length
 at_:∀(i:Y0) (d:D),τ[i]?=Y (Y d)->∃v,σ[i]?=Y (Y v)/\IsD K m H d v
def SlotOk.monoW{K:Qqq}(h:SlotOk K m H τ σ)(s:Sub m c)(t:Tw H H'):SlotOk K c H' τ σ:=
 ⟨h.len,λi d e=>let ⟨v,a,b⟩:=h.at_ i d e; ⟨v,a,qz7 s t d v b⟩⟩
def SlotOk.mono{K:Qqq}(h:SlotOk K m H τ σ)(s:Sub m c)(t:Tr H H'):SlotOk K c H' τ σ:=
 ⟨h.len,λi d e=>let ⟨v,a,b⟩:=h.at_ i d e; ⟨v,a,qzv s t d v b⟩⟩
def SlotOk.put{K:Qqq}(h:SlotOk K m H τ b)(q:IsD K m H d v):SlotOk K m H (τ.set i (Y d)) (b.set i (Y v)):=by
 refine⟨by rw[Qzs,Qzs]; exact h.len,λj e a=>?_⟩
 by_cases c:i=j
 ·subst c;have hi:i<τ.length:=by
   have:=(Qqj.mp a).1;rwa [Qzs]at this
  rw[Qzq hi]at a;cases a;exact⟨v,Qzq (by rw[<- h.len]; exact hi),q⟩
 ·rw[Qqo c]at a ⊢;exact h.at_ j e a
def Post(K:Qqq)(m:L Y7)(H:Hp)(d:D)(st':Y4)(Q:VK):Prop:=∀v m' H',Sub m m'->Tr H H'->Rel K m' st' H'->IsD K m' H' d v->Q v H'
def PostB(K:Qqq)(m:L Y7)(H:Hp)(b:Yb)(st':Y4)(Q:Yb->Hp->Prop):Prop:=∀m' H',Sub m m'->Tr H H'->Rel K m' st' H'->Q b H'
def PostL(K:Qqq)(m:L Y7)(H:Hp)(ds:L D)(st':Y4)(Q:L V->Hp->Prop):Prop:=∀vs m' H',Sub m m'->Tr H H'->Rel K m' st' H'->IsDs K m' H' ds vs->Q vs H'
def Post.mono{K:Qqq}(p:Post K m H d st' Q)(s:Sub m a)(t:Tr H b):Post K a b d st' Q:=
 λv m' H' s' c r i=>p v m' H' (s.trans s') (t.trans c) r i
def Post.here{K:Qqq}(p:Post K m H d st' Q)(r:Rel K m st' H)(i:IsD K m H d v):Q v H:=p v m H (Sub.refl m) (Tr.refl H) r i
noncomputable def tD(K:Qqq)(f:Sl->Y4->Y3 (D×Y4)):TE:=λσ H Q=>∃m st τ d st',Rel K m st H/\SlotOk K m H τ σ/\f τ st=Y (d,st')/\Post K m H d st' Q
noncomputable def tTs(K:Qqq)(f:Sl->Y4->Y3 (Yb×Y4)):TT:=λσ H Q=>∃m st τ d st',Rel K m st H/\SlotOk K m H τ σ/\f τ st=Y (d,st')/\PostB K m H d st' Q
noncomputable def tL(K:Qqq)(f:Sl->Y4->Y3 (L D×Y4)):TA:=λσ H Q=>∃m st τ d st',Rel K m st H/\SlotOk K m H τ σ/\f τ st=Y (d,st')/\PostL K m H d st' Q
noncomputable def rD(K:Qqq)(g:Y4->D->D->Y3 (D×Y4)):R2:=λx y H Q=>∃m st a b d st',Rel K m st H/\IsD K m H a x/\IsD K m H b y/\g st a b=Y (d,st')/\Post K m H d st' Q
def rC(K:Qqq)(g:Y4->L D->Y3 (D×Y4)):L V->Hp->VK->Prop:=λxs H Q=>∃m st ds d st',Rel K m st H/\IsDs K m H ds xs/\g st ds=Y (d,st')/\Post K m H d st' Q
def rU1(K:Qqq)(g:Y4->D->Y3 (D×Y4)):V->Hp->VK->Prop:=λx H Q=>∃m st a d st',Rel K m st H/\IsD K m H a x/\g st a=Y (d,st')/\Post K m H d st' Q
def Post.of{K:Qqq}(q:Post K m H d s Q)(e:Y (d',a)=Y (d,s)):Post K m H d' a Q:=by cases e; exact q
def PostB.of{K:Qqq}(q:PostB K m H d s Q)(e:Y (d',a)=Y (d,s)):PostB K m H d' a Q:=by cases e; exact q
def PostL.of{K:Qqq}(q:PostL K m H d s Q)(e:Y (d',a)=Y (d,s)):PostL K m H d' a Q:=by cases e; exact q
def rsI{α:Type}{K:Qqq}{f:Sl->Y4->Y3 (α×Y4)}{W:L Y7->α->Y4->Prop}{st:Y4}{d:α}(R:Rel K m st H)(S:SlotOk K m H τ a)(e:f τ st=Y (d,st'))(w:W m d st'):∃m st τ d st',Rel K m st H/\SlotOk K m H τ a/\f τ st=Y (d,st')/\W m d st':=⟨m,st,τ,d,st',R,S,e,w⟩
def tD.el{K:Qqq}{P:Prop}(h:tD K f g H Q)(k:∀m st τ d st',Rel K m st H->SlotOk K m H τ g->f τ st=Y (d,st')->Post K m H d st' Q->P):P:=by
 rcases h with⟨m,st,τ,d,st',a,b,c,e⟩
 exact k m st τ d st' a b c e
def tTs.el{K:Qqq}{P:Prop}(h:tTs K f a H Q)(k:∀m st τ d st',Rel K m st H->SlotOk K m H τ a->f τ st=Y (d,st')->PostB K m H d st' Q->P):P:=by
 rcases h with⟨m,st,τ,d,st',p0,p1,p2,b⟩
 exact k m st τ d st' p0 p1 p2 b
def tL.el{K:Qqq}{P:Prop}(h:tL K f a H Q)(k:∀m st τ d st',Rel K m st H->SlotOk K m H τ a->f τ st=Y (d,st')->PostL K m H d st' Q->P):P:=by
 rcases h with⟨m,st,τ,d,st',p0,p1,p2,b⟩
 exact k m st τ d st' p0 p1 p2 b
def rD.el{K:Qqq}{P:Prop}(h:rD K f x y H Q)(k:∀m st a b d st',Rel K m st H->IsD K m H a x->IsD K m H b y->f st a b=Y (d,st')->Post K m H d st' Q->P):P:=by
 rcases h with⟨m,st,a,b,d,st',p0,p1,p2,e,c⟩
 exact k m st a b d st' p0 p1 p2 e c
def rC.el{K:Qqq}{P:Prop}(h:rC K f xs H Q)(k:∀m st ds d st',Rel K m st H->IsDs K m H ds xs->f st ds=Y (d,st')->Post K m H d st' Q->P):P:=by
 rcases h with⟨m,st,ds,d,st',p0,p1,p2,a⟩
 exact k m st ds d st' p0 p1 p2 a
def rU1.el{K:Qqq}{P:Prop}(h:rU1 K f x H Q)(k:∀m st a d st',Rel K m st H->IsD K m H a x->f st a=Y (d,st')->Post K m H d st' Q->P):P:=by
 rcases h with⟨m,st,a,d,st',p0,p1,p2,b⟩
 exact k m st a d st' p0 p1 p2 b
def _root_.L2.PE.imp(h:PE X e t)(f:∀σ H Q,t' σ H Q->t σ H Q):PE X e t':=λpins s σ H Q I q=>h pins s σ H Q I (f σ H Q q)
def _root_.L2.PT.imp(h:PT X e t)(f:∀σ H Q,t' σ H Q->t σ H Q):PT X e t':=λpins s σ H Q I q=>h pins s σ H Q I (f σ H Q q)
def _root_.L2.PW.imp(h:PW X e t)(f:∀σ H Q,t' σ H Q->t σ H Q):PW X e t':=λw pins s σ H Q I q=>h w pins s σ H Q I (f σ H Q q)
def _root_.L2.PA.imp(h:PA X e t)(f:∀σ H Q,t' σ H Q->t σ H Q):PA X e t':=λp pins s σ H Q I q=>h p pins s σ H Q I (f σ H Q q)
def _root_.L2.PS.imp(h:PS X e t)(f:∀σ H Q,t' σ H Q->t σ H Q):PS X e t':=λpins s σ H Q I q=>h pins s σ H Q I (f Q σ H q)
def _root_.L2.PSs.imp(h:PSs X e t)(f:∀D σ H,t' D σ H->t D σ H):PSs X e t':=λpins s σ H D I q=>h pins s σ H D I (f D σ H q)
def qzj{α:Type}{g:D×Y4->Y3 α}{r:α}{P:Prop}(e:f.bind g=Y r)(k:∀d st,f=Y (d,st)->g (d,st)=Y r->P):P:=by
 cases f with
 |none=>exact nn e
 |some p=>exact k p.1 p.2 rfl e
def qzg{α a:Type}{f:Y3 α}{g:α->a}{r:a}{P:Prop}(e:f.map g=Y r)(k:∀d,f=Y d->g d=r->P):P:=by
 cases f with
 |none=>exact nn e
 |some p=>exact k p rfl (Option.some.inj e)
def qzx{α a:Type}{f:Y3 α}{g:α->Y3 a}{r:a}{P:Prop}(e:f.bind g=Y r)(k:∀d,f=Y d->g d=Y r->P):P:=by
 cases f with
 |none=>exact nn e
 |some p=>exact k p rfl e
def orO{α:Type}{a b:Y3 α}{r:α}(h:a.or b=Y r):a=Y r\/b=Y r:=by
 cases a with
 |none=>exact .inr h
 |some x=>exact .inl h
def mapD{α a:Type}{f:Y3 α}{g:α->a}{r:a}(e:f.map g=Y r):∃d,f=Y d/\g d=r:=by
 cases f with
 |none=>exact nn e
 |some p=>exact⟨p,rfl,Option.some.inj e⟩
section
variable {K:Qqq}
def qch(h:tD K (λτ st=>(c τ st).bind λp=>(b τ p.2).bind λq=>g q.2 p.1 q.1) a H Q):tOp (rD K g) (tD K c) (tD K b) a H Q:=by
 exact h.el λm st τ d st' u f e q=>qzj e λs v o e=>qzj e λr i n e=>rsI u f o λx m1 H1 b1 t1 t l=>rsI t (f.mono b1 t1) n λy j H2 b2 t2 R2 k=>
  ⟨j,i,s,r,d,st',R2,qzv b2 t2 _ _ l,k,e,q.mono (b1.trans b2) (t1.trans t2)⟩
def tD_un(h:tD K (λτ st=>(b τ st).bind λp=>g p.2 p.1) a H Q):tUn (rU1 K g) (tD K b) a H Q:=by
 exact h.el λm st τ d st' n k e q=>qzj e λj c i e=>rsI n k i λx m1 H1 b1 t1 l f=>⟨m1,c,j,d,st',l,f,e,q.mono b1 t1⟩
def qlg(h:tL K (λτ st=>(c τ st).bind λp=>(b τ p.2).bind λq=>Y (p.1::q.1,q.2)) a H Q):qlh (tD K c) (tL K b) a H Q:=by
 refine h.el λm st τ d st' o f e q=>qzj e λs r l e=>qzx e λp k e=>?_;have q:=q.of e;exact rsI o f l λx m1 H1 b1 t1 n j=>rsI n (f.mono b1 t1) k λxs g H2 b2 t2 R2 i=>
  q _ g H2 (b1.trans b2) (t1.trans t2) R2 (qzm (qzv b2 t2 _ _ j) i)
def tL_nil(h:tL K (λ_ st=>Y ([],st)) a H Q):tNil a H Q:=by
 refine h.el λm st τ d st' b c e q=>?_;have q:=q.of e;exact q [] m H (Sub.refl m) (Tr.refl H) b qz9
def qq8(h:tD K (λτ st=>(b τ st).bind λp=>g p.2 p.1) a H Q):tCB (rC K g) (tL K b) a H Q:=by
 exact h.el λm st τ d st' k i e q=>qzx e λp f e=>rsI k i f λxs m1 H1 b1 t1 j c=>⟨m1,p.2,p.1,d,st',j,c,e,q.mono b1 t1⟩
end
end MS
end
section
namespace MS
open PySem PySem.Spec PyProof.Rows L2
open M (D Ya Y4 Sl)
section
variable {X:Cx}
def qqc:(sizeLine:Y0)=M.lim:=Q0
def qde:OpR X (Q2 .FloorDiv) (rI (λ_ j=>0<j/\j<2 ^ 64) λi j=>.int (i / j)):=opI λi j _ _ _ _ _ c q=>by
 refine floordiv_int (by omega) (by rw[Int.fdiv_eq_ediv_of_nonneg i (by omega)]; exact q) (.inl (PyProof.noPylong_of_log2 ?_));have b:j.natAbs<2 ^ 64:=by omega
 have a:j.natAbs≠0:=by omega
 have d:=(Nat.log2_lt a).mpr b;omega
theorem _root_.MS.IsDs.rep{K:Qqq}(h:IsDs K m H ds xs):∀k:Y0,IsDs K m H (List.replicate k ds).flatten (List.replicate k xs).flatten
 |0=>by simp only[List.replicate_zero]; exact qz9
 |k+1=>by
  rw[Qzp,Qzp,Qxa,Qxa];exact h.append (IsDs.rep h k)
def qmt(I:Inv X a m H s)(y:SqL X.K H l xs)(i:SqL X.K H b ys)(E:xs.length+ys.length<=sizeLine)(q:∀p,H p=B->Q (.ref p) (upd H p (.lst (xs++ys)))):
  wpAny (model X.prog X.w) X.A (Q2 .Add (.ref l) (.ref b)) (EP X a m Q) X.xe s:=by
 obtain⟨vs,r,pl,_⟩:=I.list y;obtain⟨ws,o,h,_⟩:=I.list i;have D:=r.length;have C:=o.length;obtain⟨⟨cls,A,w,sl⟩,n,t,v,z,hd⟩:=pl;obtain⟨⟨x,j,k,g⟩,n2,c,f,u,d⟩:=h;simp only at v hd f d;subst v hd f d;have e:vs.toArray++ws.toArray=(vs++ws).toArray:=by simp
 refine concat_meets ⟨_,t,rfl⟩ ⟨_,c,rfl⟩ noFill_list_add seq_list_add PySem.F.slot_list_add PySem.F.entry_list_add (PySem.F.args_list_add_2 _ _) (list_addW l b vs.toArray ws.toArray n n2 A j sl g (by simp; omega)) ⟨t,c,?_⟩;rw[e];exact⟨.ref _,_,I.lnew (r.append o) (by rw[Qqh]; omega),rfl,q _ I.fresh⟩
def qmu(G):OpR X (Q2 G) (rD X.K λst a b=>M.binop st G a b):=by
 intro pins s σ H x y v u Q I j i h;refine h.el λm st a b d st' f n l e q=>?_;have e:=e;unfold M.binop at e
 split at e
 ·have q:=q.of e;exact op_add pins s σ H x y v u Q I j i ⟨_,_,n.int,l.int,q.here f (mkInt _)⟩
 ·rename_i U bs
  split at e
  ·exact nn e
  ·rename_i c;have q:=q.of e;rw[Qxf,decide_eq_true_eq,not_or,List.isEmpty_iff]at c;obtain⟨D,xs,rfl,w,g⟩:=n.tup;obtain⟨F,ys,rfl,C,A⟩:=l.tup;have E:=g.length;have N:=A.length;have K:=qqc;refine qms pins s σ H _ _ v u Q I j i ⟨D,F,xs,ys,rfl,rfl,w,C,?_,by omega,λz=>?_,λz p hp=>?_⟩
   ·intro z;subst z;exact c.1 (Qz4.mp E)
   ·have r:=g.append A;rw[z,Qq7]at r;exact q.here f (qq3 w r)
   ·have t:=qza (o:=.tup (xs++ys)) hp;exact q _ m _ (Sub.refl m) (Tr.of_same t) (f.same t) (qq3 (SqT.of qzk) (qze (Sub.refl m) (Tr.of_same t) _ _ (g.append A)))
 ·rename_i la V _ _;refine qzx e λT R e=>qzx e λS P e=>?_
  split at e
  ·exact nn e
  ·rename_i c;have q:=q.of e;obtain⟨D,xs,_,rfl,w,g⟩:=f.seq R n;obtain⟨F,ys,_,rfl,C,A⟩:=f.seq P l;have E:=g.length;have N:=A.length;have K:=qqc;cases j;cases i;refine qmt I w C (by omega) λp hp=>?_;exact q _ (m++[p]) _ (Sub.app m [p]) (Tr.of_same (qza hp)) (f.new hp (g.append A)) f.newLoc
 ·have q:=q.of e;exact op_sub pins s σ H x y v u Q I j i ⟨_,_,n.int,l.int,q.here f (mkInt _)⟩
 ·split at e
  ·rename_i c;have q:=q.of e;refine op_mul pins s σ H x y v u Q I j i ⟨_,_,n.int,l.int,?_,q.here f (mkInt _)⟩;unfold M.mulOk at c;simp only[Qxf,Qqs,decide_eq_true_eq]at c;exact c
  ·exact nn e
 ·rename_i U k _
  split at e
  ·exact nn e
  ·rename_i c;have q:=q.of e;simp only[Qxf,decide_eq_true_eq]at c;obtain⟨D,xs,rfl,w,g⟩:=n.tup;have E:=g.length;have K:=qqc;refine qmp pins s σ H _ _ v u Q I j i ⟨D,k,xs,rfl,l.int,w,by omega,by omega,by rw[<- E]; omega,λys C=>⟨λz=>?_,λp hp=>?_⟩⟩
   ·have r:=g.rep k.toNat
    rw[<- C,z]at r;exact q.here f (qq3 w r)
   ·have t:=qza (o:=.tup ys) hp;have r:=g.rep k.toNat
    rw[<- C]at r;exact q _ m _ (Sub.refl m) (Tr.of_same t) (f.same t) (qq3 (SqT.of qzk) (qze (Sub.refl m) (Tr.of_same t) _ _ r))
 ·split at e
  ·rename_i c;have q:=q.of e;exact qde pins s σ H x y v u Q I j i ⟨_,_,n.int,l.int,c,q.here f (mkInt _)⟩
  ·exact nn e
 ·split at e
  ·rename_i c;have q:=q.of e;exact op_mod pins s σ H x y v u Q I j i ⟨_,_,n.int,l.int,c,q.here f (mkInt _)⟩
  ·exact nn e
 ·split at e
  ·rename_i c;have q:=q.of e;exact op_pow pins s σ H x y v u Q I j i ⟨_,_,n.int,l.int,⟨c.1,by omega,c.2.2⟩,q.here f (mkInt _)⟩
  ·exact nn e
 ·exact nn e
def qz6(I:Inv X c e H s)(h:IsD X.K m H (.tup ds) v):∃a xs b,v=.ref a/\SqT X.K H a xs/\IsDs X.K m H ds xs/\Vals xs b/\IsTup s.heap a b.toArray:=by
 obtain⟨a,xs,rfl,d,f⟩:=h.tup;obtain⟨b,r,p,_⟩:=I.tuple d;exact⟨a,xs,b,rfl,d,f,r,p⟩
section
variable {H:Hp}{m:L Y7}
theorem qyf:∀{ds es}{xs},ds.all M.isI=O->es.all M.isI=O->IsDs X.K m H ds xs->IsDs X.K m H es xs->ds=es
 |[],es,xs,_,_,h,h'=>by
  rw[h.nil]at h';exact(Qz4.mp h'.length).symm
 |d::ds,es,xs,f,c,h,h'=>by
  obtain⟨x,r,rfl,q,t⟩:=h.cons
  cases es with
  |nil=>cases h'.nil
  |cons e es=>
   obtain⟨j,r',z,i,g⟩:=h'.cons;cases z;rw[Qzl,Qqs]at f c;rw[qyf f.2 c.2 t g]
   cases d with
   |int a=>
    cases e with
    |int b=>cases q.int; cases i.int; rfl
    |_=>cases c.1
   |_=>cases f.1
def qng(I:Inv X pins σ H s)(f:M.flat n d=O)(c:M.flat n e=O)(h:IsD X.K m H d v)(h':IsD X.K m H e v):d=e:=by
 cases d with
 |int b=>
  rw[h.int]at h'
  cases e with
  |tup ds=>obtain⟨a,xs,z,_⟩:=h'.tup; cases z
  |int b=>cases h'.int; rfl
  |str b=>cases h'.str
  |_=>cases c
 |str b=>
  rw[h.str]at h'
  cases e with
  |tup ds=>obtain⟨a,xs,z,_⟩:=h'.tup; cases z
  |int b=>cases h'.int
  |str b=>cases h'.str; rfl
  |_=>cases c
 |tup ds=>
  obtain⟨a,xs,rfl,k,i⟩:=h.tup
  cases e with
  |tup es=>
   obtain⟨b,ys,z,j,g⟩:=h'.tup;cases z;cases I.tuple_inj k j;rw[qyf f c i g]
  |int b=>cases h'.int
  |str b=>cases h'.str
  |_=>cases c
 |_=>cases f
theorem qwh:∀{ds},ds.all M.isI=O->M.eqTs ds ds=O
 |[],_=>rfl
 |d::ds,f=>by
  rw[Qzl,Qqs]at f;unfold M.eqTs;rw[qwh f.2,Qx7]
  cases d with
  |int a=>exact beq_self_eq_true a
  |_=>cases f.1
noncomputable def pairE(ds es:L D)(j:Y0):Bool:=match ds[j]?,es[j]? with
 |some d,Y e=>M.eqT d e
 |_,_=>O
theorem qwi:∀(ds es:L D),M.eqTs ds es=((List.range (min ds.length es.length)).all (pairE ds es)&&ds.length==es.length)
 |[],[]=>rfl
 |[],e::es=>by simp[M.eqTs]
 |d::ds,[]=>by simp[M.eqTs]
 |d::ds,e::es=>by
  simp only[M.eqTs];rw[qwi ds es,Qqi,Qqi,Nat.add_min_add_right,List.range_succ_eq_map,Qzl,List.all_map,Bool.and_assoc]
  congr 1
  congr 1
  rw[Qjb,beq_iff_eq,beq_iff_eq];omega
def int_at(f:ds.all M.isI=O)(c:IsDs X.K m H ds xs)(r:Vals xs b)(h:j<b.toArray.size):∃a t,ds[j]?=Y (.int a)/\b.toArray[j]=Value.int a t:=by
 have l:=c.length;have i:=r.length;rw[Qqd]at h;obtain⟨d,g⟩:∃d,ds[j]?=Y d:=⟨_,Qqc (by omega)⟩
 obtain⟨x,k,q⟩:=c.get g;obtain⟨u,w,z⟩:=r.get k;have e:=Qzj.mp f _ (Qqf g)
 cases d with
 |int a=>
  cases q.int;obtain⟨t,rfl⟩:=z;exact⟨a,t,g,(Qjc _).trans (Qqj.mp w).2⟩
 |_=>cases e
def qiu(I:Inv X pins σ H s)(n)(A)(d e)(x y)(u v)(U:A.units+n<cLine)(f:M.flat n d=O)(z:M.flat n e=O)(G:IsD X.K m H d x)(l:IsD X.K m H e y)(E:RelV x u)(k:RelV y v):SeqAt.EqAt A s u v (M.eqT d e)/\SeqAt.RcAt A s u v (M.eqT d e):=by
 have c:A.units<cLine:=by omega
 cases d with
 |int a=>
  cases G.int; obtain⟨h,rfl⟩:=E
  cases e with
  |tup es=>obtain⟨b,ys,o,rfl,p,q,C,p2⟩:=qz6 I l; cases k; exact⟨SeqAt.EqAt.int_tuple a h p2 c,SeqAt.RcAt.int_tuple a h p2 c⟩
  |int b=>cases l.int; obtain⟨t,rfl⟩:=k; exact⟨SeqAt.EqAt.int_int a h b t,SeqAt.RcAt.int_int a h b t⟩
  |str b=>cases l.str; obtain⟨t,rfl⟩:=k; exact⟨SeqAt.EqAt.int_str a h b t,SeqAt.RcAt.int_str a h b t⟩
  |_=>cases z
 |str a=>
  cases G.str; obtain⟨h,rfl⟩:=E
  cases e with
  |tup es=>obtain⟨b,ys,o,rfl,p,q,C,p2⟩:=qz6 I l; cases k; exact⟨SeqAt.EqAt.str_tuple a h p2 c,SeqAt.RcAt.str_tuple a h p2 c⟩
  |int b=>cases l.int; obtain⟨t,rfl⟩:=k; exact⟨SeqAt.EqAt.str_int a h b t,SeqAt.RcAt.str_int a h b t⟩
  |str b=>cases l.str; obtain⟨t,rfl⟩:=k; exact⟨SeqAt.EqAt.str_str a h b t,SeqAt.RcAt.str_str a h b t⟩
  |_=>cases z
 |tup ds=>
  obtain⟨a,xs,Q,rfl,S,F,N,p1⟩:=qz6 I G;cases E
  cases e with
  |int b=>cases l.int; obtain⟨t,rfl⟩:=k; exact⟨SeqAt.EqAt.tuple_int b t p1 c,SeqAt.RcAt.tuple_int b t p1 c⟩
  |str b=>cases l.str; obtain⟨t,rfl⟩:=k; exact⟨SeqAt.EqAt.tuple_str b t p1 c,SeqAt.RcAt.tuple_str b t p1 c⟩
  |tup es=>
   obtain⟨b,ys,o,rfl,p,q,C,p2⟩:=qz6 I l;cases k;have K:SeqAt.RcAt A s (.ref a) (.ref b) (M.eqTs ds es):=by
    have:=SeqAt.RcAt.tuples p1 p2 c (e:=pairE ds es) λj h1 h2=>by
     obtain⟨i,t,g,w⟩:=int_at f F N h1;obtain⟨R,h,T,P⟩:=int_at z q C h2;rw[w,P];unfold pairE;rw[g,T];exact SeqAt.EqAt.int_int i t R h
    rw[qwi,F.length,q.length,N.length,C.length];simpa using this
   refine⟨?_,K⟩
   by_cases r:a=b
   ·subst r;cases I.tuple_inj S p;cases qyf f z F q;show SeqAt.EqAt A s _ _ (M.eqTs ds ds);rw[qwh f];exact SeqAt.EqAt.same _
   ·exact SeqAt.EqAt.of_refs r K
  |_=>cases z
 |_=>cases f
end
end
end MS
end
section
namespace MS
open PySem PySem.Spec PyProof.Rows L2
section
end
end MS
end
section
namespace MS
open PySem PySem.Spec PyProof.Rows L2
open M (D Ya Y4 Sl)
section
variable {X:Cx}
section
def qfm(I:Inv X pins σ H s)(A)(F:A.units+9<cLine)(K:M.flat 9 d0=O)(G:IsD X.K m H d0 g)(v:RelV g c):
  ∃e:Y8->Yb,∀(ds:L D) (xs:L V) (a:L Y8),M.flats 9 ds=O->IsDs X.K m H ds xs->Vals xs a->(∀w∈a,SeqAt.EqAt A s w c (e w))/\a.any e=ds.any λy=>M.eqT y d0:=by
 classical
 refine⟨λw=>decide (∃d x,M.flat 9 d=O/\IsD X.K m H d x/\RelV x w/\M.eqT d d0=O),λds=>?_⟩;have b:∀d x w,M.flat 9 d=O->IsD X.K m H d x->RelV x w->decide (∃d x,M.flat 9 d=O/\IsD X.K m H d x/\RelV x w/\M.eqT d d0=O)=M.eqT d d0:=by
  intro d x w f i r
  cases q:M.eqT d d0 with
  |true=>exact Z3 ⟨d,x,f,i,r,q⟩
  |false=>
   refine Z4 ?_;rintro⟨U,T,N,E,r',l⟩;have Q:=r.inj r';subst Q;have P:=qng I f N i E;subst P;rw[q]at l;cases l
 induction ds with
 |nil=>
  intro xs a _ j r;rw[j.nil]at r;cases r;exact⟨λw k=>(by cases k),rfl⟩
 |cons d ds C=>
  intro xs a f j r;obtain⟨x,n,rfl,q,t⟩:=j.cons;simp only[ Qzl,Qqs]at f
  cases r with
  |@cons _ u _ o h p=>
   obtain⟨S,R⟩:=C n o f.2 t p;refine⟨λw k=>?_,?_⟩
   ·rcases Qqy.mp k with z|z
    ·subst z;show SeqAt.EqAt A s w c (decide _);rw[b d x w f.1 q h];exact(qiu I 9 A d d0 x g w c F f.1 K q G h v).1
    ·exact S w z
   ·rw[Qz3,Qz3,R]
    congr 1
    exact b d x u f.1 q h
end
def qid(n)(K:X.A.units+64<cLine):OpR X (Qh (cond n .NotIn .In)) (rD X.K λst a b=>(M.inD st a b).map λk=>(.bl (cond n (!k) k),st)):=by
 intro pins s σ H x y v u Q I A z h;refine h.el λm st a b d st' F D C e q=>qzg e λk f t=>?_;cases t;have i:X.A.in1.units+9<cLine:=by have G:X.A.in1.units=X.A.units+1:=rfl; lia
 have q:=q.here F (mkBl _)
 cases b with
 |tup ds=>
  simp only[M.inD]at f
  split at f
  ·rename_i hf;cases f;rw[Qqs]at hf;obtain⟨p,xs,c,rfl,E,j,r,pl⟩:=qz6 I C;cases z;obtain⟨ef,o⟩:=qfm I X.A.in1 i hf.1 D A;obtain⟨h1,h2⟩:=o ds xs c hf.2 j r;have e:c.toArray.any ef=c.any ef:=by simp
   rw[<- h2,<- e]at q;cases n
   ·exact SeqAt.in_tupleAt ef pl (λw g=>h1 w (by simpa using g)) ⟨.bl _,H,I,rfl,q⟩
   ·exact SeqAt.notIn_tupleAt ef pl (λw g=>h1 w (by simpa using g)) ⟨.bl _,H,I,rfl,q⟩
  ·exact nn f
 |loc l|lst l=>
  simp only[M.inD]at f;refine qzx f λds t f=>?_
  split at f
  ·rename_i hf;cases f;rw[Qqs]at hf;obtain⟨p,xs,_,rfl,E,j⟩:=F.seq t C;cases z;obtain⟨c,r,pl,_⟩:=I.list E;obtain⟨ef,o⟩:=qfm I X.A.in1 i hf.1 D A;obtain⟨h1,h2⟩:=o ds xs c hf.2 j r;have e:c.toArray.any ef=c.any ef:=by simp
   rw[<- h2,<- e]at q;cases n
   ·exact SeqAt.in_listAt ef pl.isList (λw g=>h1 w (by simpa using g)) ⟨.bl _,H,I,rfl,q⟩
   ·exact SeqAt.notIn_listAt ef pl.isList (λw g=>h1 w (by simpa using g)) ⟨.bl _,H,I,rfl,q⟩
  ·exact nn f
 |_=>simp[M.inD,M.seqAt]at f
def op_eqD(A:X.A.units+64<cLine):OpR X (Qh .Eq) (rD X.K λst a b=>(M.eqD st a b).map λk=>(.bl k,st)):=by
 intro pins s σ H x y v u Q I f j h;refine h.el λm st a b d st' n g l e q=>qzg e λk c r=>?_;cases r;unfold M.eqD at c
 split at c
 ·cases c; cases g.bl; cases l.bl; cases f; cases j; exact SeqAt.RcAt.bool_bool _ _ _ _ _ _ ⟨.bl _,H,I,rfl,q.here n (mkBl _)⟩
 ·cases c; cases g.non; cases l.non; cases f; cases j; exact SeqAt.RcAt.none_none _ _ _ _ ⟨.bl _,H,I,rfl,q.here n (mkBl _)⟩
 ·split at c
  ·rename_i hf;cases c;rw[Qqs]at hf;have K:=q.here n (mkBl _)
   cases o:M.flat 9 b with
   |true=>exact(qiu I 9 X.A a b x y v u (by lia) hf.1 o g l f j).2 _ _ _ _ ⟨.bl _,H,I,rfl,K⟩
   |false=>
    rw[o]at hf
    cases b with
    |non=>
     cases l.non; cases j
     cases a with
     |int i=>cases g.int; obtain⟨t,rfl⟩:=f; exact SeqAt.RcAt.int_none i t _ _ _ _ ⟨.bl _,H,I,rfl,K⟩
     |str i=>cases g.str; obtain⟨t,rfl⟩:=f; exact SeqAt.RcAt.str_none i t _ _ _ _ ⟨.bl _,H,I,rfl,K⟩
     |tup ds=>
      obtain⟨a,xs,p,rfl,C,z,w,p1⟩:=qz6 I g;cases f;exact SeqAt.RcAt.tuple_none p1 (by lia) _ _ _ _ ⟨.bl _,H,I,rfl,K⟩
     |_=>cases hf.1
    |_=>cases hf.2
  ·exact nn c
def op_neD:OpR X (Qh .NotEq) (rD X.K λst a b=>(M.neD st a b).map λk=>(.bl k,st)):=by
 intro pins s σ H x y v u Q I i g h;refine h.el λm st a b d st' n l j e q=>qzg e λk c o=>?_;cases o;unfold M.neD at c
 split at c
 ·cases c;cases l.int; cases j.int;obtain⟨t,rfl⟩:=i;obtain⟨f,rfl⟩:=g;exact SeqAt.RcNeAt.int_int _ t _ f _ _ _ _ ⟨.bl _,H,I,rfl,q.here n (mkBl _)⟩
 ·cases c;cases l.str; cases j.str;obtain⟨t,rfl⟩:=i;obtain⟨f,rfl⟩:=g;exact SeqAt.RcNeAt.str_str _ t _ f _ _ _ _ ⟨.bl _,H,I,rfl,q.here n (mkBl _)⟩
 ·exact nn c
def qar{K:Qqq}(h:IsD K m H d x):decide (x=.non)=M.isNon d:=by
 cases d with
 |non=>rw[h.non]; rfl
 |bl b=>rw[h.bl]; rfl
 |int b=>rw[h.int]; rfl
 |str b=>rw[h.str]; rfl
 |tup ds=>obtain⟨a,xs,rfl,_⟩:=h.tup; rfl
 |loc l=>obtain⟨a,_,rfl⟩:=h.loc; rfl
 |lst l=>obtain⟨a,xs,rfl,_⟩:=h.lst; rfl
 |fup l=>obtain⟨a,rfl,_⟩:=h.fup; rfl
def qxs(n:X.A.units+64<cLine)(p):OpR X (Qh p) (rD X.K λst a b=>(M.cmpD st p a b).map λk=>(.bl k,st)):=by
 intro pins s σ H x y v u Q I g f h;obtain⟨m,st,a,b,d,st',l,j,i,e,q⟩:=h;refine qzg e λk c o=>?_;cases o;unfold M.cmpD at c
 split at c
 ·cases c;exact op_lt pins s σ H x y v u Q I g f ⟨_,_,j.int,i.int,q.here l (mkBl _)⟩
 ·cases c;exact op_le pins s σ H x y v u Q I g f ⟨_,_,j.int,i.int,q.here l (mkBl _)⟩
 ·cases c;exact op_gt pins s σ H x y v u Q I g f ⟨_,_,j.int,i.int,q.here l (mkBl _)⟩
 ·cases c;exact op_ge pins s σ H x y v u Q I g f ⟨_,_,j.int,i.int,q.here l (mkBl _)⟩
 ·exact op_eqD n pins s σ H x y v u Q I g f ⟨m,st,a,b,_,_,l,j,i,by dsimp only; rw[c]; rfl,q⟩
 ·exact op_neD pins s σ H x y v u Q I g f ⟨m,st,a,b,_,_,l,j,i,by dsimp only; rw[c]; rfl,q⟩
 ·cases c;refine op_isN pins s σ H x y v u Q I g f ⟨i.non,?_⟩;rw[qar j];exact q.here l (mkBl _)
 ·cases c;refine qmr pins s σ H x y v u Q I g f ⟨i.non,?_⟩;rw[qar j];exact q.here l (mkBl _)
 ·exact qid Y6 n pins s σ H x y v u Q I g f ⟨m,st,a,b,_,_,l,j,i,by dsimp only; rw[c]; rfl,q⟩
 ·obtain⟨k,o,rfl⟩:=mapD c;exact qid O n pins s σ H x y v u Q I g f ⟨m,st,a,b,_,_,l,j,i,by dsimp only; rw[o]; rfl,q⟩
 ·exact nn c
def qlq{K:Qqq}{st:Y4}(j:Rel K m st H)(h:IsD K m H d x)(e:M.truth st d=Y k):TruV K x H k:=by
 cases d with
 |non=>rw[h.non]; simp only[M.truth]at e; exact(Option.some.inj e).symm
 |bl b=>rw[h.bl]; simp only[M.truth]at e; exact(Option.some.inj e).symm
 |int b=>rw[h.int]; simp only[M.truth]at e; exact(Option.some.inj e).symm
 |str b=>exact nn e
 |tup ds=>
  obtain⟨a,xs,rfl,f,c⟩:=h.tup;simp only[M.truth]at e;refine .inr (.inl ⟨xs,f,?_⟩);have:=c.length;cases e;cases ds<;>cases xs<;>simp_all
 |fup l=>exact nn e
 |loc l=>
  simp only[M.truth]at e;refine qzg e λds i g=>?_;obtain⟨a,xs,_,rfl,f,c⟩:=j.seq i h;refine .inl ⟨xs,f,?_⟩;have:=c.length;subst g;cases ds<;>cases xs<;>simp_all
 |lst l=>
  simp only[M.truth]at e;refine qzg e λds i g=>?_;obtain⟨a,xs,_,rfl,f,c⟩:=j.seq i h;refine .inl ⟨xs,f,?_⟩;have:=c.length;subst g;cases ds<;>cases xs<;>simp_all
def qi3{K:Qqq}(a:IsDs K m H ds xs)(e:M.atI ds i=Y d):∃x,L2.atI xs i=Y x/\IsD K m H d x:=by
 unfold M.atI at e;refine qzx e λj g f=>?_;obtain⟨x,c,q⟩:=a.get f;refine⟨x,?_,q⟩;unfold L2.atI;have b:L2.ixN xs.length i=Y j:=by rw[<- a.length]; exact g
 rw[b];exact c
def ix_D:IxR X (rD X.K λst a b=>(M.idxD st a b).map λd=>(d,st)):=by
 intro value c pins s σ H x y v u Q I t r h hs;obtain⟨m,st,a,b,d,st',o,A,z,e,q⟩:=h;refine qzg e λk f n=>?_;cases n;unfold M.idxD at f
 split at f
 ·obtain⟨p,xs,rfl,j,g⟩:=A.tup;obtain⟨w,l,i⟩:=qi3 g f;exact ix_tup value c pins s σ H _ _ v u Q I t r ⟨p,xs,_,w,rfl,z.int,j,l,q.here o i⟩ hs
 ·refine qzx f λds n f=>?_;obtain⟨p,xs,_,rfl,j,g⟩:=o.seq n A;obtain⟨w,l,i⟩:=qi3 g f;exact qnc value c pins s σ H _ _ v u Q I t r ⟨p,xs,_,w,rfl,z.int,j,l,q.here o i⟩ hs
 ·exact nn f
def qbi:MtM X "list.append" (λx xs H Q=>∃m st a ds d st',Rel X.K m st H/\IsD X.K m H a x/\IsDs X.K m H ds xs/\M.mAppend st a ds=Y (d,st')/\Post X.K m H d st' Q):=by
 intro pins s σ H x xs v f Q I g i h;obtain⟨m,st,a,ds,d,st',c,l,k,e,q⟩:=h;unfold M.mAppend at e
 split at e
 ·refine qzx e λr o e=>?_
  split at e
  ·rename_i hl;have q:=q.of e;obtain⟨p,ys,n,rfl,hp,b,hs⟩:=c.wlist o l;obtain⟨y,rfl,j⟩:=k.one;have u:=b.length;have t:=qqc;refine qdi pins s σ H _ _ v f Q I g i ⟨p,ys,y,rfl,rfl,hp,by lia,?_⟩;exact q _ m _ (Sub.refl m) (Tr.put hp) (c.put hs n hp (b.append (qzm j qz9))) qvq
  ·exact nn e
 ·exact nn e
def rSlD(K:Qqq):V->Y3 J->Y3 J->Hp->VK->Prop:=λx lo hi H Q=>∃m st a d st',Rel K m st H/\IsD K m H a x/\M.sliD st a lo hi=Y (d,st')/\Post K m H d st' Q
theorem _root_.MS.IsDs.take{K:Qqq}:∀{ds:L D}{xs:L V}(n:Y0),IsDs K m H ds xs->IsDs K m H (ds.take n) (xs.take n)
 |_,_,0,_=>by simp only[Qkj]; exact qz9
 |[],_,n+1,h=>by rw[h.nil]; simp only[List.take_nil]; exact qz9
 |d::ds,_,n+1,h=>by
  obtain⟨x,r,rfl,q,t⟩:=h.cons;simp only[List.take_succ_cons];exact qzm q (IsDs.take n t)
theorem _root_.MS.IsDs.drop{K:Qqq}:∀{ds:L D}{xs:L V}(n:Y0),IsDs K m H ds xs->IsDs K m H (ds.drop n) (xs.drop n)
 |_,_,0,h=>by simp only[List.drop_zero]; exact h
 |[],_,n+1,h=>by rw[h.nil]; simp only[List.drop_nil]; exact qz9
 |d::ds,_,n+1,h=>by
  obtain⟨x,r,rfl,q,t⟩:=h.cons;simp only[List.drop_succ_cons];exact IsDs.drop n t
def qa6(n d)(o):M.cutIx n d o=HT.sIx n d o:=by
 cases o<;>rfl
def qe4{K:Qqq}(h:IsDs K m H ds xs)(lo a):IsDs K m H (M.cut ds lo a) (cutV xs lo a):=by
 unfold M.cut cutV;rw[qa6,qa6,h.length];exact(h.drop _).take _
def sl_D:SlR X (rSlD X.K):=by
 intro pins s σ H x v vl w lo hi sl Q I i hs pl pu h;obtain⟨m,st,a,d,st',c,y,e,q⟩:=h;unfold M.sliD at e
 split at e
 ·have q:=q.of e;obtain⟨p,xs,rfl,t,j⟩:=y.tup;have n:=qe4 j lo hi
  by_cases f:HT.sIx xs.length 0 lo=0/\HT.sIx xs.length xs.length hi=xs.length
  ·cases i;obtain⟨k,r,z,E⟩:=I.tuple t;refine⟨"tuple",_,PyProof.Rows.slot_tuple_getitem.lookup,z.typeIs,?_⟩;have b:k.toArray.size=xs.length:=by rw[Qqd]; exact r.length.symm
   refine qxj z hs pl pu (by rw[b]; exact f) ?_;refine⟨.ref p,H,I,rfl,q.here c (qq3 t ?_)⟩;have u:cutV xs lo hi=xs:=by
    unfold cutV;rw[f.1,f.2];simp
   rw[u]at n;exact n
  ·refine qiz pins s σ H _ v vl w lo hi sl Q I i hs pl pu ⟨p,xs,rfl,t,f,λD hp=>?_⟩;have g:=qza (o:=.tup (cutV xs lo hi)) hp;exact q _ m _ (Sub.refl m) (Tr.of_same g) (c.same g) (qq3 (SqT.of qzk) (qze (Sub.refl m) (Tr.of_same g) _ _ n))
 ·refine qzg e λds u C=>?_;cases C;obtain⟨p,xs,_,rfl,A,j⟩:=c.seq u y;exact qln pins s σ H _ v vl w lo hi sl Q I i hs pl pu ⟨p,xs,rfl,A,λl hl=>q _ (m++[l]) _ (Sub.app m [l]) (Tr.of_same (qza hl)) (c.new hl (qe4 j lo hi)) c.newLoc⟩
def qfk:qqi X (.builtin "len") (rC X.K M.bLen):=by
 intro pins s σ H xs f Q I r h;refine h.el λm st ds d st' c g e q=>?_;unfold M.bLen at e
 split at e
 ·have q:=q.of e;obtain⟨x,rfl,i⟩:=g.one;obtain⟨p,ys,rfl,b,a⟩:=i.tup;refine qjq pins s σ H _ f Q I r ⟨p,ys,rfl,.inr b,?_⟩;rw[<- a.length];exact q.here c (mkInt _)
 ·refine qzg e λl k j=>?_;cases j;obtain⟨x,rfl,i⟩:=g.one;obtain⟨p,ys,_,rfl,b,a⟩:=c.seq k i;refine qjq pins s σ H _ f Q I r ⟨p,ys,rfl,.inl b,?_⟩;rw[<- a.length];exact q.here c (mkInt _)
 ·exact nn e
def qfq(c:X.calm=O):qqi X (.builtin "min") (rC X.K M.bMin):=by
 intro pins s σ H xs a Q I r h;refine h.el λm st ds d st' f b e q=>?_;unfold M.bMin at e
 split at e
 ·have q:=q.of e;obtain⟨x,y,rfl,i,j⟩:=b.two;cases i.int; cases j.int;exact qfx c pins s σ H _ a Q I r ⟨_,_,rfl,q.here f (mkInt _)⟩
 ·exact nn e
def qyp:qqi X (.type "tuple") (rC X.K M.bTuple):=by
 intro pins s σ H xs g Q I r h;refine h.el λm st ds d st' f j e q=>?_;unfold M.bTuple at e
 split at e
 ·have q:=q.of e;obtain⟨x,rfl,i⟩:=j.one;obtain⟨p,ys,rfl,a,c⟩:=i.tup;exact qxp pins s σ H _ g Q I r ⟨p,ys,rfl,.inr ⟨a,q.here f (qq3 a c)⟩⟩
 ·refine qzg e λt n k=>?_;cases k;obtain⟨x,rfl,i⟩:=j.one;obtain⟨p,ys,_,rfl,a,c⟩:=f.seq n i;refine qxp pins s σ H _ g Q I r ⟨p,ys,rfl,.inl ⟨a,λl hl=>?_⟩⟩;have b:=qza (o:=.tup ys) hl;exact q _ m _ (Sub.refl m) (Tr.of_same b) (f.same b) (qq3 (SqT.of qzk) (qze (Sub.refl m) (Tr.of_same b) _ _ c))
 ·exact nn e
theorem qju:∀{xs}{vs}{a},KV xs vs->a.length=vs.length->(∀(j:Y0) (v:Y8),a[j]?=Y v->∃k x,vs[j]?=Y (k,x)/\(mixKind P w).is k v=O)->Vals (xs.map λp=>kV p.1) a
 |[],_,a,.nil,hl,_=>by
  rw[Qz4.mp hl];exact .nil
 |(k,x)::xs,(l,u)::vs,[],.cons _ _,hl,_=>by cases hl
 |(k,x)::xs,(l,u)::vs,v::a,.cons h r,hl,c=>by
  obtain⟨q,x2,e,m⟩:=c 0 v rfl;cases e;have b:=h.1;subst b;refine .cons ?_ (qju (P:=P) (w:=w) r (by simpa using hl) λj f e=>?_)
  ·rcases qzi m with⟨i,t,rfl,rfl⟩|⟨z,t,rfl,rfl⟩
   ·exact⟨t,rfl⟩
   ·exact⟨t,rfl⟩
  ·obtain⟨g,d,o,n⟩:=c (j+1) f (by simpa using e);exact⟨g,d,by simpa using o,n⟩
theorem IsKV.keys{K:Qqq}:∀{kvs}{xs},IsKV K m H kvs xs->IsDs K m H (M.keysOf kvs) (xs.map λp=>kV p.1)
 |[],_,h=>by rw[show _=[] from h]; exact qz9
 |p::r,_,⟨k,v,c,e,a,f,b⟩=>by
  subst e;refine qzm ?_ b.keys;obtain⟨d,e⟩:=p
  cases d with
  |int i=>cases a; exact mkInt i
  |str z=>cases a; exact mkStr z
  |_=>exact nn a
theorem Rel.dkeys{K:Qqq}{st:Y4}(h:Rel K m st H)(e:M.dkeys st d=Y ds)(b:IsD K m H d v):∃a xs,v=.ref a/\Rd H a (.dK xs)/\IsDs K m H ds (xs.map λp=>kV p.1):=by
 cases d with
 |loc l=>
  obtain⟨kvs,g,rfl⟩:=mapD e;obtain⟨a,xs,_,rfl,c,f⟩:=h.dict g b;exact⟨a,xs,rfl,c,f.keys⟩
 |_=>exact nn e
def qe0(I:Inv X b f H s)(e:Rd H a (.dK xs)):∃vs c,KV xs vs/\s.heap.DictAt (mixKind X.prog X.w) a vs c/\(a==Qn)=Y6/\vs.length<=sizeLine:=by
 obtain⟨g,lo,vs,d,o,es,c,r⟩:=qwl I.hok e;exact⟨vs,c,d,⟨o,es,r⟩,lo,by rw[<- d.length]; exact g⟩
def qkb(m:X.A.handled=B):qqi X (.type "list") (λxs H Q=>∃p ys,xs=[.ref p]/\Rd H p (.dK ys)/\∀l,H l=B->Q (.ref l) (upd H l (.lst (ys.map λq=>kV q.1)))):=by
 intro pins s σ H xs t Q I r h;obtain⟨p,ys,rfl,i,q⟩:=h;obtain⟨u,rfl,f⟩:=vals1 r;cases f;obtain⟨vs,w,b,o,lo,hn⟩:=qe0 I i;refine PySem.W.kdl_call (PySem.W.kdl_dict lo) m o hn λh' tk a c k n d=>?_;have g:=qju b (by rw[Qzo]; exact d.1) λj v e=>d.2 j v (by rw[<- Qq1]; exact e);refine⟨.ref s.heap.objs.size,_,I.laid k (Qqk _) (show ObjOk X.prog X.w _ h' _ (.lst (ys.map λq=>kV q.1)) from⟨?_,a.toList,c,g,n⟩),rfl,q _ (I.hok.fresh (Qqk _))⟩;rw[Qqz,b.length]; exact hn
def qyo(K:PySem.W.KdlSrc X.prog X.w T r d n P t)(w:A.handled=B)(hok:t s.heap)(v:n<=sizeLine)(h:∀(a:Heap) (k:Y0) (vs:Array Y8),(∀b o,s.heap.get? b=Y o->a.get? b=Y o)->s.heap.objs.size<a.objs.size->ItemsOf P vs n->R vs.toList { s with heap:=a,toks:=k }):wpAny (model X.prog X.w) A (collect (.ref r)) R E s:=by
 have lt:=K.there _ hok
 let g:=s.heap.objs.size
 let p:=s.heap.push { cls:=.type "list",data:=.seq ([]:L Y8).toArray }
 have z:p.get? g=Y { cls:=.type "list",data:=.seq #[] }:=Qqg _ rfl;have ext:=PySem.W.kdl_extend (s:={ s with heap:=p }) (R:=λq m=>∃(a:Heap) (k:Y0) (vs:Array Y8) (c:Y0),q=.ok (.ret (.ref g))/\m={ s with heap:=a,toks:=k }/\(∀b o,s.heap.get? b=Y o->a.get? b=Y o)/\a.get? g=Y { cls:=.type "list",dict:=B,data:=.seq vs c,slots:=#[] }/\ItemsOf P vs n)
  K w (K.keep _ _ hok λb _ o e=>Qqx _ e) g (Qxd lt.1) (Qxd lt.2) (.ref g) 0 z
  (λa k vs c l i j=>⟨a,k,vs,c,rfl,rfl,λb o e=>l b o (Qq3 (Qqe e)) (Qqx _ e),i,j⟩) v
 unfold collect;apply Qq;apply wpAny_runValue;apply Zb entry_proto_collect';rw[Around.under_plainId PySem.F.plain_proto_collect _];apply Qq;refine Ql (Qj ⟨plainId_quiet PySem.F.plain_list_iadd _,?_⟩);apply Zb entry_list_iadd';rw[Around.under_plainId PySem.F.plain_list_iadd _];refine Qi (ext) (λC m x=>?_) λe m x=>?_
 ·cases C with
  |done f=>
   rcases x with⟨a,k,vs,c,e,rfl,l,i,j⟩
   cases e;apply Qq;apply wpAny_load i;exact Qj (h a k vs l (Qqe i) j)
  |again c=>
   rcases x with⟨x1,x2⟩
   refine⟨x1,Q9 x2 λu D y=>?_⟩
   rcases y with⟨a,k,vs,c,rfl,rfl,l,i,j⟩
   apply Qq;apply wpAny_load i;exact Qj (h a k vs l (Qqe i) j)
 ·rcases x with⟨_,_,_,_,e,_⟩
  cases e
def qbw(K:PySem.W.KdlSrc X.prog X.w T r d n P w)(x:A.handled=B)(hok:w s.heap)(G:n<64)(z:∀vs:L Y8,vs.length=n->(∀(j:Y0) (v:Y8),vs[j]?=Y v->P j v)->Zs vs ns)(h:∀(a:Y7) (h':Heap) (m e:Y0) (f:Array Y8) (c:L J),(∀b o,s.heap.get? b=Y o->h'.get? b=Y o)->s.heap.objs.size<=a->h'.get? a=Y (seqObj "list" f e)->Zs f.toList c->c.Perm ns->c.Pairwise (· <= ·)->Q (.ref a) { s with heap:=h',toks:=m }):
  wpAny (model X.prog X.w) A (call (.builtin "sorted") [.ref r]) Q E s:=by
 have i:n<=sizeLine:=by rw[Q0]; lia
 apply PySem.Calls.call_function_entry kind_sorted plain_sorted entry_sorted (args_sorted1 _);unfold Qs.«sorted»;apply Qq;apply Qj;apply Qq;apply qyo (A:=A.in1) K x hok i;intro h1 m g p k u;have hl:g.toList.length=n:=by rw[Qzo]; exact u.1
 have hi:=z g.toList hl λj v e=>u.2 j v (by rw[<- Qq1]; exact e);apply Qq;refine wpAny_newList ?_ (by rw[hl]; exact i);have l:(h1.push (seqObj "list" g.toList.toArray 0)).get? h1.objs.size=Y (seqObj "list" g.toList.toArray 0):=Qqg _ rfl;apply Qq;apply Q3;refine Qe slot_list_sort ⟨_,l,rfl⟩ entry_list_sort (list_sort_tree l hi (by lia) λf c F D C=>⟨_,rfl,?_⟩) (args_list_sort _);obtain⟨e,y⟩:=sortedHeap_at l;refine Qj ⟨_,rfl,h _ _ _ e f c (λb o q=>?_) ?_ y F D C⟩
 ·have t:=Qqe (p b o q);exact(sortedHeap_old (Qq3 t) (by rw[size_push']; exact Qxl t)).trans (Qqx _ (p b o q))
 ·exact Qxu k
def qb2(k:X.A.handled=B):qqi X (.type "list") (rC X.K M.bList):=by
 intro pins s σ H xs g Q I r h;refine h.el λm st ds d st' a j e q=>?_;unfold M.bList at e
 split at e
 ·have q:=q.of e;obtain⟨x,rfl,i⟩:=j.one;obtain⟨p,ys,rfl,c,b⟩:=i.tup;exact qjz pins s σ H _ g Q I r ⟨p,ys,rfl,.inr c,λl hl=>q _ (m++[l]) _ (Sub.app m [l]) (Tr.of_same (qza hl)) (a.new hl b) a.newLoc⟩
 ·refine qzg e λo f n=>?_;cases n;obtain⟨x,rfl,i⟩:=j.one;rcases orO f with f|f
  ·obtain⟨p,ys,_,rfl,c,b⟩:=a.seq f i;exact qjz pins s σ H _ g Q I r ⟨p,ys,rfl,.inl c,λl hl=>q _ (m++[l]) _ (Sub.app m [l]) (Tr.of_same (qza hl)) (a.new hl b) a.newLoc⟩
  ·obtain⟨p,ys,rfl,c,b⟩:=a.dkeys f i;exact qkb k pins s σ H _ g Q I r ⟨p,ys,rfl,c,λl hl=>q _ (m++[l]) _ (Sub.app m [l]) (Tr.of_same (qza hl)) (a.new hl b) a.newLoc⟩
 ·exact nn e
theorem qvh{K:Qqq}:∀{ds}{xs}{a}{bs},M.asBools ds=Y bs->IsDs K m H ds xs->Vals xs a->LSm.BoolsAre a bs
 |[],_,_,_,e,c,r=>by
  rw[c.nil]at r;cases r;cases e;exact .nil
 |d::ds,_,_,_,e,c,r=>by
  obtain⟨x,k,rfl,q,t⟩:=c.cons
  cases d with
  |bl b=>
   simp only[M.asBools]at e;refine qzg e λj i h=>?_;subst h;cases q.bl
   cases r with
   |cons g f=>
    cases g;exact .cons b (qvh i t f)
  |_=>simp[M.asBools]at e
theorem ints_of{K:Qqq}:∀{ds}{xs}{ns},M.asInts ds=Y ns->IsDs K m H ds xs->xs=ns.map V.int/\ds=ns.map D.int
 |[],_,_,e,a=>by
  cases e;exact⟨a.nil,rfl⟩
 |d::ds,_,_,e,a=>by
  obtain⟨x,h,rfl,q,t⟩:=a.cons
  cases d with
  |int b=>
   simp only[M.asInts]at e;refine qzg e λg f c=>?_;subst c;cases q.int;obtain⟨h1,h2⟩:=ints_of f t;rw[h1,h2];exact⟨rfl,rfl⟩
  |_=>simp[M.asInts]at e
def qfa(y:X.calm=O):qqi X (.builtin "all") (rC X.K M.bAll):=by
 intro pins s σ H xs G Q I r h;refine h.el λm st ds d st' j o e q=>?_;unfold M.bAll at e
 split at e
 ·refine qzx e λF E e=>qzg e λbs D C=>?_;cases C;obtain⟨x,rfl,i⟩:=o.one;obtain⟨p,ys,_,rfl,t,n⟩:=j.seq E i;obtain⟨u,rfl,l⟩:=vals1 r;cases l;obtain⟨a,k,pl,_⟩:=I.list t;have f:=qvh D n k;have hl:=pl.isList;have c:p<s.heap.objs.size:=by obtain⟨_,e,_⟩:=id hl; exact Qqe e
  refine call_all_walk (Zf hl ?_)
  refine⟨s.heap.objs.size,[s.heap.objs.size,p],[s.heap.objs.size],a.toArray.size,_,_,λi=>(bs[i]?).getD O,rfl,Walks.list (A:=X.A.in1) (I.ok.hd y) _ p (Qq3 c) a.toArray,
   ⟨⟨_,Qqg _ rfl,rfl,rfl⟩,hl.push _⟩,λi v s' K N z g=>?_,λh' tk w=>?_⟩
  ·obtain⟨b,e,rfl⟩:=f.get i v (by simpa using z);simp only[e]at g;exact Qf g
  ·have e:((List.range a.toArray.size).all λi=>(bs[i]?).getD O)=bs.all id:=by
    rw[Qqd,f.length]; exact LSm.range_all bs
   rw[e];exact⟨.bl _,H,I.kept (LSm.kept_iter w),rfl,q.here j (mkBl _)⟩
 ·exact nn e
def range_any(bs:L Yb):((List.range bs.length).any λi=>(bs[i]?).getD Y6)=bs.any id:=by
 rw[Qjb,Qjq,Qjq];constructor
 ·rintro⟨i,hi,h⟩;have hi:=Qz9.mp hi;rw[Qqc hi]at h;exact⟨bs[i],Qxh hi,h⟩
 ·rintro⟨b,a,h⟩;obtain⟨i,hi,rfl⟩:=Qz6 a;exact⟨i,Qz9.mpr hi,by rw[Qqc hi]; exact h⟩
def qfy(y:X.calm=O):qqi X (.builtin "any") (rC X.K M.bAny):=by
 intro pins s σ H xs G Q I r h;refine h.el λm st ds d st' j o e q=>?_;unfold M.bAny at e
 split at e
 ·refine qzx e λF E e=>qzg e λbs D C=>?_;cases C;obtain⟨x,rfl,i⟩:=o.one;obtain⟨p,ys,_,rfl,t,n⟩:=j.seq E i;obtain⟨u,rfl,l⟩:=vals1 r;cases l;obtain⟨a,k,pl,_⟩:=I.list t;have f:=qvh D n k;have hl:=pl.isList;have c:p<s.heap.objs.size:=by obtain⟨_,e,_⟩:=id hl; exact Qqe e
  refine call_any_walk (Zf hl ?_)
  refine⟨s.heap.objs.size,[s.heap.objs.size,p],[s.heap.objs.size],a.toArray.size,_,_,λi=>(bs[i]?).getD Y6,rfl,Walks.list (A:=X.A.in1) (I.ok.hd y) _ p (Qq3 c) a.toArray,
   ⟨⟨_,Qqg _ rfl,rfl,rfl⟩,hl.push _⟩,λi v s' K N z g=>?_,λh' tk w=>?_⟩
  ·obtain⟨b,e,rfl⟩:=f.get i v (by simpa using z);simp only[e]at g;exact Qf g
  ·have e:((List.range a.toArray.size).any λi=>(bs[i]?).getD Y6)=bs.any id:=by
    rw[Qqd,f.length]; exact range_any bs
   rw[e];exact⟨.bl _,H,I.kept (LSm.kept_iter w),rfl,q.here j (mkBl _)⟩
 ·exact nn e
theorem qxx(x):∀l:L J,(M.insInt x l).Perm (x::l)
 |[]=>.refl _
 |y::r=>by
  unfold M.insInt
  split
  ·exact .refl _
  ·exact((qxx x r).cons y).trans (.swap x y r)
theorem qz1:∀l:L J,(M.sortInt l).Perm l
 |[]=>.refl _
 |x::r=>by
  unfold M.sortInt;exact(qxx x _).trans ((qz1 r).cons x)
theorem qxl(x):∀l:L J,l.Pairwise (· <= ·)->(M.insInt x l).Pairwise (· <= ·)
 |[],_=>by unfold M.insInt; simp
 |y::r,h=>by
  unfold M.insInt
  split
  ·rename_i b;refine List.Pairwise.cons (λz a=>?_) h;rcases Qqy.mp a with e|e
   ·rw[e]; exact b
   ·exact Int.le_trans b ((Qxj.mp h).1 z e)
  ·rename_i b;have h':=Qxj.mp h;refine List.Pairwise.cons (λz a=>?_) (qxl x r h'.2);rcases Qqy.mp ((qxx x r).mem_iff.mp a) with e|e
   ·rw[e]; lia
   ·exact h'.1 z e
theorem qqk:∀l:L J,(M.sortInt l).Pairwise (· <= ·)
 |[]=>by unfold M.sortInt; simp
 |x::r=>by
  unfold M.sortInt;exact qxl x _ (qqk r)
theorem qxh{K:Qqq}:∀(ns:L J),IsDs K m H (ns.map D.int) (ns.map V.int)
 |[]=>qz9
 |n::r=>qzm (mkInt n) (qxh r)
def qwr(hh:X.A.handled=B):qqi X (.builtin "sorted") (rC X.K M.bSorted):=by
 intro pins s σ H xs us Q I r h;refine h.el λm st ds d st' g ix e q=>?_;unfold M.bSorted at e
 split at e
 ·refine qzx e λG l e=>qzg e λns n e3=>?_;cases e3
  split at n
  ·exact nn n
  ·rename_i a0;obtain⟨x,rfl,i⟩:=ix.one;rcases orO l with l|l
   case inr=>
    obtain⟨p,ys,rfl,C,j⟩:=g.dkeys l i;obtain⟨u,rfl,t⟩:=vals1 r;cases t;obtain⟨vs,W,T,da,lo,hn⟩:=qe0 I C;obtain⟨F,e5⟩:=ints_of n j;have z:=j.length;rw[Qqz]at z;have l5:=T.length;refine qbw (ns:=ns) (PySem.W.kdl_dict lo) hh da (by lia) (λLq hl hv=>?_) λa h1 tk c f v hk U D P N K=>?_
    ·have S:=qju T hl hv;rw[F]at S;exact intsAre_of S
    ·have E:=PySem.W.ksm_same (N.trans (qz1 ns).symm) K (qqk ns);subst E;have y:=(qz1 ns).length_eq;have w:=qqc;have l6:ns.length=G.length:=by
      have:=congrArg List.length e5;rw[Qqz]at this;exact this.symm
     have k:=I.hok.fresh U;refine⟨.ref a,upd H a (.lst ((M.sortInt ns).map V.int)),I.laid hk U ⟨?_,f.toList,c,qxk P,?_⟩,rfl,?_⟩
     ·rw[Qqz,y,w];unfold M.lim
      lia
     ·rw[D]
     ·exact q _ (m++[_]) _ (Sub.app m _) (Tr.of_same (qza k)) (g.new k (qxh _)) g.newLoc
   obtain⟨p,ys,_,rfl,C,j⟩:=g.seq l i;obtain⟨u,rfl,t⟩:=vals1 r;cases t;obtain⟨A,R,pl,_⟩:=I.list C;obtain⟨F,e5⟩:=ints_of n j;have z:=j.length;have l2:=R.length;subst F;have hI:=intsAre_of R;refine sorted_ints pl.isList hI (by lia) λf v P N K=>?_;have E:=PySem.W.ksm_same (N.trans (qz1 ns).symm) K (qqk ns);subst E;obtain⟨W,D⟩:=sortedAll_at s.heap A f;have k:=I.hok.fresh (Qxw _);have y:=(qz1 ns).length_eq;have w:=qqc;rw[Qqz]at z;refine⟨.ref (s.heap.objs.size+1),upd H (s.heap.objs.size+1) (.lst ((M.sortInt ns).map V.int)),I.laid (λb o e=>sortedAll_old e) (Qxw _) ?_,rfl,?_⟩
   ·refine⟨?_,f.toList,W,qxk P,?_⟩
    ·rw[Qqz,y,w];unfold M.lim
     lia
    ·rw[D]
   ·exact q _ (m++[_]) _ (Sub.app m _) (Tr.of_same (qza k)) (g.new k (qxh _)) g.newLoc
 ·exact nn e
def qd2(K)(n t)(a:t≠.non):PySem.W.kitOne K (.type n.name) (.type t.name)=Y (M.tyIs t n):=by
 cases n<;>cases t<;>first
  |exact absurd rfl a
  |rfl
  |decide +kernel
theorem qd3(K)(n):∀a:L M.Ty,(∀t∈a,t≠.non)->PySem.W.kitAny K (.type n.name) (a.map λt=>Value.type t.name)=Y (a.any λt=>M.tyIs t n)
 |[],_=>rfl
 |t::a,h=>by
  rw[Qqm,Qz3];unfold PySem.W.kitAny;rw[qd2 K n t (h t Qq5)]
  cases M.tyIs t n with
  |true=>rfl
  |false=>exact qd3 K n a λb c=>h b (Qqt _ c)
def qig{st:Y4}(I:Inv X c v H s)(p:Rel X.K m st H)(h:IsD X.K m H d x)(r:RelV x u)(e:M.tyName st d=Y n):
  ∃q:Heap->Prop,PySem.W.KitX X.K u (.type n.name) q/\q s.heap/\u≠.builtin "__main__.__loader__#opaque":=by
 cases d with
 |non=>cases h.non; cases r; cases e; exact⟨_,PySem.W.kitx_none,True.intro,λz=>nomatch z⟩
 |bl b=>cases h.bl; cases r; cases e; exact⟨_,PySem.W.kitx_bool,True.intro,λz=>nomatch z⟩
 |int b=>cases h.int; obtain⟨t,rfl⟩:=r; cases e; exact⟨_,PySem.W.kitx_int,True.intro,λz=>nomatch z⟩
 |str b=>cases h.str; obtain⟨t,rfl⟩:=r; cases e; exact⟨_,PySem.W.kitx_str,True.intro,λz=>nomatch z⟩
 |tup ds=>
  obtain⟨a,xs,f,rfl,g,k,y,p1⟩:=qz6 I h;cases r;cases e;obtain⟨o,h1,h2,_⟩:=p1;exact⟨_,PySem.W.kitx_tuple,⟨o,h1,h2⟩,λz=>nomatch z⟩
 |fup l=>exact nn e
 |loc l=>
  simp only[M.tyName]at e;refine qzg e λds j i=>?_;subst i;obtain⟨a,xs,_,rfl,g,k⟩:=p.seq j h;cases r;obtain⟨f,w,pl,_⟩:=I.list g;obtain⟨o,h1,h2,_⟩:=pl.isList;exact⟨_,PySem.W.kitx_list,⟨o,h1,h2⟩,λz=>nomatch z⟩
 |lst l=>
  simp only[M.tyName]at e;refine qzg e λds j i=>?_;subst i;obtain⟨a,xs,_,rfl,g,k⟩:=p.seq j h;cases r;obtain⟨f,w,pl,_⟩:=I.list g;obtain⟨o,h1,h2,_⟩:=pl.isList;exact⟨_,PySem.W.kitx_list,⟨o,h1,h2⟩,λz=>nomatch z⟩
def rIsi1(K:Qqq)(t:M.Ty):L V->Hp->VK->Prop:=λxs H Q=>∃m st d n x,xs=[x,.ty t.name]/\Rel K m st H/\IsD K m H d x/\M.tyName st d=Y n/\Q (.bl (M.tyIs t n)) H
def qfw(t)(f:t≠.non):qqi X (.builtin "isinstance") (rIsi1 X.K t):=by
 intro pins s σ H xs k Q I r h;obtain⟨m,st,d,n,x,rfl,j,i,e,q⟩:=h;obtain⟨u,w,rfl,b,a⟩:=vals2 r;cases a;obtain⟨l,g,p,c⟩:=qig I j i b e;exact PySem.W.kia_one g I.kIn p (qd2 X.K n t f) c λtk=>⟨.bl _,H,I.tok tk,rfl,q⟩
def rIsiN(K:Qqq)(ts:L M.Ty):L V->Hp->VK->Prop:=λxs H Q=>∃m st d n x p,xs=[x,.ref p]/\H p=Y (.tup (ts.map λt=>V.ty t.name))/\Rel K m st H/\IsD K m H d x/\M.tyName st d=Y n/\Q (.bl (ts.any λt=>M.tyIs t n)) H
theorem qys:∀{a:L M.Ty}{us:L Y8},Vals (a.map λt=>V.ty t.name) us->us=a.map λt=>Value.type t.name
 |[],_,.nil=>rfl
 |t::a,_,.cons r q=>by
  cases r;rw[qys q]
  rfl
def qfv(a)(v:∀t∈a,t≠.non):qqi X (.builtin "isinstance") (rIsiN X.K a):=by
 intro pins s σ H xs C Q I r h;obtain⟨m,st,d,n,x,p,rfl,hp,A,i,e,q⟩:=h;obtain⟨u,w,rfl,j,b⟩:=vals2 r;cases b;obtain⟨E,z,k,o⟩:=qig I A i j e;obtain⟨_,l,g,⟨cls,D,f,sl⟩,h1,h2,nn,c⟩:=I.hok p _ hp;have y:=qys g;subst y;simp only at h2 c;subst h2 c;exact PySem.W.kia_tup z I.kIn k h1 (qd3 X.K n a v) o λtk=>⟨.bl _,H,I.tok tk,rfl,q⟩
end
end MS
end
section
namespace MS
open PySem PySem.Spec PyProof.Rows L2
noncomputable def qxo(cells:L (Y5×Y7)):L (Y5×Qm)->L (Y5×Y7)->L (Y5×Y7)
 |[],acc=>acc
 |(n,k)::r,acc=>qxo cells r (if k==.free then(match cells.lookup n with|some a=>(n,a)::acc|none=>acc) else acc)
def qe5:∀(names:L (Y5×Qm)) (b:L (Y5×Y7)),(∀x∈names,x.2=.free->∃c,env.cells.lookup x.1=Y c)->
  (forIn names b λx r=>match x,r with
   |(name,kind),cs=>if (kind==.free)=O then do let a <- cellOf env name; pure (ForInStep.yield ((name,a)::cs)) else pure (ForInStep.yield cs):Sem (L (Y5×Y7)))=pure (qxo env.cells names b):=by
 intro names
 induction names with
 |nil=>intro b _; rfl
 |cons x r j=>
  intro b h;obtain⟨n,k⟩:=x;rw[List.forIn_cons];have e:=λb=>j b λy l=>h y (Qqt _ l)
  by_cases f:k=.free
  ·subst f;obtain⟨c,g⟩:=h (n,.free) Qq5 rfl;simp only[ cellOf,g];simp only[pure_bind];refine(e ((n,c)::b)).trans ?_;have d:=g;simp[qxo,d]
  ·have i:(k==NameKind.free)=false:=by simpa using f
   simp only[i,pure_bind];refine(e b).trans ?_;simp[qxo,i]
def qve(h:∀x∈a.names,x.2=.free->∃c,env.cells.lookup x.1=Y c):closureFor a env=pure (qxo env.cells a.names []):=by
 unfold closureFor;have:=qe5 a.names [] h;simp only[this]
 rfl
theorem qvf(f:a.lookup x=Y c):∀(names:L (Y5×Qm)) (b:L (Y5×Y7)),((x,NameKind.free)∈names\/b.lookup x=Y c)->(qxo a names b).lookup x=Y c
 |[],b,h=>by
  rcases h with h|h
  ·cases h
  ·exact h
 |(n,k)::r,b,h=>by
  unfold qxo;refine qvf f r _ ?_
  by_cases d:k=.free
  ·subst d;simp only[beq_self_eq_true,if_true]
   by_cases hn:n=x
   ·subst hn;rw[f];exact .inr (by simp)
   ·rcases h with h|h
    ·rcases Qqy.mp h with e|e
     ·cases e; exact absurd rfl hn
     ·exact .inl e
    ·refine .inr ?_
     split
     ·have:(x==n)=false:=by simpa using Ne.symm hn
      rw[Qzk,this]; exact h
     ·exact h
  ·have g:(k==NameKind.free)=false:=by simpa using d
   rw[g,Z5 Qqu];rcases h with h|h
   ·rcases Qqy.mp h with e|e
    ·cases e; exact absurd rfl d
    ·exact .inl e
   ·exact .inr h
theorem qz8:∀(names:L (Y5×Qm)) (f:L (Y5×Y7)),(∀x c,f.lookup x=Y c->b.lookup x=Y c)->∀x c,(qxo b names f).lookup x=Y c->b.lookup x=Y c
 |[],f,h,x,c,e=>h x c e
 |(n,k)::r,f,h,x,c,e=>by
  unfold qxo at e;refine qz8 r _ ?_ x c e;intro y d q
  by_cases i:(k==NameKind.free)=O
  ·rw[Z6 i]at q
   split at q
   ·rename_i a j
    by_cases g:(y==n)=O
    ·rw[Qzk,g]at q;rw[eq_of_beq g,j]; exact q
    ·have:(y==n)=false:=by simpa using g
     rw[Qzk,this]at q;exact h y d q
   ·exact h y d q
  ·rw[Z5 i]at q;exact h y d q
theorem qqv(env:Env):∀(names:L (Y5×Qm)) (x:Y5),(names.map λ(n,k)=>if (k==NameKind.free&&env.scope.kind==.function&&env.kindOf n==Y .cell) then(n,NameKind.cell) else(n,k)).lookup x =
  (names.lookup x).map λk=>if (k==NameKind.free&&env.scope.kind==.function&&env.kindOf x==Y .cell) then NameKind.cell else k
 |[],x=>rfl
 |(n,k)::r,x=>by
  have d:=qqv env r x;rw[Qqm]
  by_cases b:(x==n)=O
  ·have e:=eq_of_beq b;subst e;dsimp only
   split
   ·rename_i c;rw[Qzk,b,Qzk,b];dsimp only[oMs];rw[Z6 c]
   ·rename_i c;rw[Qzk,b,Qzk,b];dsimp only[oMs];rw[Z5 c]
  ·have a:(x==n)=false:=by simpa using b
   dsimp only
   split
   ·rw[Qzk,a,Qzk,a]; exact d
   ·rw[Qzk,a,Qzk,a]; exact d
section
def qwp(E:∀e s',o e s'->notedBy (model prog w) A env (λe s'=>R (.error e) s') e s')(I:Y0->Qz->Prop)(turn:∀n s,I n s->wpAny (model prog w) A (pyNext it) (λr d=>match r with
   |none=>R (.ok .next) d
   |some v=>wpAny (model prog w) A (Zo a it v) (λ_ s₀=>wpAny (model prog w) A (assign a env v) (λ_ i=>
     wpAny (model prog w) A (forIn ifs O λc r=>if r=O then do let ok <- isTrue c env (Qb c env); pure (ForInStep.yield ok) else pure (ForInStep.yield r)) (λok b=>
      if ok=O then wpAny (model prog w) A (Qb elt env) (λx g=>wpAny (model prog w) A (call (.builtin "list.append") [D,x]) (λ_ f=>∃m,m<n/\I m f) o g) o b
      else ∃m,m<n/\I m b) o i) o s₀) o d) o s)(n)(h:I n s):Zd (model prog w) A (.compLoop (.ListComp elt [⟨a,p,ifs,0⟩] l pos) 0 it D env) R s:=by
 refine codeAny_loop rfl I (λn s F=>?_) n h;refine wpAny_noted (Qi ?_ (λ_ _ q=>q) E);rw[compTurn_list];refine Qq (wpAny_standAt (Qq (Qi (turn n s F) (λr d k=>?_) λ_ _ z=>z)))
 cases r with
 |none=>exact Qj k
 |some v=>
  refine Qq (Qi k (λ_ s₀ C=>?_) λ_ _ z=>z);refine Qq (Qi C (λ_ i y=>Qq (Qi y (λok b j=>?_) λ_ _ z=>z)) λ_ _ z=>z)
  cases ok with
  |false=>exact Qj ⟨rfl,j⟩
  |true=>
   exact Qq (Qq (Qi j (λx g u=>Qq (Qi u (λ_ f t=>Qj (Qj ⟨rfl,t⟩)) λ_ _ z=>z)) λ_ _ z=>z))
end
def HOk.track(x:HOk P w H h)(d:H a=B)(new:ObjOk P w (upd H a o) h a o):HOk P w (upd H a o) h:=λb u e=>by
 by_cases f:b=a
 ·subst f; rw[qzk]at e; cases e; exact new
 ·rw[qzq f]at e;exact(x b u e).stay (λc v _ q=>q) (λc q=>by rw[qzq (qzl q d)]; exact q) λc xs q=>by rw[qzq (qzl q d)]; exact q
theorem Inv.track(I:Inv X c g H s)(i:FpOk X c H a)(new:ObjOk X.prog X.w (upd H a o) s.heap a o):Inv X c g (upd H a o) s:=by
 obtain⟨d,p,q,l,k,j⟩:=i;refine I.step (ch:=[a]) (λb f=>?_) (λb o _ _ _ e _=>e) (λb o _ _ _ e _=>⟨o.slots,e⟩) (λb o f e n=>?_) (λb o _ e=>⟨o,e⟩)
  (λb xs e=>by rw[qzq (qzl e d)]; exact e) (λb o u e=>by rw[qzq (qzl e d)]; exact e) (λb ps e=>⟨#[],by rw[qzq (qzl e d),e]; simp⟩) (λm h=>h) (HOk.track I.hok d new) I.bare
 ·have e:b=a:=by simpa using f
  subst e;exact⟨l,p,k,j⟩
 ·rw[qzq (by simpa using f)]; exact n
noncomputable def qzn(X:Cx)(N:L Y5)(scope:Scope)(C:Y7)(fp:L Y7)(s:Qz)(H:Hp):Cx:=
 { X with N:=N,s₀:=s,H₀:=H,env:=compEnvC scope (qxo X.env.cells scope.names []) C X.env,outer:=X.stack,ex:=fp,fn:=λ_=>Y6,pn:=[],xe:=λ_ _=>False }
noncomputable def qq6(src:L (Y3 Y0))(σ:L2.St):L2.St:=src.map λo=>o.bind λi=>(σ[i]?).bind id
structure CompScope (X:Cx) (N:L Y5) (src:L (Y3 Y0)) (scope:Scope):Prop where
 kind:scope.kind=.function
 cell:∀y∈scope.names,y.2≠.cell
 free:∀y∈scope.names,y.2=.free->X.env.kindOf y.1=Y .cell\/X.env.kindOf y.1=Y .free
 loc:∀y∈scope.names,y.2=.local->scope.names.lookup y.1=Y .local
 len:src.length=N.length
 src:∀(j i:Y0),src[j]?=Y (Y i)->∃x,N[j]?=Y x/\X.N[i]?=Y x/\scope.names.lookup x=Y .free
section
def mem_lookup{names:L (Y5×Qm)}(h:names.lookup x=Y k):(x,k)∈names:=PySem.mem_of_lookup h
def qwo(S:CompScope X N src a)(I:Inv X pins σ H s):closureFor a X.env=pure (qxo X.env.cells a.names []):=
 qve λx b c=>I.ok.has x.1 (S.free x b c)
def qoz(S:CompScope X N src a)(I:Inv X pins σ H s)(m:s.heap.objs.size<=C)(d:∀b∈fp,FpOk X pins H b)(j:∀b∈fp,b<s.heap.objs.size):(qzn X N a C fp s H).Ok where
 mod:=I.ok.mod
 kind:=S.kind
 glob:=I.ok.glob
 blt:=I.ok.blt
 above:=m
 inj:=λx y c h1 h2=>I.ok.inj x y c (qz8 _ [] (λ_ _ z=>nomatch z) x c h1) (qz8 _ [] (λ_ _ z=>nomatch z) y c h2)
 has:=λx h=>by
  have e:(qzn X N a C fp s H).env.kindOf x=(a.names.lookup x).map λk=>if (k==NameKind.free&&X.env.scope.kind==.function&&X.env.kindOf x==Y .cell) then NameKind.cell else k:=qqv X.env a.names x
  rw[e]at h
  cases q:a.names.lookup x with
  |none=>rw[q]at h; rcases h with h|h<;>cases h
  |some k=>
   have n:k=.free:=by
    rw[q]at h;simp only[oMs,Option.some.injEq]at h
    by_cases i:(k==NameKind.free&&X.env.scope.kind==.function&&X.env.kindOf x==Y .cell)=O
    ·simp only[Qqs]at i;exact eq_of_beq i.1.1
    ·rw[Z5 i]at h;rcases h with h|h
     ·subst h; exact absurd rfl (S.cell _ (mem_lookup q))
     ·exact h
   subst n;have l:=mem_lookup q;obtain⟨c,i⟩:=I.ok.has x (S.free _ l rfl);exact⟨c,qvf i _ _ (.inl l)⟩
 cab:=λx c h=>by cases h
 hd:=I.ok.hd
 frames:=I.ok.frames
 stk:=.inl rfl
 exf:=λb g=>⟨Qq3 (Qq4 (j b g) m),λx c e=>(d b g).2.2.2.2.1 x c (qz8 _ [] (λ_ _ z=>nomatch z) x c e)⟩
 bs:=I.bs
 bsz:=Qz0 I.ok.bsz I.sz
 noex:=λb o e g=>by
  rcases (d b g).2.2.2.1 with z|z
  ·exact I.ok.noex b o e z
  ·exact absurd (Qq4 (Qqe e) (Qz0 I.ok.bsz z)) (Qz8 _)
 exfs:=λb g hf=>by
  have f:=d b g;rcases Qqy.mp (I.stkSub b hf) with z|z
  ·exact f.2.1 z
  ·exact f.2.2.1 z
 funs:=I.stack
 frf:=I.stkFree
def qb1{K:Y0}(S:CompScope X N src a)(I:Inv X pins σ H s)(F:s.heap.objs.size<=C)(r:∀b∈fp,FpOk X pins H b)(m:∀b∈fp,b<s.heap.objs.size)(kp:∀b o,s.heap.get? b=Y o->h'.get? b=Y o)(ns:h'.Ns C D):Inv (qzn X N a C fp s H) [] (qq6 src σ) H { s with heap:=h',toks:=K }:=by
 have U:=qoz S I F r m;refine⟨U,rfl,I.bare,Un.kept kp,⟨D,ns,λj x v t d hv=>?_⟩,λx c e=>?_,I.hok.fresh F,λx c e=>?_,λp hp=>absurd (show p∈([]:L (Y7×Obj)) from hp) (by simp),I.hok.kept kp,?_⟩
 ·unfold qq6 at d;rw[Qqw]at d
  cases q:src[j]? with
  |none=>rw[q]at d; cases d
  |some o=>
   rw[q]at d
   cases o with
   |none=>cases d
   |some i=>
    obtain⟨V,G,R,A⟩:=S.src j i q;have t:N[j]?=Y x:=t;rw[t]at G;cases G;have hi:σ[i]?=Y (Y v):=by
     cases z:σ[i]? with
     |none=>simp[z]at d
     |some w=>
      cases w with
      |none=>simp[z]at d
      |some w=>simpa[z] using d
    obtain⟨W,Q,n⟩:=I.loc;have E:=S.free _ (mem_lookup A) rfl;have h:Vis X.env.scope x:=by
     rcases E with z|z
     ·exact .inr (.inl z)
     ·exact .inr (.inr z)
    obtain⟨u,P,lk⟩:=n i x v R hi h;refine⟨u,P,?_⟩;rcases lk with⟨z,_⟩|⟨_,c,g,f⟩
    ·rcases E with y|y
     ·rw[y]at z; cases z
     ·rw[y]at z; cases z
    ·refine .inr ⟨?_,c,qvf g _ _ (.inl (mem_lookup A)),?_⟩
     ·have e:(qzn X N a C fp s H).env.kindOf x=(a.names.lookup x).map λk=>if (k==NameKind.free&&X.env.scope.kind==.function&&X.env.kindOf x==Y .cell) then NameKind.cell else k:=qqv X.env a.names x
      rw[e,A];simp only[oMs]
      by_cases g:(NameKind.free==NameKind.free&&X.env.scope.kind==.function&&X.env.kindOf x==Y .cell)=O
      ·rw[Z6 g]; exact .inl rfl
      ·rw[Z5 g]; exact .inr rfl
     ·obtain⟨o,l,hd⟩:=f;exact⟨o,kp c o l,hd⟩
 ·have T:=qz8 _ [] (λ_ _ z=>nomatch z) x c e;obtain⟨v,o,l,hd⟩:=I.cell x c T;exact⟨v,o,kp c o l,hd⟩
 ·exact I.freeC x c (qz8 _ [] (λ_ _ z=>nomatch z) x c e)
 ·unfold qq6;rw[Qqz];exact S.len
end
def qb7(X:Cx)(ifs:L Qx)(tt:TT):Prop:=∀(pins:L (Y7×Obj)) (s:Qz) (σ:L2.St) (H:Hp) (Q:Yb->Hp->Prop),Inv X pins σ H s->tt σ H Q->
 wpAny (model X.prog X.w) X.A (forIn ifs O λc r=>if r=O then do let ok <- isTrue c X.env (Qb c X.env); pure (ForInStep.yield ok) else pure (ForInStep.yield r)) (TP X pins σ Q) X.xe s
def qgx:qb7 X [] (λ_ H Q=>Q O H):=λpins s σ H Q I h=>by
 exact Qj ⟨H,I,h⟩
def qgq(a:PT X c tc):qb7 X [c] tc:=λpins s σ H Q I h=>by
 rw[List.forIn_cons];simp only[if_true];refine Qq (Qq (thn (a pins s σ H Q I h) λb d q=>Qj ?_));exact Qj q
def qkt{c2:L V->Hp->Prop}{RR:Y8->Y7->Result->Qz->Prop}{Ex:Y7->Y7->Y8->Qz->Prop}(hc:X.calm=O)(I:Inv X t σ H s)(T:Turn X.prog X.w X.K tg Jq fp it tn)(st0:tn 0 s.heap)(A:∀b∈fp,FpOk X t H b)(S:CompScope X N src scope)(hg:∀C,PG (qzn X N scope C fp s H) tg g)(ht:∀C,qb7 (qzn X N scope C fp s H) ifs tt)(he:∀D C,PE ((qzn X N scope C fp s H).wish (Ex D C)) elt te)(c7:∀D C,s.heap.objs.size<=C->∀e s',Ex D C e s'->notedBy (model X.prog X.w) X.A (compEnvC scope (qxo X.env.cells scope.names []) C X.env) (λe s'=>RR (.ref D) C (.error e) s') e s')(W:Y0->Y0->L V->L2.St->Hp->Prop)(w0:∃k,W 0 k [] (qq6 src σ) H)(step:∀i k f σ H,W i k f σ H->(Jq.stop i H/\f.length<=sizeLine/\c2 f H)\/(Jq.go i H/\f.length<sizeLine/\∀x H',Jq.yld i H x H'->g x σ H' λU H2=>tt U H2 λb H3=>
   if b=O then te U H3 λv H4=>∃k',k'<k/\W (i+1) k' (f++[v]) U H4 else ∃k',k'<k/\W (i+1) k' f U H3))(c6:∀D C s' H' f,c2 f H'->H' D=B->Inv X t σ (upd H' D (.lst f)) s'->FpOk X t (upd H' D (.lst f)) C->(∃m,s'.heap.Ns C m)->RR (.ref D) C (.ok .next) s'):
  wpAny (model X.prog X.w) X.A (newList []) (λf s₃=>wpAny (model X.prog X.w) X.A (newFunctionEnv scope X.env.globals (qxo X.env.cells scope.names []) [] X.env.qual B .none (Y X.env)) (λa3 b7=>
   Zd (model X.prog X.w) X.A (.compStart (.ListComp elt [⟨tg,a0,ifs,0⟩] scope pos) 0 (.ref it) f { a3 with scope:=relabel scope X.env }) (RR f a3.locals) b7) E s₃) E s:=by
 have b9:∀b∈fp,b<s.heap.objs.size:=λb j=>by obtain⟨o,e,_⟩:=T.obj 0 _ st0 b j; exact Qqe e
 refine Ql (wpAny_newFunctionEnv S.cell (by intro y hy; simp at hy) (λa1 n l=>?_) S.kind);generalize a7:s.heap.push { cls:=.type "list",dict:=B,data:=.seq ([]:L Y8).toArray }=H2 at n l ⊢;have hC:H2.objs.size=s.heap.objs.size+1:=by rw[<- a7,Qxz]
 have G:s.heap.objs.size≠H2.objs.size:=by rw[hC]; exact Qq3 (Qzb _)
 have R:s.heap.objs.size<=H2.objs.size:=by rw[hC]; exact Qxw _
 have old:=λb o e=>l.extBut b o (by rw[hC]; exact Qq3 (Qxl (Qqe e))) (Qqx _ (a7▸Qqx _ e));have a2:=l.extBut _ _ G (Qqx _ (a7▸Qqg _ rfl));generalize Q:s.heap.objs.size=Dd at G R a2;generalize d4:H2.objs.size=Cc at G R n l hC ⊢;have a8:=Nat.le_of_eq Q;have a9:s.heap.objs.size<=Cc:=by rw[Q]; exact R
 have fD:=I.hok.fresh a8;have I1:Inv (qzn X N scope Cc fp s H) [] (qq6 src σ) H { s with heap:=a1,toks:=s.toks+([]:L (Y5×Y8)).length }:=qb1 S I a9 A b9 old n;have b8:∀b∈fp,b≠Dd:=λb j=>by rw[<- Q]; exact Qq3 (b9 b j)
 have b0:∀x c,(qzn X N scope Cc fp s H).env.cells.lookup x=Y c->c≠Dd:=λx c e z=>by
  have e':=qz8 _ [] (λ_ _ z=>nomatch z) x c e;obtain⟨v,o,ho,_⟩:=I.cell x c e';rw[z,<- Q]at ho;exact Qz8 _ (Qqe ho)
 have c8:Dd ∉ (qzn X N scope Cc fp s H).fs:=λz=>by
  obtain⟨_,o,ho,_⟩:=I1.ok.funs.mem z;rw[<- Q]at ho;exact Qz8 _ (Qqe ho)
 have P:∀{pl:L (Y7×Obj)}{H':Hp},(∀p∈pl,p.1=Dd)->(∀b∈fp,H' b=B)->∀b∈fp,FpOk (qzn X N scope Cc fp s H) pl H' b:=λ{pl H'} c3 hn b j=>
  ⟨hn b j,(I1.ok.exf b j).1,I1.ok.exfs b j,.inl j,(I1.ok.exf b j).2,λp hp=>by
   have c4:=hp
   rw[c3 p c4]; exact(b8 b j).symm⟩
 obtain⟨k0,w0⟩:=w0;have loop:∀s₃:Qz,s₃={ s with heap:=a1,toks:=s.toks+([]:L (Y5×Y8)).length }->
   Zd (model X.prog X.w) X.A (.compLoop (.ListComp elt [⟨tg,a0,ifs,0⟩] scope pos) 0 (.ref it) (.ref Dd) (compEnvC scope (qxo X.env.cells scope.names []) Cc X.env)) (RR (.ref Dd) Cc) s₃:=by
  rintro s₃ rfl;refine qwp (c7 Dd Cc a9) (λk s'=>∃i f h nn b6 H',Inv (qzn X N scope Cc fp s H) [] b6 H' s'/\tn i s'.heap/\(∀b∈fp,H' b=B)/\W i k f b6 H'/\Vals f h/\s'.heap.get? Dd=Y { cls:=.type "list",data:=.seq h.toArray nn }/\H' Dd=B) ?_ k0
   ⟨0,[],[],0,qq6 src σ,H,I1,T.keep _ _ _ st0 λb _ o e=>old b o e,λb j=>(A b j).1,w0,.nil,a2,fD⟩
  rintro k s3 ⟨i,f,h,nn,K,H3,I3,t3,c0,w3,rv,c5,a5⟩;have c1:Inv (qzn X N scope Cc fp s H) [(Dd,{ cls:=.type "list",data:=.seq h.toArray nn })] K H3 s3:=I3.pins_of λp hp=>by
   have e:p=(Dd,{ cls:=.type "list",data:=.seq h.toArray nn }):=by simpa using hp
   subst e
   exact⟨c5,a5,G,c8,λv z=>by
    have z':=z
    cases z'⟩
  rcases step i k f K H3 w3 with⟨stop,hz,d1⟩|⟨go,hz,next⟩
  ·refine thn (T.done (qzn X N scope Cc fp s H) rfl rfl rfl hc i _ s3 K H3 (Ex Dd Cc) c1 (P (λp hp=>by rw[Qqa.mp hp]) c0) t3 stop) λr s4 ⟨hr,I4⟩=>?_;subst hr;have p4:=I4.pin (Dd,{ cls:=.type "list",data:=.seq h.toArray nn }) (Qqr _ (by simp));have I5:=I.call' I4.os I4.base I4.hok I4.bare λb j=>⟨(A b j).2.2.2.1,(A b j).2.1,(A b j).2.2.2.2.1,(A b j).2.2.2.2.2⟩
   have d0:=I.fpOk a8 a5;refine c6 Dd Cc s4 H3 f d1 a5 (Inv.track I5 d0 ⟨hz,h,nn,rv,p4.1⟩) (I.fpOk a9 (by rw[qzq (Ne.symm G)]; exact I4.free)) ?_;obtain⟨m4,n4,_⟩:=I4.loc;exact⟨m4,n4⟩
  ·refine thn (T.item (qzn X N scope Cc fp s H) rfl rfl rfl hc i _ s3 K H3 (Ex Dd Cc) c1 (P (λp hp=>by rw[Qqa.mp hp]) c0) t3 go) λr s4 ⟨u,hr,h4⟩=>?_;subst hr;refine thn h4 λ_ s5 ⟨x,H5,I5,r5,y5,t5,c9⟩=>?_;have d2:=I5.pinned (P (λp hp=>by rw[Qqa.mp hp]) c9) (T.obj _ _ t5);refine Qi (hg Cc _ s5 K H5 x u _ d2 r5 (next x H5 y5)) (λ_ s6 ⟨w,H6,I6,q6⟩=>?_) λ_ _ z=>z.elim;refine Qi (ht Cc _ s6 w H6 _ I6 q6) (λb s7 ⟨H7,I7,q7⟩=>?_) λ_ _ z=>z.elim;have a4:∀{b5:L2.St}{H8:Hp}{s8:Qz},Inv (qzn X N scope Cc fp s H) ([(Dd,{ cls:=.type "list",data:=.seq h.toArray nn })]++qv6 fp s5.heap) b5 H8 s8->
     tn (i+1) s8.heap/\(∀b∈fp,H8 b=B)/\s8.heap.get? Dd=Y { cls:=.type "list",data:=.seq h.toArray nn }/\H8 Dd=none:=λ{b5 H8 s8} I8=>by
    refine⟨T.keep _ _ _ t5 λb j o e=>(I8.pin (b,o) (Qqr _ (Qqr _ (qq0 j e)))).1,λb j=>?_,?_,?_⟩
    ·obtain⟨o,e,d⟩:=T.obj _ _ t5 b j;exact(I8.pin (b,o) (Qqr _ (Qqr _ (qq0 j e)))).2.1
    ·exact(I8.pin (Dd,_) (Qqr _ (Qze _ (by simp)))).1
    ·exact(I8.pin (Dd,{ cls:=.type "list",data:=.seq h.toArray nn }) (Qqr _ (Qze _ (by simp)))).2.1
   cases b with
   |false=>
    simp only[Qzw]at q7 ⊢;obtain⟨k',hk,w7⟩:=q7;obtain⟨b1,b2,b3,b4⟩:=a4 I7;exact⟨k',hk,i+1,f,h,nn,w,H7,I7.pins_of λp hp=>absurd hp (by simp),b1,b2,w7,rv,b3,b4⟩
   |true=>
    simp only[if_true]at q7 ⊢;refine thn (he Dd Cc _ s7 w H7 _ (I7.wish _) q7) λy s8 ⟨v8,H8,I8,r8,k',hk,w8⟩=>?_;have I8:=I8.unwish;obtain⟨b1,b2,b3,b4⟩:=a4 I8;have l1:=rv.length;refine Qt F.slot_list_append ⟨_,b3,rfl⟩ F.entry_list_append (F.args_list_append_2 _ _) (PySem.list_append Dd h.toArray nn y (by rw[Qqd]; lia)) ⟨b3,?_⟩;have q:=PySem.IsL.update b3 (λa=>a.push y);have a6:h.toArray.push y=(h++[y]).toArray:=by simp
    rw[a6]at q;have I9:Inv (qzn X N scope Cc fp s H) [] w H8 s8:=I8.pins_of λp hp=>absurd hp (by simp);have d3:Inv (qzn X N scope Cc fp s H) [] w H8 { s8 with heap:=s8.heap.update Dd (Obj.mapSeq (·.push y)) }:=
     I9.turned (λb o j e=>(Qx5 s8.heap _ (Ne.symm j)).trans e) b4 G (.inr a8) b0 λp hp=>absurd (show p∈([]:L (Y7×Obj)) from hp) (by simp)
    exact⟨k',hk,i+1,f++[v8],h++[y],_,w,H8,d3,T.keep _ _ _ b1 λb j o e=>(Qx5 s8.heap _ (Ne.symm (b8 b j))).trans e,b2,w8,rv.append (.cons r8 .nil),q,b4⟩
 exact codeAny_compStart_list (loop _ rfl) (T.self _ 0 _ _ _ (T.keep _ _ _ st0 λb _ o e=>old b o e) (loop _ rfl))
noncomputable def qli(src:L (Y3 Y0))(wi:TI)(g:TG)(tt:TT)(te:TE):TE:=λσ H Q=>wi σ H λJq H1=>∃W:Y0->Y0->L V->L2.St->Hp->Prop,(∃k,W 0 k [] (qq6 src σ) H1)/\
 ∀i k acc σ' H',W i k acc σ' H'->(Jq.stop i H'/\acc.length<=sizeLine/\∀p,H' p=B->Q (.ref p) (upd H' p (.lst acc)))\/(Jq.go i H'/\acc.length<sizeLine/\∀x H2,Jq.yld i H' x H2->g x σ' H2 λσ2 H3=>tt σ2 H3 λb H4=>
  if b=O then te σ2 H4 λv H5=>∃k',k'<k/\W (i+1) k' (acc++[v]) σ2 H5 else ∃k',k'<k/\W (i+1) k' acc σ2 H4)
def qmg(G:X.calm=O)(S:CompScope X N src a)(A:PI X tg c l)(E:∀C fp s H,PG (qzn X N a C fp s H) tg g)(u:∀C fp s H,qb7 (qzn X N a C fp s H) ifs m)(F:∀C fp s H,PE (qzn X N a C fp s H) elt n)(w:∀x,foldedSetIterable c X.env x=pure x):PE X (.ListComp elt [⟨tg,c,ifs,0⟩] a pos) (qli src l g m n):=by
 intro pins s σ H Q I h;rw[eval_ListComp];refine wpAny_comprehension_free rfl w (qwo S I) S.kind S.loc (thn (A pins s σ H _ I h) λv s1 h1=>thn h1 λt i h2=>?_);obtain⟨it,fp,tn,Jq,H2,e,U,T,f,R,W,p,d⟩:=h2;subst e;refine qkt G U T f R S (λC=>E C fp i H2) (λC=>u C fp i H2) (λ_ C=>F C fp i H2) (λ_ _ _ _ _ z=>z.elim) W p d ?_;intro D C s' H' k j r V P y;obtain⟨m',hn⟩:=y;refine⟨m',hn,λh' q=>⟨.ref D,upd H' D (.lst k),?_,rfl,j D r⟩⟩;obtain⟨c0,c1,c2,c3,c4,c5⟩:=P;exact V.turned (λb o K e=>(q.2 b K).trans e) c0 c1 c3 c4 c5
def Inv.turnedL{ch:L Y7}(I:Inv X a h H s)(k:∀b o,b ∉ ch->s.heap.get? b=Y o->h'.get? b=Y o)(g:∀b∈ch,FpOk X a H b):Inv X a h H { s with heap:=h',toks:=t' }:=by
 have f:∀b u,H b=Y u->b ∉ ch:=λb u e z=>by rw[(g b z).1]at e; cases e
 refine I.step (λb l=>?_) (λb o _ _ d e _=>k b o d e) (λb o _ _ d e _=>⟨o.slots,k b o d e⟩) (λ_ _ _ _ n=>n) (λb o d e=>⟨o,k b o d e⟩) (λ_ _ e=>e) (λ_ _ _ e=>e) (λb ps e=>⟨#[],by rw[e]; simp⟩) (λm j=>?_) (λb u e=>?_) I.bare
 ·obtain⟨C,x,A,w,t,p⟩:=g b l;exact⟨w,x,t,p⟩
 ·obtain⟨o,es,y,i,r⟩:=j;exact⟨o,es,y,k _ o (λz=>(g _ z).2.1 rfl) i,r⟩
 ·refine(I.hok b u e).stay (λc v d q=>k c v ?_ q) (λ_ q=>q) λ_ _ q=>q;rcases d with z|z
  ·rw[z]; exact f b u e
  ·exact f c _ z
inductive RK where
 |lst|tup
noncomputable def RK.It:RK->Heap->Y7->Y7->Y0->Prop
 |.lst,h,it,a,i=>h.IsListIter it a i
 |.tup,h,it,a,i=>h.IsTupleIter it a i
noncomputable def RK.Sq:RK->Heap->Y7->Array Y8->Prop
 |.lst,h,a,xs=>h.IsList a xs
 |.tup,h,a,xs=>h.IsTuple a xs
def RK.It.on{k:RK}(x:k.It h it a i)(e:∀o,h.get? it=Y o->h'.get? it=Y o):k.It h' it a i:=by
 cases k with
 |lst=>exact Heap.IsListIter.at x e
 |tup=>obtain⟨o,b,r⟩:=x; exact⟨o,e o b,r⟩
def RK.Sq.on{k:RK}(x:k.Sq h a xs)(e:∀o,h.get? a=Y o->h'.get? a=Y o):k.Sq h' a xs:=by
 cases k with
 |lst=>exact Heap.IsList.at x e
 |tup=>obtain⟨o,b,r⟩:=x; exact⟨o,e o b,r⟩
def RK.It.obj{k:RK}(x:k.It h it a i):∃o,h.get? it=Y o/\∀v,o.data≠.cell v:=by
 cases k with
 |lst=>obtain⟨o,b,_,d⟩:=x; exact⟨o,b,λv z=>by rw[d]at z; cases z⟩
 |tup=>obtain⟨o,b,_,d⟩:=x; exact⟨o,b,λv z=>by rw[d]at z; cases z⟩
section
def qxn{k:RK}(d:k.It s.heap it a i)(g:k.Sq s.heap a xs)(f:xs[i]?=Y x)(h:∀h',k.It h' it a (i+1)->(∀b o,b≠it->s.heap.get? b=Y o->h'.get? b=Y o)->h'.objs.size=s.heap.objs.size->Q x { s with heap:=h' }):wpAny (model prog w) A (Builtin.SmallTypes.nextOf (.ref it)) Q E s:=by
 cases k with
 |lst=>exact wpAny_nextOf_list_item d g f λh' r j=>h h' r j.extBut j.1
 |tup=>
  obtain⟨o,e,p,c⟩:=id d;obtain⟨q,n,_,m,l⟩:=g;unfold Builtin.SmallTypes.nextOf;refine Qq (Qc (Heap.IsTupleIter.typeIs d) F.slot_tuple_iterator_next (Qe F.slot_tuple_iterator_next (Heap.IsTupleIter.typeIs d) F.entry_tuple_iterator_next ?_ (F.args_tuple_iterator_next_1 _)));show wpAny _ _ (field (.ref it) 0 >>= _) _ _ _;refine Qq (Qw e c rfl ?_);rw[Z5 (λz=>nomatch z)];refine Qq (Qw e c rfl ?_);refine Qq (Qo n l ?_);simp only[Int.toNat_natCast,f];refine Qq (wpAny_setField e c (by simp) (Qj ⟨x,rfl,Qj (h _ ?_ (Heap.SameBut.update ..).extBut (Heap.SameBut.update ..).1)⟩));exact⟨_,Qjk _ e (Obj.isFreed_of_fields (Obj.data_mapFields c _)),(Obj.cls_mapFields ..).trans p,by rw[Obj.data_mapFields c]; simp[rawInt]⟩
def qj7{k:RK}(d:A.handled=B)(c:k.It s.heap it a i)(j:k.Sq s.heap a xs)(h:xs[i]?=B)(l:∀h' e,(∀b o,b≠it->s.heap.get? b=Y o->h'.get? b=Y o)->(∃o,h'.get? e=Y o/\o.cls=.type "StopIteration")->E (.ref e) { s with heap:=h' }):wpAny (model prog w) A (Builtin.SmallTypes.nextOf (.ref it)) Q E s:=by
 cases k with
 |lst=>exact wpAny_nextOf_list_end d c j h λh' e t r=>l h' e t r
 |tup=>
  obtain⟨o,g,u,f⟩:=id c;obtain⟨q,p,_,m,n⟩:=j;unfold Builtin.SmallTypes.nextOf;refine Qq (Qc (Heap.IsTupleIter.typeIs c) F.slot_tuple_iterator_next (Qe F.slot_tuple_iterator_next (Heap.IsTupleIter.typeIs c) F.entry_tuple_iterator_next ?_ (F.args_tuple_iterator_next_1 _)));show wpAny _ _ (field (.ref it) 0 >>= _) _ _ _;refine Qq (Qw g f rfl ?_);rw[Z5 (λz=>nomatch z)];refine Qq (Qw g f rfl ?_);refine Qq (Qo p n ?_);simp only[Int.toNat_natCast,h];refine Qq (Zz (Qq (wpAny_setField g f (by simp) ?_))); show wpAny _ _ (newExc (.type "StopIteration") [] >>= _) _ _ _;refine Qq ?_; simp only[newExc];refine Qq (Ql ?_ (by size_fits)); refine Qq (Zv (by first|rfl|(simp only[firstArgMember]; rfl)) ?_);refine Ql ?_ (by size_fits); simp only[raiseNew];refine Qq (wpAny_handled ?_)
  first|rw[show A.in1.handled=B from d]|(rw[d])
  refine Qq (Qj (wpAny_throw ?_));exact l _ _ (((Heap.SameBut.update ..).extBut.push _).push _) ⟨_,Qqg _ rfl,by rfl⟩
end
section
def qvz(e:IsPair s.heap T a b)(h:∀h',h'.get? T=Y { cls:=.type "tuple",data:=.seq ((#[a,b]:Array Y8).setIfInBounds j x) }->(∀c o,c≠T->s.heap.get? c=Y o->h'.get? c=Y o)->h'.objs.size=s.heap.objs.size->Q () { s with heap:=h' }):
  wpAny (model prog w) A (updateSeq T (·.setIfInBounds j x)) Q E s:=
 wpAny_updateSeq_pair e λh' f d=>h h' f d.extBut d.1
def zip_get{C z:RK}(n1:r<n)(n2:q<n)(f:IsZip s.heap (n+4) (n+2) (n+3) .none)(T:IsPair s.heap (n+2) (.ref n) (.ref (n+1)))(hO:IsPair s.heap (n+3) a b)(h1:C.It s.heap n r i)(h2:z.It s.heap (n+1) q i)(s1:C.Sq s.heap r xs)(X:z.Sq s.heap q ys)(hx:xs[i]?=Y x)(hy:ys[i]?=Y y)(hQ:∀h',IsZip h' (n+4) (n+2) (n+3) (rawInt s.heap.objs.size)->IsPair h' (n+2) (.ref n) (.ref (n+1))->IsPair h' (n+3) x y->C.It h' n r (i+1)->z.It h' (n+1) q (i+1)->IsPair h' s.heap.objs.size x y->
   (∀c o,c≠n+4->c≠n+3->c≠n->c≠n+1->s.heap.get? c=Y o->h'.get? c=Y o)->Q (Y (.ref s.heap.objs.size)) { s with heap:=h' }):
  wpAny (model prog w) A (pyNext (.ref (n+4))) Q E s:=by
 have S:s.TypeIs (.ref (n+4)) "zip":=⟨_,f,rfl⟩
 unfold pyNext;refine Qq (Q4 (Qc S F.slot_zip_next (Qe F.slot_zip_next S F.entry_zip_next ?_ (F.args_zip_next_1 _))));show wpAny _ _ (field (.ref (n+4)) 2 >>= _) _ _ _;refine Qq (Qw f rfl rfl ?_);refine Qq (Qw f rfl rfl ?_);refine Qq (Qo T rfl ?_);refine Qq ?_;unfold Builtin.SmallTypes.ownedTupleIsFree;refine Qq (Qw f rfl rfl (Qj ?_));simp only[if_true];refine Qq (Zz ?_);refine Qq (Qw f rfl rfl ?_);refine Qq (Qy f (by simp) λg1 v N=>?_)
 replace v:IsZip g1 (n+4) (n+2) (n+3) .ellipsis:=v
 have d:=N.extBut;refine Qq ?_;simp only[List.zipIdx_cons,List.forIn_nil];refine Qq (Qq (Z1 ?_)); show wpAny _ _ (Builtin.SmallTypes.nextOf (.ref n) >>= _) _ _ _;refine Qq (qxn (h1.on λo e=>d _ o (by show @Ne Y0 _ _; lia) e) (s1.on λo e=>d _ o (by show @Ne Y0 _ _; lia) e) hx λg2 i2 j c2=>Qj ?_);have V:=j _ _ (by show @Ne Y0 _ _; lia) (d _ _ (by show @Ne Y0 _ _; lia) hO);refine Qq (Qo V rfl ?_);refine Qq (qvz V λg3 G h c3=>?_)
 replace G:IsPair g3 (n+3) x b:=G
 refine Qq (wpAny_letGo (Qj ?_));refine Qq (Qq (Z1 ?_)); show wpAny _ _ (Builtin.SmallTypes.nextOf (.ref (n+1)) >>= _) _ _ _;refine Qq (qxn (h2.on λo e=>h _ o (by show @Ne Y0 _ _; lia) (j _ o (by show @Ne Y0 _ _; lia) (d _ o (by show @Ne Y0 _ _; lia) e))) (X.on λo e=>h _ o (by show @Ne Y0 _ _; lia) (j _ o (by show @Ne Y0 _ _; lia) (d _ o (by show @Ne Y0 _ _; lia) e))) hy λg4 i4 p c4=>Qj ?_);have U:=p _ _ (by show @Ne Y0 _ _; lia) G;refine Qq (Qo U rfl ?_);refine Qq (qvz U λg t m c5=>?_)
 replace t:IsPair g (n+3) x y:=t
 refine Qq (wpAny_letGo (Qj (Qj ?_)));refine Qq (Qo t rfl ?_);refine Qq (wpAny_newTuple ?_);have sz:=c5.trans (c4.trans (c3.trans (c2.trans N.1)));have H:=m _ _ (by show @Ne Y0 _ _; lia) (p _ _ (by show @Ne Y0 _ _; lia) (h _ _ (by show @Ne Y0 _ _; lia) (j _ _ (by show @Ne Y0 _ _; lia) v)));have k:∀c o,c≠n+4->c≠n+3->c≠n->c≠n+1->s.heap.get? c=Y o->g.get? c=Y o:=λc o c1 c2 c3 c4 e=>m _ _ c2 (p _ _ c4 (h _ _ c2 (j _ _ c3 (d _ _ c1 e))));have j1:=i2.on λo e=>m _ o (by show @Ne Y0 _ _; lia) (p _ o (by show @Ne Y0 _ _; lia) (h _ o (by show @Ne Y0 _ _; lia) e));have j2:=i4.on λo e=>m _ o (by show @Ne Y0 _ _; lia) e;have R:=Qqe H;refine Qq ?_;unfold Builtin.SmallTypes.ownedTupleHandOut;have W:IsZip (g.push { cls:=.type "tuple",data:=.seq #[x,y] }) (n+4) (n+2) (n+3) .ellipsis:=Qqx _ H;refine Qq (Qy W (by simp) λg7 u K=>?_)
 replace u:IsZip g7 (n+4) (n+2) (n+3) (rawInt g.objs.size):=u
 refine Qy u (by simp) λD l I=>?_
 replace l:IsZip D (n+4) (n+2) (n+3) (rawInt g.objs.size):=l
 have up:∀c o,c≠n+4->g.get? c=Y o->D.get? c=Y o:=λc o c1 e=>I.extBut _ _ c1 (K.extBut _ _ c1 (Qqx _ e));have P:=I.extBut _ _ (Qxd R) (K.extBut _ _ (Qxd R) (Qqg _ rfl));rw[sz]at l P;refine Qj ⟨_,rfl,Qj ?_⟩;rw[sz];exact hQ D l (up _ _ (by lia) (k _ _ (by lia) (by lia) (by lia) (by lia) T)) (up _ _ (by lia) t) (j1.on λo e=>up _ o (by lia) e) (j2.on λo e=>up _ o (by lia) e) P λc o c1 c2 c3 c4 e=>up c o c1 (k c o c1 c2 c3 c4 e)
def qfp{R P:RK}(S:A.handled=B)(n1:y<n)(n2:v<n)(k:IsZip s.heap (n+4) (n+2) (n+3) .none)(hI:IsPair s.heap (n+2) (.ref n) (.ref (n+1)))(hO:IsPair s.heap (n+3) a b)(U:R.It s.heap n y i)(h2:P.It s.heap (n+1) v i)(N:R.Sq s.heap y xs)(s2:P.Sq s.heap v ys)(l:xs[i]?=B\/ys[i]?=B)(hQ:∀h',(∀c o,c≠n+4->c≠n+3->c≠n->c≠n+1->s.heap.get? c=Y o->h'.get? c=Y o)->Q B { s with heap:=h' }):
  wpAny (model prog w) A (pyNext (.ref (n+4))) Q E s:=by
 have T:s.TypeIs (.ref (n+4)) "zip":=⟨_,k,rfl⟩
 have p:∀(h':Heap) (e:Y7),(∀c o,c≠n+4->c≠n+3->c≠n->c≠n+1->s.heap.get? c=Y o->h'.get? c=Y o)->(∃o,h'.get? e=Y o/\o.cls=.type "StopIteration")->
   wpAny (model prog w) A (do if (<- isInstance (.ref e) (.type "StopIteration")) then pure B else(throw (Value.ref e):Sem (Y3 Y8))) Q E { s with heap:=h' }:=λh' e hk m=>by
  obtain⟨o,f,j⟩:=m;refine Qq (Zm ⟨o,f,j⟩ isSubtype_stop ?_);exact Qj (hQ _ hk)
 unfold pyNext;refine Qq (Q4 (Qc T F.slot_zip_next (Qe F.slot_zip_next T F.entry_zip_next ?_ (F.args_zip_next_1 _))));show wpAny _ _ (field (.ref (n+4)) 2 >>= _) _ _ _;refine Qq (Qw k rfl rfl ?_);refine Qq (Qw k rfl rfl ?_);refine Qq (Qo hI rfl ?_);refine Qq ?_;unfold Builtin.SmallTypes.ownedTupleIsFree;refine Qq (Qw k rfl rfl (Qj ?_));simp only[if_true];refine Qq (Zz ?_);refine Qq (Qw k rfl rfl ?_);refine Qq (Qy k (by simp) λg1 r X=>?_)
 replace r:IsZip g1 (n+4) (n+2) (n+3) .ellipsis:=r
 have d:=X.extBut;refine Qq ?_;simp only[List.zipIdx_cons,List.forIn_nil];refine Qq (Qq (Z1 ?_)); show wpAny _ _ (Builtin.SmallTypes.nextOf (.ref n) >>= _) _ _ _
 cases z:xs[i]? with
 |none=>
  refine Qq (qj7 S (U.on λo e=>d _ o (by show @Ne Y0 _ _; lia) e) (N.on λo e=>d _ o (by show @Ne Y0 _ _; lia) e) z λg2 e g m=>?_);obtain⟨u,f,j⟩:=m;have G:=g _ _ (by show @Ne Y0 _ _; lia) r;have C:e≠n+4:=λq=>by subst q; rw[G]at f; cases f; simp at j
  exact Qy G (by simp) λV _ K=>p V e (λc o c1 _ c3 _ q=>K.extBut _ _ c1 (g _ _ c3 (d _ _ c1 q))) ⟨u,K.extBut _ _ C f,j⟩
 |some x=>
  have hy:ys[i]?=none:=by
   rcases l with h|h
   ·rw[z]at h; cases h
   ·exact h
  refine Qq (qxn (U.on λo e=>d _ o (by show @Ne Y0 _ _; lia) e) (N.on λo e=>d _ o (by show @Ne Y0 _ _; lia) e) z λg2 i2 g c2=>Qj ?_);have W:=g _ _ (by show @Ne Y0 _ _; lia) (d _ _ (by show @Ne Y0 _ _; lia) hO);refine Qq (Qo W rfl ?_);refine Qq (qvz W λV O3 t c3=>Qq (wpAny_letGo (Qj ?_)));refine Qq (Qq (Z1 ?_)); show wpAny _ _ (Builtin.SmallTypes.nextOf (.ref (n+1)) >>= _) _ _ _;refine Qq (qj7 S (h2.on λo e=>t _ o (by show @Ne Y0 _ _; lia) (g _ o (by show @Ne Y0 _ _; lia) (d _ o (by show @Ne Y0 _ _; lia) e))) (s2.on λo e=>t _ o (by show @Ne Y0 _ _; lia) (g _ o (by show @Ne Y0 _ _; lia) (d _ o (by show @Ne Y0 _ _; lia) e))) hy λg4 e H m=>?_);obtain⟨u,f,j⟩:=m;have D:=H _ _ (by show @Ne Y0 _ _; lia) (t _ _ (by show @Ne Y0 _ _; lia) (g _ _ (by show @Ne Y0 _ _; lia) r));have C:e≠n+4:=λq=>by subst q; rw[D]at f; cases f; simp at j
  exact Qy D (by simp) λg5 _ I=>p g5 e (λc o c1 c2 c3 c4 q=>I.extBut _ _ c1 (H _ _ c4 (t _ _ c2 (g _ _ c3 (d _ _ c1 q))))) ⟨u,I.extBut _ _ C f,j⟩
end
noncomputable def RK.itO(k:RK)(a:Y7):Obj:=match k with
 |.lst=>{ cls:=.type "list_iterator",data:=.fields #[.ref a,.int 0 0] }
 |.tup=>{ cls:=.type "tuple_iterator",data:=.fields #[.ref a,.int 0 0] }
def qjw{k:RK}(b:k.Sq s.heap a xs)(c:Q (.ref s.heap.objs.size) { s with heap:=s.heap.push (k.itO a) }):wpAny (model prog w) A (pyIter (.ref a)) Q E s:=by
 cases k with
 |lst=>exact Zf b c
 |tup=>exact wpAny_pyIter_tuple b c
def row_new{h:Heap}{k:RK}:k.It (h.push (k.itO a)) h.objs.size a 0:=by
 cases k with
 |lst=>exact⟨_,Qqg _ rfl,rfl,rfl⟩
 |tup=>exact⟨_,Qqg _ rfl,rfl,rfl⟩
noncomputable abbrev zh1(k1:RK)(h:Heap)(l1:Y7):Heap:=h.push (k1.itO l1)
noncomputable abbrev zh2(k1 k2:RK)(h:Heap)(l1 l2:Y7):Heap:=(zh1 k1 h l1).push (k2.itO l2)
noncomputable abbrev zh3(k1 k2:RK)(h:Heap)(l1 l2:Y7):Heap:=(zh2 k1 k2 h l1 l2).push { cls:=.type "tuple",data:=.seq #[.ref h.objs.size,.ref (zh1 k1 h l1).objs.size] }
noncomputable abbrev zh4(k1 k2:RK)(h:Heap)(l1 l2:Y7):Heap:=(zh3 k1 k2 h l1 l2).push { cls:=.type "tuple",data:=.seq #[.none,.none] }
noncomputable abbrev zh5(k1 k2:RK)(h:Heap)(l1 l2:Y7):Heap:=(zh4 k1 k2 h l1 l2).push { cls:=.type "zip",data:=.fields #[.none,.bool Y6,.bool Y6,.ref (zh2 k1 k2 h l1 l2).objs.size,.ref (zh3 k1 k2 h l1 l2).objs.size] }
def qfr(f c)(b a)(xs ys):Meets (Qs.«zip.__new__» ⟨[.type "zip",.ref b,.ref a],[]⟩) (λ_ R s=>f.Sq s.heap b xs/\c.Sq s.heap a ys/\R (.ok (.ret (.ref (zh4 f c s.heap b a).objs.size))) { s with heap:=zh5 f c s.heap b a }):=
 .of_wp λprog w A R s h=>by
  obtain⟨hp,g,d,tk,os⟩:=s;obtain⟨k,j,h⟩:=h;have i:=sub_zip;have l:=k;have L2:c.Sq (Shared.heap ⟨hp.push (f.itO b),g,d,tk,os⟩) a ys:=j.on λo e=>Qqx _ e
  wp_walk using qjw l,qjw L2
  exact⟨_,rfl,h⟩
def ZipAt(k1 k2:RK)(n l1 l2:Y0)(i:Y0)(h:Heap):Prop:=
 l1<n/\l2<n/\IsZip h (n+4) (n+2) (n+3) .none/\IsPair h (n+2) (.ref n) (.ref (n+1))/\(∃a b,IsPair h (n+3) a b)/\k1.It h n l1 i/\k2.It h (n+1) l2 i
def qe8(r:d.Sq s.heap a xs)(q:f.Sq s.heap b ys)(b1:a<s.heap.objs.size)(b2:b<s.heap.objs.size)(h:∀h',ZipAt d f s.heap.objs.size a b 0 h'->(∀c o,s.heap.get? c=Y o->h'.get? c=Y o)->Q (.ref (s.heap.objs.size+4)) { s with heap:=h' }):wpAny (model prog w) A (call (.type "zip") [.ref a,.ref b]) Q E s:=by
 refine callType_new F.called_zip (by decide) (F.typeCall_zip_2 _ _) (F.newCall_zip_2 _ _) (λobj=>F.args_object_init_3 obj _ _) F.entry_zip_new (qfr d f a b xs ys) ⟨r,q,?_⟩;have j:(zh1 d s.heap a).objs.size=s.heap.objs.size+1:=Qxz ..;have i:(zh2 d f s.heap a b).objs.size=s.heap.objs.size+2:=by rw[Qxz,j]
 have g:(zh3 d f s.heap a b).objs.size=s.heap.objs.size+3:=by rw[Qxz,i]
 have l:(zh4 d f s.heap a b).objs.size=s.heap.objs.size+4:=by rw[Qxz,g]
 have k:(zh5 d f s.heap a b).get? (zh4 d f s.heap a b).objs.size=Y _:=Qqg _ rfl;have m:(zh5 d f s.heap a b).get? (zh3 d f s.heap a b).objs.size=Y _:=Qqx _ (Qqg _ rfl);have n:(zh5 d f s.heap a b).get? (zh2 d f s.heap a b).objs.size=Y _:=Qqx _ (Qqx _ (Qqg _ rfl));have p:f.It (zh5 d f s.heap a b) (zh1 d s.heap a).objs.size b 0:=row_new.on λo e=>Qqx _ (Qqx _ (Qqx _ e));have t:d.It (zh5 d f s.heap a b) s.heap.objs.size a 0:=row_new.on λo e=>Qqx _ (Qqx _ (Qqx _ (Qqx _ e)));rw[i,g,l]at k;rw[j,i]at n;rw[g]at m;rw[j]at p;rw[l];exact⟨⟨_,k,rfl⟩,h _ ⟨b1,b2,k,n,⟨_,_,m⟩,t,p⟩ λc o x=>Qqx _ (Qqx _ (Qqx _ (Qqx _ (Qqx _ x))))⟩
def RK.sq(k:RK)(K:Qqq)(H:Hp)(a:Y7)(xs:L V):Prop:=match k with
 |.lst=>SqL K H a xs
 |.tup=>SqT K H a xs
noncomputable def Itz(K:Qqq)(k1 k2:RK)(a b:Y7):It:=
 ⟨λi H=>∃xs ys x y,k1.sq K H a xs/\k2.sq K H b ys/\xs[i]?=Y x/\ys[i]?=Y y,
  λi H v H'=>∃p x y,v=.ref p/\H p=B/\H'=upd H p (.tup [x,y])/\(∀xs,k1.sq K H a xs->xs[i]?=Y x)/\∀ys,k2.sq K H b ys->ys[i]?=Y y,
  λi H=>∃xs ys,k1.sq K H a xs/\k2.sq K H b ys/\(xs.length<=i\/ys.length<=i)⟩
section
def qq4{k:RK}(I:Inv X pins σ H s)(q:k.sq X.K H a xs):∃b,Vals xs b/\k.Sq s.heap a b.toArray:=by
 cases k with
 |lst=>obtain⟨b,c,p,d⟩:=I.list q; exact⟨b,c,p.isList⟩
 |tup=>obtain⟨b,c,p,d⟩:=I.tuple q; exact⟨b,c,show s.heap.IsTuple a b.toArray from p⟩
def qk8{k:RK}(I:Inv X pins σ H s)(q:k.sq X.K H a xs)(b:k.sq X.K H a ys):xs=ys:=by
 cases k with
 |lst=>exact I.list_inj q b
 |tup=>exact I.tuple_inj q b
end
noncomputable def fpZ(n:Y0):L Y7:=[n+4,n+2,n+3,n,n+1]
def qf0{K:Qqq}(k1 W)(n a b):Turn P w K (.Tuple r c pos) (Itz K k1 W a b) (fpZ n) (n+4) (ZipAt k1 W n a b) where
 mem:=by simp[fpZ]
 obj:=λi h st e he=>by
  obtain⟨b1,b2,g,l,⟨x,y,j⟩,h1,h2⟩:=st;simp only[fpZ,Qqy,Qq2,or_false]at he;rcases he with rfl|rfl|rfl|rfl|rfl
  ·exact⟨_,g,λv z=>nomatch z⟩
  ·exact⟨_,l,λv z=>nomatch z⟩
  ·exact⟨_,j,λv z=>nomatch z⟩
  ·exact h1.obj
  ·exact h2.obj
 keep:=λi h h' st k=>by
  obtain⟨b1,b2,g,l,⟨x,y,j⟩,h1,h2⟩:=st;exact⟨b1,b2,k _ (by simp[fpZ]) _ g,k _ (by simp[fpZ]) _ l,⟨x,y,k _ (by simp[fpZ]) _ j⟩,h1.on λo e=>k _ (by simp[fpZ]) o e,h2.on λo e=>k _ (by simp[fpZ]) o e⟩
 item:=by
  intro X U Q V hc i pins s σ H E I hf st T;subst U Q V;obtain⟨xs,ys,x,y,u,t,ex,ey⟩:=T;obtain⟨b1,b2,g,l,⟨ua,ub,j⟩,h1,h2⟩:=st;obtain⟨vx,F,C⟩:=qq4 I u;obtain⟨vy,D,A⟩:=qq4 I t;obtain⟨u1,S,N⟩:=F.get ex;obtain⟨u2,R,G⟩:=D.get ey;refine zip_get b1 b2 g l j h1 h2 C A (by simpa using S) (by simpa using R) λh' a1 a2 a3 a4 a5 a6 kp=>⟨_,rfl,?_⟩
  refine wpAny_letOwnedTupleGo_zip a1 λh9 c1 c2=>?_;have f:=c2.extBut;have lt:∀b∈fpZ n,b≠s.heap.objs.size:=λb d z=>by
   have q:b<s.heap.objs.size:=by
    simp only[fpZ,Qqy,Qq2,or_false]at d;rcases d with rfl|rfl|rfl|rfl|rfl
    ·exact Qqe g
    ·exact Qqe l
    ·exact Qqe j
    ·obtain⟨o,e,_⟩:=h1.obj; exact Qqe e
    ·obtain⟨o,e,_⟩:=h2.obj; exact Qqe e
   rw[z]at q;exact Qz8 _ q
  have nz:s.heap.objs.size≠n+4:=λz=>lt (n+4) (by simp[fpZ]) z.symm;have I1:Inv X pins σ H { s with heap:=h9,toks:=s.toks }:=Inv.turnedL I (λb o d e=>f _ _ (λz=>d (by simp[fpZ,z])) (kp b o (λz=>d (by simp[fpZ,z])) (λz=>d (by simp[fpZ,z])) (λz=>d (by simp[fpZ,z])) (λz=>d (by simp[fpZ,z])) e)) hf;have fr:=I.hok.fresh (Qqk _);have I2:Inv X pins σ (upd H s.heap.objs.size (.tup [x,y])) { s with heap:=h9,toks:=s.toks }:=Inv.track I1 (I.fpOk (Qqk _) fr) ⟨by show 2<=sizeLine; decide,[u1,u2],.cons N (.cons G .nil),⟨_,f _ _ nz a6,rfl,_,rfl⟩⟩;refine⟨.ref s.heap.objs.size,upd H s.heap.objs.size (.tup [x,y]),I2,rfl,⟨_,x,y,rfl,fr,rfl,λzs m=>?_,λzs m=>?_⟩,⟨b1,b2,c1,f _ _ (by show @Ne Y0 _ _; lia) a2,⟨_,_,f _ _ (by show @Ne Y0 _ _; lia) a3⟩,a4.on λo e=>f _ o (by show @Ne Y0 _ _; lia) e,a5.on λo e=>f _ o (by show @Ne Y0 _ _; lia) e⟩,λb d=>?_⟩
  ·rw[qk8 I m u]; exact ex
  ·rw[qk8 I m t]; exact ey
  ·rw[qzq (lt b d)]; exact(hf b d).1
 done:=by
  intro X U Q V hc i pins s σ H E I hf st T;subst U Q V;obtain⟨xs,ys,u,t,p⟩:=T;obtain⟨b1,b2,g,l,⟨ua,ub,j⟩,h1,h2⟩:=st;obtain⟨vx,F,C⟩:=qq4 I u;obtain⟨vy,D,A⟩:=qq4 I t;have lx:=F.length;have ly:=D.length;refine qfp (I.ok.hd hc) b1 b2 g l j h1 h2 C A ?_ λh' kp=>⟨rfl,Inv.turnedL I (λb o d e=>kp b o (λz=>d (by simp[fpZ,z])) (λz=>d (by simp[fpZ,z])) (λz=>d (by simp[fpZ,z])) (λz=>d (by simp[fpZ,z])) e) hf⟩
  rcases p with h|h
  ·exact .inl (by simp; lia)
  ·exact .inr (by simp; lia)
 self:=λ_ _ _ _ _ st h=>wpAny_pyIter_zip st.2.2.1 h
noncomputable def iZip(K:Qqq)(ta:TA):TI:=λσ H R=>ta σ H λvs H1=>∃(k1 k2:RK) (a b:Y7),vs=[.ref a,.ref b]/\(∃xs,k1.sq K H1 a xs)/\(∃ys,k2.sq K H1 b ys)/\R (Itz K k1 k2 a b) H1
def pi_zip(F:Gl X "zip")(E:X.mg "zip" = B)(G:PA X [a,b] m)(D:starEach [a,b] X.env=[(Y6,Qb a X.env),(Y6,Qb b X.env)]:=by rfl)(i:starEach [b] X.env=[(Y6,Qb b X.env)]:=by rfl):
  PI X (.Tuple j c f) (.Call (.Name "zip" p) [a,b] [] pos) (iZip X.K m):=by
 intro pins s σ H R I h;refine Call_ (qx9 I F E boot_zip (PyProof.Rows.callWith_type1 (thn (G pos pins s σ H _ I h) λP g ⟨vs,H1,k,x,A⟩=>?_) (by rw[D,i]) (by rw[i]; rfl)));obtain⟨w,v,a,b,e,⟨xs,z⟩,⟨ys,y⟩,q⟩:=A;subst e
 cases x with
 |cons r l=>
  cases l with
  |cons r' l=>
   cases l;cases r;cases r';obtain⟨N,S,t⟩:=qq4 k z;obtain⟨K,Q,n⟩:=qq4 k y;have la:a<g.heap.objs.size:=by
    cases w<;>(obtain⟨o,e,_⟩:=t; exact Qqe e)
   have C:b<g.heap.objs.size:=by
    cases v<;>(obtain⟨o,e,_⟩:=n; exact Qqe e)
   refine qe8 t n la C λh' st kp=>wpAny_pyIter_zip st.2.2.1 ?_;refine⟨g.heap.objs.size+4,fpZ g.heap.objs.size,_,_,H1,rfl,k.kept kp,qf0 w v _ a b,st,λd hd=>?_,q⟩;have u:g.heap.objs.size<=d:=by
    simp only[fpZ,Qqy,Qq2,or_false]at hd;rcases hd with rfl|rfl|rfl|rfl|rfl<;>(show @LE.le Y0 _ _ _; lia)
   exact k.fpOk u (k.hok.fresh u)
section
end
inductive EntOk (prm:Qr):L Q1->L Y5->L Y8->Prop
 |nil:EntOk prm [] [] []
 |cons {k:Y5}{t:Tok}{u:Y8}{es:L Q1}{ks:L Y5}{us:L Y8}(h:EntOk prm es ks us):EntOk prm (⟨PyData.keyHash prm k,.str k t,u⟩::es) (k::ks) (u::us)
structure FDict (prm:Qr) (K:Qqq) (a:Y7) (ks:L Y5) (ds:L M.D):Prop where
 ex:∃(us:L Y8) (vs:L V) (es:Array Q1) (ep:Y0),K.lookup a=Y { cls:=.type "dict",data:=.dict es ep }/\EntOk prm es.toList ks us/\Vals vs us/\∀m H,IsDs K m H ds vs
 nd:ks.Nodup
 ne:(a==Qn)=Y6
noncomputable def kzip{α:Type}(ks:L Y5)(us:L α):L (Key×α):=(ks.map λk=>(Sum.inr k:Key)).zip us
theorem qa3:∀{es}{ks}{us},EntOk w.params es ks us->(∀e∈es,∃k,(mixKind P w).is k e.key=O/\e.hash=(mixKind P w).hash k)/\PySem.Pairs (mixKind P w) es (kzip ks us)/\(kzip ks us).map (·.1)=ks.map λk=>(Sum.inr k:Key)
 |_,_,_,.nil=>⟨(λe h=>nomatch h),.nil,rfl⟩
 |_,_,_,.cons (k:=k) (t:=t) h=>by
  obtain⟨h1,h2,b⟩:=qa3 h;refine⟨λe a=>?_,?_,?_⟩
  ·rcases Qqy.mp a with q|q
   ·subst q;exact⟨.inr k,qxz P w k t,rfl⟩
   ·exact h1 e q
  ·exact .cons (qxz P w k t) rfl h2
  ·exact congrArg (List.cons (Sum.inr k:Key)) b
def qeh(I:Inv X b f H s)(h:FDict X.w.params X.K a ks ds):
  ∃(us:L Y8) (vs:L V),s.heap.DictOf (mixKind X.prog X.w) a (kzip ks us)/\Vals vs us/\(∀m H,IsDs X.K m H ds vs)/\ks.length=us.length:=by
 obtain⟨us,vs,es,l,p,d,o,n⟩:=h.ex;obtain⟨h1,h2,k⟩:=qa3 d;refine⟨us,vs,⟨_,es,l,I.kIn a _ p,⟨rfl,rfl,rfl⟩,rfl,λe j=>h1 e (by simpa using j),h2,?_⟩,o,n,?_⟩
 ·rw[k];exact(List.pairwise_map.mpr (h.nd.imp λc i=>c (Sum.inr.inj i)))
 ·have:∀{es:L Q1}{ks:L Y5}{us:L Y8},EntOk X.w.params es ks us->ks.length=us.length:=by
   intro es ks us q
   induction q with
   |nil=>rfl
   |cons _ g=>rw[Qqi,Qqi,g]
  exact this d
theorem qnv(z):∀(ks:L Y5) (us:L α),((kzip ks us).find? λp=>decide (p.1=Sum.inr z)).map (·.2)=((ks.zip us).find? λq=>q.1==z).map (·.2)
 |[],us=>rfl
 |k::ks,[]=>rfl
 |k::ks,u::us=>by
  have a:=qnv z ks us;show((((Sum.inr k:Key),u)::kzip ks us).find? λp=>decide (p.1=Sum.inr z)).map (·.2)=(((k,u)::ks.zip us).find? λq=>q.1==z).map (·.2);rw[Qza,Qza]
  by_cases h:k=z
  ·have h1:decide ((Sum.inr k:Key)=Sum.inr z)=true:=by rw[h]; simp
   have h2:(k==z)=true:=by rw[h]; simp
   simp only[h1,h2]
   rfl
  ·have h1:decide ((Sum.inr k:Key)=Sum.inr z)=false:=Z4 λq=>h (Sum.inr.inj q);have h2:(k==z)=false:=by simpa using h
   simp only[h1,h2];exact a
theorem qew{K:Qqq}(z):∀{ks:L Y5}{ds:L M.D}{vs:L V}{us:L Y8},(∀m H,IsDs K m H ds vs)->Vals vs us->ks.length=us.length->
  (((ks.zip ds).find? λq=>q.1==z)=B/\((ks.zip us).find? λq=>q.1==z)=B/\ks.contains z=Y6)\/∃k d v u,((ks.zip ds).find? λq=>q.1==z)=Y (k,d)/\((ks.zip us).find? λq=>q.1==z)=Y (k,u)/\(∀m H,MS.IsD K m H d v)/\RelV v u/\ks.contains z=O
 |[],ds,vs,us,i,r,h=>.inl ⟨rfl,rfl,rfl⟩
 |k::ks,[],vs,us,i,r,h=>by
  rw[(i [] λ_=>B).nil]at r;cases r;cases h
 |k::ks,d::ds,vs,us,i,r,h=>by
  obtain⟨v,vr,e,_,_⟩:=(i [] λ_=>B).cons;subst e;have n:∀m H,MS.IsD K m H d v:=λm H=>by
   obtain⟨c,a,e,q,_⟩:=(i m H).cons;cases e;exact q
  have l:∀m H,IsDs K m H ds vr:=λm H=>by
   obtain⟨c,a,e,_,q⟩:=(i m H).cons;cases e;exact q
  cases r with
  |cons g f=>
   rename_i u us
   by_cases b:k=z
   ·subst b;refine .inr ⟨k,d,v,u,by simp,by simp,n,g,by simp⟩
   ·have h2:(k==z)=false:=by simpa using b
    have o:(z==k)=false:=by simpa using Ne.symm b
    have j:=qew z l f (by simpa using h);rw[List.zip_cons_cons,List.zip_cons_cons,Qza,Qza,List.contains_cons];simp only[h2,o];exact j
section
def qmc(C:Gl X x)(A:X.mg x=Y (.ref a))(F:FDict X.w.params X.K a ks ds)(hd:(x==("__debug__" : Y5))=Y6)(D:PE X b tb)(w:NoSl b):
  PE X (.Subscript (.Name x p0) b pos) (λσ H Q=>tb σ H λy H2=>∃z d,y=.str z/\(∃k,((ks.zip ds).find? λq=>q.1==z)=Y (k,d))/\∀v,(∀m,MS.IsD X.K m H2 d v)->Q v H2):=by
 intro pins s σ H Q I h;refine qcl PySem.F.slot_dict_getitem.lookup w (thn (qyj C A (show RelV (.ref a) (.ref a) from rfl) hd pins s σ H (λx H1=>x=.ref a/\tb σ H1 _) I ⟨rfl,h⟩) λu j ⟨T,H1,S,n,ex,r⟩=>?_);subst ex;cases n;refine thn (D pins j σ H1 _ S r) λW U ⟨y,H2,g,l,z,d,R,⟨k,c⟩,p⟩=>?_;subst R;obtain⟨i,vs,f,o,E,hl⟩:=qeh g F;refine⟨f.typeIs,?_⟩;rcases qew z E o hl with⟨n1,_,_⟩|⟨V,d',e,u',P,N,K,G,_⟩
 ·rw[n1]at c; cases c
 ·rw[P]at c;cases c;have t:valueAt (kzip ks i) (Sum.inr z)=Y u':=by
   unfold valueAt;rw[qnv,N]
   rfl
  exact wpAny_getItem_of (qky (k:=.inr z) l) f.mapOf t ⟨e,H2,g.tok _,G,p e λm=>K m H2⟩
def gd_has(I:Inv X c e H s)(i:FDict X.w.params X.K a ks ds)(z):
  ∃d,s.heap.DictOf (mixKind X.prog X.w) a (kzip ks d)/\(valueAt (kzip ks d) (Sum.inr z)).isSome=ks.contains z:=by
 obtain⟨d,vs,l,f,h,hl⟩:=qeh I i;refine⟨d,l,?_⟩;unfold valueAt;rw[qnv];rcases qew z h f hl with⟨_,n2,g⟩|⟨o,t,m,n,r,k,q,p,j⟩
 ·rw[n2,g]; rfl
 ·rw[k,j]; rfl
def pc_gin(neg)(n:Gl X x)(m:X.mg x=Y (.ref a))(c:FDict X.w.params X.K a ks ds)(hd:(x==("__debug__" : Y5))=Y6)(o:PE X b tb):
  PC X (if neg then .NotIn else .In) b (.Name x p0) (λσ H Q=>tb σ H λy H2=>∃z,y=.str z/\Q (.bl (ks.contains z != neg)) H2):=by
 intro pins s σ H Q I h;refine thn (o pins s σ H _ I h) λw i ⟨y,H1,q,e,z,p,l⟩=>?_;subst p;refine thn (qyj n m (show RelV (.ref a) (.ref a) from rfl) hd pins i σ H1 (λx H2=>x=.ref a/\Q (.bl (ks.contains z != neg)) H2) q ⟨rfl,l⟩) λu v ⟨r,H2,d,j,ex,f⟩=>?_;subst ex;cases j;obtain⟨t,g,hs⟩:=gd_has d c z
 cases neg with
 |false=>
  refine wpAny_in_of (qky (k:=.inr z) e) c.ne g.mapOf ?_;rw[hs];refine⟨.bl _,H2,d.tok _,rfl,?_⟩;simpa using f
 |true=>
  refine wpAny_notIn_of (qky (k:=.inr z) e) c.ne g.mapOf ?_;rw[hs];refine⟨.bl _,H2,d.tok _,rfl,?_⟩;simpa using f
open M (D Ya Y4 Sl)
def qdy(neg)(i:Gl X x)(g:X.mg x=Y (.ref a))(k:FDict X.w.params X.K a ks ds)(hd:(x==("__debug__" : Y5))=Y6)(j:PE X b (tD X.K c)):
  PC X (if neg then .NotIn else .In) b (.Name x p0) (tD X.K λτ st=>(c τ st).bind λp=>match p.1 with
   |.str z=>Y (.bl (ks.contains z != neg),p.2)
   |_=>B):=by
 intro pins s σ H Q I h;refine pc_gin neg i g k hd j pins s σ H Q I ?_;refine h.el λm st τ d st' t o e q=>qzj e λn u l e=>rsI t o l λy m1 H1 b1 t1 r f=>?_
 cases n with
 |str z=>
  have q:=q.of e;exact⟨z,f.str,q _ m1 H1 b1 t1 r (mkBl _)⟩
 |_=>exact nn e
def qg0(k:Gl X x)(j:X.mg x=Y (.ref a))(n:FDict X.w.params X.K a ks ds)(hd:(x==("__debug__" : Y5))=Y6)(l:PE X b (tD X.K c))(i:NoSl b):
  PE X (.Subscript (.Name x p0) b pos) (tD X.K λτ st=>(c τ st).bind λp=>match p.1 with
   |.str z=>((ks.zip ds).find? λq=>q.1==z).map λq=>(q.2,p.2)
   |_=>B):=by
 refine(qmc k j n hd l i).imp λσ H Q h=>h.el λm st τ d st' C u e q=>qzj e λt E s e=>rsI C u s λy m1 H1 b1 t1 A f=>?_
 cases t with
 |str z=>
  refine qzg e λw r o=>?_;cases o;exact⟨z,w.2,f.str,⟨w.1,r⟩,λv g=>q _ m1 H1 b1 t1 A (g m1)⟩
 |_=>exact nn e
def qyl{K:Qqq}(i:M.isKey e=O)(f:IsKV K m H kvs xs)(j:Rd H a (.dK xs))(g:MS.IsD K m H e y):
  ∃o,DGet H a y o/\((M.dget kvs e=B/\o=B)\/∃d v,M.dget kvs e=Y d/\o=Y v/\MS.IsD K m H d v):=by
 obtain⟨k,c⟩:=qq5 i;have h:=qnw c g;subst h;refine⟨valV xs k,.inl ⟨xs,k,j,rfl,rfl⟩,?_⟩;rcases f.get c with⟨h1,h2⟩|⟨d,v,h1,h2,l⟩
 ·exact .inl ⟨h1,h2⟩
 ·exact .inr ⟨d,v,h1,h2,l⟩
def qda(k:X.A.units+1<cLine)(neg)(r:PE X a (tD X.K i))(n:PE X b (tD X.K f)):
  PC X (if neg then .NotIn else .In) a b (tD X.K λτ st=>(i τ st).bind λp=>(f τ p.2).bind λq=>match q.1 with
   |.loc l=>(M.dicAt q.2 l).bind λkvs=>if M.isKey p.1 then Y (.bl ((M.dget kvs p.1).isSome != neg),q.2) else B
   |_=>B):=by
 have c:∀{σ:L2.St}{H:Hp}{Q:VK},tD X.K (λτ st=>(i τ st).bind λp=>(f τ p.2).bind λq=>match q.1 with
   |.loc l=>(M.dicAt q.2 l).bind λkvs=>if M.isKey p.1 then Y (.bl ((M.dget kvs p.1).isSome != neg),q.2) else B
   |_=>B) σ H Q->tD X.K i σ H λy H1=>tD X.K f σ H1 λx H2=>∃a o,x=.ref a/\DGet H2 a y o/\Q (.bl (o.isSome != neg)) H2:=by
  intro σ H Q h;refine h.el λm st τ d st' V t e q=>qzj e λS s1 P e=>qzj e λR W N e=>rsI V t P λy m1 H1 b1 t1 U A=>rsI U (t.mono b1 t1) N λz u H2 b2 t2 R2 w=>?_
  cases R with
  |loc l=>
   refine qzx e λkvs K e=>?_
   split at e
   ·rename_i C;have q:=q.of e;obtain⟨T,xs,_,rfl,F,j⟩:=R2.dict K w;obtain⟨o,g,E⟩:=qyl C j F (qzv b2 t2 _ _ A);refine⟨T,o,rfl,g,?_⟩;have G:o.isSome=(M.dget kvs S).isSome:=by
     rcases E with⟨h1,h2⟩|⟨d,v,h1,h2,_⟩
     ·rw[h1,h2]; rfl
     ·rw[h1,h2]; rfl
    rw[G];exact q _ u H2 (b1.trans b2) (t1.trans t2) R2 (mkBl _)
   ·exact nn e
  |_=>exact nn e
 cases neg with
 |false=>
  intro pins s σ H Q I h;refine qiw k r n pins s σ H Q I ?_;have:=c h;simpa only[tDIn,Bool.bne_false] using this
 |true=>
  intro pins s σ H Q I h;refine qv7 k r n pins s σ H Q I ?_;have:=c h;simpa only[qw8,Bool.bne_true] using this
def qg1(t:X.A.units+1<cLine)(F:PE X a (tD X.K j))(E:PE X b (tD X.K i))(u:NoSl b):
  PE X (.Subscript a b pos) (tD X.K λτ st=>(j τ st).bind λp=>(i τ p.2).bind λq=>match p.1 with
   |.loc l=>(M.dicAt q.2 l).bind λkvs=>if M.isKey q.1 then(M.dget kvs q.1).map λd=>(d,q.2) else B
   |_=>B):=by
 refine(qmf t F E u).imp λσ H Q h=>h.el λm st τ d st' V k e q=>qzj e λS s1 R e=>qzj e λd2 W P e=>rsI V k R λy m1 H1 b1 t1 U s=>rsI U (k.mono b1 t1) P λz n H2 b2 t2 R2 r=>?_
 cases S with
 |loc l=>
  refine qzx e λkvs N e=>?_
  split at e
  ·rename_i A;refine qzg e λw c K=>?_;cases K;obtain⟨T,xs,_,rfl,G,f⟩:=R2.dict N (qzv b2 t2 _ _ s);obtain⟨o,g,C⟩:=qyl A f G r;rcases C with⟨h1,h2⟩|⟨d,v,h1,h2,I⟩
   ·rw[h1]at c; cases c
   ·rw[h1]at c;cases c;subst h2;exact⟨T,v,rfl,g,q _ n H2 (b1.trans b2) (t1.trans t2) R2 I⟩
  ·exact nn e
 |_=>exact nn e
def qme(E:X.A.units+1<cLine)(P:PE X a (tD X.K s))(K:PE X b (tD X.K r))(F:M1 X a "get" f b c):
  PE X (.Call (.Attribute a "get" f) [b] [] c) (tD X.K λτ st=>(s τ st).bind λp=>match p.1 with
   |.loc l=>(M.dicAt p.2 l).bind λ_=>(r τ p.2).bind λq=>(M.dicAt q.2 l).bind λkvs=>if M.isKey q.1 then Y ((M.dget kvs q.1).getD .non,q.2) else B
   |_=>B):=by
 refine(qg2 E P K F).imp λσ H Q h=>h.el λm st τ d st' R0 t e q=>qzj e λd1 s1 W e=>rsI R0 t W λy m1 H1 b1 t1 u n=>?_
 cases d1 with
 |loc l=>
  refine qzx e λA e0 e=>qzj e λd2 s2 V e=>qzx e λkvs U e=>?_
  split at e
  ·rename_i G;have q:=q.of e;obtain⟨a0,w,N,rfl,j,_⟩:=u.dict e0 n;refine⟨a0,rfl,.inl ⟨_,j⟩,rsI u (t.mono b1 t1) V λz k H2 b2 t2 R2 C=>?_⟩;obtain⟨a',xs,_,T,R,i⟩:=R2.dict U (qzv b2 t2 _ _ n);cases T;obtain⟨o,g,I⟩:=qyl G i R C;refine⟨o,g,?_⟩;rcases I with⟨h1,h2⟩|⟨d,v,h1,h2,S⟩
   ·rw[h1]at q;subst h2;exact q _ k H2 (b1.trans b2) (t1.trans t2) R2 qvq
   ·rw[h1]at q;subst h2;exact q _ k H2 (b1.trans b2) (t1.trans t2) R2 S
  ·exact nn e
 |_=>exact nn e
end
section
end
section
open M (D Ya Y4 Sl)
end
end MS
end
section
namespace MS
open PySem PySem.Spec PyProof.Rows L2
open M (D Ya Y4 Sl)
section
variable {K:Qqq}{m m1:L Y7}{H1:Hp}
mutual
theorem qez:∀(d:D) (v:V),M.noLoc d=O->MS.IsD K m1 H1 d v->MS.IsD K m H1 d v
 |.non,_,_,h=>by rw[h.non]; exact qvq
 |.bl _,_,_,h=>by rw[h.bl]; exact mkBl _
 |.int _,_,_,h=>by rw[h.int]; exact mkInt _
 |.str _,_,_,h=>by rw[h.str]; exact mkStr _
 |.tup ds,_,n,h=>by
  obtain⟨a,xs,rfl,q,r⟩:=h.tup;unfold M.noLoc at n;exact qq3 q (qj4 ds xs n r)
 |.lst ds,_,n,h=>by
  obtain⟨a,xs,rfl,q,r⟩:=h.lst;unfold M.noLoc at n;exact qbl q (qj4 ds xs n r)
 |.loc l,_,n,h=>by unfold M.noLoc at n; cases n
 |.fup ks,_,_,h=>by obtain⟨a,rfl,e⟩:=h.fup; exact qhq e
theorem qj4:∀(ds:L D) (xs:L V),M.noLocs ds=O->IsDs K m1 H1 ds xs->IsDs K m H1 ds xs
 |[],_,_,h=>by rw[h.nil]; exact qz9
 |d::ds,_,n,h=>by
  obtain⟨x,r,rfl,q,t⟩:=h.cons;unfold M.noLocs at n;rw[Qqs]at n;exact qzm (qez d x n.1 q) (qj4 ds r n.2 t)
end
mutual
theorem qxi(s:Sub m m1):∀(d:D) (v g:V),MS.IsD K m H d v->MS.IsD K m1 H1 d g->MS.IsD K m H1 d g
 |.non,_,_,_,h=>by rw[h.non]; exact qvq
 |.bl _,_,_,_,h=>by rw[h.bl]; exact mkBl _
 |.int _,_,_,_,h=>by rw[h.int]; exact mkInt _
 |.str _,_,_,_,h=>by rw[h.str]; exact mkStr _
 |.tup ds,_,_,h0,h=>by
  obtain⟨a,xs,rfl,q,r⟩:=h.tup;obtain⟨f,b,_,_,c⟩:=h0.tup;exact qq3 q (qqp s ds b xs c r)
 |.lst ds,_,_,h0,h=>by
  obtain⟨a,xs,rfl,q,r⟩:=h.lst;obtain⟨f,b,_,_,c⟩:=h0.lst;exact qbl q (qqp s ds b xs c r)
 |.loc l,_,_,h0,h=>by
  obtain⟨f,i,_⟩:=h0.loc;obtain⟨a,e,rfl⟩:=h.loc;have:=s l f i;rw[e]at this;cases this;exact qhz i
 |.fup ks,_,_,_,h=>by obtain⟨a,rfl,e⟩:=h.fup; exact qhq e
theorem qqp(s:Sub m m1):∀(ds:L D) (xs a:L V),IsDs K m H ds xs->IsDs K m1 H1 ds a->IsDs K m H1 ds a
 |[],_,_,_,h=>by rw[h.nil]; exact qz9
 |d::ds,_,_,h0,h=>by
  obtain⟨x,r,rfl,q,t⟩:=h.cons;obtain⟨b,e,rfl,f,c⟩:=h0.cons;exact qzm (qxi s d b x f q) (qqp s ds e r c t)
end
theorem qj2(s:Sub m m1):∀(kvs:L (D×D)) (xs a:L (Key×V)),IsKV K m H kvs xs->IsKV K m1 H1 kvs a->IsKV K m H1 kvs a
 |[],_,_,_,h=>h
 |p::r,_,_,⟨n,v0,d,o,j,b,c⟩,⟨k,v,f,e,l,g,i⟩=>⟨k,v,f,e,l,qxi s _ _ _ b g,qj2 s r _ _ c i⟩
theorem qj3(s:Sub m m1):∀(kvs:L (L J×D)) (xs a:L (L Key×V)),IsKT K m H kvs xs->IsKT K m1 H1 kvs a->IsKT K m H1 kvs a
 |[],_,_,_,h=>h
 |p::r,_,_,⟨v0,d,j,b,c⟩,⟨v,f,e,g,i⟩=>⟨v,f,e,qxi s _ _ _ b g,qj3 s r _ _ c i⟩
theorem qwb(s:Sub m m1):∀(fs:L (Y5×D)) (ys a:L (Y5×V)),IsFs K m H fs ys->IsFs K m1 H1 fs a->IsFs K m H1 fs a
 |[],_,_,_,h=>h
 |p::r,_,_,⟨v0,d,j,b,c⟩,⟨v,f,e,g,i⟩=>⟨v,f,e,qxi s _ _ _ b g,qwb s r _ _ c i⟩
def qhk(s:Sub m m1)(f:IsC K m H c a)(h:IsC K m1 H1 c a):IsC K m H1 c a:=by
 cases c with
 |lst w ds=>
  cases w with
  |true=>
   obtain⟨xs,e,q⟩:=h;obtain⟨d,_,b⟩:=f;exact⟨xs,e,qqp s _ _ _ b q⟩
  |false=>
   obtain⟨xs,e,q⟩:=h;obtain⟨d,_,b⟩:=f;exact⟨xs,e,qqp s _ _ _ b q⟩
 |dic w kvs=>
  cases w with
  |true=>
   obtain⟨xs,e,q⟩:=h;obtain⟨d,_,b⟩:=f;exact⟨xs,e,qj2 s _ _ _ b q⟩
  |false=>
   obtain⟨o,xs,e,q⟩:=h;obtain⟨_,d,_,b⟩:=f;exact⟨o,xs,e,qj2 s _ _ _ b q⟩
 |obj C fs=>
  obtain⟨dx,ys,e,q⟩:=h;obtain⟨_,g,_,b⟩:=f;exact⟨dx,ys,e,qwb s _ _ _ b q⟩
 |tdc w kvs=>
  cases w with
  |true=>
   obtain⟨xs,e,q⟩:=h;obtain⟨d,_,b⟩:=f;exact⟨xs,e,qj3 s _ _ _ b q⟩
  |false=>
   obtain⟨o,xs,e,q⟩:=h;obtain⟨_,d,_,b⟩:=f;exact⟨o,xs,e,qj3 s _ _ _ b q⟩
def pre_at{st st0:Y4}(h:st0.take st.length=st){l:Y0}(e:st[l]?=Y c):st0[l]?=Y c:=by
 have hl:=(Qqj.mp e).1;rw[<- h,Qx1,Z6 hl]at e;exact e
def Rel.cutBack{st:Y4}(d:Rel K m st H)(g:Rel K m1 st0 H1)(s:Sub m m1)(h:st0.take st.length=st)(t:Tr H1 H2)(f:∀(l:Y0) (c:Ya) (a:Y7),st[l]?=Y c->m[l]?=Y a->Wr c=O->H2 a=H1 a):Rel K m st H2:=
 ⟨d.len,d.nd,λl c a e b=>qjy (Sub.refl m) t (qhk s (d.cell l c a e b) (g.cell l c a (pre_at h e) (s l a b))) λw=>f l c a e b w⟩
mutual
theorem qvb(s:Sub m m1):∀(d:D) (v:V),M.lt m.length d=O->IsD K m1 H d v->IsD K m H d v
 |.non,_,_,h=>h
 |.bl _,_,_,h=>h
 |.int _,_,_,h=>h
 |.str _,_,_,h=>h
 |.tup ds,_,hl,h=>by
  unfold M.lt at hl;obtain⟨a,xs,rfl,q,r⟩:=h.tup;exact qq3 q (qxg s ds xs hl r)
 |.lst ds,_,hl,h=>by
  unfold M.lt at hl;obtain⟨a,xs,rfl,q,r⟩:=h.lst;exact qbl q (qxg s ds xs hl r)
 |.loc l,_,hl,h=>by
  unfold M.lt at hl;obtain⟨a,e,rfl⟩:=h.loc;have hl:l<m.length:=by simpa[Nat.blt_eq] using hl
  have c:m[l]?=Y m[l]:=by simp
  have b:=s l _ c;rw[e]at b;cases b;exact qhz c
 |.fup ks,_,_,h=>by obtain⟨a,rfl,e⟩:=h.fup; exact qhq e
theorem qxg(s:Sub m m1):∀(ds:L D) (xs:L V),M.lts m.length ds=O->IsDs K m1 H ds xs->IsDs K m H ds xs
 |[],_,_,h=>h
 |d::ds,_,hl,h=>by
  unfold M.lts at hl;rw[Qqs]at hl;obtain⟨x,r,rfl,q,t⟩:=h.cons;exact qzm (qvb s d x hl.1 q) (qxg s ds r hl.2 t)
end
theorem qvy(s:Sub m m1):∀(kvs:L (D×D)) (xs:L (Key×V)),(kvs.all λp=>M.lt m.length p.2)=O->IsKV K m1 H kvs xs->IsKV K m H kvs xs
 |[],_,_,h=>h
 |p::r,_,hl,⟨k,v,a,e,d,b,c⟩=>by
  rw[Qzl,Qqs]at hl;exact⟨k,v,a,e,d,qvb s _ _ hl.1 b,qvy s r a hl.2 c⟩
theorem qva(s:Sub m m1):∀(kvs:L (L J×D)) (xs:L (L Key×V)),(kvs.all λp=>M.lt m.length p.2)=O->IsKT K m1 H kvs xs->IsKT K m H kvs xs
 |[],_,_,h=>h
 |p::r,_,hl,⟨v,a,e,b,c⟩=>by
  rw[Qzl,Qqs]at hl;exact⟨v,a,e,qvb s _ _ hl.1 b,qva s r a hl.2 c⟩
theorem qat(s:Sub m m1):∀(fs:L (Y5×D)) (ys:L (Y5×V)),(fs.all λp=>M.lt m.length p.2)=O->IsFs K m1 H fs ys->IsFs K m H fs ys
 |[],_,_,h=>h
 |p::r,_,hl,⟨v,a,e,b,c⟩=>by
  rw[Qzl,Qqs]at hl;exact⟨v,a,e,qvb s _ _ hl.1 b,qat s r a hl.2 c⟩
def qnh(s:Sub m m1)(b:M.ltC m.length c=O)(h:IsC K m1 H c a):IsC K m H c a:=by
 cases c with
 |lst w ds=>
  cases w with
  |true=>obtain⟨xs,e,q⟩:=h; exact⟨xs,e,qxg s _ _ b q⟩
  |false=>obtain⟨xs,e,q⟩:=h; exact⟨xs,e,qxg s _ _ b q⟩
 |dic w kvs=>
  cases w with
  |true=>obtain⟨xs,e,q⟩:=h; exact⟨xs,e,qvy s _ _ b q⟩
  |false=>obtain⟨o,xs,e,q⟩:=h; exact⟨o,xs,e,qvy s _ _ b q⟩
 |obj C fs=>obtain⟨dx,ys,e,q⟩:=h; exact⟨dx,ys,e,qat s _ _ b q⟩
 |tdc w kvs=>
  cases w with
  |true=>obtain⟨xs,e,q⟩:=h; exact⟨xs,e,qva s _ _ b q⟩
  |false=>obtain⟨o,xs,e,q⟩:=h; exact⟨o,xs,e,qva s _ _ b q⟩
def GcOk(st st0:Y4):Prop:=(st0.take st.length).all (M.ltC st.length)=O\/st0.take st.length=st
def gc_el{st:Y4}(e:M.gcD st p=q):p=q\/(GcOk st p.2/\M.gcX st.length p=q):=by
 unfold M.gcD at e
 split at e
 ·rename_i h; exact .inr ⟨.inl h,e⟩
 ·split at e
  ·rename_i h; exact .inr ⟨.inr h,e⟩
  ·exact .inl e
def qje{st0:Y4}(e:(st0.take n)[l]?=Y c):l<n/\st0[l]?=Y c:=by
 rw[Qx1]at e
 split at e
 ·rename_i h; exact⟨h,e⟩
 ·exact nn e
def Rel.cut{st:Y4}(i:Rel K m st H)(d:Rel K m1 st0 H1)(s:Sub m m1)(h:GcOk st st0)(t:Tr H1 H2)(g:∀(l:Y0) (c:Ya) (a:Y7),(st0.take st.length)[l]?=Y c->m[l]?=Y a->Wr c=O->H2 a=H1 a):Rel K m (st0.take st.length) H2:=by
 rcases h with h|h
 ·have n:=i.len;have o:m.length<=m1.length:=by
   rcases Qz7 m1.length m.length with z|z
   ·have f:m[m1.length]?=Y (m[m1.length]'z):=by simp
    have:=(Qqj.mp (s _ _ f)).1
    lia
   ·exact z
  have h1:=d.len;refine⟨by rw[Qzz]; lia,λl k a c u r f q p w j=>d.nd l k a c u (s _ _ r) (s _ _ f) (qje q).2 (qje p).2 w j,λl c a e b=>?_⟩;refine qjy (Sub.refl m) t (qnh s ?_ (d.cell l c a (qje e).2 (s l a b))) λw=>g l c a e b w;have:=Qzj.mp h c (Qqf e);rw[n]; exact this
 ·rw[h];exact i.cutBack d s h t λl c a e b w=>g l c a (by rw[h]; exact e) b w
end
section
def qkn(I:Inv X d g H s)(h:H a=Y (.lst xs)):∃o,Inv X d g (upd H a (.frz o (.lst xs))) s:=by
 obtain⟨z,f,n,r,e⟩:=id (I.hok a _ h);refine⟨{ cls:=.type "list",data:=.seq f.toArray n },I.un ⟨λb o q _ _ _=>q,λb o q _ _ _=>⟨o.slots,q⟩,λb o q hn _=>?_,λb o q _=>⟨o,q⟩,λb ys q=>?_,λb o u q=>?_,λb ps q=>⟨#[],?_⟩⟩ ?_⟩
 ·rw[qzq (λz=>by subst z; rw[h]at hn; cases hn)];exact hn
 ·rw[qzq (qzr q h (by intro z; cases z))]; exact q
 ·rw[qzq (qzr q h (by intro z; cases z))]; exact q
 ·rw[qzq (qzr q h (by intro z; cases z)),q]; simp
 ·intro b u q
  by_cases i:b=a
  ·subst i;rw[qzk]at q;cases q;exact⟨e,z,f,n,r,e⟩
  ·rw[qzq i]at q;refine(I.hok b u q).stay (λc v _ w=>w) (λc w=>?_) λc ys w=>?_
   ·rw[qzq (qzr w h (by intro z; cases z))]; exact w
   ·rw[qzq (qzr w h (by intro z; cases z))]; exact w
inductive Di:HO->Prop
 |k (xs:L (Key×V)):Di (.dK xs)
 |t (xs:L (L Key×V)):Di (.dT xs)
def Di.ne(h:Di u):(∀ys,HO.tup ys≠u)/\(∀o v,HO.frz o v≠u)/\(∀p,HO.own p≠u)/\∀ps,HO.tbl ps≠u:=by
 cases h<;>exact⟨λ_ z=>(by cases z),λ_ _ z=>(by cases z),λ_ z=>(by cases z),λ_ z=>(by cases z)⟩
def qni(g:Di u)(I:Inv X d f H s)(h:H a=Y u):∃o,s.heap.get? a=Y o/\Inv X d f (upd H a (.frz o u)) s:=by
 obtain⟨n1,n2,l,j⟩:=g.ne;have ok:=I.hok a _ h;obtain⟨o,e⟩:∃o,s.heap.get? a=Y o:=by
  cases g<;>(obtain⟨_,_,vs,_,o,es,m,e,_⟩:=ok; exact⟨o,e⟩)
 have st:∀{b:Y7}{v:HO},ObjOk X.prog X.w H s.heap b v->ObjOk X.prog X.w (upd H a (.frz o u)) s.heap b v:=λk=>k.stay (λc v _ w=>w) (λc w=>by rw[qzq (qzr w h (l _))]; exact w) λc ys w=>by rw[qzq (qzr w h (n1 _))]; exact w
 refine⟨o,e,I.un ⟨λb o q _ _ _=>q,λb o q _ _ _=>⟨o.slots,q⟩,λb o q hn _=>?_,λb o q _=>⟨o,q⟩,λb ys q=>?_,λb o u q=>?_,λb ps q=>⟨#[],?_⟩⟩ ?_⟩
 ·rw[qzq (λz=>by subst z; rw[h]at hn; cases hn)];exact hn
 ·rw[qzq (qzr q h (n1 _))]; exact q
 ·rw[qzq (qzr q h (n2 _ _))]; exact q
 ·rw[qzq (qzr q h (j _)),q]; simp
 ·intro b u q
  by_cases i:b=a
  ·subst i;rw[qzk]at q;cases q;exact⟨e,st ok⟩
  ·rw[qzq i]at q;exact st (I.hok b u q)
def NoFz(X:Cx)(a:Y7):Prop:=∀o u,X.H₀ a≠Y (.frz o u)
def qm2(d:Di u)(I:Inv X b c H s)(h:H a=Y u):NoFz X a:=λo v z=>by
 have:=I.base.frzs a o v z;rw[h]at this;exact absurd (Option.some.inj this).symm (d.ne.2.1 o v)
def qau(I:Inv X e g H s)(j:NoFz X a)(h:H a=Y (.frz o u)):Inv X e g (upd H a u) s:=by
 have ok:=I.hok a _ h;have d:∀{b:Y7},H b=B->(upd H a u) b=none:=λ{b} q=>by
  rw[qzq (λz=>by subst z; rw[h]at q; cases q)];exact q
 have st:∀{b:Y7}{v:HO},ObjOk X.prog X.w H s.heap b v->ObjOk X.prog X.w (upd H a u) s.heap b v:=λk=>k.stay (λc v _ w=>w) (λc w=>by rw[qzq (qzr w h (by intro z; cases z))]; exact w) λc ys w=>by rw[qzq (qzr w h (by intro z; cases z))]; exact w
 refine⟨I.ok,I.os,I.bare,⟨I.base.keep,I.base.slot,λb o q hn l=>d (I.base.free b o q hn l),I.base.there,λb ys q=>?_,λb o u q=>?_,λb ps q=>?_⟩,I.loc,I.cell,d I.free,λx c q=>d (I.freeC x c q),λp hp=>?_,?_,I.len⟩
 ·have:=I.base.tups b ys q;rw[qzq (qzr this h (by intro z; cases z))]; exact this
 ·have:=I.base.frzs b o u q
  by_cases f:b=a
  ·subst f; exact absurd q (j o u)
  ·rw[qzq f]; exact this
 ·obtain⟨more,this⟩:=I.base.tbls b ps q;exact⟨more,by rw[qzq (qzr this h (by intro z; cases z))]; exact this⟩
 ·obtain⟨p1,p2,i⟩:=I.pin p hp;exact⟨p1,d p2,i⟩
 ·intro b u q
  by_cases f:b=a
  ·subst f;rw[qzk]at q;cases q;exact st ok.2
  ·rw[qzq f]at q;exact st (I.hok b u q)
def Tr.lay(c:H a=Y (.lst xs)):Tr H (upd H a (.frz o (.lst xs))):=
 ⟨λb zs e=>by rw[qzq (qzr e c (by intro z; cases z))]; exact e,λb o u e=>by rw[qzq (qzr e c (by intro z; cases z))]; exact e⟩
def pe_gc(E:PE X p (tD X.K f)):PE X p (tD X.K λτ st=>(f τ st).map λq=>M.gcD st q):=by
 intro pins s σ H Q I h;refine h.el λm st τ d st' j P e q=>?_;obtain⟨⟨y,st0⟩,N,K⟩:=mapD e;refine thn (E pins s σ H (λv H1=>∃m1,Sub m m1/\Tr H H1/\Rel X.K m1 st0 H1/\MS.IsD X.K m1 H1 y v) I (rsI j P N λv m1 H1 b1 t1 b g=>⟨m1,b1,t1,b,g⟩)) λv s1 ⟨x,H1,k,i,m1,b1,t1,b,g⟩=>?_;have plain:(y,st0)=(d,st')->EP X pins σ Q v s1:=λz=>by
  cases z;exact⟨x,H1,k,i,q x m1 H1 b1 t1 b g⟩
 rcases gc_el K with z|⟨ok,z⟩
 ·exact plain z
 ·unfold M.gcX at z
  split at z
  ·rename_i hn;cases z;exact⟨x,H1,k,i,q x m H1 (Sub.refl m) t1 (j.cut b b1 ok (Tr.refl H1) λ_ _ _ _ _ _=>rfl) (qez _ _ hn g)⟩
  ·split at z
   ·rename_i l hd;simp only at hd
    split at z
    ·rename_i hl
     split at z
     ·rename_i ds t
      split at z
      ·rename_i hn;cases z;subst hd;obtain⟨a,u,rfl⟩:=g.loc;obtain⟨xs,r,C⟩:=b.cell l _ a t u;obtain⟨o,R⟩:=qkn k r;have t2:=Tr.lay (o:=o) r;refine⟨.ref a,_,R,i,q _ m _ (Sub.refl m) (t1.trans t2) (j.cut b b1 ok t2 λn c A e G w=>?_) ?_⟩
       ·refine qzq λz=>?_;subst z;have F:=qje e;have:=b.nd n l A c _ (b1 n A G) u F.2 t w rfl
        lia
       ·exact qbl (.inl ⟨o,qzk⟩) (qj4 _ _ hn (qze (Sub.refl m1) t2 _ _ C))
      ·exact plain z
     ·exact plain z
    ·exact plain z
   ·exact plain z
end
end MS
end
section
namespace MS
open PySem PySem.Spec PyProof.Rows L2
open M (D Ya Y4 Sl)
def qwv(l)(a)(n)(b)(items2)(n2)(f)(c)(k:¬(!a.isEmpty&&Builtin.List.listTooLong (a.size+items2.size))=O)(j:a.size<=sizeLine)(e:a.size+items2.size<=sizeLine+1):
  Meets (Qs.«list.extend» ⟨[.ref l,.ref b],[]⟩) (λ_ R s=>s.heap.get? l=Y { cls:=.type "list",dict:=B,data:=.seq a n,slots:=#[] }/\s.heap.get? b=Y { cls:=.type "list",dict:=f,data:=.seq items2 n2,slots:=c }/\R (.ok (.ret Value.none)) { s with heap:=s.heap.update l (Obj.mapSeq λx=>x++items2),toks:=s.toks }):=
 .of_wp λprog w A R s h=>by
  obtain⟨hp,g,d,tk,os⟩:=s; obtain⟨hl,m,h⟩:=h; have t:=AutoSeq1.idx_int; have r:=AutoSeq1.sub_tuple_tuple; have q:=AutoSeq1.sub_list_list; have p:=AutoSeq1.sub_tuple_list; have o:=AutoSeq1.sub_list_tuple;have i:(a++items2).size<=sizeLine+1:=by rw[Qju]; exact e
  wp_walk using (wpAny_updateSeq hl rfl),Zy hl,Zy m; exact⟨_,rfl,h⟩
def qww(l)(a)(n)(b)(items2)(n2)(f)(c)(k:¬(!a.isEmpty&&Builtin.List.listTooLong (a.size+items2.size))=O)(j:a.size<=sizeLine)(e:a.size+items2.size<=sizeLine+1):
  Meets (Qs.«list.extend» ⟨[.ref l,.ref b],[]⟩) (λ_ R s=>s.heap.get? l=Y { cls:=.type "list",dict:=B,data:=.seq a n,slots:=#[] }/\s.heap.get? b=Y { cls:=.type "tuple",dict:=f,data:=.seq items2 n2,slots:=c }/\R (.ok (.ret Value.none)) { s with heap:=s.heap.update l (Obj.mapSeq λx=>x++items2),toks:=s.toks }):=
 .of_wp λprog w A R s h=>by
  obtain⟨hp,g,d,tk,os⟩:=s; obtain⟨hl,m,h⟩:=h; have t:=AutoSeq1.idx_int; have r:=AutoSeq1.sub_tuple_tuple; have q:=AutoSeq1.sub_list_list; have p:=AutoSeq1.sub_tuple_list; have o:=AutoSeq1.sub_list_tuple;have i:(a++items2).size<=sizeLine+1:=by rw[Qju]; exact e
  wp_walk using (wpAny_updateSeq hl rfl),Zy hl,Zy m; exact⟨_,rfl,h⟩
section
def qbh:MtM X "list.extend" (λx xs H Q=>∃m st a ds d st',Rel X.K m st H/\MS.IsD X.K m H a x/\IsDs X.K m H ds xs/\M.mExtend st a ds=Y (d,st')/\Post X.K m H d st' Q):=by
 intro pins s σ H x xs v us Q I R S h;obtain⟨m,st,a,ds,d,st',C,W,V,e,q⟩:=h;unfold M.mExtend at e
 split at e
 ·refine qzx e λa1 e1 e=>qzx e λes G e=>?_
  split at e
  ·rename_i hl;have q:=q.of e;obtain⟨p,ys,P,rfl,hp,D,hs⟩:=C.wlist e1 W;obtain⟨y,rfl,N⟩:=V.one;have l1:=D.length;have l2:=qqc;cases R;obtain⟨u,rfl,K⟩:=S.one;obtain⟨z,c,n,r,a0,l⟩:=I.lstM hp
   split at G
   ·rename_i ts;cases G;obtain⟨b,zs,rfl,E,t⟩:=N.tup;cases K;obtain⟨its2,o,⟨⟨A,j,k,g⟩,h1,h2,n2,w⟩,_⟩:=I.tuple E;simp only at h2 w;subst h2 w;have U:=t.length;have T:=o.length;have i:c.toArray.size+its2.toArray.size<=sizeLine:=by rw[Qqd,Qqd]; lia
    have f:¬ (!c.toArray.isEmpty&&Builtin.List.listTooLong (c.toArray.size+its2.toArray.size))=true:=by
     rw[qab i,Bool.and_false];exact Qqu
    refine Qt F.slot_list_extend ⟨_,l,rfl⟩ F.entry_list_extend (F.args_list_extend_2 _ _) (qww p c.toArray n b its2.toArray n2 j g f (by rw[Qqd]; lia) (by lia)) ⟨l,h1,?_⟩;refine⟨.non,_,I.lset hp l (by simp) (r.append o) ?_,rfl,?_⟩
    ·rw[Qqh]; lia
    ·exact q _ m _ (Sub.refl m) (Tr.put hp) (C.put hs P hp (D.append t)) qvq
   ·obtain⟨b,zs,_,rfl,E,t⟩:=C.seq G N;cases K;obtain⟨its2,o,⟨⟨A,j,k,g⟩,n2,h1,h2,h4,w⟩,_⟩:=I.list E;simp only at h2 w;subst h2 w;have U:=t.length;have T:=o.length;have i:c.toArray.size+its2.toArray.size<=sizeLine:=by rw[Qqd,Qqd]; lia
    have f:¬ (!c.toArray.isEmpty&&Builtin.List.listTooLong (c.toArray.size+its2.toArray.size))=true:=by
     rw[qab i,Bool.and_false];exact Qqu
    refine Qt F.slot_list_extend ⟨_,l,rfl⟩ F.entry_list_extend (F.args_list_extend_2 _ _) (qwv p c.toArray n b its2.toArray n2 j g f (by rw[Qqd]; lia) (by lia)) ⟨l,h1,?_⟩;refine⟨.non,_,I.lset hp l (by simp) (r.append o) ?_,rfl,?_⟩
    ·rw[Qqh]; lia
    ·exact q _ m _ (Sub.refl m) (Tr.put hp) (C.put hs P hp (D.append t)) qvq
  ·exact nn e
 ·exact nn e
def qdh(hu:X.A.units+64<cLine):MtM X "list.index" (λx xs H Q=>∃m st a ds d st',Rel X.K m st H/\MS.IsD X.K m H a x/\IsDs X.K m H ds xs/\M.mIndex st a ds=Y (d,st')/\Post X.K m H d st' Q):=by
 intro pins s σ H x xs v us Q I G N h;obtain⟨m,st,a,ds,d,st',E,W,V,e,q⟩:=h;unfold M.mIndex at e
 split at e
 ·rename_i x0;refine qzx e λf e1 e=>?_
  split at e
  ·rename_i hf;rw[Qqs]at hf;refine qzg e λj e2 e3=>?_;cases e3;obtain⟨y,rfl,U⟩:=V.one;obtain⟨u,rfl,K⟩:=N.one;obtain⟨b,zs,_,rfl,hq,g⟩:=E.seq e1 W;cases G;obtain⟨c,r,⟨⟨cls,dd,D,sl⟩,n,h1,h2,h4,z⟩,hz⟩:=I.list hq;simp only at h2 z;subst h2 z;have l3:=g.length;have l4:=r.length;obtain⟨hj,l,o⟩:=List.findIdx?_eq_some_iff_getElem.mp e2;have a0:(sizeLine:Y0)<2 ^ 40:=by decide
   have i:X.A.in1.units+9<cLine:=by have hz:X.A.in1.units=X.A.units+1:=rfl; lia
   obtain⟨C,w⟩:=qfm I X.A.in1 i hf.1 U K;obtain⟨T,k2⟩:=w f zs c hf.2 g r;have at_:∀k (t:k<c.length),C c[k]=M.eqT f[k] x0:=λk t=>by
    have A:f[k]?=Y f[k]:=by simp
    obtain⟨x1,w1,R⟩:=g.get A;obtain⟨u1,w2,P⟩:=r.get w1;have e5:c[k]=u1:=by
     have:c[k]?=Y c[k]:=by simp
     rw[w2]at this;exact(Option.some.inj this).symm
    rw[e5];obtain⟨_,S⟩:=w [f[k]] [x1] [u1] (by simp[Qzj.mp hf.2 _ (Qqf A)]) (qzm R qz9) (.cons P .nil);simpa using S
   refine Qt F.slot_list_index ⟨_,h1,rfl⟩ F.entry_list_index (F.args_list_index_2 _ _) (SeqAt.list_indexAt b c.toArray n dd sl u C j (by rw[Qqd]; lia) (by lia) ?_ ?_) ⟨h1,λy hy=>T y (by simpa using hy),?_⟩
   ·rw[Qjc,at_ j (by lia)];exact l
   ·intro k t p;rw[Qjc,at_ k (by simpa using t)];simpa using o k p
   ·exact⟨.int j,H,I.tok _,⟨_,rfl⟩,q.here E (mkInt _)⟩
  ·exact nn e
 ·exact nn e
def qbg:MtM X "list.insert" (λx xs H Q=>∃m st a ds d st',Rel X.K m st H/\MS.IsD X.K m H a x/\IsDs X.K m H ds xs/\M.mInsert st a ds=Y (d,st')/\Post X.K m H d st' Q):=by
 intro pins s σ H x xs v T Q I y A h;obtain⟨m,st,a,ds,d,st',w,D,C,e,q⟩:=h;unfold M.mInsert at e
 split at e
 ·rename_i l i d0;refine qzx e λS R e=>?_
  split at e
  ·rename_i hl;have q:=q.of e;obtain⟨p,ys,G,rfl,hp,o,hs⟩:=w.wlist R D;obtain⟨y1,y2,rfl,k,j⟩:=C.two;cases k.int;have W:=o.length;have V:=qqc;cases y;obtain⟨U,u2,rfl,g,f⟩:=A.two;obtain⟨t,rfl⟩:=g;obtain⟨z,b,n,r,K,u⟩:=I.lstM hp;have E:(sizeLine:Y0)<2 ^ 40:=by decide
   have c:¬ (!Builtin.List.listFitsIndex i)=true:=by
    have h1:=hl.1;have h2:i<2 ^ 62:=by lia
    simp only[Builtin.List.listFitsIndex,Bool.not_eq_true',Bool.not_eq_false];have:i<9223372036854775808:=by lia
    have:(-9223372036854775808:J)<=i:=by lia
    simp[*]
   refine Qt F.slot_list_insert ⟨_,u,rfl⟩ F.entry_list_insert (F.args_list_insert_3 _ _ _) (AutoSeq1.list_insert_list_int_val_1 p b.toArray n i t u2 c (by rw[Qqd]; lia)) ⟨u,?_⟩;refine⟨.non,_,I.lset (its':=b.take i.toNat++u2::b.drop i.toNat) hp u ?_ ((r.take _).append (.cons f (r.drop _))) ?_,rfl,?_⟩
   ·have P:¬ i<0:=by lia
    have N:min i.toNat b.length=i.toNat:=by lia
    rw[Z5 P,Qqd,N];apply Array.ext';simp;exact Qxi (by rw[Qx9]; lia)
   ·rw[Qqh,Qqi,Qzz,Qx9]; lia
   ·exact q _ m _ (Sub.refl m) (Tr.put hp) (w.put hs G hp ((o.take _).append (qzm j (o.drop _)))) qvq
  ·exact nn e
 ·exact nn e
end
section
noncomputable def Itd(a:Y7)(o:Obj)(xs:L (Key×V)):It:=
 ⟨λi H=>H a=Y (.frz o (.dK xs))/\i<xs.length,λi H x H'=>H'=H/\∃p,xs[i]?=Y p/\x=kV p.1,λi H=>H a=Y (.frz o (.dK xs))/\xs.length<=i⟩
def qa2(I:Inv X b d H s)(h:H a=Y (.frz o (.dK xs)))(hd:o.data=.dict es ep):∃vs,KV xs vs/\s.heap.DictAt (mixKind X.prog X.w) a vs ep:=by
 obtain⟨h1,_,_,vs,e,o',g,i,h2,f,c,r⟩:=I.hok a _ h;rw[h1]at h2;cases h2;rw[hd]at c;cases c;exact⟨vs,e,o,es,h1,f,hd,r⟩
def qcw{K:Qqq}(a it)(o)(xs)(hd:o.data=.dict es W):Turn P w K tg (Itd a o xs) [it] it (λi h=>h.IsKeyIter it a i xs.length W) where
 mem:=by simp
 obj:=λi h st b f=>by
  have e:b=it:=by simpa using f
  subst e;obtain⟨o,e,c,d⟩:=st;exact⟨o,e,λv z=>by rw[d]at z; cases z⟩
 keep:=λi h h' st k=>st.at λo e=>k it (by simp) o e
 item:=by
  intro X y r A U i pins s σ H E I hf st x;subst y r A;obtain⟨C,hi⟩:=x;obtain⟨vs,n,S⟩:=qa2 I C hd;obtain⟨Q,N,f2,G,F,D⟩:=hf it (by simp);have hl:=n.length;obtain⟨⟨k,u⟩,T⟩:∃q,vs[i]?=Y q:=⟨vs[i]'(by lia),by simp⟩
  have hp:xs[i]?=Y xs[i]:=by simp
  have hk:xs[i].1=k:=by
   have g:=congrArg (λl:L Key=>l[i]?) n.keys;simp only[Qqw,T,hp,oMs,Option.some.injEq]at g;exact g
  rw[hl]at st;refine wpAny_pyNext_dict_item st S T λp h' m st' sb=>?_;have I1:=I.turned (t':=s.toks) (λb o f e=>(sb.2 b f).trans e) Q N G F D;obtain⟨o1,e,c,d⟩:=id st';rw[<- hl]at st';refine⟨p,rfl,qeb e c d (by decide) ⟨kV xs[i].1,H,I1,?_,⟨rfl,xs[i],hp,rfl⟩,st',λb f=>(hf b f).1⟩⟩;rw[hk];rcases qzi m with⟨j,t,g,R⟩|⟨z,t,g,R⟩
  ·subst g R; exact⟨t,rfl⟩
  ·subst g R; exact⟨t,rfl⟩
 done:=by
  intro X y r A U i pins s σ H E I hf st x;subst y r A;obtain⟨C,hi⟩:=x;obtain⟨vs,n,S⟩:=qa2 I C hd;obtain⟨Q,N,f2,G,F,D⟩:=hf it (by simp);have hl:=n.length;rw[hl]at st;exact wpAny_pyNext_dict_end (I.ok.hd U) st S (Qzf.mpr (by lia)) λh' eb=>⟨rfl,I.turned (λb o f e=>eb b o f e) Q N G F D⟩
 self:=λ_ _ _ _ _ st h=>wpAny_pyIter_keyiter st h
noncomputable def iDict(X:Cx)(tl:TE):TI:=λσ H R=>tl σ H λx H1=>∃a xs,x=.ref a/\H1 a=Y (.dK xs)/\∀o,NoFz X a->R (Itd a o xs) (upd H1 a (.frz o (.dK xs)))
def qmv(m:PE X l tl):PI X tg l (iDict X tl):=by
 intro pins s σ H R I h;refine thn (m pins s σ H _ I h) λv c ⟨x,H1,g,j,a,xs,e,d,q⟩=>?_;subst e;cases j;obtain⟨o,i,f⟩:=qni (.k _) g d;obtain⟨_,lo,vs,k,o',es,t,h2,p,hd,r⟩:=g.hok a _ d;rw[i]at h2;cases h2;have hn:=k.length;refine wpAny_pyIter_dict lo ⟨o,es,i,p,hd,r⟩ ?_;refine⟨c.heap.objs.size,[c.heap.objs.size],_,_,_,rfl,f.kept λb o e=>Qqx _ e,qcw a _ o xs hd,⟨_,Qqg _ rfl,rfl,by rw[hn]; rfl⟩,λb n=>?_,q o (qm2 (.k _) g d)⟩;have e:b=c.heap.objs.size:=by simpa using n
 subst e;exact f.fpOk (Qqk _) (f.hok.fresh (Qqk _))
noncomputable def thawE(X:Cx)(Dn:Ends):Ends:=
 ⟨λσ H=>∃a o xs,NoFz X a/\H a=Y (.frz o (.dK xs))/\Dn.nx σ (upd H a (.dK xs)),λv H=>∃a o xs,NoFz X a/\H a=Y (.frz o (.dK xs))/\Dn.rt v (upd H a (.dK xs)),λ_ _=>False,λ_ _=>False⟩
def ql8(j:PassesOwn (model X.prog X.w) X.A X.env X.xe)(n:X.calm=O)(k:PE X l tl)(m:PG X tg g)(p:PSs X body tb)(i:∀x,foldedSetIterable l X.env x=pure x):
  PS X (.For tg l body [] pos) (λf σ H=>tFor (iDict X tl) g tb (thawE X f) σ H):=by
 intro pins s σ H f I h;refine thn (qij j n (qmv k) m p i pins s σ H (thawE X f) I h) λt w q=>?_
 cases t with
 |next=>
  obtain⟨b,H1,d,a,o,xs,c,e,q⟩:=q;exact⟨b,_,qau d c e,q⟩
 |ret u=>
  obtain⟨v,b,H1,d,r,a,o,xs,c,e,q⟩:=q;exact⟨v,b,_,qau d c e,r,q⟩
 |brk=>obtain⟨_,_,_,z⟩:=q; exact z.elim
 |cont=>obtain⟨_,_,_,z⟩:=q; exact z.elim
end
end MS
end
section
namespace MS
open PySem PySem.Spec PyProof.Rows L2
section
def qhf{k:RK}{i:Y0}(z:IsEnum s.heap (n+1) n i old)(V:k.It s.heap n l i)(P:k.Sq s.heap l xs)(T:xs[i]?=Y x)(U:∀h',IsEnumOut h' (n+1) n ((i:J)+1) x s.heap.objs.size->k.It h' n l (i+1)->IsPair h' s.heap.objs.size (.int i s.toks) x->
   (∀c o,c≠n+1->c≠n->s.heap.get? c=Y o->h'.get? c=Y o)->Q (Y (.ref s.heap.objs.size)) { s with heap:=h',toks:=s.toks+1 }):
  wpAny (model prog w) A (pyNext (.ref (n+1))) Q E s:=by
 have N:s.TypeIs (.ref (n+1)) "enumerate":=⟨_,z,rfl⟩
 have d:=Qq3 (Qzb n);unfold pyNext;refine Qq (Q4 (Qc N F.slot_enumerate_next (Qe F.slot_enumerate_next N F.entry_enumerate_next ?_ (F.args_enumerate_next_1 _))));show wpAny _ _ (field (.ref (n+1)) 2 >>= _) _ _ _;refine Qq (Qw z rfl rfl ?_);refine Qq (qxn V P T λg1 S D c1=>?_);have r:=D _ _ d.symm z;refine Qq (Qw r rfl rfl ?_);refine Qq (Qw r rfl rfl ?_);refine Qq (wpAny_mkInt ?_);refine Qq (Qy r (by simp) λg2 q v=>?_)
 replace q:IsEnum g2 (n+1) n ((i:J)+1) old:=q
 refine Qq (Qy q (by simp) λf h u=>?_)
 replace h:IsEnum f (n+1) n ((i:J)+1) old:=h
 refine Qq (wpAny_newTuple ?_);have sz:=u.1.trans (v.1.trans c1);have t:∀c o,c≠n+1->c≠n->s.heap.get? c=Y o->f.get? c=Y o:=λc o a b e=>u.extBut _ _ a (v.extBut _ _ a (D _ _ b e));have R:=S.on λo e=>u.extBut _ _ d (v.extBut _ _ d e);have y:=Qqe h;have p:IsEnum (f.push { cls:=.type "tuple",data:=.seq #[.int i s.toks,x] }) (n+1) n ((i:J)+1) old:=Qqx _ h;refine Qq ?_;unfold Builtin.SmallTypes.ownedTupleIsFree;refine Qq (Qw p rfl rfl (Qj ?_));simp only[if_true];refine Qq (Zz ?_);refine Qq (Qw p rfl rfl ?_);refine Qq (Qy p (by simp) λX m I=>?_)
 replace m:IsEnum X (n+1) n ((i:J)+1) x:=m
 refine Qq ?_;unfold Builtin.SmallTypes.ownedTupleHandOut;refine Qq (Qy m (by simp) λW j H=>?_)
 replace j:IsEnumOut W (n+1) n ((i:J)+1) x f.objs.size:=j
 refine Qy j (by simp) λC g G=>?_
 replace g:IsEnumOut C (n+1) n ((i:J)+1) x f.objs.size:=g
 have up:∀c o,c≠n+1->f.get? c=Y o->C.get? c=Y o:=λc o a e=>G.extBut _ _ a (H.extBut _ _ a (I.extBut _ _ a (Qqx _ e)));have K:=G.extBut _ _ (Qxd y) (H.extBut _ _ (Qxd y) (I.extBut _ _ (Qxd y) (Qqg _ rfl)));rw[sz]at g K;refine Qq (wpAny_letGo (Qj ⟨_,rfl,Qj ?_⟩));rw[sz];exact U C g (R.on λo e=>up _ o d e) K λc o a b e=>up c o a (t c o a b e)
def qeo{k:RK}{i:Y0}(j:A.handled=B)(b:IsEnum s.heap (n+1) n i old)(q:k.It s.heap n l i)(g:k.Sq s.heap l xs)(h:xs[i]?=B)(p:∀h',(∀c o,c≠n->s.heap.get? c=Y o->h'.get? c=Y o)->Q B { s with heap:=h' }):wpAny (model prog w) A (pyNext (.ref (n+1))) Q E s:=by
 have d:s.TypeIs (.ref (n+1)) "enumerate":=⟨_,b,rfl⟩
 unfold pyNext;refine Qq (Q4 (Qc d F.slot_enumerate_next (Qe F.slot_enumerate_next d F.entry_enumerate_next ?_ (F.args_enumerate_next_1 _))));show wpAny _ _ (field (.ref (n+1)) 2 >>= _) _ _ _;refine Qq (Qw b rfl rfl ?_);refine Qq (qj7 j q g h λr e f a=>?_);obtain⟨o,a,m⟩:=a;exact Qq (Zm ⟨o,a,m⟩ isSubtype_stop (Qj (p _ f)))
end
noncomputable abbrev eh1(k:RK)(h:Heap)(l:Y7):Heap:=h.push (k.itO l)
noncomputable abbrev eh2(k:RK)(h:Heap)(l:Y7):Heap:=(eh1 k h l).push { cls:=.type "enumerate",data:=.fields #[.none,.bool Y6,.ref h.objs.size,rawInt 0,.none,.none] }
def wp_two[Decidable c]{p q:Sem α}{Q:α->Qz->Prop}(b:wpAny M A p Q E s)(a:wpAny M A q Q E s):wpAny M A (if c then p else q) Q E s:=by
 split
 ·exact b
 ·exact a
def qep(k)(l)(xs):Meets (Qs.«enumerate.__new__» ⟨[.type "enumerate",.ref l],[]⟩) (λ_ R s=>k.Sq s.heap l xs/\R (.ok (.ret (.ref (eh1 k s.heap l).objs.size))) { s with heap:=eh2 k s.heap l }):=
 .of_wp λprog w A R s h=>by
  obtain⟨hp,g,d,tk,os⟩:=s;obtain⟨c,h⟩:=h;have a:=sub_enumerate;have b:=c
  wp_walk using qjw b
  refine wpAny_stack_any λz=>Qj ?_;refine wp_two ?_ ?_<;>(wp_walk using qjw b; exact⟨_,rfl,h⟩)
def EnAt(k:RK)(n l:Y0)(i:Y0)(h:Heap):Prop:=l<n/\(∃old,IsEnum h (n+1) n i old)/\k.It h n l i
def qb3(d:k.Sq s.heap l xs)(b1:l<s.heap.objs.size)(h:∀h',EnAt k s.heap.objs.size l 0 h'->(∀c o,s.heap.get? c=Y o->h'.get? c=Y o)->Q (.ref (s.heap.objs.size+1)) { s with heap:=h' }):wpAny (model prog w) A (call (.type "enumerate") [.ref l]) Q E s:=by
 refine callType_new F.called_enumerate (by decide) (F.typeCall_enumerate_1 _) (F.newCall_enumerate_1 _) (λobj=>F.args_object_init_2 obj _) F.entry_enumerate_new (qep k l xs) ⟨d,?_⟩;have b:(eh1 k s.heap l).objs.size=s.heap.objs.size+1:=Qxz ..;have a:(eh2 k s.heap l).get? (eh1 k s.heap l).objs.size=Y _:=Qqg _ rfl;have f:k.It (eh2 k s.heap l) s.heap.objs.size l 0:=row_new.on λo e=>Qqx _ e;rw[b]at a;rw[b];exact⟨⟨_,a,rfl⟩,h _ ⟨b1,⟨_,a⟩,f⟩ λc o x=>Qqx _ (Qqx _ x)⟩
noncomputable def Ite(K:Qqq)(k:RK)(a:Y7):It:=
 ⟨λi H=>∃xs x,k.sq K H a xs/\xs[i]?=Y x,
  λi H v H'=>∃p x,v=.ref p/\H p=B/\H'=upd H p (.tup [.int i,x])/\∀xs,k.sq K H a xs->xs[i]?=Y x,
  λi H=>∃xs,k.sq K H a xs/\xs.length<=i⟩
noncomputable def fpE(n:Y0):L Y7:=[n+1,n]
def qcv{K:Qqq}(k)(n a):Turn P w K (.Tuple j c pos) (Ite K k a) (fpE n) (n+1) (EnAt k n a) where
 mem:=by simp[fpE]
 obj:=λi h st e G=>by
  obtain⟨b1,⟨old,f⟩,h1⟩:=st;simp only[fpE,Qqy,Qq2,or_false]at G;rcases G with rfl|rfl
  ·exact⟨_,f,λv z=>nomatch z⟩
  ·exact h1.obj
 keep:=λi h h' st q=>by
  obtain⟨b1,⟨old,f⟩,h1⟩:=st;exact⟨b1,⟨old,q _ (by simp[fpE]) _ f⟩,h1.on λo e=>q _ (by simp[fpE]) o e⟩
 item:=by
  intro X C u D N i pins s σ H E I hf st A;subst C u D;obtain⟨xs,x,l,ex⟩:=A;obtain⟨b1,⟨old,f⟩,h1⟩:=st;obtain⟨S,p,m⟩:=qq4 I l;obtain⟨T,y,r⟩:=p.get ex;refine qhf f h1 m (by simpa using y) λh' a1 W V kp=>⟨_,rfl,?_⟩
  refine wpAny_letOwnedTupleGo_enum a1 λQ c1 c2=>?_;have g:=c2.extBut;have lt:∀b∈fpE n,b≠s.heap.objs.size:=λb d z=>by
   have q:b<s.heap.objs.size:=by
    simp only[fpE,Qqy,Qq2,or_false]at d;rcases d with rfl|rfl
    ·exact Qqe f
    ·obtain⟨o,e,_⟩:=h1.obj; exact Qqe e
   rw[z]at q;exact Qz8 _ q
  have U:s.heap.objs.size≠n+1:=λz=>lt (n+1) (by simp[fpE]) z.symm;have I1:Inv X pins σ H { s with heap:=Q,toks:=s.toks+1 }:=Inv.turnedL I (λb o d e=>g _ _ (λz=>d (by simp[fpE,z])) (kp b o (λz=>d (by simp[fpE,z])) (λz=>d (by simp[fpE,z])) e)) hf;have R:=I.hok.fresh (Qqk _);have I2:Inv X pins σ (upd H s.heap.objs.size (.tup [.int i,x])) { s with heap:=Q,toks:=s.toks+1 }:=Inv.track I1 (I.fpOk (Qqk _) R) ⟨by show 2<=sizeLine; decide,[.int i s.toks,T],.cons ⟨_,rfl⟩ (.cons r .nil),⟨_,g _ _ U V,rfl,_,rfl⟩⟩;refine⟨.ref s.heap.objs.size,upd H s.heap.objs.size (.tup [.int i,x]),I2,rfl,⟨_,x,rfl,R,rfl,λzs t=>?_⟩,⟨b1,⟨_,c1⟩,W.on λo e=>g _ o (Qq3 (Qzb n)) e⟩,λb d=>?_⟩
  ·rw[qk8 I t l]; exact ex
  ·rw[qzq (lt b d)]; exact(hf b d).1
 done:=by
  intro X C u D N i pins s σ H E I hf st A;subst C u D;obtain⟨xs,l,F⟩:=A;obtain⟨b1,⟨old,f⟩,h1⟩:=st;obtain⟨S,p,m⟩:=qq4 I l;have lx:=p.length;exact qeo (I.ok.hd N) f h1 m (by simp; lia) λh' kp=>⟨rfl,Inv.turnedL I (λb o d e=>kp b o (λz=>d (by simp[fpE,z])) e) hf⟩
 self:=λ_ _ _ _ _ st h=>by
  obtain⟨_,⟨old,f⟩,_⟩:=st;exact wpAny_pyIter_enum f h
noncomputable def iEnum(K:Qqq)(ta:TA):TI:=λσ H R=>ta σ H λvs H1=>∃(k:RK) (a:Y7),vs=[.ref a]/\(∃xs,k.sq K H1 a xs)/\R (Ite K k a) H1
def qmk(z:Gl X "enumerate")(y:X.mg "enumerate" = B)(A:PA X [a] j)(x:starEach [a] X.env=[(Y6,Qb a X.env)]:=by rfl):
  PI X (.Tuple f c b) (.Call (.Name "enumerate" p) [a] [] pos) (iEnum X.K j):=by
 intro pins s σ H R I h;refine Call_ (qx9 I z y boot_enumerate (PyProof.Rows.callWith_type1 (thn (A pos pins s σ H _ I h) λD g ⟨vs,H1,i,t,v⟩=>?_) x rfl));obtain⟨k,a,e,⟨xs,u⟩,q⟩:=v;subst e
 cases t with
 |cons r n=>
  cases n;cases r;obtain⟨C,E,l⟩:=qq4 i u;have la:a<g.heap.objs.size:=by
   cases k<;>(obtain⟨o,e,_⟩:=l; exact Qqe e)
  refine qb3 l la λh' st kp=>?_;obtain⟨b1,⟨old,w⟩,h1⟩:=id st;refine wpAny_pyIter_enum w ?_;refine⟨g.heap.objs.size+1,fpE g.heap.objs.size,_,_,H1,rfl,i.kept kp,qcv k _ a,st,λd hd=>?_,q⟩;have m:g.heap.objs.size<=d:=by
   simp only[fpE,Qqy,Qq2,or_false]at hd;rcases hd with rfl|rfl
   ·exact Qxw _
   ·exact Qqk _
  exact i.fpOk m (i.hok.fresh m)
def rv_next:Slot "reversed" "__next__" "reversed.__next__":=.of (owner:="reversed") (n:="__next__") (by rw[Zp,Zq]; kernel_rfl) (by decide +kernel) (by decide +kernel) (by decide +kernel) (.inl (by decide +kernel)) (by rw[Ze]; kernel_rfl)
def qc3:Slot "reversed" "__iter__" "reversed.__iter__":=.of (owner:="reversed") (n:="__iter__") (by rw[Zp,Zq]; kernel_rfl) (by decide +kernel) (by decide +kernel) (by decide +kernel) (.inl (by decide +kernel)) (by rw[Ze]; kernel_rfl)
def ql0:Slot "reversed" "__init__" "object.__init__":=.of (owner:="object") (n:="__init__") (by rw[Zp,Zq]; kernel_rfl) (by decide +kernel) (by decide +kernel) (by decide +kernel) (.inl (by decide +kernel)) (by rw[Ze]; kernel_rfl)
def qaz:entryFor table "reversed.__next__" = Y Qs.«reversed.__next__»:=entryFor_of_tree (by kernel_rfl)
def qgb:entryFor table "reversed.__iter__" = Y Qs.«dict_keyiterator.__iter__»:=entryFor_alias (id':="dict_keyiterator.__iter__") (by kernel_rfl) (by first|rfl|decide +kernel) (by decide +kernel) (by kernel_rfl)
def qaq(a):argsOk "reversed.__next__" ⟨[a],[]⟩:=by unfold argsOk; kernel_rfl
def qgc(a):argsOk "reversed.__iter__" ⟨[a],[]⟩:=by unfold argsOk; kernel_rfl
def qc4:TypeCalled "reversed" "reversed.__new__" "object.__init__":=⟨by decide +kernel,by decide +kernel,⟨_,_,F.mro_reversed⟩,F.made_reversed,by decide +kernel,F.sub_reversed_self,ql0⟩
def qcy:typeLookup (.type "tuple") "__reversed__" = pure none:=by rw[Zp,Zq]; kernel_rfl
abbrev IsRv(h:Heap)(it a:Y7)(i:J):Prop:=h.get? it=Y { cls:=.type "reversed",data:=.fields #[.ref a,rawInt i] }
def qgf(a)(xs)(i:(xs.size:J)<2 ^ 63):Meets (Qs.«reversed.__new__» ⟨[.type "reversed",.ref a],[]⟩) (λ_ R s=>s.heap.IsTuple a xs/\∀t,R (.ok (.ret (.ref s.heap.objs.size))) { s with heap:=s.heap.push { cls:=.type "reversed",data:=.fields #[.ref a,rawInt ((xs.size:J) - 1)] },toks:=t }):=
 .of_wp λprog w A R s h=>by
  obtain⟨hp,g,d,tk,os⟩:=s;obtain⟨f,h⟩:=h;have b:Shared.TypeIs ⟨hp,g,d,tk,os⟩ (.ref a) "tuple":=by obtain⟨o,e,c,_⟩:=f; exact⟨o,e,c⟩
  unfold Qs.«reversed.__new__»;refine Qq (Zv (newClass_reversed _) ?_)
  try dsimp only
  refine Qq (Zv (by first|rfl|kernel_rfl) ?_);refine Qq (Zv (by first|rfl|kernel_rfl) ?_)
  try dsimp only
  refine Qq (Za b qcy ?_)
  try dsimp only
  refine Qq ?_;refine Qq (Zm b PySem.F.sub_tuple_dict ?_);refine Qq (Za b PySem.F.slot_tuple_getitem.lookup ?_);refine Zv (by rfl) ?_;refine Qq (PyProof.Rows.len_tuple f i ?_);refine Qq (Zv (by rfl) ?_)
  wp_walk
  exact⟨_,rfl,h _⟩
def RvAt(n l:Y0)(m i:Y0)(h:Heap):Prop:=l<n/\IsRv h n l ((m:J) - 1 - i)
section
def qfz(a:s.heap.IsTuple l xs)(b:(xs.size:J)<2 ^ 63)(b1:l<s.heap.objs.size)(h:∀h' t,RvAt s.heap.objs.size l xs.size 0 h'->(∀c o,s.heap.get? c=Y o->h'.get? c=Y o)->Q (.ref s.heap.objs.size) { s with heap:=h',toks:=t }):wpAny (model prog w) A (call (.type "reversed") [.ref l]) Q E s:=by
 refine callType_new qc4 (by decide) (F.typeCall_reversed_1 _) (F.newCall_reversed_1 _) (λobj=>F.args_object_init_2 obj _) F.entry_reversed_new (qgf l xs b) ⟨a,λt=>?_⟩;have g:IsRv (s.heap.push { cls:=.type "reversed",data:=.fields #[.ref l,rawInt ((xs.size:J) - 1)] }) s.heap.objs.size l ((xs.size:J) - 1):=Qqg _ rfl;exact⟨⟨_,g,rfl⟩,h _ t ⟨b1,by rw[show((xs.size:J) - 1 - ((0:Y0):J))=(xs.size:J) - 1 by lia]; exact g⟩ λc o x=>Qqx _ x⟩
def ql4{i:Y0}(a:IsRv s.heap n l i)(b:s.heap.IsTuple l xs)(k:(xs.size:J)<2 ^ 63)(d:xs[i]?=Y x)(j:∀h' t,IsRv h' n l ((i:J) - 1)->(∀c o,c≠n->s.heap.get? c=Y o->h'.get? c=Y o)->Q (Y x) { s with heap:=h',toks:=t }):wpAny (model prog w) A (pyNext (.ref n)) Q E s:=by
 have f:s.TypeIs (.ref n) "reversed":=⟨_,a,rfl⟩
 have h:s.TypeIs (.ref l) "tuple":=by obtain⟨o,e,c,_⟩:=b; exact⟨o,e,c⟩
 have hi:=(Qzd.mp d).1;unfold pyNext;refine Qq (Q4 (Qc f rv_next (Qe rv_next f qaz ?_ (qaq _))));show wpAny _ _ (field (.ref n) 0 >>= _) _ _ _;refine Qq (Qw a rfl rfl ?_);refine Qq (Qw a rfl rfl ?_);show wpAny _ _ (if (i:J)<0 then _ else _) _ _ _;rw[Z5 (by lia)];refine Qq (Za h PySem.F.slot_tuple_getitem.lookup ?_);refine Qq (wpAny_mkInt ?_);refine Qq (Q4 (getItem_tuple b (by lia) (by lia) (seqIndex_of (by lia) (by lia)) d ?_));refine Qq (Qw a rfl rfl ?_);refine Qq (Qy a (by simp) λg z u=>?_);exact Qj ⟨_,rfl,Qj (j g _ z u.extBut)⟩
def qge(d:A.handled=B)(b:IsRv s.heap n l (-1))(j:∀h',(∀c o,c≠n->s.heap.get? c=Y o->h'.get? c=Y o)->Q B { s with heap:=h' }):wpAny (model prog w) A (pyNext (.ref n)) Q E s:=by
 have f:s.TypeIs (.ref n) "reversed":=⟨_,b,rfl⟩
 unfold pyNext;refine Qq (Q4 (Qc f rv_next (Qe rv_next f qaz ?_ (qaq _))));show wpAny _ _ (field (.ref n) 0 >>= _) _ _ _;refine Qq (Qw b rfl rfl ?_);refine Qq (Qw b rfl rfl ?_);show wpAny _ _ (if (-1:J)<0 then _ else _) _ _ _;rw[Z6 (by decide)];refine Qq (Zz ?_);refine Qq ?_;refine Qq (Qy b (by simp) λp g i=>?_);refine Qy g (by simp) λm k h=>?_;refine Qq ?_;refine Qq ?_; simp only[ newTuple];refine Qq (Ql ?_ (by size_fits)); refine Qq (Zv (by first|rfl|(simp only[firstArgMember]; rfl)) ?_);refine Ql ?_ (by size_fits); simp only[raiseNew];refine Qq (wpAny_handled ?_)
 first|rw[show A.in1.handled=B from d]|(rw[d])
 refine Qq (Qj (wpAny_throw ?_));refine Qq (Zm ⟨_,Qqg _ rfl,rfl⟩ isSubtype_stop ?_);exact Qj (j _ λc o a e=>Qqx _ (Qqx _ (h.extBut _ _ a (i.extBut _ _ a e))))
end
noncomputable def Itv(K:Qqq)(a:Y7)(m:Y0):It:=
 ⟨λi H=>∃xs x,SqT K H a xs/\xs.length=m/\i<m/\xs[m - 1 - i]?=Y x,
  λi H v H'=>H'=H/\∀xs,SqT K H a xs->xs[m - 1 - i]?=Y v,
  λi H=>m<=i⟩
def qf1{K:Qqq}(n a m:Y0)(hz:(m:J)<2 ^ 63):Turn P w K tg (Itv K a m) [n] n (λi h=>i<=m/\RvAt n a m i h) where
 mem:=by simp
 obj:=λi h st e c=>by
  simp only[Qqa]at c;subst c;exact⟨_,st.2.2,λv z=>nomatch z⟩
 keep:=λi h h' st q=>⟨st.1,st.2.1,q _ (by simp) _ st.2.2⟩
 item:=by
  intro X r g u Q i pins s σ H E I hf st l;subst r g u;obtain⟨xs,x,N,el,lt,ex⟩:=l;obtain⟨U,b1,c⟩:=st;obtain⟨vx,G,T⟩:=qq4 (k:=.tup) I N;obtain⟨S,j,f⟩:=G.get ex;have lx:=G.length;obtain⟨F,D,W,C,A,y⟩:=hf n (by simp);rw[show(m:J) - 1 - (i:J)=((m - 1 - i:Y0):J) by lia]at c;refine ql4 c T (by simp; lia) (by simpa using j) λh' t z kp=>⟨S,rfl,?_⟩
  have R:IsRv h' n a ((m:J) - 1 - ((i+1:Y0):J)):=by
   rw[show(m:J) - 1 - ((i+1:Y0):J)=((m - 1 - i:Y0):J) - 1 by lia];exact z
  have I1:Inv X pins σ H { s with heap:=h',toks:=t }:=I.turned (λb o d e=>kp b o d e) F D C A y;refine qeb z rfl rfl (by decide) ⟨x,H,I1,f,⟨rfl,λys V=>by rw[qk8 (k:=.tup) I V N]; exact ex⟩,⟨by lia,b1,R⟩,λb d=>(hf b d).1⟩
 done:=by
  intro X r g u Q i pins s σ H E I hf st l;subst r g u;obtain⟨U,b1,c⟩:=st;have hi:m<=i:=l;obtain⟨F,D,W,C,A,y⟩:=hf n (by simp);rw[show(m:J) - 1 - (i:J)=-1 by lia]at c;exact qge (I.ok.hd Q) c λh' kp=>⟨rfl,I.turned (λb o d e=>kp b o d e) F D C A y⟩
 self:=λ_ _ s _ _ st h=>by
  have p:s.TypeIs (.ref n) "reversed":=⟨_,st.2.2,rfl⟩
  refine wpAny_pyIter_slot p qc3 (Qe qc3 p qgb ?_ (qgc _));exact Qj ⟨_,rfl,"reversed",_,p,rv_next.lookup,h⟩
noncomputable def iRev(K:Qqq)(ta:TA):TI:=λσ H R=>ta σ H λvs H1=>∃(a:Y7) (xs:L V),vs=[.ref a]/\SqT K H1 a xs/\R (Itv K a xs.length) H1
def pi_rev(A:Gl X "reversed")(z:X.mg "reversed" = B)(C:PA X [a] g)(y:starEach [a] X.env=[(Y6,Qb a X.env)]:=by rfl):
  PI X tg (.Call (.Name "reversed" p) [a] [] pos) (iRev X.K g):=by
 intro pins s σ H R I h;refine Call_ (qx9 I A z boot_reversed (PyProof.Rows.callWith_type1 (thn (C pos pins s σ H _ I h) λD b ⟨vs,H1,c,m,u⟩=>?_) y rfl));obtain⟨a,xs,e,n,q⟩:=u;subst e
 cases m with
 |cons r l=>
  cases l;cases r;obtain⟨f,k,i,x⟩:=c.tuple n;have la:a<b.heap.objs.size:=by obtain⟨o,e,_⟩:=i; exact Qqe e
  have v:=k.length;have j:(f.toArray.size:J)<2 ^ 63:=by simp; unfold sizeLine at x; lia
  refine qfz (i) j la λh' t st kp=>?_;have st':RvAt b.heap.objs.size a xs.length 0 h':=by rw[v]; simpa using st
  have T:=qf1 (P:=X.prog) (w:=X.w) (K:=X.K) (tg:=tg) b.heap.objs.size a xs.length (by simp at j; lia);refine T.self _ 0 { b with heap:=h',toks:=t } _ _ ⟨Qq8 _,st'⟩ ?_;refine⟨b.heap.objs.size,[b.heap.objs.size],_,_,H1,rfl,c.kept kp,T,⟨Qq8 _,st'⟩,λd hd=>?_,q⟩;simp only[Qqa]at hd;subst hd;exact c.fpOk (Qqk _) (c.hok.fresh (Qqk _))
end MS
end
section
namespace MS
open PySem PySem.Spec PyProof.Rows L2
open M (D Ya Y4 Sl)
def qd8(k:L J):(k.map (Sum.inl:J->Key)).map kV=k.map V.int:=by rw[Qq6]; rfl
theorem qie{K:Qqq}:∀k:L J,IsDs K m H (k.map .int) (k.map V.int)
 |[]=>qz9
 |_::r=>qzm (mkInt _) (qie r)
def qlc{K:Qqq}(c:IsKT K m H kvs xs)(g:Rd H a (.dT xs))(e:MS.IsD K m H (.fup k) y):
  ∃o,DGet H a y o/\((M.tget kvs k=B/\o=B)\/∃d v,M.tget kvs k=Y d/\o=Y v/\MS.IsD K m H d v):=by
 obtain⟨b,rfl,f⟩:=e.fup;refine⟨valV xs (k.map Sum.inl),.inr ⟨xs,k.map Sum.inl,b,g,rfl,by rw[qd8]; exact f,rfl⟩,?_⟩;rcases c.get k with⟨h1,h2⟩|⟨d,v,h1,h2,h⟩
 ·exact .inl ⟨h1,h2⟩
 ·exact .inr ⟨d,v,h1,h2,h⟩
def Tr.putT(a:H p=Y (.dT xs)):Tr H (upd H p (.dT ys)):=
 ⟨λb zs e=>by rw[qzq (qzr e a (by intro z; cases z))]; exact e,λb o u e=>by rw[qzq (qzr e a (by intro z; cases z))]; exact e⟩
section
def qdw(r:X.A.units+1<cLine)(neg)(u:PE X a (tD X.K i))(t:PE X b (tD X.K f)):
  PC X (if neg then .NotIn else .In) a b (tD X.K λτ st=>(i τ st).bind λp=>(f τ p.2).bind λq=>match p.1,q.1 with
   |.fup k,.loc l=>(M.tdcAt q.2 l).map λkvs=>(.bl ((M.tget kvs k).isSome != neg),q.2)
   |_,_=>B):=by
 have c:∀{σ:L2.St}{H:Hp}{Q:VK},tD X.K (λτ st=>(i τ st).bind λp=>(f τ p.2).bind λq=>match p.1,q.1 with
   |.fup k,.loc l=>(M.tdcAt q.2 l).map λkvs=>(.bl ((M.tget kvs k).isSome != neg),q.2)
   |_,_=>B) σ H Q->tD X.K i σ H λy H1=>tD X.K f σ H1 λx H2=>∃a o,x=.ref a/\DGet H2 a y o/\Q (.bl (o.isSome != neg)) H2:=by
  intro σ H Q h;refine h.el λm st τ d st' V w e q=>qzj e λS s1 P e=>qzj e λR W N e=>rsI V w P λy m1 H1 b1 t1 U E=>rsI U (w.mono b1 t1) N λz A H2 b2 t2 R2 C=>?_
  cases S with
  |fup k=>
   cases R with
   |loc l=>
    refine qzg e λkvs K n=>?_;cases n;obtain⟨T,xs,_,rfl,G,j⟩:=R2.tdict K C;obtain⟨o,g,F⟩:=qlc j G (qzv b2 t2 _ _ E);refine⟨T,o,rfl,g,?_⟩;have n:o.isSome=(M.tget kvs k).isSome:=by
     rcases F with⟨h1,h2⟩|⟨d,v,h1,h2,_⟩
     ·rw[h1,h2]; rfl
     ·rw[h1,h2]; rfl
    rw[n];exact q _ A H2 (b1.trans b2) (t1.trans t2) R2 (mkBl _)
   |_=>exact nn e
  |_=>exact nn e
 cases neg with
 |false=>
  intro pins s σ H Q I h;refine qiw r u t pins s σ H Q I ?_;have:=c h;simpa only[tDIn,Bool.bne_false] using this
 |true=>
  intro pins s σ H Q I h;refine qv7 r u t pins s σ H Q I ?_;have:=c h;simpa only[qw8,Bool.bne_true] using this
def qmy(g:PE X b (tD X.K c)):PE X b (tD X.K λτ st=>(c τ st).bind λp=>match p.1 with
   |.fup ks=>Y (.tup (ks.map .int),p.2)
   |_=>B):=by
 refine g.imp λσ H Q h=>h.el λm st τ d st' o l e q=>qzj e λk r j e=>rsI o l j λy m1 H1 b1 t1 n f=>?_
 cases k with
 |fup ks=>
  have q:=q.of e;obtain⟨a,rfl,i⟩:=f.fup;exact q _ m1 H1 b1 t1 n (qq3 (SqT.of i) (qie ks))
 |_=>exact nn e
def rSlT'(K:Qqq):V->Y3 J->Y3 J->Hp->VK->Prop:=λx lo hi H Q=>∃m st ds ks,Rel K m st H/\MS.IsD K m H (.tup ds) x/\M.asInts (M.cut ds lo hi)=Y ks/\ks.length<ds.length/\Post K m H (.fup ks) st Q
def sl_T:SlR X (rSlT' X.K):=by
 intro pins s σ H x v vl g lo hi sl Q I i hs pl pu h;obtain⟨m,st,ds,ks,t,l,e,hl,q⟩:=h;obtain⟨p,xs,rfl,n,d⟩:=l.tup;have k:=qe4 d lo hi;obtain⟨a,_⟩:=ints_of e k;have j:=d.length;refine qiz pins s σ H _ v vl g lo hi sl Q I i hs pl pu ⟨p,xs,rfl,n,λf=>?_,λu hp=>?_⟩
 ·have r:cutV xs lo hi=xs:=by
   unfold cutV;rw[f.1,f.2];simp
  rw[r]at a;rw[a,Qqz]at j
  lia
 ·rw[a];have c:=qza (o:=.tup (ks.map V.int)) hp;exact q _ m _ (Sub.refl m) (Tr.of_same c) (t.same c) (qhq qzk)
end
end MS
end
section
namespace ST
open PySem SetTable
noncomputable def adv(m:Y0)(p:Probe):Probe:=
 if p.more > 0 then { p with j:=p.j+1,more:=p.more - 1 } else
 { p with j:=(leap m p.i p.perturb).1,more:=runEnd m (leap m p.i p.perturb).1 - (leap m p.i p.perturb).1,i:=(leap m p.i p.perturb).1,perturb:=(leap m p.i p.perturb).2 }
noncomputable def qzo(m:Y0)(h:J):Probe:={ j:=bits h % (m+1),more:=runEnd m (bits h % (m+1)) - bits h % (m+1),i:=bits h % (m+1),perturb:=bits h,dummy:=B }
noncomputable def stp(m:Y0):Y0->Probe->Probe
 |0,p=>p
 |n+1,p=>stp m n (adv m p)
theorem qqe(m):∀(a b:Y0) (p:Probe),stp m (a+b) p=stp m b (stp m a p)
 |0,b,p=>by rw[Qxn]; rfl
 |a+1,b,p=>by rw[Nat.add_right_comm]; exact qqe m a b (adv m p)
def qgv(m n)(p):stp m (n+1) p=adv m (stp m n p):=by rw[qqe]; rfl
noncomputable def runP(m i pt:Y0)(d:Y3 Y0):Probe:={ j:=i,more:=runEnd m i - i,i:=i,perturb:=pt,dummy:=d }
theorem qkg(m):∀(k:Y0) (p:Probe),p.more=k->stp m (k+1) p=runP m (leap m p.i p.perturb).1 (leap m p.i p.perturb).2 p.dummy
 |0,p,h=>by
  show adv m p=_;unfold adv;rw[Z5 (by lia)]; rfl
 |k+1,p,h=>by
  show stp m (k+1) (adv m p)=_;have e:adv m p={ p with j:=p.j+1,more:=p.more - 1 }:=by unfold adv; rw[Z6 (by lia)]
  rw[e,qkg m k _ (by show p.more - 1=k; lia)]
noncomputable def lp(m:Y0):Y0->Y0×Y0->Y0×Y0
 |0,q=>q
 |n+1,q=>lp m n (leap m q.1 q.2)
def more_le(m i):runEnd m i - i<=9:=by unfold runEnd; split<;>lia
theorem qax(m)(d):∀(n i pt:Y0),∃N,N<=10*n/\stp m N (runP m i pt d)=runP m (lp m n (i,pt)).1 (lp m n (i,pt)).2 d
 |0,i,pt=>⟨0,Qqk _,rfl⟩
 |n+1,i,pt=>by
  obtain⟨N,a,e⟩:=qax m d n (leap m i pt).1 (leap m i pt).2;refine⟨(runP m i pt d).more+1+N,?_,?_⟩
  ·have:=more_le m i;show runEnd m i - i+1+N<=_
   lia
  ·rw[qqe,qkg m _ _ rfl];exact e
theorem lp_pt(m):∀(n i pt:Y0),(lp m n (i,pt)).2=pt / 32 ^ n
 |0,i,pt=>by simp[lp]
 |n+1,i,pt=>by
  show(lp m n (leap m i pt)).2=_;have:leap m i pt=((leap m i pt).1,pt / 32):=rfl;rw[this,lp_pt m n,Nat.div_div_eq_div_mul,Nat.pow_succ,Nat.mul_comm]
theorem qif(m):∀(a b:Y0) (q:Y0×Y0),lp m (a+b) q=lp m b (lp m a q)
 |0,b,q=>by rw[Qxn]; rfl
 |a+1,b,q=>by rw[Nat.add_right_comm]; exact qif m a b _
theorem lp_le(m):∀(n i pt:Y0),i<=m->(lp m n (i,pt)).1<=m
 |0,i,pt,h=>h
 |n+1,i,pt,h=>by
  exact lp_le m n _ _ (Qxb (Qjd _ (Qx2 _)))
noncomputable def lcg(m:Y0):Y0->Y0->Y0
 |0,i=>i
 |n+1,i=>lcg m n ((i*5+1) % (m+1))
theorem qdo(m):∀(n i:Y0),(lp m n (i,0)).1=lcg m n i
 |0,i=>rfl
 |n+1,i=>by
  show(lp m n (leap m i 0)).1=_;have:leap m i 0=((i*5+1) % (m+1),0):=by simp[leap]
  rw[this,qdo m n]; rfl
def onto7:∀i,i<8->∀e,e<8->∃r,r<8/\lcg 7 r i=e:=by decide +kernel
def onto31:∀i,i<32->∀e,e<32->∃r,r<32/\lcg 31 r i=e:=by decide +kernel
def onto(a:m=7\/m=31)(b:i<=m)(c:e<=m):∃r,r<=m/\lcg m r i=e:=by
 rcases a with rfl|rfl
 ·obtain⟨r,h,q⟩:=onto7 i (by lia) e (by lia); exact⟨r,by lia,q⟩
 ·obtain⟨r,h,q⟩:=onto31 i (by lia) e (by lia); exact⟨r,by lia,q⟩
def qaj(g:m=7\/m=31)(d)(h:i<=m)(f:pt<2 ^ 64)(j:e<=m):∃n N,n<=m+13/\N<=10*n/\stp m N (runP m i pt d)=runP m e (lp m n (i,pt)).2 d/\(lp m n (i,pt)).1=e:=by
 have c:(lp m 13 (i,pt)).2=0:=by
  rw[lp_pt]; exact Nat.div_eq_of_lt (Qq4 f (by decide))
 obtain⟨r,o,l⟩:=onto g (lp_le m 13 i pt h) j;have b:(lp m (13+r) (i,pt)).1=e:=by
  rw[qif];have:lp m 13 (i,pt)=((lp m 13 (i,pt)).1,0):=by rw[<- c]
  rw[this,qdo]; exact l
 obtain⟨N,k,a⟩:=qax m d (13+r) i pt;rw[b]at a;exact⟨13+r,N,by lia,k,a,b⟩
structure Okp (m:Y0) (p:Probe):Prop where
 i:p.i<=m
 pt:p.perturb<2 ^ 64
 more:p.more<=9
 dm:p.dummy=B
def Okp.start(h):Okp m (qzo m h):=by
 refine⟨Qxb (Qjd _ (Qx2 _)),?_,more_le _ _,rfl⟩;show bits h<2 ^ 64;unfold bits
 lia
def Okp.next(h:Okp m p):Okp m (adv m p):=by
 unfold adv
 split
 ·exact⟨h.i,h.pt,by have:=h.more; show p.more - 1<=9; lia,h.dm⟩
 ·refine⟨by unfold leap; exact Qxb (Qjd _ (Qx2 _)),?_,more_le _ _,h.dm⟩;exact Qx0 (Nat.div_le_self _ _) h.pt
theorem Okp.stp:∀(n:Y0){p:Probe},Okp m p->Okp m (stp m n p)
 |0,_,h=>h
 |n+1,_,h=>Okp.stp n h.next
def hits(a:m=7\/m=31)(h:Okp m p)(b:e<=m):∃N,N<10*turns m/\(stp m N p).j=e:=by
 have h1:=(h.stp (p.more+1))
 rw[qkg m _ p rfl]at h1;obtain⟨n,N,hn,d,c,_⟩:=qaj a p.dummy h1.i h1.pt b;refine⟨p.more+1+N,?_,?_⟩
 ·have:=h.more;unfold turns; lia
 ·rw[qqe,qkg m _ p rfl];exact congrArg Probe.j c
def Up(xs:Array Y0):Prop:=∀(i k a b:Y0),i<k->xs[i]?=Y a->xs[k]?=Y b->a<b
theorem qvi(f:Up xs):∀(b lo hi:Y0),hi<=xs.size->lo<=hi->hi - lo<=b->(∀(i a:Y0),i<lo->xs[i]?=Y a->a<j)->(∀(i a:Y0),hi<=i->xs[i]?=Y a->j<=a)->
  (∀(i a:Y0),i<below.go xs j b lo hi->xs[i]?=Y a->a<j)/\(∀(i a:Y0),below.go xs j b lo hi<=i->xs[i]?=Y a->j<=a)/\below.go xs j b lo hi<=xs.size
 |0,lo,hi,h1,h2,o,k,g=>by
  have:lo=hi:=by lia
  subst this;exact⟨k,g,h1⟩
 |b+1,lo,hi,h1,h2,o,k,g=>by
  unfold below.go
  by_cases d:lo<hi
  ·rw[Z6 d];have n:(lo+hi) / 2<xs.size:=by lia
   have e:=Qq9 n;have p:xs.getD ((lo+hi) / 2) j=xs[(lo+hi) / 2]:=by rw[Qz5,e]; rfl
   simp only[p]
   split
   ·rename_i m;refine qvi f b _ _ h1 (by lia) (by lia) (λi a l c=>?_) g;rcases Qz7 i ((lo+hi) / 2) with h|h
    ·exact Nat.lt_trans (f i _ a _ h c e) m
    ·have:i=(lo+hi) / 2:=by lia
     subst this;rw[e]at c; cases c; exact m
   ·rename_i m;refine qvi f b _ _ (by lia) (by lia) (by lia) k (λi a l c=>?_);rcases Qz7 ((lo+hi) / 2) i with h|h
    ·have:=f _ i _ a h e c; lia
    ·have:i=(lo+hi) / 2:=by lia
     subst this;rw[e]at c; cases c; lia
  ·rw[Z5 d];have:lo=hi:=by lia
   subst this;exact⟨k,g,h1⟩
def qx4(b:Up xs):(∀(i a:Y0),i<below xs j->xs[i]?=Y a->a<j)/\(∀(i a:Y0),below xs j<=i->xs[i]?=Y a->j<=a)/\below xs j<=xs.size:=
 qvi b xs.size 0 xs.size (Qqk _) (Qq8 _) (by lia) (λi a h=>by lia) λi a h e=>by
  have:=(Qzd.mp e).1; lia
def below_at(a:Up xs)(h:xs[i]?=Y j):below xs j=i:=by
 obtain⟨b1,b2,b3⟩:=qx4 a;rcases Qj0 (below xs j) i with h1|h1|h1
 ·have b:=Nat.lt_trans h1 (Qzd.mp h).1;have e:=Qq9 b;have:=b2 _ _ (Qqk _) e;have:=a _ _ _ _ h1 e h
  lia
 ·exact h1
 ·have:=b1 _ _ h1 h; lia
structure Tb (t:Qa):Prop where
 mask:t.mask=7\/t.mask=31
 dum:t.dummies=#[]
 up:Up t.place
 le:∀(i j:Y0),t.place[i]?=Y j->j<=t.mask
 few:t.place.size<=t.mask
def Occ(t:Qa)(j:Y0):Prop:=∃i:Y0,t.place[i]?=Y j
def qjh(T:Tb t)(h:t.place[i]?=Y j):t.slot j=.live i:=by
 unfold slot;simp only[below_at T.up h,h,beq_self_eq_true,if_true]
def qby(T:Tb t)(h:¬ Occ t j):t.slot j=.empty:=by
 unfold slot;have:(t.place[below t.place j]?==Y j)=false:=by
  cases e:t.place[below t.place j]?==Y j with
  |false=>rfl
  |true=>exact absurd ⟨_,beq_iff_eq.mp e⟩ h
 have hd:has t.dummies j=false:=by rw[T.dum]; unfold has; simp
 simp[this,hd]
theorem qko:∀(l:L Y0) (lo:Y0),l.Pairwise (· < ·)->(∀a∈l,lo<=a)->(∀e,lo<=e->e<=m->e∈l)->lo<=m+1->m+1<=lo+l.length
 |[],lo,_,_,c,g=>by
  rcases Qz7 m lo with h|h
  ·simp; lia
  ·exact absurd (c lo (Qqk _) h) (by simp)
 |a::l,lo,h1,h2,c,g=>by
  rcases Qz7 m lo with h|h
  ·lia
  ·obtain⟨p1,p2⟩:=Qxj.mp h1;have f:a=lo:=by
    rcases Qqy.mp (c lo (Qqk _) h) with e|e
    ·exact e.symm
    ·have:=p1 lo e;have:=h2 a Qq5
     lia
   subst f
   have:=qko l (a+1) p2 (λb d=>p1 b d) (λe j i=>by
    rcases Qqy.mp (c e (by lia) i) with q|q
    ·lia
    ·exact q) (by lia)
   simp only[Qqi]
   lia
def Up.pairwise(h:Up xs):xs.toList.Pairwise (· < ·):=by
 rw[Qxr];intro i j hi b a;exact h i j _ _ a (by rw[<- Qq1,Qqc hi]) (by rw[<- Qq1,Qqc b])
def some_free(T:Tb t):∃e,e<=t.mask/\¬ Occ t e:=by
 apply Classical.byContradiction;intro hn;have all:=λe b=>Classical.byContradiction λc=>hn ⟨e,b,c⟩
 have:=qko t.place.toList 0 T.up.pairwise (λa _=>Qq8 _) (λe _ b=>by
  obtain⟨i,hi⟩:=all e b
  exact Qqf (by rw[Qq1]; exact hi)) (Qq8 _)
 have:=T.few;rw[Qzo]at *
 lia
theorem qea(T:Tb t):∀(b:Y0) (p:Probe) (N:Y0),p.dummy=B->N<b->¬ Occ t (stp t.mask N p).j->
  ∃n,(∀m,m<n->∃i:Y0,t.place[i]?=Y (stp t.mask m p).j/\a i≠h)/\
   ((¬ Occ t (stp t.mask n p).j/\probe.go t a h b p=Y (.empty (stp t.mask n p).j B))\/
    (∃i:Y0,t.place[i]?=Y (stp t.mask n p).j/\a i=h/\probe.go t a h b p=Y (.candidate (stp t.mask n p).j i (stp t.mask (n+1) p))))
 |0,p,N,_,l,_=>by lia
 |b+1,p,N,hd,l,g=>by
  by_cases d:Occ t p.j
  ·obtain⟨i,hi⟩:=d
   by_cases c:a i=h
   ·refine⟨0,λm f=>by lia,.inr ⟨i,hi,c,?_⟩⟩;unfold probe.go;rw[qjh T hi];simp only[c,beq_self_eq_true]
    rfl
   ·cases N with
    |zero=>exact absurd ⟨i,hi⟩ g
    |succ N=>
     have e:(adv t.mask p).dummy=none:=by unfold adv; split<;>exact hd
     obtain⟨n,k,j⟩:=qea T b (adv t.mask p) N e (by lia) g;have o:probe.go t a h (b+1) p=probe.go t a h b (adv t.mask p):=by
      conv=>lhs; unfold probe.go
      rw[qjh T hi];have:(a i==h)=false:=by simpa using c
      simp only[this,if_false]
      rfl
     refine⟨n+1,λm f=>?_,?_⟩
     ·cases m with
      |zero=>exact⟨i,hi,c⟩
      |succ m=>exact k m (by lia)
     ·rw[o];exact j
  ·refine⟨0,λm f=>by lia,.inl ⟨d,?_⟩⟩;unfold probe.go;rw[qby T d];rw[hd]; rfl
def qbe(T:Tb t)(b:Okp t.mask p):
  ∃n,(∀m,m<n->∃i:Y0,t.place[i]?=Y (stp t.mask m p).j/\a i≠h)/\
   ((¬ Occ t (stp t.mask n p).j/\t.probe a h p=Y (.empty (stp t.mask n p).j B))\/
    (∃i:Y0,t.place[i]?=Y (stp t.mask n p).j/\a i=h/\t.probe a h p=Y (.candidate (stp t.mask n p).j i (stp t.mask (n+1) p)))):=by
 obtain⟨e,c,hf⟩:=some_free T;obtain⟨N,d,f⟩:=hits T.mask b c;exact qea T _ p N b.dm d (by rw[f]; exact hf)
section
def qqy(xs:Array α)(p)(x)(b:p<=xs.size)(i):(insertAt xs p x)[i]?=if i<p then xs[i]? else if i=p then Y x else xs[i - 1]?:=by
 unfold insertAt;rw[Array.getElem?_append,Array.getElem?_push,Qkz,Qkz];simp only[Array.size_push,Array.size_extract];have e:min p xs.size=p:=by lia
 simp only[e,Nat.sub_zero,Qxn]
 by_cases h1:i<p
 ·rw[Z6 (by lia),Z5 (by lia),Z6 h1,Z6 h1]
 ·by_cases h2:i=p
  ·subst h2;rw[Z6 (by lia),Z6 rfl,Z5 h1,Z6 rfl]
  ·rw[Z5 (by lia),Z5 h1,Z5 h2]
   by_cases a:i - (p+1)<min xs.size xs.size - p
   ·rw[Z6 a]; congr 1; lia
   ·rw[Z5 a];exact(Qkx (by lia)).symm
def qja(xs:Array α)(p)(x)(a:p<=xs.size):(insertAt xs p x).size=xs.size+1:=by
 unfold insertAt;simp only[Qju,Array.size_push,Array.size_extract]
 lia
def qnm(b:p<=xs.size):y∈(insertAt xs p x).toList↔y∈xs.toList\/y=x:=by
 unfold insertAt;simp only[Array.toList_append,Array.toList_push,Array.toList_extract,Qqn,Qqa,List.extract_eq_drop_take,Nat.sub_zero,List.drop_zero];have e:xs.toList.take p++xs.toList.drop p=xs.toList:=Qjv p _;have a:(xs.toList.drop p).take (xs.size - p)=xs.toList.drop p:=Qxi (by simp);rw[a]
 conv=>rhs; rw[<- e,Qqn]
 constructor
 ·rintro ((h|h)|h)
  ·exact .inl (.inl h)
  ·exact .inr h
  ·exact .inl (.inr h)
 ·rintro ((h|h)|h)
  ·exact .inl (.inl h)
  ·exact .inr h
  ·exact .inl (.inr h)
end
def Reach(t:Qa)(h:J)(j:Y0):Prop:=∃n,(stp t.mask n (qzo t.mask h)).j=j/\∀m,m<n->Occ t (stp t.mask m (qzo t.mask h)).j
structure SI {α:Type}(t:Qa) (es:Array (J×α)):Prop where
 tb:Tb t
 sz:t.place.size=es.size
 reach:∀(i j:Y0) (e:J×α),t.place[i]?=Y j->es[i]?=Y e->Reach t e.1 j
def qc7(T:Tb t)(j):t.put j=({ t with place:=insertAt t.place (below t.place j) j },below t.place j):=by
 unfold put;have hd:has t.dummies j=false:=by rw[T.dum]; unfold has; simp
 simp only[hd,Qzw,if_false]
def put_ok{es:Array (J×α)}(I:SI t es){x:α}(A:j<=t.mask)(C:¬ Occ t j)(w:Reach t h j)(v:es.size+1<=t.mask):
  SI (t.put j).1 (insertAt es (t.put j).2 (h,x)):=by
 obtain⟨b1,b2,b3⟩:=qx4 I.tb.up;have o:below t.place j<=es.size:=by rw[<- I.sz]; exact b3
 rw[qc7 I.tb];have u:∀j',Occ t j'->Occ { t with place:=insertAt t.place (below t.place j) j } j':=λj' ⟨i,hi⟩=>by
  by_cases h1:i<below t.place j
  ·exact⟨i,by rw[qqy _ _ _ b3,Z6 h1]; exact hi⟩
  ·exact⟨i+1,by rw[qqy _ _ _ b3,Z5 (by lia),Z5 (by lia)]; exact hi⟩
 have p:∀h' j',Reach t h' j'->Reach { t with place:=insertAt t.place (below t.place j) j } h' j':=λh' j' ⟨n,e,q⟩=>⟨n,e,λm y=>u _ (q m y)⟩
 refine⟨⟨I.tb.mask,I.tb.dum,?_,?_,?_⟩,?_,?_⟩
 ·intro i k a b s f d;have f:=f;have d:=d;rw[qqy _ _ _ b3]at f d;have ne:∀(r c:Y0),t.place[r]?=Y c->c≠j:=λr c e z=>C ⟨r,by rw[<- z]; exact e⟩
  split at f
  ·split at d
   ·exact I.tb.up _ _ _ _ s f d
   ·split at d
    ·cases d; exact b1 _ _ (by assumption) f
    ·exact I.tb.up _ _ _ _ (by lia) f d
  ·split at f
   ·cases f;rw[Z5 (by lia),Z5 (by lia)]at d;have:=b2 _ _ (by lia) d;have:=ne _ _ d
    lia
   ·rw[Z5 (by lia),Z5 (by lia)]at d;exact I.tb.up _ _ _ _ (by lia) f d
 ·intro i j' e;have e:=e;rw[qqy _ _ _ b3]at e
  split at e
  ·exact I.tb.le _ _ e
  ·split at e
   ·cases e; exact A
   ·exact I.tb.le _ _ e
 ·rw[qja _ _ _ b3,I.sz]; exact v
 ·rw[qja _ _ _ b3,qja _ _ _ o,I.sz]
 ·intro i j' e l g;have l:=l;have g:=g;rw[qqy _ _ _ b3]at l;rw[qqy _ _ _ o]at g
  split at l
  ·rename_i h1;rw[Z6 h1]at g;exact p _ _ (I.reach _ _ _ l g)
  ·rename_i h1;rw[Z5 h1]at g
   split at l
   ·rename_i h2;rw[Z6 h2]at g;cases l; cases g;exact p _ _ w
   ·rename_i h2;rw[Z5 h2]at g;exact p _ _ (I.reach _ _ _ l g)
def qfo{es:Array (J×α)}(I:SI t es){bad:Y0->Prop}(o:∀m,m<n->∃i:Y0,t.place[i]?=Y (stp t.mask m (qzo t.mask h)).j/\bad i)(f:¬ Occ t (stp t.mask n (qzo t.mask h)).j):
  ∀(i:Y0) (e:J×α),es[i]?=Y e->e.1=h->bad i:=λi e g l=>by
 have hi:i<t.place.size:=by rw[I.sz]; exact(Qzd.mp g).1
 have hp:=Qq9 hi;obtain⟨d,a,c⟩:=I.reach _ _ _ hp g;rw[l]at a c;rcases Qj0 n d with h1|h1|h1
 ·exact absurd (c n h1) f
 ·subst h1; exact absurd ⟨i,by rw[a]; exact hp⟩ f
 ·obtain⟨k,j,b⟩:=o d h1;rw[a]at j;have:k=i:=(below_at I.tb.up j).symm.trans (below_at I.tb.up hp);rw[<- this]; exact b
def qhc(c):SI (α:=α) (PySem.SetTable.fresh 0 0 c) #[]:=
 ⟨⟨.inl rfl,rfl,λi k a b _ h=>by simp[PySem.SetTable.fresh]at h,λi j h=>by simp[PySem.SetTable.fresh]at h,by simp[PySem.SetTable.fresh]⟩,rfl,λi j e h=>by simp[PySem.SetTable.fresh]at h⟩
def OcO(ow:Array (Y3 Y0))(j:Y0):Prop:=∃k,ow[j]?=Y (Y k)
def getD_none(a:j<ow.size):(ow.getD j (Y 0)).isNone=O↔¬ OcO ow j:=by
 have e:=Qq9 a;rw[Qz5,e]
 cases h:ow[j] with
 |none=>simp[OcO,e,h]
 |some k=>simp[OcO,e,h]
theorem qk7(m i pt)(d):∀k,k<=runEnd m i - i->(stp m k (runP m i pt d)).j=i+k/\(stp m k (runP m i pt d)).more=runEnd m i - i - k
 |0,_=>⟨rfl,rfl⟩
 |k+1,h=>by
  obtain⟨h1,h2⟩:=qk7 m i pt d k (by lia);rw[qgv];have e:adv m (stp m k (runP m i pt d))={ stp m k (runP m i pt d) with j:=(stp m k (runP m i pt d)).j+1,more:=(stp m k (runP m i pt d)).more - 1 }:=by
   conv=>lhs; unfold adv
   rw[Z6 (by lia)]
  rw[e];exact⟨by show(stp m k (runP m i pt d)).j+1=_; lia,by show(stp m k (runP m i pt d)).more - 1=_; lia⟩
def qjl(h:i<=m):i<=runEnd m i/\runEnd m i<=m:=by unfold runEnd; split<;>lia
def qbt(h:(List.range n).find? p=Y k):k<n/\p k=O/\∀a,a<k->p a=false:=by
 have h1:=Qxs h;have h2:=Qzt h;refine⟨Qz9.mp h2,h1,λa b=>?_⟩;rw[List.find?_range_eq_some]at h;have:=h.2.2 a b;simpa using this
theorem qef(r:ow.size=m+1):∀(a i pt b:Y0),i<=m->b<a->¬ OcO ow (lp m b (i,pt)).1->
  ∃n j,layClean.free m ow a i pt=Y j/\(stp m n (runP m i pt B)).j=j/\j<=m/\¬ OcO ow j/\∀k,k<n->OcO ow (stp m k (runP m i pt B)).j
 |0,i,pt,b,_,hn,_=>by lia
 |a+1,i,pt,b,hi,hn,he=>by
  unfold layClean.free;obtain⟨v,u⟩:=qjl hi
  cases hf:(List.range (runEnd m i+1 - i)).find? λk=>(ow.getD (i+k) (Y 0)).isNone with
  |some k=>
   obtain⟨w,t,s⟩:=qbt hf;refine⟨k,i+k,rfl,(qk7 m i pt B k (by lia)).1,by lia,(getD_none (by lia)).mp t,λf c=>?_⟩;rw[(qk7 m i pt B f (by lia)).1];have:=s f c;apply Classical.byContradiction;intro d;rw[(getD_none (by lia)).mpr d]at this;cases this
  |none=>
   have all:=λk c=>by
    have:=Qjm.mp hf k (Qz9.mpr c);apply Classical.byContradiction;intro d;exact this ((getD_none (by lia)).mpr d)
   cases b with
   |zero=>exact absurd (all 0 (by lia)) he
   |succ b=>
    have hl:(leap m i pt).1<=m:=Qxb (Qjd _ (Qx2 _));obtain⟨n,j,q,p,o,l,g⟩:=qef r a (leap m i pt).1 (leap m i pt).2 b hl (by lia) he;refine⟨(runEnd m i - i)+1+n,j,q,?_,o,l,λk c=>?_⟩
    ·rw[qqe,qkg m (runEnd m i - i) (runP m i pt B) rfl]; exact p
    ·rcases Qz7 k (runEnd m i - i+1) with h|h
     ·rw[(qk7 m i pt B k (by lia)).1]; exact all k (by lia)
     ·have e:k=(runEnd m i - i)+1+(k - (runEnd m i - i+1)):=by lia
      rw[e,qqe,qkg m (runEnd m i - i) (runP m i pt B) rfl];exact g _ (by lia)
structure FI (m:Y0) (ow:Array (Y3 Y0)) (hs:L J):Prop where
 size:ow.size=m+1
 val:∀(j k:Y0),ow[j]?=Y (Y k)->k<hs.length
 sur:∀k,k<hs.length->∃j:Y0,ow[j]?=Y (Y k)
 reach:∀(j k:Y0) (h:J),ow[j]?=Y (Y k)->hs[k]?=Y h->∃n,(stp m n (qzo m h)).j=j/\∀q,q<n->OcO ow (stp m q (qzo m h)).j
 cnt:ow.toList.countP Option.isSome=hs.length
def FI.zero(m):FI m (Array.replicate (m+1) B) [] where
 size:=by simp
 val:=λj k h=>by
  rw[Qj5]at h
  split at h<;>simp at h
 sur:=λk h=>by simp at h
 reach:=λj k x h=>by
  rw[Qj5]at h
  split at h<;>simp at h
 cnt:=by rw[Array.toList_replicate]; simp
def FI.some_free(I:FI m ow b)(h:b.length<=m):∃e,e<=m/\¬ OcO ow e:=by
 apply Classical.byContradiction;intro hn;have all:∀x∈ow.toList,Option.isSome x=true:=λx d=>by
  obtain⟨j,f,e⟩:=Qz6 d;have a:j<ow.size:=by simpa using f
  have:OcO ow j:=Classical.byContradiction λg=>hn ⟨j,by have:=I.size; lia,g⟩;obtain⟨k,c⟩:=this;rw[Qq9 a]at c;rw[Array.getElem_toList]at e;rw[<- e,Option.some.inj c]; rfl
 have:=List.countP_eq_length.mpr all;have l:=I.cnt;have i:=(Qzo).trans I.size
 lia
def FI.more(A:m=7\/m=31)(I:FI m ow b)(C:b.length<=m)(h):
  ∃j,layClean.free m ow (turns m) (bits h % (m+1)) (bits h)=Y j/\FI m (ow.setIfInBounds j (Y b.length)) (b++[h]):=by
 obtain⟨e,D,hf⟩:=I.some_free C;have ok:=Okp.start (m:=m) h;obtain⟨u,_,y,_,_,r⟩:=qaj A B ok.i ok.pt D;have r:(lp m u (bits h % (m+1),bits h)).1=e:=r;obtain⟨n,j,x,w,G,s,v⟩:=qef I.size (turns m) (bits h % (m+1)) (bits h) u ok.i (by unfold turns; lia) (by rw[r]; exact hf);refine⟨j,x,?_⟩;have f:j<ow.size:=by rw[I.size]; lia
 have g:∀j',(ow.setIfInBounds j (Y b.length))[j']?=if j=j' then Y (Y b.length) else ow[j']?:=λj'=>by
  rw[Array.getElem?_setIfInBounds]
  by_cases h:j=j'
  ·subst h; rw[Z6 rfl,Z6 f,Z6 rfl]
  ·rw[Z5 h,Z5 h]
 have t:∀j',OcO ow j'->OcO (ow.setIfInBounds j (Y b.length)) j':=λj' ⟨k,a⟩=>by
  unfold OcO;rw[g]
  by_cases h:j=j'
  ·exact⟨_,Z6 h⟩
  ·rw[Z5 h]; exact⟨k,a⟩
 refine⟨by rw[Array.size_setIfInBounds]; exact I.size,λj' k a=>?_,λk a=>?_,λj' k h' a i=>?_,?_⟩
 ·rw[g]at a;rw[Qqh,Qxx]
  split at a
  ·cases a; lia
  ·have:=I.val _ _ a; lia
 ·rw[Qqh,Qxx]at a;rcases Qz7 k b.length with h1|h1
  ·obtain⟨j',d⟩:=I.sur k h1;refine⟨j',?_⟩;rw[g,Z5 (λz=>s (by rw[z]; exact⟨k,d⟩))]; exact d
  ·have:k=b.length:=by lia
   subst this;exact⟨j,by rw[g,Z6 rfl]⟩
 ·rw[g]at a
  split at a
  ·rename_i p;cases a;rw[Qzi (Qqk _),Nat.sub_self]at i;cases i;exact⟨n,by rw[<- p]; exact w,λq l=>t _ (v q l)⟩
  ·have o:=I.val _ _ a;rw[Qq0 o]at i;obtain⟨n1,F,E⟩:=I.reach _ _ _ a i;exact⟨n1,F,λq l=>t _ (E q l)⟩
 ·rw[Array.toList_setIfInBounds,List.countP_set (by simpa using f)];have c:(ow.toList[j]'(by simpa using f)).isSome=false:=by
   cases e:ow.toList[j]'(by simpa using f) with
   |none=>rfl
   |some k=>exact absurd ⟨k,by rw[<- Qq1,Qqc (by simpa using f),e]⟩ s
  simp only[c,I.cnt];simp
theorem qam(f:m=7\/m=31):∀(l:L J) (ow:Array (Y3 Y0)) (a:L J),FI m ow a->a.length+l.length<=m+1->
  ∃b,l.foldl (λc h=>do let (owner,k) <- c; let j <- layClean.free m owner (turns m) (bits h % (m+1)) (bits h); pure (owner.setIfInBounds j (Y k),k+1)) (Y (ow,a.length))=Y (b,a.length+l.length)/\FI m b (a++l)
 |[],ow,a,I,_=>⟨ow,rfl,by rw[Qq7]; exact I⟩
 |h::l,ow,a,I,hl=>by
  simp only[Qqi]at hl;obtain⟨j,e,i⟩:=I.more f (by lia) h;obtain⟨b,g,d⟩:=qam f l _ _ i (by simp; lia);refine⟨b,?_,by simpa using d⟩;rw[Qjy];have:(do let (owner,k) <- (Y (ow,a.length):Y3 (Array (Y3 Y0)×Y0)); let j <- layClean.free m owner (turns m) (bits h % (m+1)) (bits h); pure (owner.setIfInBounds j (Y k),k+1))=Y (ow.setIfInBounds j (Y a.length),a.length+1):=by
   show(layClean.free m ow (turns m) (bits h % (m+1)) (bits h)).bind _=_;rw[e]; rfl
  rw[this];have el:a.length+1=(a++[h]).length:=by simp
  rw[el,g];simp; lia
def lay_ok(b:m=7\/m=31)(a)(c:a.size<=m+1):∃ow,layClean m a=Y ow/\FI m ow a.toList:=by
 obtain⟨ow,e,I⟩:=qam b a.toList _ [] (FI.zero m) (by simpa using c);refine⟨ow,?_,by simpa using I⟩;unfold layClean;rw[<- Array.foldl_toList];exact congrArg (Option.map (·.1)) e
noncomputable def qz2(m:Y0)(ow:Array (Y3 Y0)):L (Y0×Y0):=(List.range (m+1)).filterMap λj=>(ow.getD j B).map (j,·)
def qxd(I:FI m ow c):q∈qz2 m ow↔ow[q.1]?=Y (Y q.2):=by
 unfold qz2;rw[Qxq];constructor
 ·rintro⟨j,b,e⟩;have a:j<ow.size:=by rw[I.size]; exact Qz9.mp b
  rw[Qz5,Qq9 a]at e
  cases h:ow[j] with
  |none=>rw[h]at e; cases e
  |some k=>
   rw[h]at e;cases e;rw[Qq9 a,h]
 ·intro e;have b:=(Qzd.mp e).1;refine⟨q.1,Qz9.mpr (by rw[<- I.size]; exact b),?_⟩;rw[Qz5,e]
  rfl
def qm8(m)(ow):(qz2 m ow).Pairwise λa b=>a.1<b.1:=by
 unfold qz2;refine List.Pairwise.filterMap _ (λa g h b d j c=>?_) (List.pairwise_lt_range)
 cases e:ow.getD a B with
 |none=>rw[e]at d; cases d
 |some k=>
  cases f:ow.getD g B with
  |none=>rw[f]at c; cases c
  |some i=>
   rw[e]at d; rw[f]at c;cases d; cases c;exact h
def qvj(I:FI m ow a):(qz2 m ow).length=a.length:=by
 unfold qz2;rw[List.length_filterMap_eq_countP,<- I.cnt];have e:ow.toList=(List.range (m+1)).map λj=>ow.getD j none:=by
  apply Qj1;intro j;rw[Qq1,Qqw];rcases Qz7 j (m+1) with h|h
  ·rw[Qxo h];have b:j<ow.size:=by rw[I.size]; exact h
   rw[Qq9 b];show _=Y (ow.getD j B);rw[Qz5,Qq9 b]; rfl
  ·rw[Qkx (by rw[I.size]; exact h),Qzc (by simpa using h)]; rfl
 rw[e,List.countP_map];refine List.countP_congr λj _=>?_;simp
theorem qaw{α:Type}(es:Array α):∀(l:L Y0),(∀k∈l,k<es.size)->(l.filterMap λk=>es[k]?).length=l.length/\∀i:Y0,(l.filterMap λk=>es[k]?)[i]?=l[i]?.bind λk=>es[k]?
 |[],_=>⟨rfl,λi=>by simp⟩
 |k::l,h=>by
  obtain⟨h1,h2⟩:=qaw es l λb a=>h b (Qqt _ a);have a:=h k Qq5;have e:=Qq9 a;rw[Qzn,e];refine⟨by simp[h1],λi=>?_⟩
  cases i with
  |zero=>simp[e]
  |succ i=>simp only[Qj8]; exact h2 i
def qnk{led plain:Yb}(s:m=7\/m=31)(es:Array (J×α))(F:es.size<=m):
  ∃t c,laid m f mv led plain (es.map (·.1))=Y (t,c)/\SI t (c.filterMap (es[·]?))/\(c.filterMap (es[·]?)).size=es.size/\(∀e,e∈(c.filterMap (es[·]?)).toList↔e∈es.toList)/\t.mask=m:=by
 obtain⟨ow,e,I⟩:=lay_ok s (es.map (·.1)) (by rw[Array.size_map]; lia);have d:(es.map (·.1)).toList.length=es.size:=by simp
 have A:∀k∈(qz2 m ow).map (·.2),k<es.size:=λk h=>by
  obtain⟨q,o,rfl⟩:=Qqv.mp h;rw[<- d];exact I.val _ _ ((qxd I).mp o)
 obtain⟨p1,p2⟩:=qaw es _ A;have tl:(((qz2 m ow).map (·.2)).toArray.filterMap (es[·]?)).toList=((qz2 m ow).map (·.2)).filterMap λk=>es[k]?:=by simp
 have at_:∀i:Y0,(((qz2 m ow).map (·.2)).toArray.filterMap (es[·]?))[i]?=((qz2 m ow)[i]?.map (·.2)).bind λk=>es[k]?:=λi=>by
  rw[<- Qq1,tl,p2,Qqw]
 have pl:∀i:Y0,((qz2 m ow).map (·.1)).toArray[i]?=(qz2 m ow)[i]?.map (·.1):=λi=>by simp
 have w:∀j,OcO ow j->Occ { mask:=m,place:=((qz2 m ow).map (·.1)).toArray,dummies:=#[],finger:=f,led:=led,moves:=mv,plain:=plain } j:=λj ⟨k,h⟩=>by
  obtain⟨i,hi,e⟩:=Qz6 ((qxd I (q:=(j,k))).mpr h);refine⟨i,?_⟩;rw[pl,Qqc hi,e]; rfl
 have ns:(((qz2 m ow).map (·.2)).toArray.filterMap (es[·]?)).size=es.size:=by
  rw[<- Qzo,tl,p1,Qqz,qvj I,d]
 refine⟨{ mask:=m,place:=((qz2 m ow).map (·.1)).toArray,dummies:=#[],finger:=f,led:=led,moves:=mv,plain:=plain },((qz2 m ow).map (·.2)).toArray,?_,⟨⟨s,rfl,?_,?_,?_⟩,?_,?_⟩,ns,?_,rfl⟩
 ·unfold laid;rw[e]; rfl
 ·intro i k a b r v u;rw[pl]at v u;obtain⟨x,g,rfl⟩:=Qqb.mp v;obtain⟨y,D,rfl⟩:=Qqb.mp u;obtain⟨h1,H⟩:=Qqj.mp g;obtain⟨h2,G⟩:=Qqj.mp D;have:=Qxr.mp (qm8 m ow) i k h1 h2 r;rw[H,G]at this;exact this
 ·intro i j l;rw[pl]at l;obtain⟨x,g,rfl⟩:=Qqb.mp l;have:=(qxd I).mp (Qqf g);have:=(Qzd.mp this).1;rw[I.size]at this;show x.1<=m
  lia
 ·rw[Qqd,Qqz,qvj I,d]; exact F
 ·rw[Qqd,Qqz,qvj I,d,ns]
 ·intro i j x l g;rw[pl]at l;rw[at_]at g;obtain⟨q,o,rfl⟩:=Qqb.mp l;rw[o]at g;have g:es[q.2]?=Y x:=g;have E:=(qxd I).mp (Qqf o);obtain⟨n,P,N⟩:=I.reach q.1 q.2 x.1 E (by rw[Qq1,Array.getElem?_map,g]; rfl);exact⟨n,P,λz C=>w _ (N z C)⟩
 ·intro x;rw[tl,Qxq];constructor
  ·rintro⟨k,_,h⟩;exact Qqf (by rw[Qq1]; exact h)
  ·intro g;obtain⟨k,h,K⟩:=Qz6 g;have p:k<(es.map (·.1)).toList.length:=by rw[d]; simpa using h
   obtain⟨j,l⟩:=I.sur k p;refine⟨k,Qqv.mpr ⟨(j,k),(qxd I).mpr l,rfl⟩,?_⟩;rw[<- Qq1,Qqc h,K]
def qdz(T:Tb t)(b:Okp t.mask p)(c:t.probe a h p=met):
  ∃n,(∀m,m<n->∃i:Y0,t.place[i]?=Y (stp t.mask m p).j/\a i≠h)/\
   ((¬ Occ t (stp t.mask n p).j/\met=Y (.empty (stp t.mask n p).j B))\/
    (∃i:Y0,t.place[i]?=Y (stp t.mask n p).j/\a i=h/\met=Y (.candidate (stp t.mask n p).j i (stp t.mask (n+1) p)))):=by
 subst c;exact qbe T b
theorem SI.fits(I:SI t es):t.fits es.size=true:=by
 unfold SetTable.fits SetTable.fill;rw[I.tb.dum];have:=I.tb.few;simp[I.sz];rw[<- I.sz]; exact this
def Tb.stays(T:Tb t):t.gaveWay=false:=by
 unfold SetTable.gaveWay;rcases T.mask with h|h<;>rw[h]<;>rfl
section
variable {prog:Program}{w:Qk}{A:Qv}{E:Y8->Qz->Prop}{s:Qz}[DecidableEq K]{knd:KeyKind prog w K}
def qkw(n)(h:carriedByValue v=O):Zg n v=pure false:=by
 cases v with
 |ref a=>simp[carriedByValue]at h
 |_=>unfold Zg; rfl
def qkc(f:IsTupleKey knd s.heap ks b)(h:Q Y6 s):wpAny (model prog w) A (Zg 8 (.ref b)) Q E s:=by
 have i:=f.typeIs;obtain⟨o,c,n,g,l,hd,hi⟩:=f;unfold Zg;refine Qq (wpAny_typeOf i ?_);refine Qq ?_;refine Qj ?_;simp only[ if_false];refine Qq (Qo g hd ?_);refine Qq ?_;rw[<- Array.forIn_toList];refine wpAny_forIn_list _ (λrest r s'=>r.1=B/\s'=s/\∀v∈rest,carriedByValue v=O) _ ?_ ?_ _ _ ⟨rfl,rfl,hi.byValue⟩
 ·rintro v rest r s' ⟨e,rfl,a⟩;rw[qkw _ (a v Qq5)];refine Qq (Qj ?_);simp only[Qzw];exact Qj ⟨rfl,rfl,λu d=>a u (Qqt _ d)⟩
 ·rintro⟨k,j⟩ s' ⟨e,rfl,_⟩;simp only at e;subst e;exact Qj h
def qi4(e:IsTupleKey knd s.heap ks x)(i:∀y∈l,∃b k,y=.ref b/\IsTupleKey knd s.heap k b)(h:Q Y6 s):
  wpAny (model prog w) A (searchCouldBeSeen (.ref x) l) Q E s:=by
 unfold searchCouldBeSeen;refine Qq ?_;refine wpAny_forIn_list _ (λrest r s'=>r.1=B/\s'=s/\∀y∈rest,∃b k,y=.ref b/\IsTupleKey knd s.heap k b) _ ?_ ?_ _ _ ⟨rfl,rfl,i⟩
 ·rintro y rest r s' ⟨d,rfl,a⟩;obtain⟨b,k,rfl,g⟩:=a y Qq5;have j:(carriedByValue (Value.ref x)&&carriedByValue (Value.ref b))=false:=rfl;simp only[j,Bool.or_false]
  by_cases f:(x==b)=O
  ·rw[Z6 f];exact Qj ⟨rfl,rfl,λu c=>a u (Qqt _ c)⟩
  ·rw[Z5 f];refine Qq (wpAny_eqIsQuiet_tuple e ?_);simp only[Qkv,if_false];refine Qq (wpAny_eqIsQuiet_tuple g ?_);simp only[Qkv,if_false];refine Qq (qkc e ?_);simp only[Qzw];refine Qq (qkc g ?_);simp only[Qzw];exact Qj ⟨rfl,rfl,λu c=>a u (Qqt _ c)⟩
 ·rintro⟨n,m⟩ s' ⟨d,rfl,_⟩;simp only at d;subst d;exact Qj h
end
section
def ints_of(h:ItemsAre (intKind prog w) ks vs):∀v∈vs,∃i t,v=.int i t:=by
 induction h with
 |nil=>intro v a; simp at a
 |@cons k c ks vs h1 _ b=>
  intro v a;rcases Qqy.mp a with rfl|a
  ·obtain⟨t,e⟩:=Value.isInt_shape (h1);exact⟨k,t,e⟩
  ·exact b v a
def qbz(g:IsTupleKey (intKind prog w) s.heap ks b)(h:Q O s):wpAny (model prog w) A (hashByValue 8 (.ref b)) Q E s:=by
 have k:=g.typeIs;obtain⟨o,c,n,j,p,hd,hi⟩:=g;unfold hashByValue;refine Qq (Za k F.slot_tuple_hash.lookup ?_);refine Qq (Qo j hd ?_);refine Qq ?_;show wpAny _ _ (forIn c _ _) _ _ s;rw[<- Array.forIn_toList];refine wpAny_forIn_list _ (λrest r s'=>r.1=B/\s'=s/\∀v∈rest,∃i t,v=.int i t) _ ?_ ?_ _ _ ⟨rfl,rfl,ints_of hi⟩
 ·rintro v rest r s' ⟨f,rfl,a⟩;obtain⟨i,t,rfl⟩:=a v Qq5;have e:hashByValue 7 (.int i t)=pure true:=by simp[hashByValue]
  rw[e];refine Qq (Qj ?_);simp only[ if_false];exact Qj ⟨rfl,rfl,λu d=>a u (Qqt _ d)⟩
 ·rintro⟨m,l⟩ s' ⟨f,rfl,_⟩;simp only at f;subst f;exact Qj h
def Els(prog:Program)(w:Qk)(h:Heap)(es:Array (J×Y8)):Prop:=∀(i:Y0) (e:J×Y8),es[i]?=Y e->∃b k,e=(tupleKeyHash (intKind prog w) k,.ref b)/\IsTupleKey (intKind prog w) h k b
def Bad(prog:Program)(w:Qk)(h:Heap)(es:Array (J×Y8))(k:L J)(i:Y0):Prop:=∀(e:J×Y8) (b:Y7) (k':L J),es[i]?=Y e->e.2=.ref b->IsTupleKey (intKind prog w) h k' b->k'≠k
theorem qv3(hu:A.units<cLine)(X:s.heap.get? a=Y o)(hd:o.data=.set es ep t)(I:SI t es)(r:Els prog w s.heap es)(V:IsTupleKey (intKind prog w) s.heap k x)(hf:∀n,(∀m,m<n->∃i:Y0,t.place[i]?=Y (stp t.mask m (qzo t.mask (tupleKeyHash (intKind prog w) k))).j/\Bad prog w s.heap es k i)->¬ Occ t (stp t.mask n (qzo t.mask (tupleKeyHash (intKind prog w) k))).j->
   Q (.free (stp t.mask n (qzo t.mask (tupleKeyHash (intKind prog w) k))).j Y6) s)(ht:(∃(i:Y0) (b:Y7) (g:J),es[i]?=Y (g,.ref b)/\IsTupleKey (intKind prog w) s.heap k b)->Q (.there B) s)(N)(hN:¬ Occ t (stp t.mask N (qzo t.mask (tupleKeyHash (intKind prog w) k))).j):
  ∀(d c:Y0) (f:Y3 Probe),f.getD (t.probeStart (tupleKeyHash (intKind prog w) k))=stp t.mask c (qzo t.mask (tupleKeyHash (intKind prog w) k))->c<=N->N - c<d->
   (∀m,m<c->∃i:Y0,t.place[i]?=Y (stp t.mask m (qzo t.mask (tupleKeyHash (intKind prog w) k))).j/\Bad prog w s.heap es k i)->
   wpAny (model prog w) A (Z2 a (.ref x) (tupleKeyHash (intKind prog w) k) O d f) Q E s
 |0,c,_,_,_,a0,_=>by lia
 |d+1,c,f,W,hle,a0,P=>by
  unfold Z2;refine Qq (Q8 X hd I.fits ?_);dsimp only;rw[I.tb.stays];simp only[Qzw];rw[W];generalize hm:SetTable.probe t _ _ _=met;have T:Okp t.mask (stp t.mask c (qzo t.mask (tupleKeyHash (intKind prog w) k))):=(Okp.start _).stp c;obtain⟨n,p1,p2⟩:=qdz I.tb T hm;have R:∀m,m<n->∃i:Y0,t.place[i]?=Y (stp t.mask (c+m) (qzo t.mask (tupleKeyHash (intKind prog w) k))).j/\Bad prog w s.heap es k i:=λm C=>by
   obtain⟨i,F,U⟩:=p1 m C;refine⟨i,by rw[qqe]; exact F,λe b k' p G a2 z=>U ?_⟩;obtain⟨b',a6,S,q⟩:=r i e p;have:(es[i]?.map (·.1)).getD 0=tupleKeyHash (intKind prog w) k:=by
    rw[p,S];rw[S]at G;cases G;rw[q.inj a2,z]; rfl
   exact this
  have l:∀m,m<c+n->∃i:Y0,t.place[i]?=Y (stp t.mask m (qzo t.mask (tupleKeyHash (intKind prog w) k))).j/\Bad prog w s.heap es k i:=λm C=>by
   rcases Qz7 m c with h|h
   ·exact P m h
   ·obtain⟨i,F,U⟩:=R (m - c) (by lia);rw[show c+(m - c)=m by lia]at F;exact⟨i,F,U⟩
  rw[<- qqe]at p2;rcases p2 with⟨D,rfl⟩|⟨i,D,q2,rfl⟩
  ·dsimp only;exact Qj (hf _ l D)
  ·dsimp only;have hi:i<es.size:=by rw[<- I.sz]; exact(Qzd.mp D).1
   have p:=Qq9 hi;obtain⟨b,k',S,G⟩:=r i _ p;rw[S]at p;have a7:c+n<N:=by
    rcases Qj0 (c+n) N with h|h|h
    ·exact h
    ·exact absurd ⟨i,by rw[<- h]; exact D⟩ hN
    ·obtain⟨u,F,_⟩:=l N h;exact absurd ⟨u,F⟩ hN
   have rest:wpAny (model prog w) A (do
     let j <- holding [Value.ref b] (eqBool (.ref b) (.ref x))
     let (a5,_,t') <- setState a
     if O&&j then return .there B
     let Y same:=t'.sameMemory t.moves t.mask|unsupported "set.changed-during-lookup:is-the-new-block-at-the-old-address"
     let v <- match (if same then t'.slot (stp t.mask (c+n) (qzo t.mask (tupleKeyHash (intKind prog w) k))).j else .empty) with
      |.live u=>match a5[u]? with
       |some (_,y')=>do pure (if <- isSame y' (.ref b) then Y u else B)
       |none=>pure B
      |_=>pure B
     match v with
     |none=>rule "set.search.anew"; Z2 a (.ref x) (tupleKeyHash (intKind prog w) k) O d B
     |some u=>if j then return .there (Y u) else Z2 a (.ref x) (tupleKeyHash (intKind prog w) k) O d (Y (stp t.mask (n+1) (stp t.mask c (qzo t.mask (tupleKeyHash (intKind prog w) k)))))) Q E s:=by
    refine Qq (Q3 (wpAny_eqBool_tuple hu G V ?_));refine Qq (Q8 X hd I.fits ?_)
    by_cases hk:k'=k
    ·subst hk;simp only[ if_true];exact Qj (ht ⟨i,b,_,p,G⟩)
    ·have ek:=Z4 hk;simp only[ek,if_false];have em:t.sameMemory t.moves t.mask=Y true:=by unfold SetTable.sameMemory; simp
     rw[em];simp only[if_true];rw[qjh I.tb D];dsimp only;rw[p];refine Qq (wpAny_isSame_ref_self ?_);simp only[if_true];refine Qq (Qj ?_);refine qv3 hu X hd I r V hf ht N hN d (c+n+1) _ ?_ (by lia) (by lia) λm C=>?_
     ·rw[<- qqe]; rfl
     ·rcases Qz7 m (c+n) with h|h
      ·exact l m h
      ·have:m=c+n:=by lia
       subst this;refine⟨i,D,λe b1 k1 K a4 a1 z=>hk ?_⟩;rw[p]at K;cases K;cases a4;rw[G.inj a1,z]
   have H:∀y∈(es.filter (·.1==tupleKeyHash (intKind prog w) k)).toList.map (·.2),∃b k,y=.ref b/\IsTupleKey (intKind prog w) s.heap k b:=λy hy=>by
    obtain⟨e,h1,rfl⟩:=Qqv.mp hy;have h2:e∈es.toList:=by
     rw[Array.toList_filter]at h1;exact(Qxe.mp h1).1
    obtain⟨u,a3,e1⟩:=Qz6 h2;obtain⟨b',k1,e2,q⟩:=r u e (by rw[<- Qq1,Qqc a3,e1]);exact⟨b',k1,by rw[e2],q⟩
   cases hl:t.led with
   |true=>
    simp only[Qkv,if_false];rw[p];exact rest
   |false=>
    simp only[Bool.not_false];refine Qq (qi4 V H ?_);simp only[Qzw];rw[p];exact rest
end
section
def TS(prog:Program)(w:Qk)(h:Heap)(a:Y7)(S:L (L J)):Prop:=∃o es ep t,h.get? a=Y o/\o.ExactSet/\o.data=.set es ep t/\SI t es/\Els prog w h es/\es.size=S.length/\
 (∀k,k∈S↔∃g b,(g,Value.ref b)∈es.toList/\IsTupleKey (intKind prog w) h k b)/\(t.mask=7->es.size<=4)
def qd5(i:h.get? a=Y o)(hd:o.data=.set es l t)(g:Heap.SameBut a h h')(x:IsTupleKey (intKind prog w) h k b):IsTupleKey (intKind prog w) h' k b:=by
 obtain⟨o',c,n,e,j,d,hi⟩:=x;have f:b≠a:=by
  rintro rfl;obtain rfl:o'=o:=Option.some.inj (e.symm.trans i);rw[hd]at d; exact nomatch d
 exact⟨o',c,n,(g.2 b f).trans e,j,d,hi⟩
def qd1:SetTable.sizeAbove (SetTable.grown 5)=32:=by decide
def qgg(f:s.heap.get? a=Y o)(hd:o.data=.set es g t)(I:SI t es)(k:es.size=5)(h:∀h' o' c d,Heap.SameBut a s.heap h'->h'.get? a=Y o'->(o.ExactSet->o'.ExactSet)->o'.data=.set c (g+1) d->SI d c->c.size=es.size->(∀e,e∈c.toList↔e∈es.toList)->d.mask=31->Q () { s with heap:=h' }):
  wpAny (model prog w) A (setRelay a (SetTable.grown 5)) Q E s:=by
 unfold setRelay;refine Qq (Q8 f hd I.fits ?_);dsimp only;rw[Z5 (by rw[qd1]; decide)];obtain⟨d,b,i,n,z,mem,mk⟩:=qnk (mv:=t.movedTo (SetTable.sizeAbove (SetTable.grown 5) - 1)) (.inr rfl) es (by lia);have m:t.relaid (es.map (·.1)) (SetTable.grown 5)=Y (d,b):=by
  unfold SetTable.relaid;rw[qd1]at i ⊢;exact i
 rw[m];refine Qq ?_
 change wpAny _ _ (do
  let Y (t,b):=(Y (d,b):Y3 (Qa×Array Y0))|unsupported "internal:set-table-without-room"
  let c:=b.filterMap (es[·]?)
  if c.size != es.size then unsupported "internal:set-table-lost-an-element"
  pure (c,t)) _ _ _
 dsimp only;have l:((b.filterMap (es[·]?)).size != es.size)=false:=by rw[z]; simp
 rw[l];simp only[Qzw];refine Qj ?_;refine wpAny_storeSet_of f hd ?_ (by rw[z,k,Q0]; decide);have j:(s.heap.update a (Obj.putSet (b.filterMap (es[·]?)) d)).get? a=Y { o with data:=.set (b.filterMap (es[·]?)) (g+1) d }:=by
  have:=Qjk (Obj.putSet (b.filterMap (es[·]?)) d) f (by rw[putSet_of _ _ hd]; rfl);rw[putSet_of _ _ hd]at this; exact this
 exact h _ _ _ _ (Heap.SameBut.update _ a _) j (λq=>q) rfl n z mem mk
def qnb(h):(qzo m h).j+(qzo m h).more<=m:=by
 have hi:bits h % (m+1)<=m:=Qxb (Qjd _ (Qx2 _));obtain⟨b,a⟩:=qjl hi;show bits h % (m+1)+(runEnd m (bits h % (m+1)) - bits h % (m+1))<=m
 lia
def j_next(h:p.j+p.more<=m):(adv m p).j+(adv m p).more<=m:=by
 unfold adv
 split
 ·show p.j+1+(p.more - 1)<=m; lia
 ·have hi:(leap m p.i p.perturb).1<=m:=Qxb (Qjd _ (Qx2 _));obtain⟨b,a⟩:=qjl hi;show(leap m p.i p.perturb).1+(runEnd m (leap m p.i p.perturb).1 - (leap m p.i p.perturb).1)<=m
  lia
theorem j_stp:∀(n:Y0){p:Probe},p.j+p.more<=m->(stp m n p).j+(stp m n p).more<=m
 |0,_,h=>h
 |n+1,_,h=>j_stp n (j_next h)
def add_ok(hu:A.units<cLine)(hT:TS prog w s.heap a S)(U:IsTupleKey (intKind prog w) s.heap k x)(hl:S.length<=15)(h:∀b h',Heap.SameBut a s.heap h'->TS prog w h' a (if k∈S then S else S++[k])->Q b { s with heap:=h' }):
  wpAny (model prog w) A (setAddHashed a (.ref x) (tupleKeyHash (intKind prog w) k)) Q E s:=by
 have b6:=hT;obtain⟨o,es,ep,t,H,a3,hd,I,v,V,f,h4⟩:=hT;have F:∀{e:J×Y8},e∈es.toList->∃i:Y0,es[i]?=Y e:=λ{e} he=>by
  obtain⟨i,hi,e1⟩:=Qz6 he;exact⟨i,by rw[<- Qq1,Qqc hi,e1]⟩
 unfold setAddHashed setAddHashedIn;refine Q3 (Qq (Q8 H hd I.fits ?_));dsimp only;have eb:byScan (.ref x) es=false:=rfl;rw[eb];simp only[Qzw];obtain⟨fr,b2,b3⟩:=some_free I.tb;obtain⟨N,hN,eN⟩:=hits I.tb.mask (Okp.start (tupleKeyHash (intKind prog w) k)) b2;refine Qq ?_;unfold setSearch;refine qv3 hu H hd I v U (λn D r=>?_) (λa8=>?_) N (by rw[eN]; exact b3) 100000 0 B rfl (Qq8 _) ?_ (λm u=>by lia)
 ·-- b9 element is new
  have X:k ∉ S:=λhk=>by
   obtain⟨g,b,u,y⟩:=(f k).mp hk;obtain⟨i,hi⟩:=F u;obtain⟨b',l,K,b5⟩:=v i _ hi;have e1:=congrArg Prod.fst K;have e2:=Value.ref.inj (congrArg Prod.snd K);subst e2;obtain rfl:=y.inj b5;exact qfo I D r i _ hi e1 _ b k hi rfl y rfl
  have b0:es.size+1<=t.mask:=by
   rcases I.tb.mask with q|q
   ·have:=h4 q; lia
   ·lia
  have a0:(stp t.mask n (qzo t.mask (tupleKeyHash (intKind prog w) k))).j<=t.mask:=Qz0 (Qjz _ _) (j_stp n (qnb _));generalize hj:(stp t.mask n (qzo t.mask (tupleKeyHash (intKind prog w) k))).j=j at *;have I1:SI (t.put j).1 (insertAt es (t.put j).2 (tupleKeyHash (intKind prog w) k,Value.ref x)):=put_ok I a0 r ⟨n,hj,λm u=>by obtain⟨i,hi,_⟩:=D m u; exact⟨i,hi⟩⟩ b0;refine Qq (Q8 H hd I.fits ?_);have W:(t.put j).2<=es.size:=by rw[qc7 I.tb,<- I.sz]; exact(qx4 I.tb.up).2.2
  have p:(t.put j).1.mask=t.mask:=by rw[qc7 I.tb]
  have c:(insertAt es (t.put j).2 (tupleKeyHash (intKind prog w) k,Value.ref x)).size=es.size+1:=qja _ _ _ W;have z:∀e,e∈(insertAt es (t.put j).2 (tupleKeyHash (intKind prog w) k,Value.ref x)).toList↔e∈es.toList\/e=(tupleKeyHash (intKind prog w) k,Value.ref x):=λe=>qnm W;have a5:∀(h':Heap) (d:Array (J×Y8)),Heap.SameBut a s.heap h'->(∀e,e∈d.toList↔e∈es.toList\/e=(tupleKeyHash (intKind prog w) k,Value.ref x))->
    Els prog w h' d/\∀l,l∈S++[k]↔∃g b,(g,Value.ref b)∈d.toList/\IsTupleKey (intKind prog w) h' l b:=λh' d R u=>by
   have kp:∀{b:Y7}{l:L J},IsTupleKey (intKind prog w) s.heap l b->IsTupleKey (intKind prog w) h' l b:=λq=>qd5 H hd R q;refine⟨λi e he=>?_,λl=>?_⟩
   ·rcases (u e).mp (Qqf (by rw[Qq1]; exact he)) with q|q
    ·obtain⟨i',G⟩:=F q;obtain⟨b,l,K,y⟩:=v i' _ G;exact⟨b,l,K,kp y⟩
    ·exact⟨x,k,q,kp U⟩
   ·constructor
    ·intro hk;rcases Qqn.mp hk with q|q
     ·obtain⟨g,b,q1,q2⟩:=(f l).mp q;exact⟨g,b,(u _).mpr (.inl q1),kp q2⟩
     ·rw[Qqa]at q;subst q;exact⟨_,x,(u _).mpr (.inr rfl),kp U⟩
    ·rintro⟨g,b,q1,q2⟩;rcases (u _).mp q1 with q|q
     ·obtain⟨i',G⟩:=F q;obtain⟨b',c0,K,y⟩:=v i' _ G;have e2:=Value.ref.inj (congrArg Prod.snd K);subst e2;obtain rfl:=q2.inj (kp y);exact Qze _ ((f l).mpr ⟨g,b,q,y⟩)
     ·have e2:=Value.ref.inj (congrArg Prod.snd q);subst e2;obtain rfl:=q2.inj (kp U);exact Qqr _ (by simp)
  have C:∀(b:Yb) (t2:Qa),SI t2 (insertAt es (t.put j).2 (tupleKeyHash (intKind prog w) k,Value.ref x))->t2.mask=t.mask->
    wpAny (model prog w) A (do
     storeSet a (insertAt es (t.put j).2 (tupleKeyHash (intKind prog w) k,Value.ref x)) t2
     if (!Y6&&t2.tooFull)=O then do
      setRelay a (SetTable.grown (es.size+1))
      pure O
     else pure O) Q E s:=λb t2 I2 b1=>by
   refine Qq (wpAny_storeSet_of H hd ?_ (by rw[c,Q0]; lia));have hg:(s.heap.update a (Obj.putSet (insertAt es (t.put j).2 (tupleKeyHash (intKind prog w) k,Value.ref x)) t2)).get? a=Y { o with data:=.set (insertAt es (t.put j).2 (tupleKeyHash (intKind prog w) k,Value.ref x)) (ep+1) t2 }:=by
    have:=Qjk (Obj.putSet (insertAt es (t.put j).2 (tupleKeyHash (intKind prog w) k,Value.ref x)) t2) H (by rw[putSet_of _ _ hd]; rfl);rw[putSet_of _ _ hd]at this; exact this
   have R:=Heap.SameBut.update s.heap a (Obj.putSet (insertAt es (t.put j).2 (tupleKeyHash (intKind prog w) k,Value.ref x)) t2);obtain⟨fe,fm⟩:=a5 _ _ R z;have a4:t2.tooFull=decide ((es.size+1)*5 >= t.mask*3):=by
    unfold SetTable.tooFull SetTable.fill;rw[I2.tb.dum,I2.sz,c,b1]; rfl
   rw[a4]
   by_cases a1:(es.size+1)*5 >= t.mask*3
   ·have m7:t.mask=7:=by
     rcases I.tb.mask with q|q
     ·exact q
     ·lia
    have e5:es.size+1=5:=by have:=h4 m7; lia
    simp only[Z3 a1,if_true];rw[e5];refine Qq (qgg hg rfl I2 (by rw[c,e5]) λh' o' d t' a6 a9 a2 b4 I' z' T a7=>Qj ?_);have P:=R.trans a6;obtain⟨b8,b7⟩:=a5 h' d P λe=>(T e).trans (z e);refine h O h' P ?_;rw[Z5 X];exact⟨o',d,_,t',a9,a2 a3,b4,I',b8,by rw[z',c,V]; simp,b7,λq=>by rw[a7]at q; cases q⟩
   ·simp only[Z4 a1,if_false];refine Qj (h O _ R ?_);rw[Z5 X];exact⟨_,_,_,t2,hg,a3,rfl,I2,fe,by rw[c,V]; simp,fm,λq=>by rw[c]; lia⟩
  cases c1:(t.put j).1.plain with
  |true=>
   simp only[if_true];refine Qq (qbz U ?_);simp only[if_true];exact C O _ I1 p
  |false=>
   simp only[ if_false];refine Qq (Qj ?_);simp only[if_true];exact C O _ I1 p
 ·-- it is there
  refine Qj ?_;obtain⟨i,b,g,hi,y⟩:=a8;have hk:=(f k).mpr ⟨g,b,Qqf (by rw[Qq1]; exact hi),y⟩;have e:s={ s with heap:=s.heap }:=by cases s; rfl
  rw[e];exact h Y6 s.heap (Heap.SameBut.refl a s.heap) (by rw[Z6 hk]; exact b6)
 ·have:t.mask<=31:=by rcases I.tb.mask with q|q<;>lia
  unfold SetTable.turns at hN
  lia
end
end ST
end
section
namespace ST
open PySem SetTable PyProof.Rows
noncomputable def addK(S:L (L J))(k:L J):L (L J):=if k∈S then S else S++[k]
noncomputable def distinct(ks:L (L J)):L (L J):=ks.foldl addK []
def qoa(S)(k):(addK S k).length<=S.length+1:=by unfold addK; split<;>simp
theorem foldK_le:∀(l S:L (L J)),(l.foldl addK S).length<=S.length+l.length
 |[],S=>by simp
 |k::l,S=>by
  have:=foldK_le l (addK S k);have:=qoa S k;rw[Qjy,Qqi]; lia
section
variable {prog:Program}{w:Qk}{A:Qv}{R:Result->Qz->Prop}{I:Y7}{fp wr:L Y7}{G:Array GenState->Array GenState->Prop}{n:Y0}{P:Y0->Y8->Prop}{St:Y0->Qz->Prop}
def TS.keeps(x:TS prog w h a S)(y:∀b o,(b=a\/∃k,IsTupleKey (intKind prog w) h k b)->h.get? b=Y o->h'.get? b=Y o):TS prog w h' a S:=by
 obtain⟨o,es,E,t,z,u,hd,I,j,p,f,D⟩:=x;have kp:∀{b:Y7}{d:L J},IsTupleKey (intKind prog w) h d b->IsTupleKey (intKind prog w) h' d b:=λ{b d} q=>by
  obtain⟨o',c,n,s,r⟩:=id q;exact⟨o',c,n,y b o' (.inr ⟨d,q⟩) s,r⟩
 refine⟨o,es,E,t,y a o (.inl rfl) z,u,hd,I,λi e C=>?_,p,λk=>?_,D⟩
 ·obtain⟨b,k,v,q⟩:=j i e C;exact⟨b,k,v,kp q⟩
 ·rw[f k];constructor
  ·rintro⟨g,b,l,m⟩; exact⟨g,b,l,kp m⟩
  ·rintro⟨g,b,l,m⟩;obtain⟨i,hi,H⟩:=Qz6 l;obtain⟨K,d,v,q⟩:=j i (g,.ref b) (by rw[<- Qq1,Qqc hi,H]);have F:=Value.ref.inj (congrArg Prod.snd v);subst F;obtain rfl:=m.inj (kp q);exact⟨g,b,l,q⟩
def qm5(hu:A.in1.units<cLine)(W:WalksS prog w A.in1 I fp wr G n P St)(S)(U:S ∉ fp)(u:∀b∈wr,∀s i,St i s->¬ ∃k,IsTupleKey (intKind prog w) s.heap k b)(ks)(hn:ks.length=n)(b1:n<=16)(y:∀i v,P i v->∃b,v=.ref b)(Kp:Qz->Prop)(a5:∀s i b,Kp s->P i (.ref b)->∃k,ks[i]?=Y k/\IsTupleKey (intKind prog w) s.heap k b)(N:∀s s',Kp s->(∀b o,(∃k,IsTupleKey (intKind prog w) s.heap k b)->s.heap.get? b=Y o->s'.heap.get? b=Y o)->Kp s'):
  ∀(k i:Y0) (s:Qz),n - i=k->i<=n->St i s->Kp s->TS prog w s.heap S ((ks.take i).foldl addK [])->
   (∀s',Moved (S::wr) G s s'->TS prog w s'.heap S (distinct ks)->R (.ok (.ret .none)) s')->
   Zd (model prog w) A (.builtin "set.update.loop" ⟨[.ref S,.ref I],[]⟩) R s:=by
 have a8:=λh=>U (W.sub _ h);have f:∀b∈wr,b∈S::wr:=λb a=>Qqt _ a
 have r:∀{s s':Qz}{i:Y0}{Lq:L (L J)},St i s->Moved wr G s s'->TS prog w s.heap S Lq->TS prog w s'.heap S Lq:=λ{s s' i Lq} st g x=>x.keeps λb o a D=>g.heap b o (λhw=>by
  rcases a with rfl|a
  ·exact a8 hw
  ·exact u b hw s i st a) D
 intro k
 induction k with
 |zero=>
  intro i s hk hi c a0 hS hR;have a6:i=n:=by lia
  subst a6;refine Zb F.entry_set_update_loop ?_;rw[Around.under_plainId F.plain_set_update_loop _];refine Qq (W.done s _ _ c λs' g=>Qj (hR s' (g.mono f) (r c g ?_)));rw[<- hn,Qzv]at hS;exact hS
 |succ k ih=>
  intro i s hk hi c a0 hS hR;have H:i<n:=by lia
  refine Zb F.entry_set_update_loop ?_;rw[Around.under_plainId F.plain_set_update_loop _];refine Qq (W.item i s _ _ H c λv s' hP C g=>?_);obtain⟨b,rfl⟩:=y i v hP;have j:=N s s' a0 λl o a D=>g.heap l o (λhw=>u l hw s i c a) D;obtain⟨key,Q,a⟩:=a5 s' i b j hP;have X:=r c g hS;refine Qq (Q3 ?_);unfold setAdd;refine Q3 ?_;refine Qq (wpAny_pyHash_tuple hu a ?_);have K:((ks.take i).foldl addK []).length<=15:=by
   have:=foldK_le (ks.take i) [];rw[Qzz]at this;simp at this
   lia
  have a4:(ks.take (i+1)).foldl addK []=addK ((ks.take i).foldl addK []) key:=by
   rw[Qxk,Q,Qj2]; rfl
  refine add_ok hu X a K λ_ h' p b0=>?_;have a9:TS prog w h' S ((ks.take (i+1)).foldl addK []):=by rw[a4]; exact b0
  have a2:∀{l:Y7},(∃k,IsTupleKey (intKind prog w) s'.heap k l)->l≠S:=λ{l} ⟨k',q⟩ z=>by
   obtain⟨o,es,ep,t,D,_,hd,_⟩:=X;obtain⟨o',a3,m,d,_,T,_⟩:=q;rw[z]at d;obtain rfl:o'=o:=Option.some.inj (d.symm.trans D);rw[hd]at T; exact nomatch T
  refine Qj ⟨plainId_quiet F.plain_set_update_loop _,ih (i+1) _ (by lia) H (W.frame _ s' _ _ C (Qjz _ _) λb a o e=>?_) (N s' _ j λl o a7 d=>(p.2 l (a2 a7)).trans d) a9 λa1 E V=>?_⟩
  ·rw[p.2 b (λh:b=S=>U (by rw[<- h]; exact a))]; exact e
  ·refine hR a1 (Moved.trans W.gtrans ((g.mono f).then_heap (Qjz _ _) λb o a e=>?_) E) V;rw[p.2 b (λh:b=S=>a (by rw[h]; exact Qq5))]; exact e
end
end ST
end
section
namespace ST
open PySem SetTable
def qf2:isSubtype (.type "tuple") (.type "set")=pure false:=by rw[Ze]; kernel_rfl
def qw7:isSubtype (.type "tuple") (.type "frozenset")=pure false:=by rw[Ze]; kernel_rfl
noncomputable abbrev bare(led:Yb):Obj:={ cls:=.type "set",dict:=B,data:=.set #[] 0 (.fresh 0 0 led) }
def Cells(prog:Program)(w:Qk)(h:Heap)(items:Array Y8)(ks:L (L J)):Prop:=∀(i:Y0) (v:Y8),items[i]?=Y v->∃b k,v=.ref b/\ks[i]?=Y k/\IsTupleKey (intKind prog w) h k b
section
def qhw(calm:Bq.handled=B)(room:Bq.units+4<cLine)(tup:c.IsTuple l items)(d:Cells prog w c items ks)(n1:ks.length=items.size)(n2:items.size<=16)(hs:s.heap=c.push (bare a))(done:∀h1 V,TS prog w h1 c.objs.size (distinct ks)->(∀b o,b<c.objs.size->c.get? b=Y o->h1.get? b=Y o)->I (.done (.ret .none)) { s with heap:=h1,toks:=V }):
  wpAny (model prog w) Bq (Qs.«set.__init__» ⟨[.ref c.objs.size,.ref l],[]⟩) I E s:=by
 obtain⟨hp,gs,dr,tk,os⟩:=s;subst hs;obtain⟨⟨tc,td,H,P⟩,t1,t2,nl,Q⟩:=id tup;subst t2 Q;have u:(c.push (bare a)).get? c.objs.size=Y (bare a):=Qqg _ rfl;have D:=Qqx (bare a) t1;have a1:=qf2;have a2:=qw7;have a3:(Value.type "tuple" == Value.type "dict")=false:=by decide
 have W:Shared.TypeIs ⟨c.push (bare a),gs,dr,tk,os⟩ (.ref c.objs.size) "set":=⟨_,u,rfl⟩
 have g:(c.push (bare a)).IsTuple l items:=⟨_,D,rfl,nl,rfl⟩
 unfold Qs.«set.__init__» noKeywords Builtin.Frozenset.updateFrom;generalize ei:pyIter=F
 wp_walk
 subst ei;refine wpAny_pyIter_tuple g (Qq (wpAny_runValue ?_));have t:=Qqe t1;have sz:(c.push (bare a)).objs.size=c.objs.size+1:=Qxz ..;have T:l≠(c.push (bare a)).objs.size:=by rw[sz]; exact Qq3 (Qxl t)
 have S:c.objs.size ∉ [(c.push (bare a)).objs.size,l]:=by
  rw[sz];simp only[Qqy,Qq2,or_false,not_or];exact⟨Qq3 (Qzb _),Qxd t⟩
 refine qm5 (by show Bq.units+1<cLine; lia) ((Walks.tuple (by simp[calm]) _ l T items).toS) c.objs.size S ?f ks n1 n2 (λi v X=>?isRef)
  (λz=>∀(i:Y0) (b:Y7),items[i]?=Y (.ref b)->∃k,ks[i]?=Y k/\IsTupleKey (intKind prog w) z.heap k b) (λz i b q hp=>q i b hp) ?stay items.size 0 _ rfl (Qq8 _) ⟨⟨_,Qqg _ rfl,rfl,rfl⟩,?n⟩ ?keys ?empty ?fin
 case isRef=>obtain⟨b,_,e,_⟩:=d i v X; exact⟨b,e⟩
 case n=>obtain⟨ob,e1,e2⟩:=g; exact⟨ob,Qqx _ e1,e2⟩
 case f=>
  rintro b h z i ⟨⟨ob,N,_,K⟩,_⟩ ⟨_,p,_,_,j,_,G,_⟩;rw[Qqa.mp h,N]at j;cases j;rw[K]at G;cases G
 case stay=>
  intro z1 z2 q keep i b h;obtain⟨k,e,y⟩:=q i b h;obtain⟨p,it,m,j,r⟩:=id y;exact⟨k,e,p,it,m,keep b p ⟨k,y⟩ j,r⟩
 case keys=>
  intro i b h;obtain⟨b',k,e,ek,p,it,m,j,r⟩:=d i _ h;cases e;exact⟨k,ek,p,it,m,Qqx _ (Qqx _ j),r⟩
 case empty=>exact⟨_,#[],0,_,Qqx _ u,⟨rfl,rfl,rfl⟩,rfl,qhc a,λi e he=>by simp at he,rfl,λk=>by simp,λ_=>by simp⟩
 case fin=>
  intro z U q;obtain⟨h1,a0,a4,x,R⟩:=z;obtain⟨m1,rfl,rfl,rfl,_⟩:=U;refine Qj (Qj (done h1 x q λb o h e=>m1 b o ?_ (Qqx _ (Qqx _ e))));have C:=Qq3 h;have A:b≠(c.push (bare a)).objs.size:=by rw[sz]; exact Qq3 (Qxl h)
  simp only[Qqy,Qq2,or_false,not_or];exact⟨C,A⟩
end
section
theorem TS.size(x:TS prog w h a S)(f:S.length<=16):∃o es c t,h.get? a=Y o/\o.ExactSet/\o.data=.set es c t/\t.fits es.size=O/\(es.size:J)<2 ^ 63/\es.size=S.length:=by
 obtain⟨o,es,c,t,e,b,hd,I,_,d,_⟩:=x;exact⟨o,es,c,t,e,b,hd,I.fits,by omega,d⟩
def set_call(calm:A.handled=B)(room:A.units+12<cLine)(tup:s.heap.IsTuple l c)(h:Cells prog w s.heap c ks)(n1:ks.length=c.size)(n2:c.size<=16)(k:∀h1 g,TS prog w h1 s.heap.objs.size (distinct ks)->(∀b o,b<s.heap.objs.size->s.heap.get? b=Y o->h1.get? b=Y o)->Q (.ref s.heap.objs.size) { s with heap:=h1,toks:=g }):
  wpAny (model prog w) A (call (.type "set") [.ref l]) Q E s:=by
 have f:=F.called_set;obtain⟨_,_,C⟩:=f.mro;have y:=f.made;have x:=f.sub;have v:=f.notType;have u:=f.canCreate;have t:=F.typeCall_set_1 (.ref l);refine wpAny_call (codeAny_of_tree (Qj ⟨Code.quiet_builtin _ (by decide +kernel),Zb F.entry_type_call ?_⟩));rw[Around.under_plain (weight_type_call_type "set" [.ref l] []) rfl]
 repeat (any_goals (first|assumption|wp_step))
 refine Q9 (code_set_new_1 (.ref l) (E:=E) (Q₁:=λob z=>∃d,ob=.ref s.heap.objs.size/\z={ s with heap:=s.heap.push (bare d) }) λd=>⟨d,rfl,rfl⟩) λr z e=>?_
 match r,e with
 |.error _,e=>exact e
 |.ok .next,e=>exact e.elim
 |.ok .brk,e=>exact e.elim
 |.ok .cont,e=>exact e.elim
 |.ok (.ret ob),e=>
  obtain⟨d,rfl,rfl⟩:=e;have i:Shared.TypeIs { s with heap:=s.heap.push (bare d) } (.ref s.heap.objs.size) "set":=⟨_,Qqg _ rfl,rfl⟩
  have p:=f.init.lookup;have n:=f.init.bind (.ref s.heap.objs.size)
  repeat (any_goals (first|assumption|wp_step))
  refine Q9 (codeAny_call_builtin (R:=wants (λr z=>r=.none/\∃h1 g,z={ s with heap:=h1,toks:=g }/\TS prog w h1 s.heap.objs.size (distinct ks)/\∀b o,b<s.heap.objs.size->s.heap.get? b=Y o->h1.get? b=Y o) E) f.init.plain F.entry_set_init (check_set_init_1 i ?_)) λj m a=>?_
  ·exact qhw (by simp[calm]) (by show A.units+1+1+4<cLine; omega) tup h n1 n2 rfl λh1 g q keep=>⟨rfl,h1,g,rfl,q,keep⟩
  ·match j,a with
   |.error _,a=>exact a
   |.ok .next,a=>exact a.elim
   |.ok .brk,a=>exact a.elim
   |.ok .cont,a=>exact a.elim
   |.ok (.ret _),a=>
    obtain⟨rfl,h1,g,rfl,q,keep⟩:=a
    repeat (any_goals (first|assumption|wp_step))
    exact k h1 g q keep
end
end ST
end
section
namespace MS
open PySem PySem.Spec PyProof.Rows L2
noncomputable def setO(a:Y7)(n:Y0):HO:=.ext λh=>∃o es ep t,h.get? a=Y o/\o.ExactSet/\o.data=.set es ep t/\t.fits es.size=O/\(es.size:J)<2 ^ 63/\es.size=n
def qoc(K:Qqq)(H:Hp):L V->L (L J)->Prop:=Paired λy k=>∃q,y=.ref q/\SqT K H q (k.map V.int)
theorem items_int:∀{k}{a},Vals (k.map V.int) a->ItemsAre (intKind prog w) k a
 |[],_,h=>by cases h; exact .nil
 |i::k,_,h=>by
  cases h with
  |cons r t=>
   obtain⟨b,rfl⟩:=r;exact .cons (intKind_is _ _ _ _) (items_int t)
section
def qlb(I:Inv X a c H s)(h:SqT X.K H q (k.map V.int)):IsTupleKey (intKind X.prog X.w) s.heap k q:=by
 obtain⟨b,r,⟨o,d,e,n,hd⟩,_⟩:=I.tuple h;exact⟨o,b.toArray,n,d,e,hd,items_int r⟩
theorem qa8(I:Inv X a d H s):∀{ys}{ks}{c},qoc X.K H ys ks->Vals ys c->
  ∀(i:Y0) (v:Y8),c[i]?=Y v->∃b k,v=.ref b/\ks[i]?=Y k/\IsTupleKey (intKind X.prog X.w) s.heap k b
 |_,_,_,.nil,r,i,v,e=>by cases r; simp at e
 |_,_,_,.cons (b:=k) h t,r,i,v,e=>by
  cases r with
  |cons g f=>
   obtain⟨q,rfl,j⟩:=h
   cases i with
   |zero=>
    simp at e;subst e;cases g;exact⟨q,k,rfl,rfl,qlb I j⟩
   |succ i=>
    simp only[Qj8]at e ⊢;exact qa8 I t f i v e
def qe9(calm:X.A.handled=B)(room:X.A.units+64<cLine):qqi X (.type "set") (λxs H Q=>∃p ys ks,xs=[.ref p]/\SqT X.K H p ys/\qoc X.K H ys ks/\ys.length<=16/\∀l,H l=B->Q (.ref l) (upd H l (setO l (ST.distinct ks).length))):=by
 intro pins s σ H xs G Q I r h;obtain⟨p,ys,ks,rfl,x,j,hl,q⟩:=h;obtain⟨u,rfl,m⟩:=vals1 r;cases m;obtain⟨w,r',⟨o,y,a,n,hd⟩,R⟩:=I.tuple x;have N:=r'.length;have K:=Paired.length j;refine ST.set_call calm (by lia) ⟨o,y,a,n,hd⟩ (λi v e=>qa8 I j r' i v (by simpa using e)) (by simp; lia) (by simp; lia) λh1 P T keep=>?_;have le:=ST.foldK_le ks []
 obtain⟨g,es,z,t,k,F,E,D,C,A⟩:=T.size (by
  show(ks.foldl ST.addK []).length<=16
  simp at le; lia)
 refine⟨.ref s.heap.objs.size,_,I.laid (λb o e=>keep b o (Qqe e) e) (Qqk _) ?_,rfl,q _ (I.hok.fresh (Qqk _))⟩;exact⟨⟨g,es,z,t,k,F,E,D,C,A⟩,⟨g,k⟩,λh2 S ⟨f,c,d,t2,b1,b2⟩ kp=>⟨f,c,d,t2,kp f b1,b2⟩⟩
def qfj:qqi X (.builtin "len") (λxs H Q=>∃p n,xs=[.ref p]/\H p=Y (setO p n)/\Q (.int n) H):=by
 intro pins s σ H xs k Q I r h;obtain⟨p,n,rfl,hp,q⟩:=h;obtain⟨u,rfl,a⟩:=vals1 r;cases a;obtain⟨⟨o,es,l,t,j,i,g,f,d,c⟩,_⟩:=(I.hok p _ hp)
 refine call_len_set j i g f d ?_;exact⟨.int n,H,I.kept (λb o e=>e),⟨_,by rw[c]⟩,q⟩
end
end MS
end
section
namespace MS
open PySem PySem.Spec PyProof.Rows L2
open M (D Y4)
section
theorem qao{K:Qqq}:∀{ds}{xs}{k},IsDs K m H ds xs->(ds.mapM λd=>match d with|.int i=>Y i|_=>B)=Y k->xs=k.map V.int
 |[],xs,k,h,e=>by
  simp at e;subst e;exact Qz4.mp h.length.symm
 |d::ds,xs,k,h,e=>by
  rw[Qkk]at e
  cases d with
  |int i=>
   obtain⟨x,r,rfl,h1,h2⟩:=h.cons
   cases a:(ds.mapM λd=>match d with|M.D.int i=>Y i|_=>B) with
   |none=>rw[a]at e; cases e
   |some b=>
    rw[a]at e;cases e;rw[h1.int,qao h2 a]; rfl
  |_=>exact nn e
theorem qd4{K:Qqq}:∀{ds}{xs}{ks},IsDs K m H ds xs->ds.mapM M.keyD=Y ks->qoc K H xs ks
 |[],xs,ks,h,e=>by
  simp at e;subst e;rw[Qz4.mp h.length.symm];exact .nil
 |d::ds,xs,ks,h,e=>by
  rw[Qkk]at e
  cases d with
  |tup cs=>
   obtain⟨x,r,rfl,h1,h2⟩:=h.cons
   cases a:M.keyD (.tup cs) with
   |none=>rw[a]at e; cases e
   |some k=>
    cases b:ds.mapM M.keyD with
    |none=>rw[a,b]at e; cases e
    |some f=>
     rw[a,b]at e;cases e;obtain⟨c,ys,rfl,i,g⟩:=h1.tup;refine .cons ⟨c,rfl,?_⟩ (qd4 h2 b);rw[<- qao g a]; exact i
  |_=>exact nn e
end
end MS
end
section
namespace MS
open PySem PySem.Spec PyProof.Rows L2
open M (D Ya Y4 Sl E S T Src Fn Out R)
def qbd{E:TT}(hc:X.calm=O)(S:CompScope X N src c)(hi:PI X tg d A)(hg:∀C fp s H,PG (qzn X N c C fp s H) tg g)(V:∀C fp s H,qb7 (qzn X N c C fp s H) ifs E)(he:∀C fp s H,PE (qzn X N c C fp s H) elt F)(hs:∀x,foldedSetIterable d X.env x=pure x)(hN:X.N.Nodup)(U:X.N[i]?=Y x)(hl:Loc X.env.scope x)(hf:X.fn x=O\/X.env.scope.names.lookup x=Y .local)(p:swapsWith (.ListComp elt [⟨tg,d,ifs,0⟩] c j) (Y (.Name x f)) pos.line X.env=pure O):
  PS X (.Assign [.Name x f] (.ListComp elt [⟨tg,d,ifs,0⟩] c j) pos) (tAsg (qli src A g E F) (qyg i)):=by
 intro pins s σ H D I h;rw[exec_Assign_Name_used _ _ _ _ p];refine Qq (wpAny_standAt (Qq ?_));refine Qq (Qi (wpAny_comprehension_free rfl hs (qwo S I) S.kind S.loc (thn (hi pins s σ H _ I h) λv s1 h1=>thn h1 λR n h2=>?_)) (λ_ s' hq=>Qj (Qj hq)) λ_ _ e=>e);obtain⟨it,fp,tn,Jq,H2,e,I2,T,l,f2,W,G,k⟩:=h2;subst e;refine qkt hc I2 T l f2 S (λC=>hg C fp n H2) (λC=>V C fp n H2) (λ_ C=>he C fp n H2) (λ_ _ _ _ _ z=>z.elim) W G k ?_;intro y C s' H' a0 u Q I' fC hm;obtain⟨m',hn⟩:=hm;obtain⟨c0,c1,c2,c3,c4,c5⟩:=fC;refine wpAny_assign_Name (qvs I' hN U hl (show RelV (.ref y) (.ref y) from rfl) (λP w r=>?_) hf);obtain⟨a,K,ha⟩:=r;have t:C≠a:=by
  rcases ha with z|z
  ·rw[z]; exact c1
  ·exact λq=>c4 x a z q.symm
 exact⟨m',hn.sameBut K t,λh' m=>⟨_,_,w.turned (λb o hb e=>(m.2 b hb).trans e) c0 c1 c3 c4 c5,u y Q⟩⟩
noncomputable def iSeq(K:Qqq)(tl:TE):TI:=λσ H R=>tl σ H λx H1=>(∃a,x=.ref a/\(((∃xs,SqL K H1 a xs)/\R (Itl K a) H1)\/((∃xs,SqT K H1 a xs)/\R (Itt K a) H1)))
def pi_seq(r:PE X l tl):PI X tg l (iSeq X.K tl):=by
 intro pins s σ H R I h;refine thn (r pins s σ H _ I h) λv d ⟨x,H1,c,k,m⟩=>?_;obtain⟨a,e,q⟩:=m;subst e;cases k;rcases q with⟨⟨xs,g⟩,q⟩|⟨⟨xs,g⟩,q⟩
 ·obtain⟨f,j,p,n⟩:=c.list g;refine Zf p.isList ?_;refine⟨d.heap.objs.size,[d.heap.objs.size],_,_,H1,rfl,c.kept λb o e=>Qqx _ e,qck a _,⟨_,Qqg _ rfl,rfl,rfl⟩,λb i=>?_,q⟩;have e:b=d.heap.objs.size:=by simpa using i
  subst e;exact c.fpOk (Qqk _) (c.hok.fresh (Qqk _))
 ·obtain⟨f,j,p,n⟩:=c.tuple g;refine wpAny_pyIter_tuple (p) ?_;refine⟨d.heap.objs.size,[d.heap.objs.size],_,_,H1,rfl,c.kept λb o e=>Qqx _ e,qbq a _,⟨_,Qqg _ rfl,rfl,rfl⟩,λb i=>?_,q⟩;have e:b=d.heap.objs.size:=by simpa using i
  subst e;exact c.fpOk (Qqk _) (c.hok.fresh (Qqk _))
structure Glo where
 cs:L (Y5×D)
 ds:L (Y5×L Y5×L D)
 /-- a method's place among the functions,its class,its name -/
 ms:L (Y0×Y7×Y5)
 /-- the classes -/
 cl:L (Y5×Y7)
 /-- attributes of instances -/
 ats:L (Y7×Y5)
structure Ctx where
 N:L Y5
 sc:Scope
 fns:L Y5
 glo:Glo
noncomputable def qok:M.Bq->String
 |.len=>"len"
 |.min=>"min"
 |.tuple=>"tuple"
 |.list=>"list"
 |.all=>"all"
 |.sorted=>"sorted"
 |.any=>"any"
noncomputable def bOk:M.Bq->Yb
 |.len=>O
 |.min=>O
 |.tuple=>O
 |.list=>O
 |.all=>O
 |.sorted=>O
 |.any=>O
noncomputable def qbc(scope sc:Scope):Scope:={ scope with names:=scope.names.map λ(n,k)=>if (k==NameKind.free&&sc.kind==.function&&sc.names.lookup n==Y .cell) then(n,NameKind.cell) else(n,k) }
noncomputable def tlOk(N:L Y5)(sc:Scope)(t:T):Bool:=t.slots.all λi=>match N[i]? with
 |some x=>sc.names.lookup x==Y .local
 |none=>Y6
def qcf(h:tlOk N sc t=O):∀i∈t.slots,∀x,N[i]?=Y x->sc.names.lookup x=Y .local:=by
 intro i hi x a;unfold tlOk at h;have:=Qzj.mp h i hi;rw[a]at this;simpa using this
noncomputable def qg9(x:Y5):Bool:=!x.cps.toList.contains 46
def MTree(pa:Qx)(m:Y5)(apos:Pos)(ps:L Qx)(pos:Pos):Prop:=∀env,∃pl:Sem Yb,Qb (.Call (.Attribute pa m apos) ps [] pos) env=(do
 let ov <- Qb pa env
 standAt apos.atName
 let (f,first) <- holding [ov] (Z0 ov m pl)
 callWith pos f first (backTo pos (starEach ps env)) (backToKw pos (keywordEach [] env)))
def Star(p:Qx):Prop:=∀es env,starEach (p::es) env=(Y6,Qb p env)::starEach es env
inductive CkTys (c:Ctx):L M.Ty->L Qx->Prop
 |nil:CkTys c [] []
 |cons {t ts ps pos} (ht:t≠.non) (hg:c.sc.names.lookup (Str.ofString t.name)=Y .globalImplicit) (h:CkTys c ts ps):CkTys c (t::ts) (.Name (Str.ofString t.name) pos::ps)
inductive CkTs (c:Ctx):L Y0->L Qx->Prop
 |nil:CkTs c [] []
 |cons {i x pos is es} (hN:c.N[i]?=Y x) (hl:c.sc.names.lookup x=Y .local\/c.sc.names.lookup x=Y .cell) (h:CkTs c is es):CkTs c (i::is) (.Name x pos::es)
inductive CkT (c:Ctx):T->Qx->Prop
 |tup {is es k pos} (h:CkTs c is es):CkT c (.tup is) (.Tuple es k pos)
 |var {i x pos} (hN:c.N[i]?=Y x) (hl:c.sc.names.lookup x=Y .local\/c.sc.names.lookup x=Y .cell):CkT c (.var i) (.Name x pos)
noncomputable def gcOk:Qx->Yb
 |.Call _ _ _ _=>O
 |.ListComp _ _ _ _=>O
 |.List _ _=>O
 |.BinOp _ _ _ _=>O
 |.Subscript _ _ _=>O
 |_=>Y6
inductive CkL (R:E->Qx->Prop):L E->L Qx->Prop
 |nil:CkL R [] []
 |cons {e es p ps} (h:R e p) (t:CkL R es ps):CkL R (e::es) (p::ps)
inductive CkP (R:E->Qx->Prop):L E->L (Y3 Qx)->L Qx->Prop
 |nil:CkP R [] [] []
 |cons {k v es pk pv ks vs} (hk:R k pk) (hv:R v pv) (t:CkP R es ks vs):CkP R (k::v::es) (Y pk::ks) (pv::vs)
inductive CkO (R:E->Qx->Prop):Y3 E->Y3 Qx->Prop
 |none:CkO R B B
 |some {e p} (h:R e p):CkO R (Y e) (Y p)
inductive CkI (R:E->Qx->Prop):Ctx->Qx->E->Qx->Prop
 |rng1 {c tg a pa p0 pos} (hg:c.sc.names.lookup ("range" : Y5)=Y .globalImplicit) (ha:R a pa):CkI R c tg (.rng1 a) (.Call (.Name "range" p0) [pa] [] pos)
 |rng2 {c tg a b pa pb p0 pos} (hg:c.sc.names.lookup ("range" : Y5)=Y .globalImplicit) (ha:R a pa) (hb:R b pb):CkI R c tg (.rng2 a b) (.Call (.Name "range" p0) [pa,pb] [] pos)
 |zip {c es k tp a b pa pb p0 pos} (hg:c.sc.names.lookup ("zip" : Y5)=Y .globalImplicit) (ha:R a pa) (hb:R b pb):CkI R c (.Tuple es k tp) (.zip a b) (.Call (.Name "zip" p0) [pa,pb] [] pos)
 |enu {c es k tp a pa p0 pos} (hg:c.sc.names.lookup ("enumerate" : Y5)=Y .globalImplicit) (ha:R a pa):CkI R c (.Tuple es k tp) (.enu a) (.Call (.Name "enumerate" p0) [pa] [] pos)
 |rev {c tg a pa p0 pos} (hg:c.sc.names.lookup ("reversed" : Y5)=Y .globalImplicit) (ha:R a pa):CkI R c tg (.rev a) (.Call (.Name "reversed" p0) [pa] [] pos)
 |seq {c tg e p} (h:R e p):CkI R c tg e p
noncomputable abbrev inOp(neg:Yb):CmpOp:=if neg then .NotIn else .In
noncomputable abbrev Ctx.inn(c:Ctx)(N:L Y5)(sc:Scope):Ctx:=⟨N,qbc sc c.sc,c.fns,c.glo⟩
structure CpOk (c:Ctx) (sc:Scope) (sr:L (Y3 Y0)) (N:L Y5) (iter:Qx) (t:T):Prop where
 kind:sc.kind=.function
 cell:∀y∈sc.names,y.2≠.cell
 free:∀y∈sc.names,y.2=.free->c.sc.names.lookup y.1=Y .cell\/c.sc.names.lookup y.1=Y .free
 loc:∀y∈sc.names,y.2=.local->sc.names.lookup y.1=Y .local
 len:sr.length=N.length
 src:∀(j i:Y0),sr[j]?=Y (Y i)->∃x,N[j]?=Y x/\c.N[i]?=Y x/\sc.names.lookup x=Y .free
 nd:N.Nodup
 fs:∀env x,foldedSetIterable iter env x=pure x
 tl:tlOk N (qbc sc c.sc) t=O
noncomputable def boT(op:BoolOp)(pos:Pos):L Qx->Qx
 |[p]=>p
 |ps=>.BoolOp op ps pos
noncomputable def mName:M.Mt->Y5
 |.append=>"append"
 |.extend=>"extend"
 |.index=>"index"
 |.insert=>"insert"
noncomputable def shOk:Qx->Yb
 |.Starred ..=>Y6
 |.Slice ..=>Y6
 |.Set ..=>Y6
 |.SetComp ..=>Y6
 |.DictComp ..=>Y6
 |.Call (.Name _ _) [] _ _=>Y6
 |_=>O
noncomputable def qv5:E->Yb
 |.rng1 _=>Y6
 |.rng2 _ _=>Y6
 |.zip _ _=>Y6
 |.enu _=>Y6
 |.rev _=>Y6
 |_=>O
inductive CkV:Ctx->E->Y5->Prop
 |var {c i x} (hN:c.N[i]?=Y x) (hv:Vis c.sc x) (hd:(x==("__debug__" : Y5))=Y6) (hcd:(x==("__classdict__" : Y5))=Y6):CkV c (.var i) x
 |glo {c x d} (hg:c.sc.names.lookup x=Y .globalImplicit) (hm:(x,d)∈c.glo.cs) (hd:(x==("__debug__" : Y5))=Y6):CkV c (.glo x d) x
inductive CkG (R:Ctx->E->Qx->Prop):Ctx->E->Qx->Prop
 |nm {c a x pos} (h:CkV c a x):CkG R c a (.Name x pos)
 |int {c i j pos}:CkG R c (.lit (.int i)) (.Constant (.int i) j pos)
 |bl {c i j pos}:CkG R c (.lit (.bl i)) (.Constant (.bool i) j pos)
 |non {c j pos}:CkG R c (.lit .non) (.Constant .none j pos)
 |str {c i j pos}:CkG R c (.lit (.str i)) (.Constant (.str i) j pos)
 |bin {c op a b pa pb pos} (ha:R c a pa) (hb:R c b pb):CkG R c (.bin op a b) (.BinOp pa op pb pos)
 |lenset {c a pa p0 p1 pos1 pos} (hg:c.sc.names.lookup ("len" : Y5)=Y .globalImplicit) (hs:c.sc.names.lookup ("set" : Y5)=Y .globalImplicit) (ha:R c a pa):CkG R c (.lenset a) (.Call (.Name "len" p0) [.Call (.Name "set" p1) [pa] [] pos1] [] pos)
 |neg {c a pa pos} (ha:R c a pa):CkG R c (.neg a) (.UnaryOp .USub pa pos)
 |not {c a pa pos} (ha:R c a pa):CkG R c (.not a) (.UnaryOp .Not pa pos)
 |cmp {c op a b pa pb pos} (ha:R c a pa) (hb:R c b pb):CkG R c (.cmp op a b) (.Compare pa [op] [pb] pos)
 |cmp2 {c op op' a b d pa pb pd pos} (ha:R c a pa) (hb:R c b pb) (hd:R c d pd):CkG R c (.cmp2 op op' a b d) (.Compare pa [op,op'] [pb,pd] pos)
 |ite {c q a b pq pa pb pos} (hq:R c q pq) (ha:R c a pa) (hb:R c b pb):CkG R c (.ite q a b) (.IfExp pq pa pb pos)
 |tup {c es ps k pos} (h:CkL (R c) es ps):CkG R c (.tup es) (.Tuple ps k pos)
 |lst {c es ps pos} (h:CkL (R c) es ps):CkG R c (.lst es) (.List ps pos)
 |idx {c a b pa pb pos} (ha:R c a pa) (hb:R c b pb):CkG R c (.idx a b) (.Subscript pa pb pos)
 |call {c f x es p ps p0 pos} (hg:c.sc.names.lookup x=Y .globalImplicit) (hf:c.fns[f]?=Y x) (hd:(x==("__debug__" : Y5))=Y6) (hn:qg9 x=O) (h:CkL (R c) es (p::ps)):CkG R c (.call f es) (.Call (.Name x p0) (p::ps) [] pos)
 |bcall {c b es p ps p0 pos} (hg:c.sc.names.lookup (Str.ofString (qok b))=Y .globalImplicit) (hb:bOk b=O) (h:CkL (R c) es (p::ps)):CkG R c (.bcall b es) (.Call (.Name (Str.ofString (qok b)) p0) (p::ps) [] pos)
 |isi1 {c t a pa p0 p1 pos} (hg:c.sc.names.lookup ("isinstance" : Y5)=Y .globalImplicit) (ht:t≠.non) (hgt:c.sc.names.lookup (Str.ofString t.name)=Y .globalImplicit) (ha:R c a pa):CkG R c (.isi a [t] Y6) (.Call (.Name "isinstance" p0) [pa,.Name (Str.ofString t.name) p1] [] pos)
 |isiN {c ts a pa p0 ps k p1 pos} (hl:ts.length<=1000) (hg:c.sc.names.lookup ("isinstance" : Y5)=Y .globalImplicit) (ht:CkTys c ts ps) (ha:R c a pa):CkG R c (.isi a ts O) (.Call (.Name "isinstance" p0) [pa,.Tuple ps k p1] [] pos)
 |tsli {c a lo hi pa pl ph p2 pos} (ha:R c a pa) (hl:CkO (R c) lo pl) (hh:CkO (R c) hi ph):CkG R c (.tsli a lo hi) (.Subscript pa (.Slice pl ph B p2) pos)
 |tdn {c pos}:CkG R c .tdn (.Dict [] [] pos)
 |dgt {c a b pa pb apos cpos} (ha:R c a pa) (hb:R c b pb) (hl:(apos.endLine==cpos.line)=O):CkG R c (.dgt a b) (.Call (.Attribute pa "get" apos) [pb] [] cpos)
 |dic0 {c pos}:CkG R c (.dic []) (.Dict [] [] pos)
 |dic {c es k v ks vs pos} (h:CkP (R c) es (k::ks) (v::vs)) (h15:(k::ks).length<=15):CkG R c (.dic es) (.Dict (k::ks) (v::vs) pos)
 |didx {c a b pa pb pos} (ha:R c a pa) (hb:R c b pb):CkG R c (.didx a b) (.Subscript pa pb pos)
 |gidx {c x ks ds b pb p0 pos} (hg:c.sc.names.lookup x=Y .globalImplicit) (hm:(x,ks,ds)∈c.glo.ds) (hd:(x==("__debug__" : Y5))=Y6) (hb:R c b pb):CkG R c (.gidx x ks ds b) (.Subscript (.Name x p0) pb pos)
 |sli {c a lo hi pa pl ph p2 pos} (ha:R c a pa) (hl:CkO (R c) lo pl) (hh:CkO (R c) hi ph):CkG R c (.sli a lo hi) (.Subscript pa (.Slice pl ph B p2) pos)
 |attr {c C a f pa pos} (ha:R c a pa) (hc:(C,f)∈c.glo.ats):CkG R c (.attr C a f) (.Attribute pa f pos)
 |mcall {c C f m x cn a es pa ps apos pos} (ha:R c a pa) (hf:c.fns[f]?=Y x) (hm:(f,C,m)∈c.glo.ms) (hc:(cn,C)∈c.glo.cl) (h:CkL (R c) es ps) (hn:ps.length<30) (hl:(apos.endLine==pos.line)=O):CkG R c (.mcall C f m a es) (.Call (.Attribute pa m apos) ps [] pos)
 |new {c C f x cn es p ps p0 pos} (hg:c.sc.names.lookup cn=Y .globalImplicit) (hf:c.fns[f]?=Y x) (hm:(f,C,("__init__" : Y5))∈c.glo.ms) (hc:(cn,C)∈c.glo.cl) (hd:(cn==("__debug__" : Y5))=Y6) (h:CkL (R c) es (p::ps)):CkG R c (.new C f es) (.Call (.Name cn p0) (p::ps) [] pos)
 |and {c a b pa pb r pos} (ha:R c a pa) (hb:R c b (boT .And pos (pb::r))):CkG R c (.and a b) (.BoolOp .And (pa::pb::r) pos)
 |or {c a b pa pb r pos} (ha:R c a pa) (hb:R c b (boT .Or pos (pb::r))):CkG R c (.or a b) (.BoolOp .Or (pa::pb::r) pos)
 |meth {c a k es pa p ps apos cpos} (ha:R c a pa) (h:CkL (R c) es (p::ps)) (hn:(p::ps).length<30) (hl:(apos.endLine==cpos.line)=O):CkG R c (.meth a k es) (.Call (.Attribute pa (mName k) apos) (p::ps) [] cpos)
 |comp {c t it q elt sr tg iter pq pelt scope pos N} (ok:CpOk c scope sr N iter t) (hi:CkI (R c) c tg it iter) (ht:CkT (c.inn N scope) t tg) (hq:CkO (R (c.inn N scope)) q pq) (he:R (c.inn N scope) elt pelt):CkG R c (.comp t it q elt sr) (.ListComp pelt [⟨tg,iter,pq.toList,0⟩] scope pos)
 |unt {c a x pos} (h:CkV c a x):CkG R c (.unt a) (.Name x pos)
 |tdi {c neg a b pa pb pos} (ha:R c a pa) (hb:R c b pb):CkG R c (.tdi neg a b) (.Compare pa [inOp neg] [pb] pos)
 |din {c neg a b pa pb pos} (ha:R c a pa) (hb:R c b pb):CkG R c (.din neg a b) (.Compare pa [inOp neg] [pb] pos)
 |gin {c neg x ks ds b pb p0 pos} (hg:c.sc.names.lookup x=Y .globalImplicit) (hm:(x,ks,ds)∈c.glo.ds) (hd:(x==("__debug__" : Y5))=Y6) (hb:R c b pb):CkG R c (.gin neg x ks b) (.Compare pb [inOp neg] [.Name x p0] pos)
inductive CkF (R:Ctx->E->Qx->Prop):Ctx->E->Qx->Prop
 |of {c e p} (hs:shOk p=O) (hq:qv5 e=O) (h:CkG R c e p):CkF R c e p
 |gc {c a p} (hs:shOk p=O) (hq:qv5 a=O) (hp:gcOk p=O) (hg:∀b,a≠.gc b) (h:CkG R c a p):CkF R c (.gc a) p
noncomputable def CkN:Y0->Ctx->E->Qx->Prop
 |0=>λ_ _ _=>False
 |j+1=>CkF (CkN j)
abbrev CkE:=CkN 30
mutual
inductive CkS:Ctx->S->Stmt->Prop
 |set {c i e x p pos pos'} (hN:c.N[i]?=Y x) (hl:c.sc.names.lookup x=Y .local\/c.sc.names.lookup x=Y .cell) (h:CkE c e p) (hs:∀env,swapsWith p (Y (.Name x pos')) pos.line env=pure Y6):CkS c (.set (.var i) e) (.Assign [.Name x pos'] p pos)
 |setC {c i e x p pos pos'} (hN:c.N[i]?=Y x) (hl:c.sc.names.lookup x=Y .local\/c.sc.names.lookup x=Y .cell) (h:CkE c e p) (hc:∃elt gs sc q,p=.ListComp elt gs sc q) (hs:∀env:Env,env.scope=c.sc->(swapsWith p (Y (.Name x pos')) pos.line env=pure Y6\/swapsWith p (Y (.Name x pos')) pos.line env=pure O)):CkS c (.set (.var i) e) (.Assign [.Name x pos'] p pos)
 |dset {c a i e pa pi pe tpos pos} (ha:CkE c a pa) (hi:CkE c i pi) (he:CkE c e pe):CkS c (.dset a i e) (.Assign [.Subscript pa pi tpos] pe pos)
 |tds {c a i e pa pi pe tpos pos} (ha:CkE c a pa) (hi:CkE c i pi) (he:CkE c e pe):CkS c (.tds a i e) (.Assign [.Subscript pa pi tpos] pe pos)
 |expr {c e p pos} (h:CkE c e p) (hs:∀env,swapsWith p B pos.line env=pure Y6):CkS c (.expr e) (.Expr p pos)
 |ret {c e p pos} (h:CkE c e p):CkS c (.ret e) (.Return (Y p) pos)
 |ite {c q a b pq pa pb pos} (hq:CkE c q pq) (ha:CkSs c a pa) (hb:CkSs c b pb):CkS c (.ite q a b) (.If pq pa pb pos)
 |forr {c t it body tg iter pb pos} (ht:CkT c t tg) (hi:CkI (CkE c) c tg it iter) (hs:∀env x,foldedSetIterable iter env x=pure x) (hb:CkSs c body pb):CkS c (.forr t it body) (.For tg iter pb [] pos)
 |setA {c C a f e pa pe tpos pos} (ha:CkE c a pa) (he:CkE c e pe) (hc:(C,f)∈c.glo.ats):CkS c (.setA C a f e) (.Assign [.Attribute pa f tpos] pe pos)
 |ford {c t a body tg pa pb pos} (ht:CkT c t tg) (ha:CkE c a pa) (hb:CkSs c body pb):CkS c (.ford t a body) (.For tg pa pb [] pos)
 |bad {c p}:CkS c .bad p
inductive CkSs:Ctx->L S->L Stmt->Prop
 |nil {c}:CkSs c [] []
 |cons {c s ss p ps} (h:CkS c s p) (t:CkSs c ss ps):CkSs c (s::ss) (p::ps)
 |doc {c ss x j pos pos' ps} (t:CkSs c ss ps):CkSs c ss (.Expr (.Constant (.str x) j pos) pos'::ps)
end
def qlp(h:shOk p=O):Star p:=λes env=>by cases p<;>first|rfl|cases h
def CkN.sh(h:CkN j c e p):shOk p=true:=by
 cases j with
 |zero=>cases h
 |succ j=>
  cases h with
  |of hs=>exact hs
  |gc hs=>exact hs
def CkN.star(h:CkN j c e p):Star p:=qlp h.sh
def sh_sw(h:shOk p=O)(l)(env):swapsWith p (Y (.Subscript a i b)) l env=pure false:=by
 cases p<;>first|rfl|cases h
def sh_swA(h:shOk p=O)(l)(env):swapsWith p (Y (.Attribute a f b)) l env=pure false:=by
 cases p<;>first|rfl|cases h
def qlr(h:shOk p=O)(o i):subscripted p Y6 o i=operate [o,i] (Zj o i):=by
 cases p<;>first|rfl|cases h
def qv1(h:shOk p=O)(a):Zh a p=false:=by
 cases p<;>first|rfl|cases h
def qls(h:shOk p=O)(env)(x):foldedSetIterable p env x=pure x:=by
 cases p<;>first|rfl|cases h
def qk6(h:shOk p=O)(a)(env)(w):Zx p a env w=w:=by
 cases p with
 |Call f ps ks pos=>
  cases f with
  |Name x q=>
   cases ps with
   |nil=>cases h
   |cons _ _=>rfl
  |_=>rfl
 |_=>rfl
theorem qiq:∀{ps},ps.all shOk=O->(backTo pos (starEach ps env)).all (λx=>!x.1)=O
 |[],_=>rfl
 |p::r,h=>by
  rw[Qzl,Qqs]at h;have e:backTo pos (starEach (p::r) env)=(Y6,Qb p env)::backTo pos (starEach r env):=by
   cases p<;>first|rfl|cases h.1
  rw[e,Qzl,qiq h.2]
  rfl
def sh_mt(h:shOk b=O)(d:ps.all shOk=O)(i:ps.length<30)(g:(a.endLine==pos.line)=O):MTree b m a ps pos:=by
 intro env;refine⟨(do return (<- importBound b env).getD O),?_⟩
 have e:Qb (.Call (.Attribute b m a) ps [] pos) env=(do
  let c <- Zx b m env (Qb b env)
  standAt a.atName
  methodCall b m a pos env c (ps.length+0) (backTo pos (starEach ps env)) (backToKw pos (keywordEach [] env))):=rfl
 have f:methodCallForm (ps.length+0) (backTo pos (starEach ps env)) (backToKw pos (keywordEach [] env))=true:=by
  unfold methodCallForm;rw[qiq d];simpa[keywordEach,backToKw] using i
 rw[e,qk6 h];unfold methodCall calleeOf methodCallPos;rw[f,g]
 rfl
theorem CkL.sh(h:CkL (CkN j c) es ps):ps.all shOk=true:=by
 induction h with
 |nil=>rfl
 |cons h _ t=>rw[Qzl,h.sh,t]; rfl
noncomputable def spN(K:Qqq)(fns:L Fn)(n f:Y0):Sp:=λvs H Q _=>∃m st ds d st',Rel K m st H/\IsDs K m H ds vs/\M.callD fns n f ds st=Y (d,st')/\Post K m H d st' Q
def Lc(K:Qqq)(mg:Y5->Y3 Y8)(glo:Glo)(f:Y0)(x:Y5)(fa:Y7):Prop:=(qg9 x=O->mg x=Y (.ref fa))/\∀C m,(f,C,m)∈glo.ms->Meth K C m fa
def FTab(P:Program)(w:Qk)(K:Qqq)(mg:Y5->Y3 Y8)(base:Heap)(glo:Glo)(fns:L Fn)(names:L Y5)(n:Y0):Prop:=∀(f:Y0) (x:Y5),names[f]?=Y x->∃(fa:Y7) (fd:Qp) (ps:L Y5),
 Lc K mg glo f x fa/\FnOk P w K mg base CX0 (2*n) fa fd ps (spN K fns n f)/\Qzm K (.ref fa)=O/\Binds K fd ps []
noncomputable abbrev bNm:L Y5:=["len","min","max","tuple","list","all","sorted","isinstance","range","int","bool","str","zip","any","enumerate","reversed","set"]
structure Mo (K:Qqq) (mg:Y5->Y3 Y8) (glo:Glo) (prm:Qr):Prop where
 cls:∀cn C,(cn,C)∈glo.cl->mg cn=Y (.ref C)/\Cls K C/\PySem.W.makesIn K C=O/\Qzm K (.ref C)=O
 ats:∀C f,(C,f)∈glo.ats->Cls K C/\NoAttr K C f
 gds:∀x ks ds,(x,ks,ds)∈glo.ds->∃a,mg x=Y (.ref a)/\FDict prm K a ks ds
 glo:∀x d,(x,d)∈glo.cs->∃u v,mg x=Y u/\RelV v u/\∀m H,IsD K m H d v
 no:∀x∈bNm,mg x=B
structure Good (fns:L Fn) (dl:Y0) (c:Ctx) (X:Cx):Prop where
 room:Room (2*dl+1) X.A
 calm:X.calm=O
 N:X.N=c.N
 sc:X.env.scope=c.sc
 nd:c.N.Nodup
 kind:c.sc.kind=.function
 tab:FTab X.prog X.w X.K X.mg X.base c.glo fns c.fns dl
 mo:Mo X.K X.mg c.glo X.w.params
 xe:X.xe=λ_ _=>False
theorem Good.no{dl:Y0}(G:Good fns dl c X)(h:bNm.contains x=O):X.mg x=none:=G.mo.no x (List.contains_iff_mem.mp h)
end MS
end
section
namespace MS
open PySem PySem.Spec PyProof.Rows L2
open M (D Ya Y4 Sl E S T Src Fn Out R)
theorem qq9:∀{es}{ps},CkL (CkN j c) es ps->∀(pos:Pos) (env:Env),(backTo pos (starEach ps env)).any (·.1)=Y6
 |_,_,.nil,_,_=>rfl
 |_,_,.cons h t,pos,env=>by
  rw[h.star];show(Y6||(backTo pos (starEach _ env)).any (·.1))=Y6;rw[qq9 t pos env]
  rfl
def Good.gl{dl:Y0}(G:Good fns dl c X)(h:c.sc.names.lookup x=Y .globalImplicit):Gl X x:=by
 show X.env.scope.names.lookup x=_;rw[G.sc]; exact h
def qbb(h:env.scope=sc):relabel a env=qbc a sc:=by
 unfold relabel qbc Env.kindOf;rw[h]
def Good.inner{fns:L Fn}{dl:Y0}{c:Ctx}{X:Cx}(G:Good fns dl c X){N:L Y5}{a:Scope}{C:Y7}{fp:L Y7}{s:Qz}{H:Hp}(d:a.kind=.function)(b:N.Nodup):Good fns dl ⟨N,qbc a c.sc,c.fns,c.glo⟩ (qzn X N a C fp s H):=
 ⟨G.room,G.calm,rfl,qbb G.sc,b,d,G.tab,G.mo,rfl⟩
noncomputable def IsRow(K:Qqq)(m:L Y7)(H:Hp)(k:RK)(a:Y7):D->Prop
 |.tup ds=>k=.tup/\∃xs,SqT K H a xs/\IsDs K m H ds xs
 |.loc l=>k=.lst/\m[l]?=Y a
 |.lst ds=>k=.lst/\∃xs,SqF K H a xs/\IsDs K m H ds xs
 |_=>False
def IsRow.mono{K:Qqq}(h:IsRow K m H k a d)(b:Sub m c)(t:Tr H H'):IsRow K c H' k a d:=by
 cases d with
 |tup ds=>obtain⟨e,xs,q,r⟩:=h; exact⟨e,xs,t.sqT q,qze b t ds xs r⟩
 |loc l=>exact⟨h.1,b l a h.2⟩
 |lst ds=>obtain⟨e,xs,q,r⟩:=h; exact⟨e,xs,t.sqF q,qze b t ds xs r⟩
 |_=>exact h.elim
theorem IsRow.sq{K:Qqq}{st:Y4}(h:IsRow K m H k a d)(f:Rel K m st H)(e:M.rowAt st d=Y ds):∃xs,k.sq K H a xs/\IsDs K m H ds xs:=by
 cases d with
 |tup es=>
  cases e;obtain⟨rfl,xs,q,r⟩:=h;exact⟨xs,q,r⟩
 |loc l=>
  obtain⟨rfl,c⟩:=h;obtain⟨g,xs,b,z,q,r⟩:=f.list e (qhz c);cases z;exact⟨xs,q,r⟩
 |lst es=>
  cases e;obtain⟨rfl,xs,q,r⟩:=h;exact⟨xs,q.sq,r⟩
 |_=>exact h.elim
def qvw{K:Qqq}{st:Y4}(b:MS.IsD K m H d v)(f:Rel K m st H)(e:M.rowAt st d=Y ds):∃k a,v=.ref a/\IsRow K m H k a d/\∃xs,k.sq K H a xs:=by
 cases d with
 |tup es=>
  obtain⟨a,xs,rfl,q,r⟩:=b.tup;exact⟨.tup,a,rfl,⟨rfl,xs,q,r⟩,xs,q⟩
 |loc l=>
  obtain⟨a,xs,c,rfl,q,r⟩:=f.list e b;exact⟨.lst,a,rfl,⟨rfl,c⟩,xs,q⟩
 |lst es=>
  obtain⟨a,xs,rfl,q,r⟩:=b.lst;exact⟨.lst,a,rfl,⟨rfl,xs,q,r⟩,xs,q.sq⟩
 |_=>exact nn e
def IsRow.sq'{K:Qqq}{st:Y4}(h:IsRow K m H .lst a d)(b:Rel K m st H)(e:M.seqAt st d=Y ds):∃xs,SqL K H a xs/\IsDs K m H ds xs:=by
 cases d with
 |loc l=>exact h.sq b e
 |lst l=>exact h.sq b e
 |_=>exact nn e
def qwa{K:Qqq}{st:Y4}(b:MS.IsD K m H d v)(f:Rel K m st H)(e:M.seqAt st d=Y ds):∃a,v=.ref a/\IsRow K m H .lst a d/\∃xs,SqL K H a xs:=by
 cases d with
 |loc l=>
  obtain⟨a,xs,c,rfl,q,r⟩:=f.list e b;exact⟨a,rfl,⟨rfl,c⟩,xs,q⟩
 |lst l=>
  obtain⟨a,xs,rfl,q,r⟩:=b.lst;exact⟨a,rfl,⟨rfl,xs,q,r⟩,xs,q.sq⟩
 |_=>exact nn e
noncomputable def IsSrc(K:Qqq)(m:L Y7)(H:Hp):Src->It->Prop
 |.rng lo n,Jq=>Jq=Itr lo n
 |.tup ds,Jq=>∃a xs,Jq=Itt K a/\SqT K H a xs/\IsDs K m H ds xs
 |.lst d,Jq=>∃a,IsRow K m H .lst a d/\Jq=Itl K a
 |.zip x y,Jq=>∃(k1 k2:RK) (a b:Y7),Jq=Itz K k1 k2 a b/\IsRow K m H k1 a x/\IsRow K m H k2 b y
 |.enu x,Jq=>∃(k:RK) (a:Y7),Jq=Ite K k a/\IsRow K m H k a x
 |.rev ds,Jq=>∃a xs,Jq=Itv K a xs.length/\SqT K H a xs/\IsDs K m H ds xs
theorem IsSrc.mono{K:Qqq}(h:IsSrc K m H s Jq)(b:Sub m c)(t:Tr H H'):IsSrc K c H' s Jq:=by
 cases s with
 |rng lo n=>exact h
 |tup ds=>obtain⟨a,xs,e,q,r⟩:=h; exact⟨a,xs,e,t.sqT q,qze b t ds xs r⟩
 |lst l=>obtain⟨a,e,q⟩:=h; exact⟨a,e.mono b t,q⟩
 |zip x y=>obtain⟨f,d,a,g,e,h1,h2⟩:=h; exact⟨f,d,a,g,e,h1.mono b t,h2.mono b t⟩
 |enu x=>obtain⟨k,a,e,h⟩:=h; exact⟨k,a,e,h.mono b t⟩
 |rev ds=>obtain⟨a,xs,e,q,r⟩:=h; exact⟨a,xs,e,t.sqT q,qze b t ds xs r⟩
def IsSrc.done{K:Qqq}{st:Y4}(h:IsSrc K m H s Jq)(f:Rel K m st H)(e:s.at st i=Y B):Jq.stop i H:=by
 cases s with
 |rng lo n=>
  cases h;simp only[Src.at]at e
  split at e
  ·cases e
  ·rename_i q;exact Nat.not_lt.mp q
 |tup ds=>
  obtain⟨a,xs,rfl,q,r⟩:=h;simp only[Src.at,Option.some.injEq]at e;exact⟨xs,q,by rw[<- r.length]; exact Qzf.mp e⟩
 |lst l=>
  obtain⟨a,w,rfl⟩:=h;simp only[Src.at]at e;refine qzg e λds d c=>?_;obtain⟨xs,q,r⟩:=w.sq' f d;exact⟨xs,q,by rw[<- r.length]; exact Qzf.mp c⟩
 |zip x y=>
  obtain⟨A,z,a,b,rfl,h1,h2⟩:=h;simp only[Src.at]at e;refine qzx e λds d e=>qzg e λes c g=>?_;obtain⟨xs,v,t⟩:=h1.sq f d;obtain⟨ys,u,p⟩:=h2.sq f c;refine⟨xs,ys,v,u,?_⟩;unfold M.pairAt at g;rw[<- t.length,<- p.length]
  cases o:ds[i]? with
  |none=>exact .inl (Qzf.mp o)
  |some D=>
   cases j:es[i]? with
   |none=>exact .inr (Qzf.mp j)
   |some C=>rw[o,j]at g; cases g
 |enu x=>
  obtain⟨k,a,rfl,h⟩:=h;simp only[Src.at]at e;refine qzg e λds d c=>?_;obtain⟨xs,q,r⟩:=h.sq f d;exact⟨xs,q,by rw[<- r.length]; exact Qzf.mp (Option.map_eq_none_iff.mp c)⟩
 |rev ds=>
  obtain⟨a,xs,rfl,q,r⟩:=h;simp only[Src.at]at e;show xs.length<=i;rw[<- r.length]
  split at e
  ·rw[Qqc (by omega)]at e; cases e
  ·omega
def IsSrc.next{K:Qqq}{st:Y4}(h:IsSrc K m H s Jq)(E:Rel K m st H)(e:s.at st i=Y (Y d)):Jq.go i H/\∀x H',Jq.yld i H x H'->Same H H'/\MS.IsD K m H' d x:=by
 cases s with
 |rng lo n=>
  cases h;simp only[Src.at]at e
  split at e
  ·rename_i q;cases e;refine⟨q,?_⟩;rintro x H' ⟨rfl,rfl⟩;exact⟨λ_ _ z=>z,mkInt _⟩
  ·cases e
 |tup ds=>
  obtain⟨a,xs,rfl,q,r⟩:=h;simp only[Src.at,Option.some.injEq]at e;obtain⟨x,ex,c⟩:=r.get e;refine⟨⟨xs,x,q,ex⟩,?_⟩;rintro y H' ⟨rfl,z⟩;have:=z xs q;rw[ex]at this;cases this;exact⟨λ_ _ z=>z,c⟩
 |lst l=>
  obtain⟨a,V,rfl⟩:=h;simp only[Src.at]at e;refine qzg e λds A t=>?_;obtain⟨xs,q,r⟩:=V.sq' E A;obtain⟨x,ex,c⟩:=r.get t;refine⟨⟨xs,x,q,ex⟩,?_⟩;rintro y H' ⟨rfl,z⟩;have:=z xs q;rw[ex]at this;cases this;exact⟨λ_ _ z=>z,c⟩
 |zip u v=>
  obtain⟨k1,k2,a,b,rfl,h1,h2⟩:=h;simp only[Src.at]at e;refine qzx e λds A e=>qzg e λes t f=>?_;obtain⟨xs,N,T⟩:=h1.sq E A;obtain⟨ys,I,S⟩:=h2.sq E t;unfold M.pairAt at f
  cases C:ds[i]? with
  |none=>rw[C]at f; cases f
  |some d1=>
   cases F:es[i]? with
   |none=>rw[C,F]at f; cases f
   |some d2=>
    rw[C,F]at f;cases f;obtain⟨x,ex,c⟩:=T.get C;obtain⟨y,Q,U⟩:=S.get F;refine⟨⟨xs,ys,x,y,N,I,ex,Q⟩,?_⟩;rintro w H' ⟨p,R,y',rfl,hp,rfl,G,W⟩;have j:=G xs N;rw[ex]at j;cases j;have P:=W ys I;rw[Q]at P;cases P;have g:=qza (o:=.tup [x,y]) hp;exact⟨g,qq3 (SqT.of qzk) (qze (Sub.refl _) (Tr.of_same g) _ _ (qzm c (qzm U qz9)))⟩
 |enu u=>
  obtain⟨k,a,rfl,h⟩:=h;simp only[Src.at]at e;refine qzg e λds A t=>qzg t λd0 f X=>?_;cases X;obtain⟨xs,q,r⟩:=h.sq E A;obtain⟨x,ex,c⟩:=r.get f;refine⟨⟨xs,x,q,ex⟩,?_⟩;rintro w H' ⟨p,R,rfl,hp,rfl,G⟩;have j:=G xs q;rw[ex]at j;cases j;have g:=qza (o:=.tup [.int i,x]) hp;exact⟨g,qq3 (SqT.of qzk) (qze (Sub.refl _) (Tr.of_same g) _ _ (qzm (mkInt _) (qzm c qz9)))⟩
 |rev ds=>
  obtain⟨a,xs,rfl,q,r⟩:=h;simp only[Src.at,Option.some.injEq]at e;have rl:=r.length
  split at e
  ·obtain⟨x,ex,c⟩:=r.get e;rw[rl]at ex;refine⟨⟨xs,x,q,rfl,by omega,ex⟩,?_⟩;rintro y H' ⟨rfl,z⟩;have:=z xs q;rw[ex]at this;cases this;exact⟨λ_ _ z=>z,c⟩
  ·exact nn e
noncomputable def tI(K:Qqq)(f:Sl->Y4->Y3 (Src×Y4)):TI:=λσ H R=>∃m st τ s st',Rel K m st H/\SlotOk K m H τ σ/\f τ st=Y (s,st')/\∀m' H' Jq,Sub m m'->Tr H H'->Rel K m' st' H'->IsSrc K m' H' s Jq->R Jq H'
def tI.el{K:Qqq}{P:Prop}(h:tI K f g H Q)(k:∀m st τ s st',Rel K m st H->SlotOk K m H τ g->f τ st=Y (s,st')->(∀m' H' Jq,Sub m m'->Tr H H'->Rel K m' st' H'->IsSrc K m' H' s Jq->Q Jq H')->P):P:=by
 rcases h with⟨m,st,τ,d,st',a,b,c,e⟩
 exact k m st τ d st' a b c e
def _root_.L2.PI.imp(h:PI X tg e t)(f:∀σ H R,t' σ H R->t σ H R):PI X tg e t':=λpins s σ H Q I q=>h pins s σ H Q I (f σ H Q q)
def PostO(K:Qqq)(m:L Y7)(H:Hp)(o:Out)(st':Y4)(Dn:Ends):Prop:=∀m' H',Sub m m'->Tr H H'->Rel K m' st' H'->match o with
 |.nx τ=>∀σ',SlotOk K m' H' τ σ'->Dn.nx σ' H'
 |.rt d=>∀v,IsD K m' H' d v->Dn.rt v H'
 |.bk τ=>∀σ',SlotOk K m' H' τ σ'->Dn.bk σ' H'
 |.ct τ=>∀σ',SlotOk K m' H' τ σ'->Dn.ct σ' H'
def PostO.mono{K:Qqq}(p:PostO K m H o st' Dn)(s:Sub m a)(t:Tr H b):PostO K a b o st' Dn:=λm' H' s' c r=>p m' H' (s.trans s') (t.trans c) r
noncomputable def tS(K:Qqq)(f:Sl->Y4->Y3 (Out×Y4)):TS:=λDn σ H=>∃m st τ o st',Rel K m st H/\SlotOk K m H τ σ/\f τ st=Y (o,st')/\PostO K m H o st' Dn
def PostO.of{K:Qqq}(q:PostO K m H d s Q)(e:Y (d',a)=Y (d,s)):PostO K m H d' a Q:=by cases e; exact q
def tS.el{K:Qqq}{P:Prop}(h:tS K f i g H)(k:∀m st τ o st',Rel K m st H->SlotOk K m H τ g->f τ st=Y (o,st')->PostO K m H o st' i->P):P:=by
 rcases h with⟨m,st,τ,d,st',a,b,c,e⟩
 exact k m st τ d st' a b c e
structure AllOk (fns:L Fn) (dl n:Y0):Prop where
 e:∀c X,Good fns dl c X->∀{j} e p,CkN j c e p->PE X p (tD X.K λτ st=>(M.rn fns dl n).ev τ st e)
 t:∀c X,Good fns dl c X->∀{j} e p,CkN j c e p->PT X p (tTs X.K λτ st=>(M.rn fns dl n).tst τ st e)
 w:∀c X,Good fns dl c X->∀{j} e op ps pos,CkN j c e (.BoolOp op ps pos)->PW X (.BoolOp op ps pos) (tTs X.K λτ st=>(M.rn fns dl n).tst τ st e)
 s:∀c X,Good fns dl c X->(∀x,X.fn x=O)->∀ss ps,CkSs c ss ps->PSs X ps (tS X.K λτ st=>(M.rn fns dl n).ex τ st ss)
def qb5(fns)(dl):AllOk fns dl 0 where
 e:=λc X G j e p h pins s σ H Q I q=>by obtain⟨m,st,τ,d,st',_,_,z,_⟩:=q; cases z
 t:=λc X G j e p h pins s σ H Q I q=>by obtain⟨m,st,τ,d,st',_,_,z,_⟩:=q; cases z
 w:=λc X G j e f ps pos h a pins s σ H Q I q=>by obtain⟨m,st,τ,d,st',_,_,z,_⟩:=q; cases z
 s:=λc X G hf b ps h pins s σ H Q I q=>by obtain⟨m,st,τ,d,st',_,_,z,_⟩:=q; cases z
section
variable {fns:L Fn}{dl n j:Y0}{c:Ctx}{X:Cx}
theorem qzp(A:AllOk fns dl n)(G:Good fns dl c X):∀{es}{ps},CkL (CkN j c) es ps->PA X ps (tL X.K λτ st=>M.evs ((M.rn fns dl n).ev τ) es st)
 |_,_,.nil=>pa_nil.imp λ_ _ _ h=>tL_nil h
 |_,_,.cons h t=>(qqn (A.e c X G _ _ h) (qzp A G t) (h.star _ _)).imp λ_ _ _ q=>
   qlg q
def CkN.plain(h:CkN j c e p):qv5 e=true:=by
 cases j with
 |zero=>cases h
 |succ j=>
  cases h with
  |of _ a=>exact a
  |gc=>rfl
def qcr(h:qv5 e=O)(r)(τ)(st):M.src r τ st e=(r.ev τ st e).bind λp=>match p.1 with
   |.tup ds=>Y (.tup ds,p.2)
   |d=>(M.seqAt p.2 d).map λ_=>(.lst d,p.2):=by
 cases e with
 |rng1 _=>cases h
 |rng2 _ _=>cases h
 |zip _ _=>cases h
 |enu _=>cases h
 |rev _=>cases h
 |_=>rfl
def qye(A:AllOk fns dl n)(G:Good fns dl c X){K:Qx}(h:CkI (CkN j c) c tg it K):PI X tg K (tI X.K λτ st=>M.src (M.rn fns dl n) τ st it):=by
 have seq:∀{e p},CkN j c e p->(∀τ st,M.src (M.rn fns dl n) τ st e=((M.rn fns dl n).ev τ st e).bind λp=>match p.1 with
   |.tup ds=>Y (.tup ds,p.2)
   |d=>(M.seqAt p.2 d).map λ_=>(.lst d,p.2))->PI X tg p (tI X.K λτ st=>M.src (M.rn fns dl n) τ st e):=by
  intro e p W T;refine(pi_seq (A.e c X G e p W)).imp λσ H R q=>q.el λm st τ s st' z w f q=>?_;have f:=(T τ st).symm.trans f;refine qzj f λd C v f=>rsI z w v λx m1 H1 b1 t1 o r=>?_
  cases d with
  |tup ds=>
   cases f;obtain⟨a,xs,rfl,F,u⟩:=r.tup;exact⟨a,rfl,.inr ⟨⟨xs,F⟩,q m1 H1 _ b1 t1 o ⟨a,xs,rfl,F,u⟩⟩⟩
  |loc l=>
   refine qzg f λds P N=>?_;cases N;obtain⟨a,rfl,g,xs,F⟩:=qwa r o P;exact⟨a,rfl,.inl ⟨⟨xs,F⟩,q m1 H1 _ b1 t1 o ⟨a,g,rfl⟩⟩⟩
  |lst l=>
   refine qzg f λds P N=>?_;cases N;obtain⟨a,rfl,g,xs,F⟩:=qwa r o P;exact⟨a,rfl,.inl ⟨⟨xs,F⟩,q m1 H1 _ b1 t1 o ⟨a,g,rfl⟩⟩⟩
  |_=>exact nn f
 cases h with
 |@rng1 _ a V p0 pos I g=>
  refine(qdj (G.gl I) (G.no rfl) (qzp A G (.cons g .nil)) (by rw[g.star]; rfl)).imp λσ H R q=>?_;refine q.el λm st τ s st' z w f q=>qzj f λd C v f=>?_
  cases d with
  |int k=>
   dsimp only at f
   split at f
   ·exact nn f
   ·rename_i t;cases f;unfold M.big at t;simp only[Qxf,decide_eq_true_eq]at t;refine rsI (d:=[.int k]) (st':=st') z w ?_ λxs m1 H1 b1 t1 o r=>?_
    ·show(((M.rn fns dl n).ev τ st a).bind λp=>(Y (([]:L D),p.2)).bind λq=>Y (p.1::q.1,q.2))=_;rw[v]; rfl
    ·obtain⟨x,rfl,u⟩:=r.one;cases u.int;exact⟨k,rfl,by omega,by omega,q m1 H1 _ b1 t1 o rfl⟩
  |_=>exact nn f
 |@rng2 _ a b V pb p0 pos I g t=>
  refine(qdx (G.gl I) (G.no rfl) (qzp A G (.cons g (.cons t .nil))) (by rw[g.star,t.star]; rfl) (by rw[t.star]; rfl)).imp λσ H R q=>?_;refine q.el λm st τ s st' z w f q=>qzj f λd C v f=>qzj f λd' s2 P f=>?_;dsimp only at f
  split at f
  ·rename_i i j _
   split at f
   ·exact nn f
   ·rename_i t;cases f;unfold M.big at t;simp only[Qxf,decide_eq_true_eq]at t;refine rsI (d:=[.int i,.int j]) (st':=st') z w ?_ λxs m1 H1 b1 t1 o r=>?_
    ·show(((M.rn fns dl n).ev τ st a).bind λp=>(((M.rn fns dl n).ev τ p.2 b).bind λp=>(Y (([]:L D),p.2)).bind λq=>Y (p.1::q.1,q.2)).bind λq=>Y (p.1::q.1,q.2))=_;rw[v];show(((M.rn fns dl n).ev τ C b).bind λp=>(Y (([]:L D),p.2)).bind λq=>Y (p.1::q.1,q.2)).bind _=_;rw[P]; rfl
    ·obtain⟨x,y,rfl,u,S⟩:=r.two;cases u.int;cases S.int;exact⟨i,j,rfl,⟨by omega,by omega,by omega,by omega⟩,q m1 H1 _ b1 t1 o rfl⟩
  ·exact nn f
 |@zip ts k tp a b V pb p0 pos I g t=>
  refine(pi_zip (G.gl I) (G.no rfl) (qzp A G (.cons g (.cons t .nil))) (by rw[g.star,t.star]; rfl) (by rw[t.star]; rfl)).imp λσ H R q=>?_;obtain⟨m,st,τ,s,st',z,w,f,q⟩:=q;refine qzj f λd C v f=>qzj f λd' s2 P f=>qzx f λds N f=>qzg f λes e5 e6=>?_;cases e6;refine rsI (d:=[d,d']) (st':=s2) z w ?_ λxs m1 H1 b1 t1 o r=>?_
  ·show(((M.rn fns dl n).ev τ st a).bind λp=>(((M.rn fns dl n).ev τ p.2 b).bind λp=>(Y (([]:L D),p.2)).bind λq=>Y (p.1::q.1,q.2)).bind λq=>Y (p.1::q.1,q.2))=_;rw[v];show(((M.rn fns dl n).ev τ C b).bind λp=>(Y (([]:L D),p.2)).bind λq=>Y (p.1::q.1,q.2)).bind _=_;rw[P]; rfl
  ·obtain⟨x,y,rfl,u,S⟩:=r.two;obtain⟨Q,U,rfl,h1,w1⟩:=qvw u o N;obtain⟨k2,a2,rfl,h2,w2⟩:=qvw S o e5;exact⟨Q,k2,U,a2,rfl,w1,w2,q m1 H1 _ b1 t1 o ⟨Q,k2,U,a2,rfl,h1,h2⟩⟩
 |@enu ts k tp a V p0 pos I g=>
  refine(qmk (G.gl I) (G.no rfl) (qzp A G (.cons g .nil)) (by rw[g.star]; rfl)).imp λσ H R q=>?_;refine q.el λm st τ s st' z w f q=>qzj f λd C v f=>qzg f λds N e6=>?_;cases e6;refine rsI (d:=[d]) (st':=C) z w ?_ λxs m1 H1 b1 t1 o r=>?_
  ·show(((M.rn fns dl n).ev τ st a).bind λp=>(Y (([]:L D),p.2)).bind λq=>Y (p.1::q.1,q.2))=_;rw[v]; rfl
  ·obtain⟨x,rfl,u⟩:=r.one;obtain⟨Q,U,rfl,h1,w1⟩:=qvw u o N;exact⟨Q,U,rfl,w1,q m1 H1 _ b1 t1 o ⟨Q,U,rfl,h1⟩⟩
 |@rev _ a V p0 pos I g=>
  refine(pi_rev (G.gl I) (G.no rfl) (qzp A G (.cons g .nil)) (by rw[g.star]; rfl)).imp λσ H R q=>?_;refine q.el λm st τ s st' z w f q=>qzj f λd C v f=>?_
  cases d with
  |tup ds=>
   cases f;refine rsI (d:=[.tup ds]) (st':=C) z w ?_ λxs m1 H1 b1 t1 o r=>?_
   ·show(((M.rn fns dl n).ev τ st a).bind λp=>(Y (([]:L D),p.2)).bind λq=>Y (p.1::q.1,q.2))=_;rw[v]; rfl
   ·obtain⟨x,rfl,u⟩:=r.one;obtain⟨a,xs,rfl,F,S⟩:=u.tup;exact⟨a,xs,rfl,F,q m1 H1 _ b1 t1 o ⟨a,xs,rfl,F,S⟩⟩
  |_=>exact nn f
 |@seq _ e p W=>
  exact seq W (qcr (CkN.plain W) _)
def qgn(A:AllOk fns dl n)(G:Good fns dl c X)(h:CkO (CkN j c) o p):PO X p (λσ H Q=>∃m st τ l st',Rel X.K m st H/\SlotOk X.K m H τ σ/\M.part (M.rn fns dl n) τ st o=Y (l,st')/\∀m' H',Sub m m'->Tr H H'->Rel X.K m' st' H'->Q l H'):=by
 cases h with
 |none=>
  intro pins s σ H Q I q;obtain⟨m,st,τ,l,st',a,g,e,k⟩:=q;cases e;exact qmx pins s σ H Q I (k m H (Sub.refl m) (Tr.refl H) a)
 |@some e p h=>
  intro pins s σ H Q I q;obtain⟨m,st,τ,l,st',a,g,w,k⟩:=q;refine qzj w λd y u f=>?_
  cases d with
  |int i=>
   cases f;exact qmq (A.e c X G e p h) pins s σ H Q I (rsI a g u λv m' H' b t x r=>⟨i,r.int,k m' H' b t x⟩)
  |_=>exact nn f
noncomputable def gIs:L Y0->TGs
 |[]=>gNil
 |i::is=>gCons (qyg i) (gIs is)
noncomputable def gT(K:Qqq):T->TG
 |.var i=>qyg i
 |.tup is=>gTup K is.length (gIs is)
theorem qin{K:Qqq}:∀{is}{ds}{xs}{τ a}{f},IsDs K m H ds xs->SlotOk K m H τ f->M.setIs is ds τ=Y a->(∀b,SlotOk K m H a b->Q b H)->gIs is xs f H Q
 |[],[],xs,τ,a,f,g,S0,e,k=>by
  cases e;exact⟨g.nil,k f S0⟩
 |i::is,d::ds,xs,τ,a,f,g,S0,e,k=>by
  obtain⟨x,r,rfl,q,t⟩:=g.cons;unfold M.setIs at e
  split at e
  ·exact⟨x,r,rfl,qin t (S0.put q) e k⟩
  ·exact nn e
 |[],_::_,_,_,_,_,_,_,e,_=>by cases e
 |_::_,[],_,_,_,_,_,_,e,_=>by cases e
theorem qv2:∀{is}{ds}{τ a},M.setIs is ds τ=Y a->is.length=ds.length
 |[],[],_,_,_=>rfl
 |i::is,d::ds,τ,a,e=>by
  unfold M.setIs at e
  split at e
  ·rw[Qqi,Qqi,qv2 e]
  ·exact nn e
 |[],_::_,_,_,e=>by cases e
 |_::_,[],_,_,e=>by cases e
def qns{K:Qqq}(h:IsD K m H d v)(l:SlotOk K m H τ f)(e:M.setT t d τ=Y τ')(k:∀b,SlotOk K m H τ' b->Q b H):gT K t v f H Q:=by
 cases t with
 |var i=>
  have e:(if i<τ.length then Y (τ.set i (Y d)) else B)=Y τ':=e
  split at e
  ·cases e;exact k _ (l.put h)
  ·exact nn e
 |tup p=>
  cases d with
  |tup ds=>
   obtain⟨a,xs,rfl,o,g⟩:=h.tup;exact⟨a,xs,rfl,o,by rw[<- g.length,qv2 e],qin g l e k⟩
  |_=>exact nn e
def qjd(G:Good fns dl c X){i:Y0}(h:c.N[i]?=Y x):X.N[i]?=Y x:=by rw[G.N]; exact h
def qfg:Qd ("any" : Y5)=Y (.builtin "any"):=by decide +kernel
def qfh:Qd ("all" : Y5)=Y (.builtin "all"):=by decide +kernel
def qff:Qd ("int" : Y5)=Y (.type "int"):=by decide +kernel
def qb4:Qd ("bool" : Y5)=Y (.type "bool"):=by decide +kernel
def qfc:Qd ("str" : Y5)=Y (.type "str"):=by decide +kernel
def qw0:Qd ("isinstance" : Y5)=Y (.builtin "isinstance"):=by decide +kernel
def qwt:Qd ("sorted" : Y5)=Y (.builtin "sorted"):=by decide +kernel
def qfd:Qd ("set" : Y5)=Y (.type "set"):=by decide +kernel
def qwu:Qd ("len" : Y5)=Y (.builtin "len"):=by decide +kernel
def qfe:Qd ("min" : Y5)=Y (.builtin "min"):=by decide +kernel
def qk0:Qd ("list" : Y5)=Y (.type "list"):=by decide +kernel
def qkz:Qd ("tuple" : Y5)=Y (.type "tuple"):=by decide +kernel
def ty_ok(G:Good fns dl c X){t:M.Ty}(b:t≠.non)(a:c.sc.names.lookup (Str.ofString t.name)=Y .globalImplicit):PE X (.Name (Str.ofString t.name) pos) (tC (.ty t.name)):=by
 cases t with
 |non=>exact absurd rfl b
 |bl=>exact qjn (G.gl a) (G.no rfl) qb4 rfl (by decide) (by decide)
 |int=>exact qjn (G.gl a) (G.no rfl) qff rfl (by decide) (by decide)
 |str=>exact qjn (G.gl a) (G.no rfl) qfc rfl (by decide) (by decide)
 |tup=>exact qjn (G.gl a) (G.no rfl) qkz rfl (by decide) (by decide)
 |lst=>exact qjn (G.gl a) (G.no rfl) qk0 rfl (by decide) (by decide)
noncomputable def tCs:L V->TA
 |[]=>tNil
 |v::vs=>qlh (tC v) (tCs vs)
theorem qci:∀(vs:L V) (a:L2.St) (H:Hp) (Q:L V->Hp->Prop),Q vs H->tCs vs a H Q
 |[],_,_,_,h=>h
 |v::vs,a,H,Q,h=>qci vs a H (λxs H2=>Q (v::xs) H2) h
theorem qh2(G:Good fns dl c X):∀{a}{ps},CkTys c a ps->PA X ps (tCs (a.map λt=>V.ty t.name))/\∀t∈a,t≠.non
 |_,_,.nil=>⟨pa_nil,λ_ h=>nomatch h⟩
 |_,_,.cons b e h=>by
  obtain⟨h1,h2⟩:=qh2 G h;refine⟨qqn (ty_ok G b e) h1 rfl,λt d=>?_⟩;rcases Qqy.mp d with z|z
  ·rw[z]; exact b
  ·exact h2 t z
end
section
variable {fns:L Fn}{dl n j:Y0}{c:Ctx}{X:Cx}
def qi7:UnR X (unaryOp .USub) (rU1 X.K λst d=>match d with|.int i=>Y (.int (-i),st)|_=>B):=by
 intro pins s σ H x v Q I b h;refine h.el λm st a d st' g f e q=>?_
 cases a with
 |int i=>
  have q:=q.of e;exact un_neg pins s σ H x v Q I b ⟨i,f.int,q.here g (mkInt _)⟩
 |_=>exact nn e
def qks(G:Good fns dl c X)(h:CpOk c scope sr N e t):CompScope X N sr scope:=
 ⟨h.kind,h.cell,λy f hf=>by
  have:=h.free y f hf;show X.env.scope.names.lookup y.1=_\/X.env.scope.names.lookup y.1=_;rw[G.sc]; exact this,h.loc,h.len,λj i q=>by
  obtain⟨x,a,b,d⟩:=h.src j i q
  exact⟨x,a,qjd G b,d⟩⟩
noncomputable def tOpt(K:Qqq)(r:R):Y3 E->TT
 |none=>λ_ H Q=>Q O H
 |some c=>tTs K λτ st=>r.tst τ st c
def qh4(A:AllOk fns dl n)(G:Good fns dl c X)(h:CkO (CkN j c) q a):qb7 X a.toList (tOpt X.K (M.rn fns dl n) q):=by
 cases h with
 |none=>exact qgx
 |some h=>exact qgq (A.t _ _ G _ _ h)
def qhv{K:Qqq}(sr)(h:SlotOk K m H τ f):SlotOk K m H (M.inner sr τ) (qq6 sr f):=by
 refine⟨by unfold M.inner qq6; rw[Qqz,Qqz],λj d e=>?_⟩;unfold M.inner at e;rw[Qqw]at e;unfold qq6;rw[Qqw]
 cases q:sr[j]? with
 |none=>rw[q]at e; cases e
 |some o=>
  rw[q]at e
  cases o with
  |none=>cases e
  |some i=>
   have hi:τ[i]?=Y (Y d):=by
    cases z:τ[i]? with
    |none=>simp[z]at e
    |some w=>
     cases w with
     |none=>simp[z]at e
     |some w=>simpa[z] using e
   obtain⟨v,a,b⟩:=h.at_ i d hi;refine⟨v,?_,b⟩;simp[a]
def comp_W{K:Qqq}{Q:VK}(R1:Rel K H F N)(hJ:IsSrc K H N s Jq)(S1:SlotOk K H N A P)(e2:M.loopC s (M.turnC r t q elt) k0 0 [] A F=Y u)(a2:∀l H' a,Sub H l->Tr N H'->Rel K l u.2 H'->IsDs K l H' u.1 a->∀S,H' S=B->Q (.ref S) (upd H' S (.lst a))):
  ∃W:Y0->Y0->L V->L2.St->Hp->Prop,(∃k,W 0 k [] P N)/\
 ∀i k a f H',W i k a f H'->(Jq.stop i H'/\a.length<=sizeLine/\∀p,H' p=B->Q (.ref p) (upd H' p (.lst a)))\/(Jq.go i H'/\a.length<sizeLine/\∀x H2,Jq.yld i H' x H2->gT K t x f H2 λm H3=>tOpt K r q m H3 λb H4=>
  if b=O then tD K (λτ st=>r.ev τ st elt) m H4 λv H5=>∃U,U<k/\W (i+1) U (a++[v]) m H5 else ∃U,U<k/\W (i+1) U a m H4):=by
 refine⟨λi' k a f H'=>∃l C w d,Sub H l/\Tr N H'/\Rel K l C H'/\SlotOk K l H' w f/\IsDs K l H' d a/\M.loopC s (M.turnC r t q elt) k i' d w C=Y u,
  ⟨_,H,F,A,[],Sub.refl _,Tr.refl _,R1,S1,qz9,e2⟩,?_⟩
 rintro j k a f H' ⟨l,C,w,d,b2,t2,R2,S2,G,e⟩
 cases k with
 |zero=>exact nn e
 |succ k=>
  have e:=e;refine qzx e λo e5 e=>?_;have l1:=G.length;have l2:=qqc
  cases o with
  |none=>
   dsimp only at e
   split at e
   ·exact nn e
   ·rename_i hl;cases e;refine .inl ⟨(hJ.mono b2 t2).done R2 e5,by lia,λS hp=>?_⟩;exact a2 l H' a b2 t2 R2 G S hp
  |some d'=>
   dsimp only at e
   split at e
   ·exact nn e
   ·rename_i hl;obtain⟨a1,hy⟩:=(hJ.mono b2 t2).next R2 e5;refine .inr ⟨a1,by lia,λx H2 a0=>?_⟩;obtain⟨sm,ix⟩:=hy x H2 a0;have t2:=t2.trans (Tr.of_same sm);have R2:=R2.same sm;have S2:=S2.mono (Sub.refl _) (Tr.of_same sm);have G:=qze (Sub.refl _) (Tr.of_same sm) _ _ G;refine qzx e λz h e=>?_;unfold M.turnC at h;refine qzx h λa4 e7 h=>qns ix S2 e7 λa5 I=>?_
    ·cases q with
     |none=>
      unfold tOpt;dsimp only at h ⊢;refine qzg h λy e8 e9=>?_;cases e9;rw[Z6 rfl];refine rsI R2 I e8 λv m3 H3 b3 g R3 i3=>⟨k,Qzb k,m3,y.2,_,d++[y.1],b2.trans b3,t2.trans g,R3,I.mono b3 g,(qze b3 g _ _ G).append (qzm i3 qz9),e⟩
     |some cq=>
      unfold tOpt;refine qzx h λbb e8 h=>rsI R2 I e8 λm3 H3 b3 g R3=>?_
      cases hb:bb.1 with
      |true=>
       rw[hb,Z6 rfl]at h;rw[Z6 rfl];refine qzg h λy e9 a3=>?_;cases a3;refine rsI R3 (I.mono b3 g) e9 λv m4 H4 b4 t4 R4 i4=>⟨k,Qzb k,m4,y.2,_,d++[y.1],b2.trans (b3.trans b4),t2.trans (g.trans t4),R4,I.mono (b3.trans b4) (g.trans t4),(qze (b3.trans b4) (g.trans t4) _ _ G).append (qzm i4 qz9),e⟩
      |false=>
       rw[hb,Z5 Qqu]at h;cases h;rw[Z5 Qqu];exact⟨k,Qzb k,m3,bb.2,_,d,b2.trans b3,t2.trans g,R3,I.mono b3 g,qze b3 g _ _ G,e⟩
def qcg{K:Qqq}(h:tD K (λτ st=>M.stepEv r τ st (.comp t it q elt sr)) b H Q):
  qli sr (tI K λτ st=>M.src r τ st it) (gT K t) (tOpt K r q) (tD K λτ st=>r.ev τ st elt) b H Q:=by
 refine h.el λm st τ d st' y f e a=>?_;have e:=e;refine qzx e λp v e=>qzg e λg u s=>rsI y f v λm1 H1 Jq b1 t1 x o=>comp_W x o (qhv sr (f.mono b1 t1)) u λk H' w b2 t2 R2 l i hp=>?_;cases s;exact a _ (k++[i]) _ (b1.trans (b2.trans (Sub.app _ _))) (t1.trans (t2.trans (Tr.of_same (qza hp)))) (R2.new hp l) R2.newLoc
theorem qke(G:Good fns dl c X):∀{is}{es},CkTs c is es->(∀i∈is,∀x,c.N[i]?=Y x->X.fn x=O\/c.sc.names.lookup x=Y .local)->PGs X es (gIs is)/\(Q6 es X.env).length=is.length/\(Q6 es X.env).findIdx? (·.1)=B
 |_,_,.nil,_=>⟨qmw,rfl,rfl⟩
 |_,_,.cons (i:=i) (x:=x) (pos:=pos) (is:=is) (es:=es) a hl h,hf=>by
  obtain⟨h1,h2,e⟩:=qke G h λj b=>hf j (Qqt _ b);have d:PG X (.Name x pos) (qyg i):=qdk (by rw[G.N]; exact G.nd) (qjd G a) (by rw[G.sc]; exact hl) (by rw[G.sc]; exact hf i Qq5 x a);refine⟨qgs d h1 rfl,?_,?_⟩
  ·show(Q6 es X.env).length+1=is.length+1;rw[h2]
  ·show List.findIdx? (·.1) ((Y6,assign (.Name x pos) X.env)::Q6 es X.env)=B;rw[Qjn,e]
   rfl
def qxy(G:Good fns dl c X)(h:CkT c t tg)(a:∀i∈t.slots,∀x,c.N[i]?=Y x->X.fn x=O\/c.sc.names.lookup x=Y .local):PG X tg (gT X.K t):=by
 cases h with
 |@var i x pos b hl=>exact qdk (by rw[G.N]; exact G.nd) (qjd G b) (by rw[G.sc]; exact hl) (by rw[G.sc]; exact a i (by simp[T.slots]) x b)
 |@tup e es k pos h=>
  obtain⟨h1,h2,d⟩:=qke G h a;exact pg_tup G.calm h1 h2 d
noncomputable def qlx(r:R)(K:Qqq):L E->L (TE×TE)
 |k::v::es=>(tD K λτ st=>r.ev τ st k,tD K λτ st=>r.ev τ st v)::qlx r K es
 |_=>[]
noncomputable def twos:L V->L (V×V)
 |x::y::r=>(x,y)::twos r
 |_=>[]
theorem qv9(A:AllOk fns dl n)(G:Good fns dl c X):∀{es}{ks}{vs},CkP (CkN j c) es ks vs->PPs X pos ks vs (qlx (M.rn fns dl n) X.K es)/\ks.all (·.isSome)=O/\ks.length=vs.length
 |_,_,_,.nil=>⟨qmz,rfl,rfl⟩
 |_,_,_,.cons b a t=>by
  obtain⟨h1,h2,d⟩:=qv9 A G t;refine⟨qgm (A.e c X G _ _ b) (A.e c X G _ _ a) h1,?_,?_⟩
  ·rw[Qzl,h2]; rfl
  ·rw[Qqi,Qqi,d]
theorem qv8{K:Qqq}:∀{es}{ks}{vs}{c}{m}{st st'}{H}{τ}{b}{ds}{Q},CkP (CkN j c) es ks vs->Rel K m st H->SlotOk K m H τ b->M.evs (r.ev τ) es st=Y (ds,st')->
  (∀xs m' H',Sub m m'->Tr H H'->Rel K m' st' H'->IsDs K m' H' ds xs->Q (twos xs) H')->qy4 (qlx r K es) b H Q
 |_,_,_,c,m,st,st',H,τ,b,ds,Q,.nil,f,S0,e,q=>by
  cases e;exact q [] m H (Sub.refl m) (Tr.refl H) f qz9
 |_,_,_,c,m,st,st',H,τ,b,ds,Q,.cons I G t,f,S0,e,q=>by
  have e:=e;refine qzj e λP C p e=>qzx e λw a e=>qzj a λN A o a=>qzx a λu l a=>?_;cases a;cases e;exact rsI f S0 p λx m1 H1 b1 t1 v k=>rsI v (S0.mono b1 t1) o λy F H2 b2 t2 R2 i=>qv8 t R2 (S0.mono (b1.trans b2) (t1.trans t2)) l λxs g z b3 d s h=>q (x::y::xs) g z (b1.trans (b2.trans b3)) (t1.trans (t2.trans d)) s (qzm (qzv (b2.trans b3) (t2.trans d) _ _ k) (qzm (qzv b3 d _ _ i) h))
theorem qaa{K:Qqq}:∀{ds}{xs}{kvs},IsDs K m H ds xs->M.pairUp ds=Y kvs->∃ys:L (Key×V),IsKV K m H kvs ys/\twos xs=ys.map λf=>(kV f.1,f.2)
 |[],xs,kvs,b,e=>by
  cases e;rw[b.nil];exact⟨[],rfl,rfl⟩
 |[d],xs,kvs,b,e=>by cases e
 |d::d'::ds,xs,kvs,b,e=>by
  have e:(if M.isKey d then(M.pairUp ds).map ((d,d')::·) else B)=Y kvs:=e
  split at e
  ·rename_i q;refine qzg e λu s r=>?_;subst r;obtain⟨x,t,rfl,o,l⟩:=b.cons;obtain⟨y,g,rfl,i,h⟩:=l.cons;obtain⟨k,a⟩:=qq5 q;have p:=qnw a o;subst p;obtain⟨ys,h1,h2⟩:=qaa h s;refine⟨(k,y)::ys,⟨k,y,ys,rfl,a,i,h1⟩,?_⟩;show(kV k,y)::twos g=_;rw[h2]
   rfl
  ·exact nn e
def qk3{K:Qqq}(h:tD K (λτ st=>M.stepEv r τ st (.meth a k es)) o H Q):
  tBM K "list" (λx xs H Q=>∃m st a ds d st',Rel K m st H/\IsD K m H a x/\IsDs K m H ds xs/\M.mfun st k a ds=Y (d,st')/\Post K m H d st' Q) (tD K λτ st=>r.ev τ st a) (tL K λτ st=>M.evs (r.ev τ) es st) o H Q:=by
 refine h.el λm st τ d st' D s b e=>qzj b λi u C b=>?_
 split at b
 ·rename_i f;refine qzx b λq A b=>rsI D s C λv m1 H1 b1 t1 t p=>⟨?_,rsI t (s.mono b1 t1) A λxs w H2 b2 t2 R2 y=>⟨w,q.2,i,q.1,d,st',R2,qzv b2 t2 _ _ p,y,b,e.mono (b1.trans b2) (t1.trans t2)⟩⟩
  have hs:∃ds,M.seqAt u i=Y ds:=by
   cases i with
   |loc l=>exact Qz1.mp ((Bool.true_and _).symm.trans f)
   |lst l=>exact Qz1.mp ((Bool.true_and _).symm.trans f)
   |_=>cases f
  obtain⟨ds,g⟩:=hs;obtain⟨F,xs,_,rfl,z,_⟩:=t.seq g p;exact .inl ⟨rfl,xs,z⟩
 ·exact nn b
def e_ok(A:AllOk fns dl n)(G':Good fns dl c X)(h:CkN j c e p):PE X p (tD X.K λτ st=>M.stepEv (M.rn fns dl n) τ st e):=by
 have G:=G';have hu:=G'.room.units
 cases j with
 |zero=>cases h
 |succ j=>
 cases h with
 |gc hs hq hp hg I=>exact(pe_gc (A.e (j:=j+1) c X G _ _ (.of hs hq I))).imp λ_ _ _ h=>h
 |of hs hq h=>
 clear hs hq
 cases h with
 |unt h=>exact qmy (A.e (j:=j+1) c X G _ _ (.of rfl (by cases h<;>rfl) (.nm h)))
 |nm h=>
  cases h with
  |@var i x hN hv hd c5=>
  refine(pe_var (qjd G hN) (by rw[G.sc]; exact hv) hd c5).imp λσ H Q h=>?_;refine h.el λm st τ d st' R K e q=>?_;simp only[M.stepEv]at e
  split at e
  ·rename_i d' c4;cases e;obtain⟨v,a,b⟩:=K.at_ i d c4;exact⟨v,a,q.here R b⟩
  ·exact nn e
  |@glo x d hg hm hd=>
  obtain⟨u,v,h1,h2,h3⟩:=G.mo.glo _ _ hm;exact(qyj (G.gl hg) h1 h2 hd).imp λσ H Q h=>h.el λm st τ d st' R K e q=>by cases e; exact q.here R (h3 m H)
 |int=>exact pe_int.imp λσ H Q h=>h.el λm st τ d st' R K e q=>by cases e; exact q.here R (mkInt _)
 |bl=>exact pe_bl.imp λσ H Q h=>h.el λm st τ d st' R K e q=>by cases e; exact q.here R (mkBl _)
 |non=>exact pe_non.imp λσ H Q h=>h.el λm st τ d st' R K e q=>by cases e; exact q.here R qvq
 |str=>exact pe_str.imp λσ H Q h=>h.el λm st τ d st' R K e q=>by cases e; exact q.here R (mkStr _)
 |@bin op a b T W pos I P=>
  exact(pe_op (qmu op) (A.e c X G a T I) (A.e c X G b W P)).imp λσ H Q h=>qch h
 |@lenset a T p0 p1 c9 pos hg hs I=>
  refine(qqx qfj (G.gl hg) (G.no rfl) qwu (qqn (qjm (qe9 G.room.hd G.room.units) (G.gl hs) (G.no rfl) qfd (qqn (A.e c X G a T I) pa_nil (I.star _ _)) (by decide) (by decide) (I.star _ _) rfl) pa_nil rfl) (by decide) (by decide) rfl rfl).imp λσ H Q h=>?_;refine h.el λm st τ d st' R K e g=>qzj e λd1 s1 U e=>qzg e λd2 e2 e3=>?_;cases e3;refine rsI R K U λx m1 H1 b1 t1 S ix=>?_
  cases d1 with
  |tup ds=>
   obtain⟨ks,k1,k2⟩:=Option.bind_eq_some_iff.mp (e2)
   split at k2
   ·rename_i c7;cases k2;obtain⟨pt,ys,rfl,hq,iy⟩:=ix.tup;refine⟨pt,ys,ks,rfl,hq,qd4 iy k1,by rw[<- iy.length]; exact c7,λl hl=>?_⟩;refine⟨l,_,rfl,qzk,?_⟩;have sm:=qza (o:=setO l (ST.distinct ks).length) hl;exact g _ m1 _ b1 (t1.trans (Tr.of_same sm)) (S.same sm) (mkInt _)
   ·exact nn k2
  |_=>exact nn e2
 |@neg a T pos I=>
  exact(pe_un qi7 (A.e c X G a T I)).imp λσ H Q h=>tD_un h
 |@not a T pos I=>
  refine(pe_not (A.e c X G a T I)).imp λσ H Q h=>h.el λm st τ d st' R K e q=>qzj e λd1 s1 U e=>rsI R K U λv m1 H1 b1 t1 S i1=>?_
  cases d1 with
  |bl k=>
   have q:=q.of e;exact⟨k,i1.bl,q _ m1 H1 b1 t1 S (mkBl _)⟩
  |_=>exact nn e
 |@cmp op a b T W pos I P=>
  exact(qmh (qxs hu op) (A.e c X G a T I) (A.e c X G b W P) (qv1 P.sh _)).imp λσ H Q h=>qch h
 |@cmp2 op b5 a b d T W pd pos I P hd=>
  refine(qg3 (qxs hu op) (qxs hu b5) (A.e c X G a T I) (A.e c X G b W P) (A.e c X G d pd hd) (qv1 hd.sh _)).imp λσ H Q h=>h.el λm st τ dd st' R K e q=>qzj e λd1 s1 U e=>qzj e λd2 s2 e2 e=>qzx e λk e3 e=>rsI R K U λx m1 H1 b1 t1 S i1=>rsI S (K.mono b1 t1) e2 λy m2 H2 b2 t2 R2 i2=>
   ⟨m2,s2,d1,d2,.bl k,s2,R2,qzv b2 t2 _ _ i1,i2,by show Option.map _ (M.cmpD s2 op d1 d2)=_; rw[e3]; rfl,λz m3 H3 b3 t3 R3 i3=>⟨k,i3.bl,?_⟩⟩
  cases k with
  |true=>
   rw[Z6 rfl]at e ⊢;exact qzj e λd3 s3 e4 e=>rsI R3 (K.mono (b1.trans (b2.trans b3)) (t1.trans (t2.trans t3))) e4 λy' m4 H4 b4 t4 R4 i4=>
    ⟨m4,s3,d2,d3,dd,st',R4,qzv (b3.trans b4) (t3.trans t4) _ _ i2,i4,e,q.mono (b1.trans (b2.trans (b3.trans b4))) (t1.trans (t2.trans (t3.trans t4)))⟩
  |false=>
   rw[Z5 Qqu]at e ⊢;have q:=q.of e;exact q _ m3 H3 (b1.trans (b2.trans b3)) (t1.trans (t2.trans t3)) R3 (mkBl _)
 |@and a b T W r pos I P=>
  have P:PE X (.BoolOp .And (W::r) pos) (tD X.K λτ st=>(M.rn fns dl n).ev τ st b):=by
   cases r with
   |nil=>exact qiv (A.e c X G b W P)
   |cons=>exact A.e c X G b _ P
  refine(pe_and (A.e c X G a T I) P).imp λσ H Q h=>h.el λm st τ d st' R K e q=>qzj e λd1 s1 U e=>rsI R K U λv m1 H1 b1 t1 S i1=>?_
  cases d1 with
  |bl k=>
   cases k with
   |true=>exact⟨O,i1.bl,rsI S (K.mono b1 t1) e (q.mono b1 t1)⟩
   |false=>cases e; exact⟨Y6,i1.bl,q _ m1 H1 b1 t1 S (mkBl _)⟩
  |_=>exact nn e
 |@or a b T W r pos I P=>
  have P:PE X (.BoolOp .Or (W::r) pos) (tD X.K λτ st=>(M.rn fns dl n).ev τ st b):=by
   cases r with
   |nil=>exact qiv (A.e c X G b W P)
   |cons=>exact A.e c X G b _ P
  refine(pe_or (A.e c X G a T I) P).imp λσ H Q h=>h.el λm st τ d st' R K e q=>qzj e λd1 s1 U e=>rsI R K U λv m1 H1 b1 t1 S i1=>?_
  cases d1 with
  |bl k=>
   cases k with
   |false=>exact⟨Y6,i1.bl,rsI S (K.mono b1 t1) e (q.mono b1 t1)⟩
   |true=>cases e; exact⟨O,i1.bl,q _ m1 H1 b1 t1 S (mkBl _)⟩
  |_=>exact nn e
 |@ite q a b pq T W pos hq I P=>
  refine(qgu (A.t c X G q pq hq) (A.e c X G a T I) (A.e c X G b W P)).imp λσ H Q h=>h.el λm st τ d st' R K e g=>qzx e λbb U e=>rsI R K U λm1 H1 b1 t1 S=>?_
  cases P:bb.1 with
  |true=>
   rw[P,Z6 rfl]at e;rw[Z6 rfl];exact rsI S (K.mono b1 t1) e (g.mono b1 t1)
  |false=>
   rw[P,Z5 Qqu]at e;rw[Z5 Qqu];exact rsI S (K.mono b1 t1) e (g.mono b1 t1)
 |@tup es ps k pos hs=>
  refine(qik (qzp A G hs)).imp λσ H Q h=>h.el λm st τ d st' R K e g=>qzx e λp U e=>?_
  split at e
  ·exact nn e
  ·rename_i hl;have g:=g.of e;refine rsI R K U λxs m1 H1 b1 t1 S ix=>?_;have l1:=ix.length;have l2:=qqc;refine⟨by lia,λpp hp=>?_⟩;have sm:=qza (o:=.tup xs) hp;exact g _ m1 _ b1 (t1.trans (Tr.of_same sm)) (S.same sm) (qq3 (SqT.of qzk) (qze (Sub.refl _) (Tr.of_same sm) _ _ ix))
 |@lst es ps pos hs=>
  refine(pe_lst (qzp A G hs)).imp λσ H Q h=>h.el λm st τ d st' R K e g=>qzx e λp U e=>?_
  split at e
  ·exact nn e
  ·rename_i hl;have g:=g.of e;refine rsI R K U λxs m1 H1 b1 t1 S ix=>?_;have l1:=ix.length;have l2:=qqc;refine⟨by lia,λpp hp=>?_⟩;exact g _ (m1++[pp]) _ (b1.trans (Sub.app _ _)) (t1.trans (Tr.of_same (qza hp))) (S.new hp ix) S.newLoc
 |@idx a b T W pos I P=>
  exact(pe_ix ix_D (A.e c X G a T I) (A.e c X G b W P) (qlr P.sh)).imp λσ H Q h=>qch h
 |@call f x es p ps p0 pos hg hf hd hn hs=>
  obtain⟨fa,fd,a0,hm,F,hk,P⟩:=G'.tab f x hf;have hp:Star p:=by cases hs with|cons h _=>exact h.star
  have ht:(backTo pos (starEach ps X.env)).any (·.1)=false:=by cases hs with|cons _ t=>exact qq9 t pos X.env
  refine(qmi F (G.room.mono (by lia)) (G.gl hg) (hm.1 hn) hk P .nil qg5 (qzp A G hs) hd (hp _ _) ht).imp λσ H Q h=>?_;refine h.el λm st τ d st' R K e g=>qzx e λq U e=>rsI R K U λxs m1 H1 b1 t1 S ix=>?_;show spN X.K fns dl f (xs++[]) H1 Q E0;have e:=e;rw[M.runK_call]at e;rw[Qq7];exact⟨m1,q.2,q.1,d,st',S,ix,e,g.mono b1 t1⟩
 |@bcall b es p ps p0 pos hg d6 hs=>
  have hp:Star p:=by cases hs with|cons h _=>exact h.star
  have ht:(backTo pos (starEach ps X.env)).any (·.1)=false:=by cases hs with|cons _ t=>exact qq9 t pos X.env
  have hA:=qzp A G hs
  cases b with
  |len=>exact(qqx qfk (G.gl hg) (G.no rfl) qwu hA (by decide) (by decide) (hp _ _) ht).imp λσ H Q h=>qq8 h
  |min=>exact(qqx (qfq G.calm) (G.gl hg) (G.no rfl) qfe hA (by decide) (by decide) (hp _ _) ht).imp λσ H Q h=>qq8 h
  |tuple=>exact(qjm qyp (G.gl hg) (G.no rfl) qkz hA (by decide) (by decide) (hp _ _) ht).imp λσ H Q h=>qq8 h
  |list=>exact(qjm (qb2 G.room.hd) (G.gl hg) (G.no rfl) qk0 hA (by decide) (by decide) (hp _ _) ht).imp λσ H Q h=>qq8 h
  |any=>exact(qqx (qfy G.calm) (G.gl hg) (G.no rfl) qfg hA (by decide) (by decide) (hp _ _) ht).imp λσ H Q h=>qq8 h
  |all=>exact(qqx (qfa G.calm) (G.gl hg) (G.no rfl) qfh hA (by decide) (by decide) (hp _ _) ht).imp λσ H Q h=>qq8 h
  |sorted=>exact(qqx (qwr G.room.hd) (G.gl hg) (G.no rfl) qwt hA (by decide) (by decide) (hp _ _) ht).imp λσ H Q h=>qq8 h
 |@isi1 t a T p0 p1 pos hg ht c2 I=>
  refine(qqx (qfw t ht) (G.gl hg) (G.no rfl) qw0 (qqn (A.e c X G a T I) (qqn (ty_ok G ht c2) pa_nil rfl) (I.star _ _)) (by decide) (by decide) (I.star _ _) rfl).imp λσ H Q h=>?_;refine h.el λm st τ d st' R K e g=>qzj e λd1 s1 U e=>qzg e λnm e2 e3=>?_;cases e3;refine rsI R K U λx m1 H1 b1 t1 S ix=>⟨m1,s1,d1,nm,x,rfl,S,ix,e2,g _ m1 H1 b1 t1 S ?_⟩
  have:([t].any λt=>M.tyIs t nm)=M.tyIs t nm:=by simp
  rw[this];exact mkBl _
 |@isiN ts a T p0 ps k p1 pos a6 hg ht I=>
  obtain⟨h1,h2⟩:=qh2 G ht;refine(qqx (qfv ts h2) (G.gl hg) (G.no rfl) qw0 (qqn (A.e c X G a T I) (qqn (qik h1) pa_nil rfl) (I.star _ _)) (by decide) (by decide) (I.star _ _) rfl).imp λσ H Q h=>?_;refine h.el λm st τ d st' R K e g=>qzj e λd1 s1 U e=>qzg e λnm e2 e3=>?_;cases e3;refine rsI R K U λx m1 H1 b1 t1 S ix=>qci _ σ H1 _ ⟨?_,λpp hp=>?_⟩
  ·rw[Qqz];exact Qxu (qcs a6)
  ·have sm:=qza (o:=.tup (ts.map λt=>V.ty t.name)) hp;exact⟨m1,s1,d1,nm,x,pp,rfl,qzk,S.same sm,qzv (Sub.refl _) (Tr.of_same sm) _ _ ix,e2,g _ m1 _ b1 (t1.trans (Tr.of_same sm)) (S.same sm) (mkBl _)⟩
 |@meth a k es T p ps apos cpos I hs hn hl=>
  have hp:Star p:=by cases hs with|cons h _=>exact h.star
  have ht:(backTo cpos (starEach ps X.env)).any (·.1)=false:=by cases hs with|cons _ t=>exact qq9 t cpos X.env
  have few:((backTo cpos (starEach (p::ps) X.env)).all (λx=>!x.1)&&(backToKw cpos (keywordEach [] X.env)).all (λx=>x.1.isSome)&&decide ((p::ps).length+([]:L Zr).length+(if ([]:L Zr).isEmpty then 0 else 1)<30))=true:=by
   rw[List.all_eq_not_any_not];simp only[Bool.not_not,qq9 hs cpos X.env];exact Z3 hn
  have P:=λx=>qk6 I.sh x X.env (Qb T X.env)
  cases k with
  |append=>exact(qg4 PySem.F.plainAttrs_list PySem.F.slot_list_append PySem.F.type_list_append qbi (A.e c X G a _ I) (qzp A G hs) (P _) few hl (hp _ _) ht).imp λ_ _ _ h=>qk3 h
  |extend=>exact(qg4 PySem.F.plainAttrs_list PySem.F.slot_list_extend PySem.F.type_list_extend qbh (A.e c X G a _ I) (qzp A G hs) (P _) few hl (hp _ _) ht).imp λ_ _ _ h=>qk3 h
  |index=>exact(qg4 PySem.F.plainAttrs_list PySem.F.slot_list_index PySem.F.type_list_index (qdh hu) (A.e c X G a _ I) (qzp A G hs) (P _) few hl (hp _ _) ht).imp λ_ _ _ h=>qk3 h
  |insert=>exact(qg4 PySem.F.plainAttrs_list PySem.F.slot_list_insert PySem.F.type_list_insert qbg (A.e c X G a _ I) (qzp A G hs) (P _) few hl (hp _ _) ht).imp λ_ _ _ h=>qk3 h
 |@dic0 pos=>
  refine pe_dnewK.imp λσ H Q h=>h.el λm st τ d st' R K e g=>?_;have e0:M.wdicAt (st++[Ya.dic O []]) st.length=Y []:=by simp[M.wdicAt]
  have e:(match M.wdicAt (st++[Ya.dic O []]) st.length with
   |some []=>(M.pairUp []).bind λkvs=>if kvs.length<=15 then Y (D.loc st.length,(st++[Ya.dic O []]).set st.length (Ya.dic O (M.dall kvs))) else B
   |_=>B)=Y (d,st'):=e
  rw[e0]at e;have e2:(st++[Ya.dic O []]).set st.length (.dic O [])=st++[.dic O []]:=by simp
  have e:Y (D.loc st.length,(st++[Ya.dic O []]).set st.length (.dic O []))=Y (d,st'):=e;rw[e2]at e;have g:=g.of e;intro pp hp;exact g _ (m++[pp]) _ (Sub.app _ _) (Tr.of_same (qza hp)) (R.newD hp rfl) R.newLoc
 |@dic es k v ks vs pos hP c8=>
  obtain⟨h1,h2,h3⟩:=qv9 A G hP;refine(qmd h1 h2 h3 (by simp) c8).imp λσ H Q h=>?_;refine h.el λm st τ d st' R K e g=>?_;have e:=e;refine qzx e λp U e=>?_
  split at e
  ·rename_i a9;refine qzx e λkvs e2 e=>?_
   split at e
   ·rename_i hl;have g:=g.of e;intro pp hp;have sm:=qza (o:=.dK []) hp;refine qv8 hP (R.newD (kvs:=[]) hp rfl) (K.mono (Sub.app _ _) (Tr.of_same sm)) U λxs m1 H1 b1 t1 S ix=>?_;obtain⟨ys,a8,b7⟩:=qaa ix e2;have a1:=qzv b1 (Tr.refl H1) _ _ (R.newLoc);obtain⟨a',d5,c6,ea,hH,a7,b8⟩:=S.wdict a9 a1;cases ea;have b6:=a7;subst b6;have l1:=a8.length;refine⟨hH,ys,b7,by lia,?_⟩;exact g _ m1 _ ((Sub.app _ _).trans b1) ((Tr.of_same sm).trans (t1.trans (Tr.putD hH))) (S.putD b8 c6 hH (a8.merge (rfl))) (qzv (Sub.refl _) (Tr.putD hH) _ _ a1)
   ·exact nn e
  ·exact nn e
 |@didx a b T W pos I P=>exact qg1 (by lia) (A.e c X G a T I) (A.e c X G b W P) (qlr P.sh)
 |@din neg a b T W pos I P=>exact qdv (qda (by lia) neg (A.e c X G a T I) (A.e c X G b W P)) (qv1 P.sh _)
 |@gidx x ks ds b W p0 pos hg hm hd P=>
  obtain⟨ad,h1,h2⟩:=G.mo.gds x ks ds hm;exact qg0 (G.gl hg) h1 h2 hd (A.e c X G b W P) (qlr P.sh)
 |@gin neg x ks ds b W p0 pos hg hm hd P=>
  obtain⟨ad,h1,h2⟩:=G.mo.gds x ks ds hm;exact qdv (qdy neg (G.gl hg) h1 h2 hd (A.e c X G b W P)) (by cases neg<;>rfl)
 |@sli a lo hi T pl ph p2 pos I hl hh=>
  refine(qay sl_D (A.e c X G a T I) (qgn A G hl) (qgn A G hh)).imp λσ H Q h=>h.el λm st τ d st' R K e g=>?_;have e:=e;exact qzj e λd1 s1 U e=>qzx e λl e2 e=>qzx e λu e3 e=>rsI R K U λx m1 H1 b1 t1 S i1=>rsI S (K.mono b1 t1) e2 λm2 H2 b2 t2 R2=>rsI R2 (K.mono (b1.trans b2) (t1.trans t2)) e3 λm3 H3 b3 t3 R3=>
   ⟨m3,u.2,d1,d,st',R3,qzv (b2.trans b3) (t2.trans t3) _ _ i1,e,g.mono (b1.trans (b2.trans b3)) (t1.trans (t2.trans t3))⟩
 |@comp t it q elt sr tg d0 pq a3 b0 pos N ok hi ht hq he=>
  have GI:=λ{C fp s H}=>G.inner (C:=C) (fp:=fp) (s:=s) (H:=H) ok.kind ok.nd;exact(qmg G.calm (qks G ok) (qye A G hi) (λC fp s H=>qxy GI ht λi c1 x hx=>.inr (qcf ok.tl i c1 x hx)) (λC fp s H=>qh4 A GI hq) (λC fp s H=>A.e _ _ GI elt a3 he) (ok.fs X.env)).imp λσ H Q h=>qcg h
 |@tsli a lo hi T pl ph p2 pos I hl hh=>
  refine(qay sl_T (A.e c X G a T I) (qgn A G hl) (qgn A G hh)).imp λσ H Q h=>h.el λm st τ d st' R K e g=>?_;have e:=e;refine qzj e λd1 s1 U e=>qzx e λl e2 e=>qzx e λu e3 e=>?_
  cases d1 with
  |tup ds=>
   refine qzx e λks e4 e=>?_
   split at e
   ·rename_i hl;have g:=g.of e;exact rsI R K U λx m1 H1 b1 t1 S i1=>rsI S (K.mono b1 t1) e2 λm2 H2 b2 t2 R2=>rsI R2 (K.mono (b1.trans b2) (t1.trans t2)) e3 λm3 H3 b3 t3 R3=>
     ⟨m3,u.2,ds,ks,R3,qzv (b2.trans b3) (t2.trans t3) _ _ i1,e4,hl,g.mono (b1.trans (b2.trans b3)) (t1.trans (t2.trans t3))⟩
   ·exact nn e
  |_=>exact nn e
 |@tdn pos=>
  refine pe_dnewT.imp λσ H Q h=>h.el λm st τ d st' R K e g=>?_;have g:=g.of e;intro pp hp;exact g _ (m++[pp]) _ (Sub.app _ _) (Tr.of_same (qza hp)) (R.newC hp (λ_=>trivial) ⟨[],qzk,rfl⟩) R.newLoc
 |@tdi neg a b T W pos I P=>exact qdv (qdw (by lia) neg (A.e c X G a T I) (A.e c X G b W P)) (qv1 P.sh _)
 |@dgt a b T W apos cpos I P hl=>
  exact qme (by lia) (A.e c X G a T I) (A.e c X G b W P) ⟨qk6 I.sh _ _ _,by rw[P.star]; rfl,hl,by rw[P.star]; rfl⟩
 |@attr C a f T pos I hc=>
  obtain⟨h1,h2⟩:=G.mo.ats C f hc;refine(pe_fld (A.e c X G a T I) (qk6 I.sh _ _ _)).imp λσ H Q h=>h.el λm st τ d st' R K e g=>qzj e λd1 s1 U e=>qzx e λfs e2 e=>qzg e λd2 e3 e4=>?_;cases e4;refine rsI R K U λx m1 H1 b1 t1 S ix=>?_;obtain⟨l,p,dx,ys,rfl,_,rfl,hH,a2,_⟩:=S.inst e2 ix;rcases a2.get f with⟨z,_⟩|⟨d',v,z1,z2,iv⟩
  ·rw[z]at e3; cases e3
  ·rw[z1]at e3;cases e3;exact⟨p,C,dx,ys,v,rfl,hH,h1,h2,z2,g _ m1 H1 b1 t1 S iv⟩
 |@mcall C f m' x cn a es T ps apos pos I hf hm hc hs hn c0=>
  obtain⟨fa,fd,a0,hl,F,hk,P⟩:=G'.tab f x hf;obtain⟨_,hC,_,_⟩:=G.mo.cls cn C hc;have hM:=hl.2 C m' hm;obtain⟨pl,ht⟩:=sh_mt I.sh hs.sh hn c0 X.env;have a4:∀σ H Q,tD X.K (λτ st=>M.stepEv (M.rn fns dl n) τ st (.mcall C f m' a es)) σ H Q->qlf C m' (spN X.K fns dl f) [] E0 (tD X.K λτ st=>(M.rn fns dl n).ev τ st a) (tL X.K λτ st=>M.evs ((M.rn fns dl n).ev τ) es st) σ H Q:=by
   intro σ H Q h;refine h.el λm st τ d st' R K e g=>qzj e λd1 s1 U e=>qzx e λfs e2 e=>rsI R K U λv m1 H1 b1 t1 S ix=>?_;obtain⟨l,p,dx,ys,rfl,_,rfl,hH,a2,_⟩:=S.inst e2 ix
   split at e
   ·exact nn e
   ·rename_i a5;refine qzx e λq e3 e=>?_;rcases a2.get m' with⟨_,z⟩|⟨d',v,z1,_,_⟩
    ·refine⟨p,dx,ys,rfl,hH,z,rsI S (K.mono b1 t1) e3 λxs m2 H2 b2 t2 R2 i2=>?_⟩;have e:=e;rw[M.runK_call]at e;show spN X.K fns dl f (.ref p::(xs++[])) H2 Q E0;rw[Qq7];exact⟨m2,q.2,_,d,st',R2,qzm (qzv b2 t2 _ _ ix) i2,e,g.mono (b1.trans b2) (t1.trans t2)⟩
    ·rw[z1]at a5;exact absurd rfl a5
  have hr:Room (2*dl) X.A:=G.room.mono (by lia)
  cases hs with
  |nil=>
   refine(qgt (A.e c X G a T I) hC hM F hr P .nil qg5 ht).imp λσ H Q h=>?_
   ·obtain⟨m,st,τ,d1,s1,R,K,U,k⟩:=a4 σ H Q h;refine rsI R K U λv m1 H1 b1 t1 S ix=>?_;obtain⟨p,dx,ys,rfl,hH,z,m2,s2,d4,ds,s3,R2,S2,e2,k2⟩:=k v m1 H1 b1 t1 S ix;cases e2;exact⟨p,dx,ys,rfl,hH,z,k2 [] m2 H1 (Sub.refl _) (Tr.refl _) R2 qz9⟩
  |cons h1 h2=>exact(qma (A.e c X G a T I) hC hM F hr P .nil qg5 (qzp A G (.cons h1 h2)) (h1.star _ _) (qq9 h2 pos X.env) ht).imp a4
 |@new C f x cn es p ps p0 pos hg hf hm hc hd hs=>
  obtain⟨fa,fd,a0,hl,F,hk,P⟩:=G'.tab f x hf;obtain⟨h1,_,h3,h4⟩:=G.mo.cls cn C hc;have hM:=hl.2 C _ hm;have hp:Star p:=by cases hs with|cons h _=>exact h.star
  have ht:(backTo pos (starEach ps X.env)).any (·.1)=false:=by cases hs with|cons _ t=>exact qq9 t pos X.env
  refine(qmb ⟨h3,hM.at_,hM.fn,h4⟩ F G.room (G.gl hg) h1 P .nil qg5 (qzp A G hs) hd (hp _ _) ht).imp λσ H Q h=>h.el λm st τ d st' R K e g=>qzx e λq U e=>qzx e λw e2 e=>rsI R K U λxs m1 H1 b1 t1 S ix x dx hx c3 b9=>?_;have e2:=e2;rw[M.runK_call]at e2;obtain⟨sm,R2⟩:=S.newI hx c3 b9;have lc:=S.newLoc (p:=x) (H':=upd (upd H1 dx (.own x)) x (.ins C dx []))
  split at e
  ·rename_i hn;have g:=g.of e;rw[Qq7];refine⟨m1++[x],_,_,w.1,w.2,R2,qzm lc (qze (Sub.app m1 [x]) (Tr.of_same sm) _ _ ix),e2,λv m2 H2 b2 t2 R3 iv=>?_⟩;have hw:w.1=.non:=by
    cases hq:w.1 with
    |non=>rfl
    |_=>rw[hq]at hn; cases hn
   rw[hw]at iv;exact⟨iv.non,g _ m2 H2 (b1.trans ((Sub.app m1 [x]).trans b2)) (t1.trans ((Tr.of_same sm).trans t2)) R3 (qzv b2 t2 _ _ lc)⟩
  ·exact nn e
end
section
variable {fns:L Fn}{dl n j:Y0}{c:Ctx}{X:Cx}
def tt_val{K:Qqq}(i:∀τ st,M.stepTst r τ st e=(r.ev τ st e).bind λp=>(M.truth p.2 p.1).map λk=>(k,p.2))(h:tTs K (λτ st=>M.stepTst r τ st e) b H Q):(tD K λτ st=>r.ev τ st e) b H λx H'=>∃k,TruV K x H' k/\Q k H':=by
 refine h.el λm st τ d st' u t a q=>?_;have a:=(i τ st).symm.trans a;refine qzj a λw v s a=>qzg a λk o l=>?_;cases l;exact rsI u t s λx m1 H1 b1 t1 f g=>⟨_,qlq f g o,q m1 H1 b1 t1 f⟩
def qlz{K:Qqq}(l:∀τ st,M.stepTst r τ st e=(f τ st).bind λp=>(M.truth p.2 p.1).map λk=>(k,p.2))(o:∀τ st d st',f τ st=Y (d,st')->∃k,d=.bl k)(h:tTs K (λτ st=>M.stepTst r τ st e) b H Q):tB (tD K f) b H Q:=by
 refine h.el λm st τ d st' u s a q=>?_;have a:=(l τ st).symm.trans a;refine qzj a λw v g a=>?_;obtain⟨k,rfl⟩:=o _ _ _ _ g;have q:=q.of a;exact rsI u s g λx m1 H1 b1 t1 t i=>⟨_,i.bl,q m1 H1 b1 t1 t⟩
def din_bl{st:Y4}(h:M.dinR r τ st neg a b=Y (d,st')):∃k,d=.bl k:=by
 unfold M.dinR at h;refine qzj h λp g o h=>qzj h λe f m h=>?_
 cases e with
 |loc l=>
  refine qzx h λkvs i h=>?_
  split at h
  ·cases h; exact⟨_,rfl⟩
  ·exact nn h
 |_=>exact nn h
def tdi_bl{st:Y4}(h:M.tdiR r τ st neg a b=Y (d,st')):∃k,d=.bl k:=by
 unfold M.tdiR at h;refine qzj h λf i p h=>qzj h λe g o h=>?_
 cases f with
 |fup k=>
  cases e with
  |loc l=>
   refine qzg h λkvs m h=>?_;cases h; exact⟨_,rfl⟩
  |_=>exact nn h
 |_=>exact nn h
def gin_bl{st:Y4}(h:M.ginR r τ st neg ks b=Y (d,st')):∃k,d=.bl k:=by
 unfold M.ginR at h;refine qzj h λa e f h=>?_
 cases a with
 |str z=>cases h; exact⟨_,rfl⟩
 |_=>exact nn h
def tt_and{K:Qqq}(h:tTs K (λτ st=>M.stepTst r τ st (.and a b)) f H Q):tAnd (tTs K λτ st=>r.tst τ st a) (tTs K λτ st=>r.tst τ st b) f H Q:=by
 refine h.el λm st τ d st' o g e q=>?_;have e:=e;refine qzx e λp l e=>rsI o g l λm1 H1 b1 t1 i=>?_
 cases hp:p.1 with
 |true=>
  rw[hp,Z6 rfl]at e;rw[Z6 rfl];exact rsI i (g.mono b1 t1) e λk H2 b2 t2 R2=>q k H2 (b1.trans b2) (t1.trans t2) R2
 |false=>
  rw[hp,Z5 Qqu]at e;have q:=q.of e;rw[Z5 Qqu];exact q m1 H1 b1 t1 i
def tt_or{K:Qqq}(h:tTs K (λτ st=>M.stepTst r τ st (.or a b)) f H Q):tOr (tTs K λτ st=>r.tst τ st a) (tTs K λτ st=>r.tst τ st b) f H Q:=by
 refine h.el λm st τ d st' o g e q=>?_;have e:=e;refine qzx e λp l e=>rsI o g l λm1 H1 b1 t1 i=>?_
 cases hp:p.1 with
 |false=>
  rw[hp,Z5 Qqu]at e;rw[Z5 Qqu];exact rsI i (g.mono b1 t1) e λk H2 b2 t2 R2=>q k H2 (b1.trans b2) (t1.trans t2) R2
 |true=>
  rw[hp,Z6 rfl]at e;have q:=q.of e;rw[Z6 rfl];exact q m1 H1 b1 t1 i
def qvu{K:Qqq}(u:SlotOk K m H τ p)(k:SlotOk K b o (τ.set i (Y h)) σ')(s:Sub m b)(t:Tr o l)(hd:∀v,MS.IsD K b o h v->MS.IsD K m l d v):SlotOk K m l (τ.set i (Y d)) σ':=by
 refine⟨by have:=k.len; rwa [Qzs]at this ⊢,λj e a=>?_⟩
 by_cases f:i=j
 ·subst f;have hi:i<τ.length:=by
   have:=(Qqj.mp a).1;rwa [Qzs]at this
  rw[Qzq hi]at a;cases a;obtain⟨v,g,q⟩:=k.at_ i h (Qzq hi);exact⟨v,g,hd v q⟩
 ·rw[Qqo f]at a;obtain⟨w,_,r⟩:=u.at_ j e a;obtain⟨v,g,q⟩:=k.at_ j e (by rw[Qqo f]; exact a);exact⟨v,g,qzv (Sub.refl m) t _ _ (qxi s _ _ _ r q)⟩
def qgl{f:Sl->Y4->Y3 (D×Y4)}(h:PS X p (tS X.K λτ st=>(f τ st).bind λq=>(M.setT (.var i) q.1 τ).map λτ'=>(Out.nx τ',q.2))):
  PS X p (tS X.K λτ st=>((f τ st).map λq=>M.gcD st q).bind λq=>(M.setT (.var i) q.1 τ).map λτ'=>(Out.nx τ',q.2)):=by
 intro pins s σ H Dn I q;refine q.el λm st τ o st' N K e k=>qzj e λd T e1 e=>?_;obtain⟨⟨C,st0⟩,e2,e3⟩:=mapD e1;refine qzg e λτ' y e5=>?_;cases e5;have y:(if i<τ.length then Y (τ.set i (Y d)) else B)=Y τ':=y
 split at y
 case isFalse=>exact nn y
 case isTrue hi=>
  cases y;refine thn (h pins s σ H ⟨λg H1=>∃m1,Sub m m1/\Tr H H1/\Rel X.K m1 st0 H1/\SlotOk X.K m1 H1 (τ.set i (Y C)) g,λ_ _=>False,λ_ _=>False,λ_ _=>False⟩ I (rsI (d:=.nx (τ.set i (Y C))) (st':=st0) N K (by show(f τ st).bind _=_; rw[e2]; show Option.map _ (if i<τ.length then Y (τ.set i (Y C)) else B)=_; rw[Z6 hi]; rfl) λm1 H1 b t R g A=>⟨m1,b,t,R,A⟩)) λW s2 hf=>?_
  cases W with
  |next=>
   obtain⟨g,H1,P,m1,b1,t1,r,A⟩:=hf;have plain:(C,st0)=(d,T)->SP X pins Dn .next s2:=λz=>by
    cases z;exact⟨g,H1,P,k m1 H1 b1 t1 r g A⟩
   rcases gc_el e3 with z|⟨ok,z⟩
   ·exact plain z
   ·unfold M.gcX at z
    split at z
    ·rename_i hn;cases z;exact⟨g,H1,P,k m H1 (Sub.refl m) t1 (N.cut r b1 ok (Tr.refl H1) λ_ _ _ _ _ _=>rfl) g (qvu K A b1 (Tr.refl H1) λv q=>qez _ _ hn q)⟩
    ·split at z
     ·rename_i l hd;simp only at hd
      split at z
      ·rename_i hl
       split at z
       ·rename_i ds E
        split at z
        ·rename_i hn;cases z;subst hd;obtain⟨a,F⟩:=r.addr E;obtain⟨xs,S,U⟩:=r.cell l _ a E F;obtain⟨o,I2⟩:=qkn P S;have t2:=Tr.lay (o:=o) S;refine⟨g,_,I2,k m _ (Sub.refl m) (t1.trans t2) (N.cut r b1 ok t2 λQ c G e ea w=>?_) g (qvu K A b1 t2 λv q=>?_)⟩
         ·refine qzq λz=>?_;subst z;have V:=qje e;have:=r.nd Q l G c _ (b1 Q G ea) F V.2 E w rfl;omega
         ·obtain⟨G,x,rfl⟩:=q.loc;rw[F]at x;cases x;exact qbl (.inl ⟨o,qzk⟩) (qj4 _ _ hn (qze (Sub.refl m1) t2 _ _ U))
        ·exact plain z
       ·exact plain z
      ·exact plain z
     ·exact plain z
  |brk=>obtain⟨_,_,_,z⟩:=hf; exact z.elim
  |cont=>obtain⟨_,_,_,z⟩:=hf; exact z.elim
  |ret u=>obtain⟨_,_,_,_,_,z⟩:=hf; exact z.elim
def w_ok(A:AllOk fns dl n)(G:Good fns dl c X)(h:CkN j c e (.BoolOp k ps pos)):PW X (.BoolOp k ps pos) (tTs X.K λτ st=>M.stepTst (M.rn fns dl n) τ st e):=by
 cases j with
 |zero=>cases h
 |succ j=>
 cases h with
 |gc _ _ hp=>cases hp
 |of hs l h=>
 clear hs l
 cases h with
 |@and a b g f r pos i d=>
  refine(pw_and (A.t c X G a g i) ?_).imp λσ H Q h=>tt_and h
  cases r with
  |nil=>exact ql6 (A.t c X G b f d)
  |cons=>exact A.w c X G b _ _ _ d
 |@or a b g f r pos i d=>
  refine(pw_or (A.t c X G a g i) ?_).imp λσ H Q h=>tt_or h
  cases r with
  |nil=>exact pw_or1 (A.t c X G b f d)
  |cons=>exact A.w c X G b _ _ _ d
def qx7(d:PE X p (tD X.K λτ st=>r.ev τ st e))(a:∀w,isTrue p X.env w=(do let v <- w; standAt p.pos; holding [v] (truthy v)))(b:∀τ st,M.stepTst r τ st e=(r.ev τ st e).bind λp=>(M.truth p.2 p.1).map λk=>(k,p.2)):PT X p (tTs X.K λτ st=>M.stepTst r τ st e):=(qgh d a).imp λ_ _ _ h=>tt_val b h
def t_ok(A:AllOk fns dl n)(G':Good fns dl c X)(h:CkN j c e p):PT X p (tTs X.K λτ st=>M.stepTst (M.rn fns dl n) τ st e):=by
 have G:=G';have hu:=G'.room.units;have i:=A.e c X G e p h
 cases j with
 |zero=>cases h
 |succ j=>
 revert i
 cases h with
 |gc hs hq hp hg g=>
  intro i
  cases p with
  |Call=>exact qx7 i (λ_=>rfl) λ_ _=>rfl
  |ListComp=>exact qx7 i (λ_=>rfl) λ_ _=>rfl
  |List=>exact qx7 i (λ_=>rfl) λ_ _=>rfl
  |BinOp=>exact qx7 i (λ_=>rfl) λ_ _=>rfl
  |Subscript=>exact qx7 i (λ_=>rfl) λ_ _=>rfl
  |_=>cases hp
 |of hs hq h=>
 clear hs hq
 cases h with
 |nm h=>
  cases h with
  |var=>exact λi=>qx7 i (λ_=>rfl) λ_ _=>rfl
  |glo=>exact λi=>qx7 i (λ_=>rfl) λ_ _=>rfl
 |@not a t pos g=>
  intro _;refine(pt_not (A.t c X G a t g)).imp λσ H Q h=>h.el λm st τ d st' R u C q=>qzg C λp N K=>?_;cases K;exact rsI R u N λm1 H1 b1 t1 P=>q m1 H1 b1 t1 P
 |and g f=>exact λ_=>(w_ok A G (j:=j+1) (.of rfl rfl (.and g f))).pt
 |or g f=>exact λ_=>(w_ok A G (j:=j+1) (.of rfl rfl (.or g f))).pt
 |@cmp w a b t r pos g f=>
  intro _;refine(ql7 (qxs hu w) (A.e c X G a t g) (A.e c X G b r f) (qv1 f.sh _)).imp λσ H Q h=>h.el λm st τ d st' R u C q=>qzj C λD s1 N C=>qzj C λl o K C=>qzg C λk e3 e4=>?_;cases e4;exact rsI R u N λx m1 H1 b1 t1 P i1=>rsI P (u.mono b1 t1) K λy W H2 b2 t2 R2 T=>
   ⟨W,o,D,l,.bl d,o,R2,qzv b2 t2 _ _ i1,T,by show Option.map _ (M.cmpD o w D l)=_; rw[show M.cmpD o w D l=Y d from e3]; rfl,λz V H3 b3 F U i3=>⟨d,i3.bl,q V H3 (b1.trans (b2.trans b3)) (t1.trans (t2.trans F)) U⟩⟩
 |@cmp2 w v a b d t r pd pos g f hd=>
  intro _;refine(qgi (qxs hu w) (qxs hu v) (A.e c X G a t g) (A.e c X G b r f) (A.e c X G d pd hd) (qv1 hd.sh _)).imp λσ H Q h=>h.el λm st τ dd st' R u e q=>qzj e λD s1 N e=>qzj e λl o K e=>qzx e λk e3 e=>rsI R u N λx m1 H1 b1 t1 P i1=>rsI P (u.mono b1 t1) K λy W H2 b2 t2 R2 T=>
   ⟨W,o,D,l,.bl k,o,R2,qzv b2 t2 _ _ i1,T,by show Option.map _ (M.cmpD o w D l)=_; rw[show M.cmpD o w D l=Y k from e3]; rfl,λz V H3 b3 F U i3=>⟨k,i3.bl,?_⟩⟩
  cases k with
  |true=>
   rw[Z6 rfl]at e ⊢;refine qzj e λd3 S e4 e=>qzg e λk' e5 e6=>?_;cases e6;exact rsI U (u.mono (b1.trans (b2.trans b3)) (t1.trans (t2.trans F))) e4 λy' m4 H4 b4 t4 R4 i4=>
    ⟨m4,S,l,d3,.bl dd,S,R4,qzv (b3.trans b4) (F.trans t4) _ _ T,i4,by show Option.map _ (M.cmpD S v l d3)=_; rw[show M.cmpD S v l d3=Y dd from e5]; rfl,
     λz m5 H5 b5 t5 R5 i5=>⟨dd,i5.bl,q m5 H5 (b1.trans (b2.trans (b3.trans (b4.trans b5)))) (t1.trans (t2.trans (F.trans (t4.trans t5)))) R5⟩⟩
  |false=>
   rw[Z5 Qqu]at e ⊢;have q:=q.of e;exact⟨Y6,rfl,q V H3 (b1.trans (b2.trans b3)) (t1.trans (t2.trans F)) U⟩
 |ite hq g f=>exact λ_=>λpins s σ H Q I q=>by obtain⟨m,st,τ,d,st',_,_,z,_⟩:=q; cases z
 |@din neg a b t r pos g f=>exact λ_=>(qc8 (qda (by omega) neg (A.e c X G a t g) (A.e c X G b r f)) (qv1 f.sh _)).imp λσ H Q h=>qlz (λ_ _=>rfl) (λ_ _ _ _ z=>din_bl z) h
 |@tdi neg a b t r pos g f=>exact λ_=>(qc8 (qdw (by omega) neg (A.e c X G a t g) (A.e c X G b r f)) (qv1 f.sh _)).imp λσ H Q h=>qlz (λ_ _=>rfl) (λ_ _ _ _ z=>tdi_bl z) h
 |@gin neg x ks ds b r p0 pos hg hm hd f=>
  intro _;obtain⟨ad,h1,h2⟩:=G.mo.gds x ks ds hm;exact(qc8 (qdy neg (G.gl hg) h1 h2 hd (A.e c X G b r f)) (by cases neg<;>rfl)).imp λσ H Q h=>qlz (λ_ _=>rfl) (λ_ _ _ _ z=>gin_bl z) h
 |_=>exact λi=>qx7 i (λ_=>rfl) λ_ _=>rfl
def S_nx{K:Qqq}(p:PostO K m H (.nx τ) st' e)(b:Sub m a)(t:Tr H H')(g:Rel K a st' H')(f:SlotOk K a H' τ d):e.nx d H':=p a H' b t g d f
def qct{K:Qqq}(d:∀Q,(tD K λτ st=>r.ev τ st e) b H Q->g b H Q)(h:tS K (λτ st=>M.stepEx r τ st (.set (.var i) e)) l b H):tAsg g (qyg i) l b H:=by
 refine h.el λm st τ o st' w k f q=>qzj f λu y t f=>qzg f λτ' a s=>?_;cases s;have a:(if i<τ.length then Y (τ.set i (Y u)) else B)=Y τ':=a
 split at a
 ·cases a;exact d _ (rsI w k t λx m1 H1 b1 t1 v p=>S_nx q b1 t1 v ((k.mono b1 t1).put p))
 ·exact nn a
def qcu(U:∀j,j<=n->AllOk fns dl j)(G:Good fns dl c X)(R:∀x,X.fn x=O)(P:c.N[i]?=Y x)(K:c.sc.names.lookup x=Y .local\/c.sc.names.lookup x=Y .cell)(f:CkE c e p)(hg:∀a,e≠.gc a)(hc:∃elt T sc q,p=.ListComp elt T sc q)(l:∀env:Env,env.scope=c.sc->(swapsWith p (Y (.Name x b)) pos.line env=pure Y6\/swapsWith p (Y (.Name x b)) pos.line env=pure O)):
  PS X (.Assign [.Name x b] p pos) (tS X.K λτ st=>M.stepEx (M.rn fns dl n) τ st (.set (.var i) e)):=by
 have A:=U n (Qqk n);have S:X.N.Nodup:=by rw[G.N]; exact G.nd
 have loc:∀{x:Y5},(c.sc.names.lookup x=Y .local\/c.sc.names.lookup x=Y .cell)->Loc X.env.scope x:=λ{x} h=>by rw[G.sc]; exact h
 rcases l X.env G.sc with z|z
 ·exact(qix S (qjd G P) (loc K) (A.e c X G e p f) z (.inl (R x))).imp λD σ H h=>qct (λ_ q=>q) h
 ·cases n with
  |zero=>exact λpins s σ H Dn I q=>by obtain⟨m,st,τ,d,st',_,_,w,_⟩:=q; cases w
  |succ n=>
   have v:=U n (Qxw n);obtain⟨elt,T,sc,q,rfl⟩:=hc
   cases f with
   |gc=>exact(hg _ rfl).elim
   |of l o f=>
   clear l o
   cases f with
   |@comp t it q g sr tg F pq y k cpos N ok hit W o f=>
    have u:=λ{C fp s H}=>G.inner (C:=C) (fp:=fp) (s:=s) (H:=H) ok.kind ok.nd;exact(qbd G.calm (qks G ok) (qye v G hit) (λC fp s H=>qxy u W λi r x V=>.inr (qcf ok.tl i r x V)) (λC fp s H=>qh4 v u o) (λC fp s H=>v.e _ _ u g _ f) (ok.fs X.env) S (qjd G P) (loc K) (.inl (R x)) z).imp λD σ H h=>qct (λQ q=>qcg q) h
def s1_ok(IH:∀j,j<=n->AllOk fns dl j)(G:Good fns dl c X)(hf:∀x,X.fn x=O)(h:CkS c s p):PS X p (tS X.K λτ st=>M.stepEx (M.rn fns dl n) τ st s):=by
 have A:=IH n (Qqk n);have hN:X.N.Nodup:=by rw[G.N]; exact G.nd
 have loc:∀{x:Y5},(c.sc.names.lookup x=Y .local\/c.sc.names.lookup x=Y .cell)->Loc X.env.scope x:=λ{x} h=>by rw[G.sc]; exact h
 cases h with
 |@set i e x p pos pos' hi hl R hs=>exact(qix hN (qjd G hi) (loc hl) (A.e c X G e p R) (hs X.env) (.inl (hf x))).imp λD σ H h=>qct (λ_ q=>q) h
 |@setC i e x p pos pos' hi hl R hc hs=>
  by_cases a9:∃a,e=.gc a
  ·obtain⟨a,rfl⟩:=a9
   cases R with
   |of _ _ R=>
    cases R with
    |nm h=>cases h
   |gc ws wq hp hg ha=>
    cases n with
    |zero=>exact λpins s σ H Dn I q=>by obtain⟨m,st,τ,d,st',_,_,w,_⟩:=q; cases w
    |succ n=>exact(qgl (qcu (λj hj=>IH j (Qxg hj)) G hf hi hl (.of ws wq ha) hg hc hs)).imp λ_ _ _ q=>q
  ·exact qcu IH G hf hi hl R (λa z=>a9 ⟨a,z⟩) hc hs
 |@dset a i e pa pi pe tpos pos ha hi R=>
  refine(qc9 (by have:=G.room.units; omega) (A.e c X G a pa ha) (A.e c X G i pi hi) (A.e c X G e pe R) (sh_sw R.sh _ _)).imp λDn σ H h=>?_;refine h.el λm st τ o st' R0 F g q=>qzj g λd1 s1 e1 g=>qzj g λd2 s2 e2 g=>qzj g λd3 s3 e3 g=>?_
  cases d2 with
  |loc l=>
   have g:=g;refine qzx g λkvs E g=>?_
   split at g
   ·rename_i hk;have q:=q.of g;rw[Qqs,decide_eq_true_eq]at hk;obtain⟨k,a8⟩:=qq5 hk.1;refine rsI R0 F e1 λx m1 H1 b1 t1 R1 i1=>rsI R1 (F.mono b1 t1) e2 λy m2 H2 b2 t2 R2 i2=>rsI R2 (F.mono (b1.trans b2) (t1.trans t2)) e3 λz U H3 b3 K R3 i3=>?_;obtain⟨W,xs,V,rfl,T,a6,a2⟩:=R3.wdict E (qzv b3 K _ _ i2);have hz:=qnw a8 i3;subst hz;have l1:=a6.length;have l2:=qqc;refine⟨W,_,rfl,DPut.k T (by omega),?_⟩;have iv:=qzv (b2.trans b3) (t2.trans K) _ _ i1;exact S_nx q (b1.trans (b2.trans b3)) (t1.trans (t2.trans (K.trans (Tr.putD T)))) (R3.putD a2 V T (a6.put a8 iv)) (F.mono (b1.trans (b2.trans b3)) (t1.trans (t2.trans (K.trans (Tr.putD T)))))
   ·exact nn g
  |_=>exact nn g
 |@tds a i e pa pi pe tpos pos ha hi R=>
  refine(qc9 (by have:=G.room.units; omega) (A.e c X G a pa ha) (A.e c X G i pi hi) (A.e c X G e pe R) (sh_sw R.sh _ _)).imp λDn σ H h=>?_;refine h.el λm st τ o st' R0 F g q=>qzj g λd1 s1 e1 g=>qzj g λd2 s2 e2 g=>qzj g λd3 s3 e3 g=>?_
  cases d2 with
  |loc l=>
   cases d3 with
   |fup k=>
    refine qzx g λkvs E g=>?_
    split at g
    ·rename_i hk;have q:=q.of g;refine rsI R0 F e1 λx m1 H1 b1 t1 R1 i1=>rsI R1 (F.mono b1 t1) e2 λy m2 H2 b2 t2 R2 i2=>rsI R2 (F.mono (b1.trans b2) (t1.trans t2)) e3 λz U H3 b3 K R3 i3=>?_;obtain⟨W,xs,V,rfl,T,a7,a2⟩:=R3.wtdict E (qzv b3 K _ _ i2);obtain⟨b,rfl,hb⟩:=i3.fup;have l1:=a7.length;have l2:=qqc;refine⟨W,_,rfl,DPut.t T (by rw[qd8]; exact hb) (by omega),?_⟩;have iv:=qzv (b2.trans b3) (t2.trans K) _ _ i1;have tp:Tr H3 (upd H3 W (.dT (putK xs (k.map Sum.inl) x))):=Tr.putT T;exact S_nx q (b1.trans (b2.trans b3)) (t1.trans (t2.trans (K.trans tp))) (R3.putC a2 rfl V tp ⟨_,qzk,qq1 (Sub.refl _) tp.w _ _ (a7.put iv)⟩) (F.mono (b1.trans (b2.trans b3)) (t1.trans (t2.trans (K.trans tp))))
    ·exact nn g
   |_=>exact nn g
  |_=>exact nn g
 |@expr e p pos R hs=>
  refine(ql9 (A.e c X G e p R) (hs X.env)).imp λDn σ H h=>h.el λm st τ o st' R0 F g q=>qzg g λp e1 e2=>?_;cases e2;exact rsI R0 F e1 λx m1 H1 b1 t1 R1 i1=>S_nx q b1 t1 R1 (F.mono b1 t1)
 |@ret e p pos R=>
  refine(ps_ret (A.e c X G e p R)).imp λDn σ H h=>h.el λm st τ o st' R0 F g q=>qzg g λp e1 e2=>?_;cases e2;exact rsI R0 F e1 λx m1 H1 b1 t1 R1 i1=>q m1 H1 b1 t1 R1 x i1
 |@ite q a b pq pa pb pos hq ha hb=>
  refine(ps_if (A.t c X G q pq hq) (A.s c X G hf a pa ha) (A.s c X G hf b pb hb)).imp λDn σ H h=>h.el λm st τ o st' R0 F g r=>qzx g λp e1 g=>rsI R0 F e1 λm1 H1 b1 t1 R1=>?_
  cases hp:p.1 with
  |true=>
   rw[hp,Z6 rfl]at g;rw[Z6 rfl];exact rsI R1 (F.mono b1 t1) g (r.mono b1 t1)
  |false=>
   rw[hp,Z5 Qqu]at g;rw[Z5 Qqu];exact rsI R1 (F.mono b1 t1) g (r.mono b1 t1)
 |@forr t it body tg b7 pb pos ht hi hs hb=>
   refine(qij (by rw[G.xe]; exact PassesOwn.never) G.calm (qye A G hi) (qxy G ht λi _ x _=>.inl (hf x)) (A.s c X G hf body pb hb) (hs X.env)).imp λDn σ H h=>?_
   refine h.el λm st τ o st' R0 F g r=>qzx g λp e1 g=>rsI R0 F e1 λm1 H1 Jq b1 t1 R1 hJ=>⟨λj k a4 H'=>∃m2 Q P,Sub m1 m2/\Tr H1 H'/\Rel X.K m2 Q H'/\SlotOk X.K m2 H' P a4/\M.loop p.1 (λτ st d=>(M.setT t d τ).bind λu=>(M.rn fns dl n).ex u st body) k j P Q=Y (o,st'),
    ⟨_,m1,p.2,τ,Sub.refl _,Tr.refl _,R1,F.mono b1 t1,g⟩,?_⟩
   rintro j k a4 H' ⟨m2,Q,P,b2,t2,R2,S2,E⟩
   cases k with
   |zero=>exact nn E
   |succ k=>
    have E:=E;refine qzx E λoo e5 E=>?_
    cases oo with
    |none=>
     have r:=r.of E;exact .inl ⟨(hJ.mono b2 t2).done R2 e5,S_nx r (b1.trans b2) (t1.trans t2) R2 S2⟩
    |some d=>
     obtain⟨b5,hy⟩:=(hJ.mono b2 t2).next R2 e5;refine qzx E λz e6 E=>qzx e6 λa0 e7 e6=>.inr ⟨b5,λa1 H3=>∃U a5 a0,Sub m1 U/\Tr H1 H3/\Rel X.K U a5 H3/\SlotOk X.K U H3 a0 a1/\M.loop p.1 (λτ st d=>(M.setT t d τ).bind λu=>(M.rn fns dl n).ex u st body) k (j+1) a0 a5=Y (o,st'),λa1 H3 w3=>⟨k,Qzb k,w3⟩,λx H2 b4=>?_⟩;obtain⟨sm,ix⟩:=hy x H2 b4;have t2:=t2.trans (Tr.of_same sm);have R2:=R2.same sm;have S2:=S2.mono (Sub.refl _) (Tr.of_same sm);refine qns ix S2 e7 λa1 S3=>rsI R2 S3 e6 λU H3 b3 K R3=>?_
     cases hz:z.1 with
     |nx N=>
      rw[hz]at E;exact λa3 S4=>⟨U,z.2,N,b2.trans b3,t2.trans K,R3,S4,E⟩
     |ct N=>
      rw[hz]at E;exact λa3 S4=>⟨U,z.2,N,b2.trans b3,t2.trans K,R3,S4,E⟩
     |bk N=>
      rw[hz]at E;have r:=r.of E;exact λa3 S4=>S_nx r (b1.trans (b2.trans b3)) (t1.trans (t2.trans K)) R3 S4
     |rt v=>
      rw[hz]at E;have r:=r.of E;exact λw iw=>r U H3 (b1.trans (b2.trans b3)) (t1.trans (t2.trans K)) R3 w iw
 |bad=>exact λpins s σ H Dn I q=>by obtain⟨m,st,τ,d,st',_,_,z,_⟩:=q; cases z
 |@setA C a f e pa pe tpos pos ha R hc=>
  obtain⟨h1,h2⟩:=G.mo.ats C f hc;refine(ps_fld (A.e c X G a pa ha) (A.e c X G e pe R) (sh_swA R.sh _ _)).imp λDn σ H h=>h.el λm st τ o st' R0 F g q=>qzj g λd1 s1 e1 g=>qzj g λd2 s2 e2 g=>qzx g λfs e3 g=>rsI R0 F e1 λx m1 H1 b1 t1 R1 i1=>rsI R1 (F.mono b1 t1) e2 λy m2 H2 b2 t2 R2 i2=>?_;obtain⟨l,p,dx,ys,rfl,hl,rfl,T,b0,a2⟩:=R2.inst e3 i2;dsimp only at g
  split at g
  ·rename_i b8;have q:=q.of g;have l1:=b0.length;exact⟨p,C,dx,ys,rfl,T,h1,h2,by omega,S_nx q (b1.trans b2) (t1.trans (t2.trans (Tr.putI T))) (R2.putI a2 hl T (b0.put (qzv b2 t2 _ _ i1))) (F.mono (b1.trans b2) (t1.trans (t2.trans (Tr.putI T))))⟩
  ·exact nn g
 |@ford t a body tg pa pb pos ht ha hb=>
  refine(ql8 (by rw[G.xe]; exact PassesOwn.never) G.calm (A.e c X G a pa ha) (qxy G ht λi _ x _=>.inl (hf x)) (A.s c X G hf body pb hb) (qls ha.sh X.env)).imp λDn σ H h=>?_;refine h.el λm st τ o st' R0 F g r=>qzj g λd1 s1 e1 g=>?_
  cases d1 with
  |loc l=>
   have g:=g;refine qzx g λkvs e2 g=>qzx g λw e3 g=>?_
   split at g
   case h_2=>exact nn g
   case h_1 b6 hw=>
   have r:=r.of g;refine rsI R0 F e1 λx m1 H1 b1 t1 R1 i1=>?_;obtain⟨W,xs,V,rfl,T,a6,a2⟩:=R1.wdict e2 i1;refine⟨W,xs,rfl,T,λob nf=>?_⟩;have R2:=R1.ice (o:=ob) a2 V T a6;have ti:=Tr.ice (o:=ob) T;have IK:=a6.keys;have lk:=IK.length;rw[Qqz]at lk;have fz:∀{H':Hp},Tr (upd H1 W (.frz ob (.dK xs))) H'->H' W=Y (.frz ob (.dK xs)):=λt2=>t2.frz W ob _ qzk
   refine⟨λj k a4 H'=>∃m2 Q P,Sub m1 m2/\Tr (upd H1 W (.frz ob (.dK xs))) H'/\Rel X.K m2 Q H'/\SlotOk X.K m2 H' P a4/\M.loop (.tup (M.keysOf kvs)) (λτ st d=>(M.setT t d τ).bind λu=>(M.rn fns dl n).ex u st body) k j P Q=Y w,
    ⟨_,m1,_,τ,Sub.refl _,Tr.refl _,R2,F.mono b1 (t1.trans ti),e3⟩,?_⟩
   rintro j k a4 H' ⟨m2,Q,P,b2,t2,R3,S2,E⟩
   cases k with
   |zero=>exact nn E
   |succ k=>
    have E:(Y (M.keysOf kvs)[j]?:Y3 (Y3 D)).bind (λo=>match o with
     |none=>Y (Out.nx P,Q)
     |some d=>((M.setT t d P).bind λu=>(M.rn fns dl n).ex u Q body).bind λz=>match z.1 with
      |.nx u=>M.loop (.tup (M.keysOf kvs)) (λτ st d=>(M.setT t d τ).bind λu=>(M.rn fns dl n).ex u st body) k (j+1) u z.2
      |.ct u=>M.loop (.tup (M.keysOf kvs)) (λτ st d=>(M.setT t d τ).bind λu=>(M.rn fns dl n).ex u st body) k (j+1) u z.2
      |.bk u=>Y (.nx u,z.2)
      |.rt v=>Y (.rt v,z.2))=Y w:=E
    rw[oBs]at E
    cases e5:(M.keysOf kvs)[j]? with
    |none=>
     rw[e5]at E;cases E;refine .inl ⟨⟨fz t2,by rw[<- lk]; exact Qzf.mp e5⟩,W,ob,xs,nf,fz t2,?_⟩;exact S_nx r (b1.trans b2) (t1.trans (Tr.thaw T t2)) (R3.thaw hw (b2 l W V) (fz t2)) (S2.monoW (Sub.refl _) (Tw.thaw (fz t2)))
    |some d=>
     rw[e5]at E;have hj:=(Qqj.mp e5).1;refine qzx E λz e6 E=>qzx e6 λa0 e7 e6=>.inr ⟨⟨fz t2,by omega⟩,λa1 H3=>∃U a5 a0,Sub m1 U/\Tr (upd H1 W (.frz ob (.dK xs))) H3/\Rel X.K U a5 H3/\SlotOk X.K U H3 a0 a1/\M.loop (.tup (M.keysOf kvs)) (λτ st d=>(M.setT t d τ).bind λu=>(M.rn fns dl n).ex u st body) k (j+1) a0 a5=Y w,λa1 H3 w3=>⟨k,Qzb k,w3⟩,?_⟩;rintro x H2 ⟨rfl,p,hp,rfl⟩;obtain⟨x',ex,ix⟩:=IK.get e5;rw[Qqw,hp]at ex;cases ex;refine qns (qzv b2 (ti.trans t2) _ _ ix) S2 e7 λa1 S3=>rsI R3 S3 e6 λU H3 b3 K R4=>?_
     cases hz:z.1 with
     |nx N=>
      rw[hz]at E;exact λa3 S4=>⟨U,z.2,N,b2.trans b3,t2.trans K,R4,S4,E⟩
     |ct N=>
      rw[hz]at E;exact λa3 S4=>⟨U,z.2,N,b2.trans b3,t2.trans K,R4,S4,E⟩
     |bk N=>
      rw[hz]at E;cases E;exact λa3 S4=>⟨W,ob,xs,nf,fz (t2.trans K),S_nx r (b1.trans (b2.trans b3)) (t1.trans (Tr.thaw T (t2.trans K))) (R4.thaw hw ((b2.trans b3) l W V) (fz (t2.trans K))) (S4.monoW (Sub.refl _) (Tw.thaw (fz (t2.trans K))))⟩
     |rt v=>
      rw[hz]at E;cases E;exact λv' iv=>⟨W,ob,xs,nf,fz (t2.trans K),r U _ (b1.trans (b2.trans b3)) (t1.trans (Tr.thaw T (t2.trans K))) (R4.thaw hw ((b2.trans b3) l W V) (fz (t2.trans K))) v' (qz7 (Sub.refl _) (Tw.thaw (fz (t2.trans K))) _ _ iv)⟩
  |_=>exact nn g
theorem qll(i:∀j,j<=n->AllOk fns dl j)(G:Good fns dl c X)(e:∀x,X.fn x=O):∀{k}{ps},CkSs c k ps->PSs X ps (tS X.K λτ st=>M.exs (M.stepEx (M.rn fns dl n)) k τ st)
 |_,_,.nil=>pss_nil.imp λl σ H h=>by
  refine h.el λm st τ o st' g f a q=>?_;have q:=q.of a;exact q m H (Sub.refl m) (Tr.refl H) g _ f
 |_,_,.doc t=>(qav ps_doc (qll i G e t)).imp λl σ H h=>h
 |_,_,.cons h t=>(qav (s1_ok i G e h) (qll i G e t)).imp λl σ H u=>by
  refine u.el λm st τ o st' g f a q=>qzx a λp v a=>rsI g f v λm1 H1 b1 t1 b=>?_
  cases hp:p.1 with
  |nx r=>
   rw[hp]at a;exact λs w=>rsI b w a (q.mono b1 t1)
  |rt d=>
   rw[hp]at a;have q:=q.of a;exact q m1 H1 b1 t1 b
  |bk d=>
   rw[hp]at a;have q:=q.of a;exact q m1 H1 b1 t1 b
  |ct d=>
   rw[hp]at a;have q:=q.of a;exact q m1 H1 b1 t1 b
end
def allOk(fns)(dl):∀n j,j<=n->AllOk fns dl j:=by
 intro n
 induction n with
 |zero=>intro j h; rw[Nat.le_zero.mp h]; exact qb5 fns dl
 |succ n a=>
  intro j h;rcases Qz7 j (n+1) with z|z
  ·exact a j (by omega)
  ·have e:j=n+1:=by omega
   subst e;have A:=a n (Qqk n);exact⟨λc X G _ e p h=>e_ok A G h,λc X G _ e p h=>t_ok A G h,λc X G _ e d ps pos h=>w_ok A G h,λc X G hf b ps h=>qll a G hf h⟩
structure FText (K:Qqq) (mg:Y5->Y3 Y8) (fns:L Fn) (names:L Y5) (glo:Glo) (f:Y0) (x:Y5):Prop where
 ex:∃(nm:Y5) (fa:Y7) (fd:Qp) (st:Stmt) (N ps:L Y5) (F:Fn),fns[f]?=Y F/\Fun K nm x st fa fd/\Lc K mg glo f x fa/\Binds K fd ps []/\FnScope N ps (qzd st)/\CkSs ⟨N,qzd st,names,glo⟩ F.body (qzu st)/\F.np=ps.length/\F.nl=N.length
def qio{K:Qqq}{S:Qp}{st:Stmt}(X:FTab P w K mg base glo fns names n)(Mg:Mo K mg glo w.params)(hF:fns[f]?=Y F)(l:Fun K nm x st C S)(b:FnScope N ps (qzd st))(u:CkSs ⟨N,qzd st,names,glo⟩ F.body (qzu st))(r:F.np=ps.length)(t:F.nl=N.length):FnOk P w K mg base CX0 (2*(n+1)) C S ps (spN K fns (n+1) f):=by
 have g:∀{ds:L D}{st0 st':Y4}{d:D},M.callD fns (n+1) f ds st0=Y (d,st')->ds.length=F.np/\((M.Lv fns n).ex (ds.map Y++List.replicate (F.nl - ds.length) B) st0 F.body).bind (λp=>match p.1 with
   |.rt d=>Y (d,p.2)
   |.nx _=>Y (D.non,p.2)
   |_=>B)=Y (d,st'):=λ{ds st0 st' d} e=>by
  have e:M.stepCall fns (M.Lv fns n) f ds st0=Y (d,st'):=e;unfold M.stepCall at e;rw[hF]at e;dsimp only at e
  split at e
  ·rename_i hl;exact⟨hl,e⟩
  ·exact nn e
 refine l.ok b (λvs H Q E h=>?_) (λR A outer s H vs Q E hr h=>?_)
 ·obtain⟨m,st0,ds,d,st',_,j,e,_⟩:=h;rw[<- j.length,(g e).1,r]
 ·obtain⟨m,st0,ds,d,st',R0,j,e,q⟩:=h;obtain⟨hl,e⟩:=g e;refine qzx e λp I a=>?_;obtain⟨k,I⟩:=M.lim1_is I;have G:Good fns n ⟨N,qzd st,names,glo⟩ (cxOf CX0 P w K mg base N x (qzd st) C R A outer s H E).nox:=⟨hr,rfl,rfl,rfl,b.nd,b.kind,X,Mg,rfl⟩
  refine⟨_,(allOk fns n k k (Qqk k)).s _ _ G (λ_=>rfl) F.body (qzu st) u,⟨m,st0,ds.map Y++List.replicate (F.nl - ds.length) B,p.1,p.2,R0,⟨?_,λi d0 hi=>?_⟩,I,λm1 H1 b1 t1 U=>?_⟩⟩
  ·unfold L2.start;rw[Qqh,Qqh,Qqz,Qqz,Qjj,Qjj,t,j.length]
  ·unfold L2.start
   by_cases c:i<ds.length
   ·rw[Qq0 (by simpa using c),Qqw]at hi;have e3:ds[i]?=Y d0:=by
     cases z:ds[i]? with
     |none=>rw[z]at hi; cases hi
     |some y=>rw[z]at hi; cases hi; rfl
    obtain⟨v,e4,o⟩:=j.get e3;refine⟨v,?_,o⟩;rw[Qq0 (by rw[Qqz,<- j.length]; exact c),Qqw,e4]
    rfl
   ·rw[Qzi (by simpa using c),Qj7]at hi
    split at hi<;>cases hi
  ·cases hp:p.1 with
   |rt T=>
    rw[hp]at a;cases a;exact λv o=>q v m1 H1 b1 t1 U o
   |nx V=>
    rw[hp]at a;cases a;exact λW S1=>q _ m1 H1 b1 t1 U qvq
   |bk T=>rw[hp]at a; cases a
   |ct T=>rw[hp]at a; cases a
def tab_ok{K:Qqq}(T:∀f x,names[f]?=Y x->FText K mg fns names glo f x)(u:Mo K mg glo w.params):
  ∀n,FTab P w K mg base glo fns names n:=by
 intro n
 induction n with
 |zero=>
  intro f x j;obtain⟨nm,o,fd,st,N,ps,F,p,a,k,l,b,i,c,g⟩:=(T f x j).ex;refine⟨o,fd,ps,k,?_,a.kp,l⟩;refine⟨λvs H Q E h=>?_,λA outer s H q v vs Q E z C t y h=>?_⟩
  ·obtain⟨m,st,ds,d,st',_,_,e,_⟩:=h; cases e
  ·obtain⟨m,st,ds,d,st',_,_,e,_⟩:=h; cases e
 |succ n r=>
  intro f x j;obtain⟨nm,o,fd,st,N,ps,F,p,a,k,l,b,i,c,g⟩:=(T f x j).ex;exact⟨o,fd,ps,k,qio r u p a b i c g,a.kp,l⟩
noncomputable def qlm(K:Qqq):Sp:=λvs H Q _=>∃(a:Y7) (ns:L J),vs=[.ref a]/\SqF K H a (ns.map V.int)/\ns.length<=63/\∀H',Q (.bl O) H'
def law_sp{K:Qqq}(h:∀ns:L J,ns.length<=63->∃st',M.callD fns n f [.lst (ns.map D.int)] []=Y (.bl O,st'))(vs)(H)(Q)(E)(q:qlm K vs H Q E):spN K fns n f vs H Q E:=by
 obtain⟨a,ns,rfl,g,hl,k⟩:=q;obtain⟨st',e⟩:=h ns hl;refine⟨[],[],[.lst (ns.map D.int)],.bl O,st',⟨rfl,λl p b c s d m j r w o=>?_,λl c b d m=>?_⟩,qzm (qbl g (qxh ns)) qz9,e,λv m' H' _ _ _ i=>?_⟩
 ·simp at j
 ·simp at d
 ·rw[i.bl]; exact k H'
def qm0{K:Qqq}(b:Only H)(h:SqL K H a xs):SqF K H a xs:=by
 rcases h with (h|⟨o,h⟩)|h
 ·rcases b a with z|⟨ob,ys,z⟩
  ·rw[h]at z; cases z
  ·rw[h]at z; cases z
 ·exact .inl ⟨o,h⟩
 ·exact .inr h
def walk_law{l:PySem.W.OpenLaw}{K:Qr->Qqq}(g:l.most=Y 63)(b:d.params.defaults=[])(e:Room k Zu)(i:∀(w:Qk) (h:Heap),YP w h->(K w.params).In h)(F:∀(w:Qk) (mg:Y5->Y3 Y8) (c:Y7) (h:Heap),(K w.params).In h->h.Ns mainGlobals mg->mg d.name=Y (.ref c)->
   ∃fd:Qp,(∀(s:Qz) (u:Y8),BindsTo s fd ⟨[u],[]⟩ [(x,u)])/\∀base:Heap,(K w.params).In base->base.Ns mainGlobals mg->FnOk l.prog w (K w.params) mg base CX0 k c fd [x] (qlm (K w.params))):
  PySem.W.WalkO q loose XP YP l.row.toRowW d [] (λf vs=>PySem.call f vs):=
 L2.walk_of g (by decide) b e i F (λ_ _ a ns hl m j=>⟨a,ns,rfl,qm0 m j,hl,λ_=>rfl⟩) λ_ _ _ _ _ z=>z
def qgk(elt)(a)(sc)(q)(t)(p)(line)(env):swapsWith (.ListComp elt a sc q) (Y (.Name t p)) line env=pure Y6\/swapsWith (.ListComp elt a sc q) (Y (.Name t p)) line env=pure true:=by
 have e:swapsWith (.ListComp elt a sc q) (Y (.Name t p)) line env=pure (env.blockKind==.function&&env.kindOf t==Y .local&&p.line==q.line && !(sc.names.any λ(n,k)=>n==t&&(k==.local||k==.cell))):=rfl;rw[e]
 cases (env.blockKind==.function&&env.kindOf t==Y .local&&p.line==q.line && !(sc.names.any λ(n,k)=>n==t&&(k==.local||k==.cell))) with
 |false=>exact .inl rfl
 |true=>exact .inr rfl
inductive ClK (K:Qqq) (cn:Y5) (C:Y7):Prop
 |mk (a:Qx3 K mainGlobals cn=Y (Y (.ref C))) (pg:PySem.W.plainGet K C Str.empty=O) (hd:PySem.W.hasDictIn K C=O) (po:PySem.W.plainOver K C=O) (sa:PySem.W.findIn K (.ref C) "__setattr__" = Y (Y (.builtin "object.__setattr__"))) (mk:PySem.W.makesIn K C=O) (kp:Qzm K (.ref C)=O):ClK K cn C
def ClK.cls{K:Qqq}(h:ClK K b C):Cls K C:=by
 cases h with
 |mk a pg hd po sa mk kp=>exact⟨pg,hd,po,sa⟩
def ClK.mo{K:Qqq}(q:ClK K b C)(X:K.In h)(G:h.Ns mainGlobals mg):mg b=Y (.ref C)/\Cls K C/\PySem.W.makesIn K C=O/\Qzm K (.ref C)=true:=by
 have c:=q.cls
 cases q with
 |mk a pg hd po sa mk kp=>exact⟨Qx8 X G a,c,mk,kp⟩
noncomputable def sq(a b:Y5):Bool:=a.cps.toList==b.cps.toList
def qqb(h:sq a b=O):a=b:=by
 obtain⟨⟨a⟩⟩:=a;obtain⟨⟨b⟩⟩:=b;have:a=b:=by simpa[sq] using h
 rw[this]
def qw9(a):sq a a=true:=by simp[sq]
def qbv(h:(!sq a b)=O):(a==b)=false:=by
 cases e:a==b with
 |false=>rfl
 |true=>
  rw[beq_iff_eq]at e;rw[e,qw9]at h;cases h
noncomputable def gd{α:Type}(b:Yb)(x:Y3 α):Y3 α:=bif b then x else B
def gd_iff:gd b x=Y e↔b=O/\x=Y e:=by cases b<;>simp[gd]
noncomputable def lk:L (Y5×Qm)->Y5->Y3 Qm
 |[],_=>B
 |(y,k)::r,x=>bif sq x y then Y k else lk r x
theorem qwj:∀{l}{x},lk l x=l.lookup x
 |[],_=>rfl
 |(y,k)::r,x=>by
  unfold lk;rw[Qzk]
  cases e:sq x y with
  |true=>rw[qqb e,beq_self_eq_true]; rfl
  |false=>
   have:(x==y)=false:=by
    cases a:x==y with
    |false=>rfl
    |true=>rw[beq_iff_eq]at a; rw[a,qw9]at e; cases e
   rw[this];exact qwj
noncomputable def ixS(x:Y5):L Y5->Y3 Y0
 |[]=>B
 |y::r=>bif sq y x then Y 0 else(ixS x r).map (· + 1)
theorem ixS_eq:∀{N}{i},ixS x N=Y i->N[i]?=Y x
 |[],_,h=>nomatch h
 |y::r,i,h=>by
  unfold ixS at h
  cases e:sq y x with
  |true=>rw[e]at h; cases h; rw[qqb e]; rfl
  |false=>
   rw[e]at h;obtain⟨j,a,rfl⟩:=Qqb.mp (h);exact(ixS_eq a :)
noncomputable def kG:Y3 Qm->Yb
 |some .globalImplicit=>O
 |_=>Y6
noncomputable def kL:Y3 Qm->Yb
 |some .local=>O
 |some .cell=>O
 |_=>Y6
noncomputable def kV:Y3 Qm->Yb
 |some .local=>O
 |some .cell=>O
 |some .free=>O
 |_=>Y6
def kG_eq(h:kG o=O):o=Y .globalImplicit:=by
 unfold kG at h; split at h
 ·rfl
 ·cases h
def kL_eq(h:kL o=O):o=Y .local\/o=Y .cell:=by
 unfold kL at h; split at h
 ·exact .inl rfl
 ·exact .inr rfl
 ·cases h
def qna(h:kV o=O):o=Y .local\/o=Y .cell\/o=Y .free:=by
 unfold kV at h; split at h
 ·exact .inl rfl
 ·exact .inr (.inl rfl)
 ·exact .inr (.inr rfl)
 ·cases h
noncomputable def isG(c:Ctx)(x:Y5):Bool:=kG (lk c.sc.names x)
noncomputable def isL(c:Ctx)(x:Y5):Bool:=kL (lk c.sc.names x)
def qz5(h:isG c x=O):c.sc.names.lookup x=Y .globalImplicit:=qwj▸kG_eq h
def qas(h:isL c x=O):c.sc.names.lookup x=Y .local\/c.sc.names.lookup x=Y .cell:=qwj▸kL_eq h
noncomputable def noD(x:Y5):Bool:=!sq x ("__debug__" : Y5)
noncomputable def swOk:Qx->Yb
 |.ListComp ..=>Y6
 |.SetComp ..=>Y6
 |.DictComp ..=>Y6
 |_=>O
def sw_ok(h:swOk p=O)(t)(l)(env):swapsWith p t l env=pure false:=by
 cases p<;>first|rfl|cases h
abbrev TrE:=Ctx->Qx->Y3 E
noncomputable def qcc(c:Ctx)(x:Y5):Y3 E:=
 bif isG c x then(c.glo.cs.find? λq=>sq q.1 x).bind λq=>gd (noD x) (Y (.glo q.1 q.2))
 else(ixS x c.N).bind λi=>gd (kV (lk c.sc.names x)&&noD x && !sq x ("__classdict__" : Y5)) (Y (.var i))
noncomputable def trL(f:Qx->Y3 E):L Qx->Y3 (L E)
 |[]=>Y []
 |p::r=>(f p).bind λe=>(trL f r).map (e::·)
noncomputable def trP(f:Qx->Y3 E):L (Y3 Qx)->L Qx->Y3 (L E)
 |[],[]=>Y []
 |some k::ks,v::vs=>(f k).bind λa=>(f v).bind λb=>(trP f ks vs).map λr=>a::b::r
 |_,_=>B
noncomputable def trO(f:Qx->Y3 E):Y3 Qx->Y3 (Y3 E)
 |none=>Y B
 |some p=>(f p).map Y
noncomputable def qhb(c:Ctx):Qx->Y3 (Y5×L Y5×L D)
 |.Name x _=>gd (isG c x&&noD x) (c.glo.ds.find? λq=>sq q.1 x)
 |_=>B
noncomputable def inNeg:CmpOp->Y3 Yb
 |.In=>Y Y6
 |.NotIn=>Y O
 |_=>B
noncomputable def qly(o:Y0)(f:Qx->Y3 E)(c:Ctx)(a:Qx)(op:CmpOp)(b:Qx):Y3 E:=
 match inNeg op with
 |some neg=>match qhb c b with
  |some q=>(f a).map λx=>.gin neg q.1 q.2.1 x
  |none=>(f a).bind λx=>(f b).map λy=>bif o==1 then .din neg x y else bif o==2 then .tdi neg x y else .cmp op x y
 |none=>(f a).bind λx=>(f b).map λy=>.cmp op x y
noncomputable def qlj(o:Y0)(f:Qx->Y3 E)(c:Ctx)(a:Qx):Qx->Y3 E
 |.Slice lo hi B _=>(f a).bind λx=>(trO f lo).bind λl=>(trO f hi).map λh=>bif o==2 then .tsli x l h else .sli x l h
 |b=>match qhb c a with
  |some q=>(f b).map λy=>.gidx q.1 q.2.1 q.2.2 y
  |none=>(f a).bind λx=>(f b).map λy=>bif o==1 then .didx x y else .idx x y
noncomputable def bOf(x:Y5):Y3 M.Bq:=[M.Bq.len,.min,.tuple,.list,.all,.sorted,.any].find? λb=>sq (Str.ofString (qok b)) x
noncomputable def tyOf(x:Y5):Y3 M.Ty:=[M.Ty.bl,.int,.str,.tup,.lst].find? λt=>sq (Str.ofString t.name) x
noncomputable def qf3(c:Ctx):L Qx->Y3 (L M.Ty)
 |[]=>Y []
 |.Name x _::r=>(tyOf x).bind λt=>gd (isG c x) ((qf3 c r).map (t::·))
 |_=>B
noncomputable def mOf(x:Y5):Y3 M.Mt:=[M.Mt.append,.extend,.index,.insert].find? λk=>sq (mName k) x
noncomputable def qlv(f:Qx->Y3 E)(c:Ctx)(a:Qx):Qx->Y3 E
 |.Name x _=>(tyOf x).bind λt=>gd (isG c x) ((f a).map λe=>.isi e [t] Y6)
 |.Tuple ps _ _=>(qf3 c ps).bind λts=>gd (decide (ts.length<=1000)) ((f a).map λe=>.isi e ts O)
 |_=>B
noncomputable def qlw(f:Qx->Y3 E)(c:Ctx)(x:Y5)(p:Qx)(r:L Qx):Y3 E:=
 match ixS x c.fns with
 |some k=>gd (qg9 x) ((trL f (p::r)).map (.call k))
 |none=>match c.glo.cl.find? λq=>sq q.1 x with
  |some q=>(c.glo.ms.find? λz=>z.2.1==q.2&&sq z.2.2 ("__init__" : Y5)).bind λz=>gd (c.fns[z.1]?).isSome ((trL f (p::r)).map (.new q.2 z.1))
  |none=>match r with
   |[t]=>bif sq x ("isinstance" : Y5) then qlv f c p t else(bOf x).bind λb=>gd (bOk b) ((trL f (p::r)).map (.bcall b))
   |_=>(bOf x).bind λb=>gd (bOk b) ((trL f (p::r)).map (.bcall b))
noncomputable def qdu(c:Ctx)(x:Y5):L Qx->Y3 Qx
 |[.Call (.Name y _) [a] [] _]=>gd (sq x ("len" : Y5)&&sq y ("set" : Y5)&&isG c y) (Y a)
 |_=>B
noncomputable def qce(o:Y0)(f:Qx->Y3 E)(c:Ctx)(a:Qx)(m:Y5)(apos:Pos)(ps:L Qx)(pos:Pos):Y3 E:=
 gd (apos.endLine==pos.line) (bif Nat.ble 3 o then
  (c.glo.ms.find? λz=>z.2.1==o - 3&&sq z.2.2 m).bind λz=>(c.glo.cl.find? λq=>q.2==o - 3).bind λ_=>
   gd ((c.fns[z.1]?).isSome&&decide (ps.length<30)) ((f a).bind λe=>(trL f ps).map λes=>.mcall z.2.1 z.1 z.2.2 e es)
 else match ps with
  |[]=>B
  |p::r=>bif sq m ("get" : Y5) then(f a).bind λe=>(f p).bind λy=>gd r.isEmpty (Y (.dgt e y))
   else(mOf m).bind λk=>gd (decide ((p::r).length<30)) ((f a).bind λe=>(trL f (p::r)).map λes=>.meth e k es))
noncomputable def trT(c:Ctx):Qx->Y3 T
 |.Name x _=>(ixS x c.N).bind λi=>gd (isL c x) (Y (.var i))
 |.Tuple es _ _=>(trTs es).map .tup
 |_=>B
where trTs:L Qx->Y3 (L Y0)
 |[]=>Y []
 |.Name x _::r=>(ixS x c.N).bind λi=>gd (isL c x) ((trTs r).map (i::·))
 |_=>B
noncomputable def trI(f:Qx->Y3 E)(c:Ctx)(tg:Qx):Qx->Y3 E
 |.Call (.Name x p) ps [] pos=>
  bif isG c x&&sq x ("range" : Y5) then match ps with
   |[a]=>(f a).map .rng1
   |[a,b]=>(f a).bind λx=>(f b).map λy=>.rng2 x y
   |_=>B
  else bif isG c x&&sq x ("zip" : Y5) then match ps,tg with
   |[a,b],.Tuple _ _ _=>(f a).bind λx=>(f b).map λy=>.zip x y
   |_,_=>B
  else bif isG c x&&sq x ("enumerate" : Y5) then match ps,tg with
   |[a],.Tuple _ _ _=>(f a).map .enu
   |_,_=>B
  else bif isG c x&&sq x ("reversed" : Y5) then match ps with
   |[a]=>(f a).map .rev
   |_=>B
  else f (.Call (.Name x p) ps [] pos)
 |e=>f e
noncomputable def ndB:L Y5->Yb
 |[]=>O
 |x::r=>!(r.any (sq x))&&ndB r
noncomputable def inN(sc:Scope):L Y5:=(sc.names.filter λy=>y.2==.local && !sq y.1 (".0" : Y5)).map (·.1)++(sc.names.filter λy=>y.2==.free).map (·.1)
noncomputable def inS(sc:Scope)(N:L Y5):L (Y3 Y0):=(inN sc).map λx=>bif kV (lk sc.names x) && !kL (lk sc.names x) then ixS x N else B
noncomputable def compOk(c:Ctx)(sc:Scope):Bool:=sc.kind==.function&&sc.names.all (λy=>y.2 != .cell)&&sc.names.all (λy=>y.2 != .free||(kV (lk c.sc.names y.1)&&lk c.sc.names y.1 != Y .local))&&sc.names.all (λy=>y.2 != .local||lk sc.names y.1==Y .local)&&ndB (inN sc)
noncomputable def qy3(R:TrE)(c:Ctx)(elt tg iter:Qx)(ifs:Y3 Qx)(sc:Scope):Y3 E:=
 gd (compOk c sc&&shOk iter) ((trI (R c) c tg iter).bind λi=>(trT (c.inn (inN sc) sc) tg).bind λt=>gd (tlOk (inN sc) (qbc sc c.sc) t)
  ((trO (R (c.inn (inN sc) sc)) ifs).bind λk=>(R (c.inn (inN sc) sc) elt).map λe=>.comp t i k e (inS sc c.N)))
noncomputable def trC:Const->Y3 E
 |.int i=>Y (.lit (.int i))
 |.bool i=>Y (.lit (.bl i))
 |.none=>Y (.lit .non)
 |.str i=>Y (.lit (.str i))
 |_=>B
noncomputable def trU(f:Qx->Y3 E)(a:Qx):UnaryOp->Y3 E
 |.USub=>(f a).map .neg
 |.Not=>(f a).map .not
 |_=>B
noncomputable def bo:BoolOp->E->E->E
 |.And=>.and
 |.Or=>.or
noncomputable def trBo(f:Qx->Y3 E)(op:BoolOp)(pos:Pos):L Qx->Y3 E
 |[a,b]=>(f a).bind λx=>(f b).map λy=>bo op x y
 |a::b::d::r=>(f a).bind λx=>(f (.BoolOp op (b::d::r) pos)).map λy=>bo op x y
 |_=>B
noncomputable def trCp(o:Y0)(f:Qx->Y3 E)(c:Ctx)(a:Qx):L CmpOp->L Qx->Y3 E
 |[op],[b]=>qly o f c a op b
 |[op,op'],[b,d]=>(f a).bind λx=>(f b).bind λy=>(f d).map λz=>.cmp2 op op' x y z
 |_,_=>B
noncomputable def trCl(o:Y0)(f:Qx->Y3 E)(c:Ctx)(pos:Pos):Qx->L Qx->L Zr->Y3 E
 |.Name x _,p::r,[]=>gd (isG c x&&noD x) (match qdu c x (p::r) with
  |some a=>(f a).map .lenset
  |none=>qlw f c x p r)
 |.Attribute a m apos,ps,[]=>qce o f c a m apos ps pos
 |_,_,_=>B
noncomputable def trDi(o:Y0)(f:Qx->Y3 E):L (Y3 Qx)->L Qx->Y3 E
 |[],[]=>Y (bif o==2 then .tdn else .dic [])
 |k::ks,v::vs=>gd (decide ((k::ks).length<=15)) ((trP f (k::ks) (v::vs)).map .dic)
 |_,_=>B
noncomputable def trLc(o:Y0)(R:TrE)(c:Ctx)(elt:Qx)(sc:Scope):L Comprehension->Y3 E
 |[⟨tg,iter,[],k⟩]=>gd (k==0) (qy3 R c elt tg iter B sc)
 |[⟨tg,iter,[q],k⟩]=>gd (k==0) (qy3 R c elt tg iter (Y q) sc)
 |_=>B
noncomputable def trX(o:Y0)(R:TrE)(c:Ctx):Qx->Y3 E
 |.Name x _=>(qcc c x).map λe=>bif o==2 then .unt e else e
 |.Constant k _ _=>trC k
 |.BinOp a op b _=>(R c a).bind λx=>(R c b).map λy=>.bin op x y
 |.UnaryOp op a _=>trU (R c) a op
 |.BoolOp op ps pos=>trBo (R c) op pos ps
 |.Compare a os bs _=>trCp o (R c) c a os bs
 |.IfExp q a b _=>(R c q).bind λx=>(R c a).bind λy=>(R c b).map λz=>.ite x y z
 |.Tuple ps _ _=>(trL (R c) ps).map .tup
 |.List ps _=>(trL (R c) ps).map .lst
 |.Subscript a b _=>qlj o (R c) c a b
 |.Call g ps ks pos=>trCl o (R c) c pos g ps ks
 |.Attribute a f _=>gd (Nat.ble 3 o) ((c.glo.ats.find? λz=>z.1==o - 3&&sq z.2 f).bind λz=>(R c a).map λe=>.attr z.1 e z.2)
 |.Dict ks vs _=>trDi o (R c) ks vs
 |.ListComp elt gs sc _=>trLc o R c elt sc gs
 |_=>B
noncomputable def isGc:E->Yb
 |.gc _=>O
 |_=>Y6
noncomputable def pk(p:Pos):Nat:=(p.line*1000+p.col)*1000+p.endCol
noncomputable def trF(o:Y0->Y0)(R:TrE):TrE:=λc p=>gd (shOk p) (match o (pk p.pos) with
 |n=>(trX (n / 2) R c p).bind λe=>gd (qv5 e) (Y (bif (n % 2==1)&&gcOk p && !isGc e then .gc e else e)))
noncomputable def trE(o:Y0->Y0):Y0->TrE
 |0=>λ_ _=>B
 |n+1=>trF o (trE o n)
def mD{α c:Type}{o:Y3 α}{f:α->c}{b:c}(h:o.map f=Y b):∃a,o=Y a/\f a=b:=Qqb.mp h
def aD(h:(a&&b)=O):a=O/\b=true:=(Qqs _ _).mp h
def bDk{α c:Type}{o:Y3 α}{f:α->Y3 c}{b:c}{P:Prop}(h:o.bind f=Y b)(k:∀a,o=Y a->f a=Y b->P):P:=qzx h k
def mDk{α c:Type}{o:Y3 α}{f:α->c}{b:c}{P:Prop}(h:o.map f=Y b)(k:∀a,o=Y a->f a=b->P):P:=qzg h k
def gDk{x:Y3 α}{e:α}{P:Prop}(h:gd b x=Y e)(k:b=O->x=Y e->P):P:=k (gd_iff.mp h).1 (gd_iff.mp h).2
def aDk{P:Prop}(h:(a&&b)=O)(k:a=O->b=O->P):P:=k ((Qqs _ _).mp h).1 ((Qqs _ _).mp h).2
def fD{α:Type}{p:α->Yb}{l:L α}{a:α}(h:l.find? p=Y a):a∈l/\p a=true:=⟨Qzt h,Qxs h⟩
def TrO(Q:Ctx->E->Qx->Prop)(R:TrE):Prop:=∀{c:Ctx}{p:Qx}{e:E},R c p=Y e->Q c e p
abbrev Fo(Q:Ctx->E->Qx->Prop)(c:Ctx)(f:Qx->Y3 E):Prop:=∀{p:Qx}{e:E},f p=Y e->Q c e p
def qej(h:inNeg a=Y neg):a=inOp neg:=by cases a<;>first|(cases h; done)|(cases h; rfl)
def qvo(h:qcc c x=Y e):CkV c e x:=by
 unfold qcc at h
 cases g:isG c x with
 |true=>
  rw[g]at h;refine bDk h λq b h=>gDk h λhd h=>?_;cases h;obtain⟨d,a⟩:=fD b;cases qqb a;exact .glo (qz5 g) d (qbv hd)
 |false=>
  rw[g]at h;refine bDk h λi hi h=>gDk h λhd h=>?_;cases h;refine aDk hd λhd h2=>aDk hd λhd h1=>?_;rw[qwj]at hd;exact .var (ixS_eq hi) (qna hd) (qbv h1) (qbv h2)
section
variable (hf:Fo Q c f)
include hf
theorem qx5:∀{ps}{es},trL f ps=Y es->CkL (Q c) es ps
 |[],_,h=>by cases h; exact .nil
 |p::r,es,h=>by
  refine bDk h λe b h=>?_;obtain⟨t,a,rfl⟩:=mD h;exact .cons (hf b) (qx5 a)
theorem qh6:∀{ks}{vs}{es},trP f ks vs=Y es->CkP (Q c) es ks vs
 |[],[],_,h=>by cases h; exact .nil
 |some k::ks,v::vs,es,h=>by
  refine bDk h λa g h=>bDk h λb e h=>?_;obtain⟨t,d,rfl⟩:=mD h;exact .cons (hf g) (hf e) (qh6 d)
 |none::_,_,_,h=>by unfold trP at h; cases h
 |some _::_,[],_,h=>by unfold trP at h; cases h
 |[],_::_,_,h=>by unfold trP at h; cases h
theorem qvn(h:trO f p=Y e):CkO (Q c) e p:=by
 cases p with
 |none=>cases h; exact .none
 |some p=>
  obtain⟨e,a,rfl⟩:=mD h;exact .some (hf a)
theorem qa1(h:qhb c b=Y q):∃pos,b=.Name q.1 pos/\c.sc.names.lookup q.1=Y .globalImplicit/\(q.1,q.2.1,q.2.2)∈c.glo.ds/\(q.1==("__debug__" : Y5))=false:=by
 unfold qhb at h
 split at h
 ·rename_i x pos;refine gDk h λh1 h=>aDk h1 λh1 h2=>?_;obtain⟨d,a⟩:=fD h;have:=qqb a;subst this;exact⟨pos,rfl,qz5 h1,d,qbv h2⟩
 ·exact nn h
theorem qf7(h:qly o f c a g b=Y e):CkG Q c e (.Compare a [g] [b] pos):=by
 have plain:∀{g e},((f a).bind λx=>(f b).map λy=>E.cmp g x y)=Y e->CkG Q c e (.Compare a [g] [b] pos):=λ{g e} h=>by
  refine bDk h λx d h=>?_;obtain⟨y,i,rfl⟩:=mD h;exact .cmp (hf d) (hf i)
 unfold qly at h
 split at h
 ·rename_i neg hn
  split at h
  ·rename_i q k;obtain⟨p0,rfl,h1,h2,l⟩:=qa1 hf k;obtain⟨x,d,rfl⟩:=mD h;rw[qej hn];exact .gin h1 h2 l (hf d)
  ·cases j:o==1 with
   |false=>
    rw[j]at h
    cases j:o==2 with
    |false=>rw[j]at h; exact plain h
    |true=>
     rw[j]at h;refine bDk h λx d h=>?_;obtain⟨y,i,rfl⟩:=mD h;rw[qej hn];exact .tdi (hf d) (hf i)
   |true=>
    rw[j]at h;refine bDk h λx d h=>?_;obtain⟨y,i,rfl⟩:=mD h;rw[qej hn];exact .din (hf d) (hf i)
 ·exact plain h
theorem qf4(h:qlj o f c a b=Y e):CkG Q c e (.Subscript a b pos):=by
 unfold qlj at h
 split at h
 ·refine bDk h λx d h=>bDk h λl hl h=>?_;obtain⟨k,i,rfl⟩:=mD h
  cases o==2 with
  |false=>exact .sli (hf d) (qvn hf hl) (qvn hf i)
  |true=>exact .tsli (hf d) (qvn hf hl) (qvn hf i)
 ·split at h
  ·rename_i q j;obtain⟨p0,rfl,h1,h2,m⟩:=qa1 hf j;obtain⟨x,d,rfl⟩:=mD h;exact .gidx h1 h2 m (hf d)
  ·refine bDk h λx d h=>?_;obtain⟨y,g,rfl⟩:=mD h
   cases n:o==1 with
   |false=>exact .idx (hf d) (hf g)
   |true=>exact .didx (hf d) (hf g)
omit hf in
theorem qcj(h:tyOf x=Y t):t≠.non/\Str.ofString t.name=x:=by
 obtain⟨h1,h2⟩:=fD h;refine⟨?_,qqb h2⟩;rintro rfl;simp at h1
omit hf in
theorem qy1:∀{ps}{b},qf3 c ps=Y b->CkTys c b ps
 |[],_,h=>by cases h; exact .nil
 |p::r,b,h=>by
  unfold qf3 at h
  split at h
  ·rename_i a; cases a
  ·rename_i a;cases a;refine bDk h λt e h=>gDk h λg h=>?_;obtain⟨b,d,rfl⟩:=mD h;obtain⟨h1,rfl⟩:=qcj e;exact .cons h1 (qz5 g) (qy1 d)
  ·exact nn h
theorem qf5(g:c.sc.names.lookup ("isinstance" : Y5)=Y .globalImplicit)(h:qlv f c a t=Y e):CkG Q c e (.Call (.Name "isinstance" p0) [a,t] [] pos):=by
 unfold qlv at h
 split at h
 ·refine bDk h λt b h=>gDk h λi h=>?_;obtain⟨e,d,rfl⟩:=mD h;obtain⟨h1,rfl⟩:=qcj b;exact .isi1 g h1 (qz5 i) (hf d)
 ·refine bDk h λj b h=>gDk h λi h=>?_;obtain⟨e,d,rfl⟩:=mD h;exact .isiN (of_decide_eq_true i) g (qy1 b) (hf d)
 ·exact nn h
theorem bc_ok(g:isG c x=O)(h:((bOf x).bind λb=>gd (bOk b) ((trL f (p::ps)).map (.bcall b)))=Y e):CkG Q c e (.Call (.Name x p0) (p::ps) [] pos):=by
 refine bDk h λb d h=>gDk h λh1 h=>?_;obtain⟨es,a,rfl⟩:=mD h;have:=qqb (fD d).2;subst this;exact .bcall (qz5 g) h1 (qx5 hf a)
theorem qf6(g:isG c x=O)(hd:noD x=O)(h:qlw f c x p r=Y e):CkG Q c e (.Call (.Name x p0) (p::r) [] pos):=by
 unfold qlw at h
 split at h
 ·rename_i k o;refine gDk h λh1 h=>?_;obtain⟨es,d,rfl⟩:=mD h;exact .call (qz5 g) (ixS_eq o) (qbv hd) h1 (qx5 hf d)
 ·split at h
  ·rename_i q m;refine bDk h λz i h=>gDk h λh1 h=>?_;obtain⟨es,d,rfl⟩:=mD h;obtain⟨y,j⟩:=Qz1.mp h1;obtain⟨n,l⟩:=fD m;obtain⟨b,a⟩:=fD i;refine aDk a λu s=>?_;have:=qqb l;subst this;obtain⟨C,D,A⟩:=z;have w:=qqb s;have v:=eq_of_beq u;subst w v;exact .new (qz5 g) j b n (qbv hd) (qx5 hf d)
  ·split at h
   ·rename_i t
    cases hi:sq x ("isinstance" : Y5) with
    |true=>
     rw[hi]at h;have:=qqb hi;subst this;exact qf5 hf (qz5 g) h
    |false=>rw[hi]at h; exact bc_ok hf g h
   ·exact bc_ok hf g h
omit hf in
theorem qdt(h:qdu c x ps=Y a):x=("len" : Y5)/\∃q b,ps=[.Call (.Name "set" q) [a] [] b]/\c.sc.names.lookup ("set" : Y5)=Y .globalImplicit:=by
 unfold qdu at h
 split at h
 ·rename_i y q d b;refine gDk h λh1 h=>?_;cases h;refine aDk h1 λh1 g=>?_;have h1:=aD h1;have:=qqb h1.2;subst this;exact⟨qqb h1.1,q,b,rfl,qz5 g⟩
 ·exact nn h
theorem qcd(h:qce o f c a m b ps pos=Y e):CkG Q c e (.Call (.Attribute a m b) ps [] pos):=by
 unfold qce at h;refine gDk h λhl h=>?_
 cases t:Nat.ble 3 o with
 |true=>
  rw[t]at h;refine bDk h λz v h=>bDk h λq w h=>gDk h λh1 h=>aDk h1 λh1 h2=>bDk h λx d h=>?_;obtain⟨es,s,rfl⟩:=mD h;obtain⟨y,i⟩:=Qz1.mp h1;obtain⟨A,g⟩:=fD v;obtain⟨l,j⟩:=fD w;refine aDk g λF D=>?_;obtain⟨K,N,I⟩:=z;obtain⟨P,R⟩:=q;have H:=qqb D;have G:=eq_of_beq F;have u:=eq_of_beq j;subst H;rw[<- G]at u;subst u;exact .mcall (hf d) i A l (qx5 hf s) (of_decide_eq_true h2) hl
 |false=>
  rw[t]at h
  split at h
  ·exact nn h
  ·rename_i p r _
   cases n:sq m ("get" : Y5) with
   |true=>
    cases qqb n;rw[n]at h;refine bDk h λx d h=>bDk h λy i h=>?_
    cases r with
    |nil=>
     cases h;exact .dgt (hf d) (hf i) hl
    |cons S r=>exact nn h
   |false=>
    rw[n]at h;refine bDk h λk C h=>gDk h λhn h=>bDk h λx d h=>?_;obtain⟨es,s,rfl⟩:=mD h;have:=qqb (fD C).2;subst this;exact .meth (hf d) (qx5 hf s) (of_decide_eq_true hn) hl
omit hf in
theorem qca:∀{es}{is},trT.trTs c es=Y is->CkTs c is es
 |[],_,h=>by cases h; exact .nil
 |p::r,is,h=>by
  unfold trT.trTs at h
  split at h
  ·rename_i a; cases a
  ·rename_i a;cases a;refine bDk h λi hi h=>gDk h λg h=>?_;obtain⟨d,b,rfl⟩:=mD h;exact .cons (ixS_eq hi) (qas g) (qca b)
  ·exact nn h
omit hf in
theorem qcb(h:trT c p=Y t):CkT c t p:=by
 unfold trT at h
 split at h
 ·refine bDk h λi hi h=>gDk h λg h=>?_;cases h;exact .var (ixS_eq hi) (qas g)
 ·obtain⟨a,hi,rfl⟩:=mD h;exact .tup (qca hi)
 ·exact nn h
theorem qh7(h:trI f c tg p=Y e):CkI (Q c) c tg e p:=by
 unfold trI at h
 split at h
 ·rename_i x q ps pos
  cases a:isG c x&&sq x ("range" : Y5) with
  |true=>
   rw[a]at h;refine aDk a λg b=>?_;have:=qqb b;subst this
   split at h
   ·obtain⟨x,b,rfl⟩:=mD h;exact .rng1 (qz5 g) (hf b)
   ·refine bDk h λx b h=>?_;obtain⟨y,d,rfl⟩:=mD h;exact .rng2 (qz5 g) (hf b) (hf d)
   ·exact nn h
  |false=>
   rw[a]at h
   cases a:isG c x&&sq x ("zip" : Y5) with
   |true=>
    rw[a]at h;refine aDk a λg b=>?_;have:=qqb b;subst this;dsimp only[cond]at h
    split at h
    ·refine bDk h λx b h=>?_;obtain⟨y,d,rfl⟩:=mD h;exact .zip (qz5 g) (hf b) (hf d)
    ·exact nn h
   |false=>
    rw[a]at h
    cases a:isG c x&&sq x ("enumerate" : Y5) with
    |true=>
     rw[a]at h;refine aDk a λg b=>?_;have:=qqb b;subst this;dsimp only[cond]at h
     split at h
     ·obtain⟨y,d,rfl⟩:=mD h;exact .enu (qz5 g) (hf d)
     ·exact nn h
    |false=>
     rw[a]at h
     cases a:isG c x&&sq x ("reversed" : Y5) with
     |true=>
      rw[a]at h;refine aDk a λg b=>?_;have:=qqb b;subst this;dsimp only[cond]at h
      split at h
      ·obtain⟨y,d,rfl⟩:=mD h;exact .rev (qz5 g) (hf d)
      ·exact nn h
     |false=>
      rw[a]at h;exact .seq (hf h)
 ·exact .seq (hf h)
end
theorem qad:∀{l},ndB l=O->l.Nodup
 |[],_=>.nil
 |x::r,h=>by
  refine aDk h λh1 h2=>Qzy.mpr ⟨λa=>?_,qad h2⟩;rw[Qjq.mpr ⟨x,a,qw9 x⟩]at h1;cases h1
def qvp{R:TrE}(v:TrO Q R)(h:qy3 R c elt tg b ifs sc=Y e):CkG Q c e (.ListComp elt [⟨tg,b,ifs.toList,0⟩] sc pos):=by
 unfold qy3 at h;refine gDk h λd h=>aDk d λd s=>aDk d λd F=>aDk d λd G=>aDk d λd H=>aDk d λh1 h2=>bDk h λi hi h=>bDk h λt A h=>gDk h λr h=>?_;have C:=eq_of_beq h1;have l:=λy m=>by
  have:=Qzj.mp h2 y m;simpa using this
 have g:∀y∈sc.names,y.2=.free->c.sc.names.lookup y.1=Y .cell\/c.sc.names.lookup y.1=Y .free:=λy m e=>by
  have:=Qzj.mp H y m;rw[e]at this;refine aDk (this) λq a=>?_;rw[qwj]at q a;rcases qna q with z|z|z
  ·rw[z]at a; cases a
  ·exact .inl z
  ·exact .inr z
 have o:∀y∈sc.names,y.2=.local->sc.names.lookup y.1=Y .local:=λy m e=>by
  have:=Qzj.mp G y m;rw[e]at this;rw[<- qwj];exact eq_of_beq (this)
 have p:(inS sc c.N).length=(inN sc).length:=by unfold inS; rw[Qqz]
 have n:∀(j i:Y0),(inS sc c.N)[j]?=Y (Y i)->∃x,(inN sc)[j]?=Y x/\c.N[i]?=Y x/\sc.names.lookup x=Y .free:=λj i f=>by
  unfold inS at f;rw[Qqw]at f;refine mDk f λx w f=>⟨x,w,?_⟩
  cases a:kV (lk sc.names x) && !kL (lk sc.names x) with
  |false=>rw[a]at f; cases f
  |true=>
   rw[a]at f;refine aDk a λq a=>⟨ixS_eq f,?_⟩
   rw[<- qwj];rcases qna q with z|z|z
   ·rw[z]at a; cases a
   ·rw[z]at a; cases a
   ·exact z
 have hs:=λenv x=>qls s env x;have ok:CpOk c sc (inS sc c.N) (inN sc) b t:=⟨C,l,g,o,p,n,qad F,hs,r⟩
 refine bDk h λk u h=>?_;obtain⟨e,D,rfl⟩:=mD h;exact .comp ok (qh7 (v) hi) (qcb A) (qvn v u) (v D)
def bo_ok(h:Q c x p)(k:Q c y (boT a pos (q::r))):CkG Q c (bo a x y) (.BoolOp a (p::q::r) pos):=by
 cases a with
 |And=>exact .and h k
 |Or=>exact .or h k
def trX_ok{R:TrE}(d:TrO Q R)(A:shOk p=O)(h:trX o R c p=Y e):CkG Q c e p:=by
 cases p with
 |Name x q=>
  obtain⟨y,l,rfl⟩:=mD h
  cases o==2 with
  |false=>exact .nm (qvo l)
  |true=>exact .unt (qvo l)
 |Constant k _ _=>
  cases k with
  |int i=>cases h; exact .int
  |bool i=>cases h; exact .bl
  |none=>cases h; exact .non
  |str i=>cases h; exact .str
  |_=>exact nn h
 |BinOp a n b q=>
  refine bDk h λx j h=>?_;obtain⟨y,l,rfl⟩:=mD h;exact .bin (d j) (d l)
 |UnaryOp n a q=>
  cases n with
  |USub=>
   obtain⟨x,j,rfl⟩:=mD h;exact .neg (d j)
  |Not=>
   obtain⟨x,j,rfl⟩:=mD h;exact .not (d j)
  |_=>exact nn h
 |BoolOp n ps q=>
  have h:trBo (R c) n q ps=Y e:=h;unfold trBo at h
  split at h
  ·refine bDk h λx j h=>?_;obtain⟨y,l,rfl⟩:=mD h;exact bo_ok (d j) (d l)
  ·refine bDk h λx j h=>?_;obtain⟨y,l,rfl⟩:=mD h;exact bo_ok (d j) (d l)
  ·exact nn h
 |Compare a os bs q=>
  have h:trCp o (R c) c a os bs=Y e:=h;unfold trCp at h
  split at h
  ·exact qf7 d h
  ·refine bDk h λx j h=>bDk h λy l h=>?_;obtain⟨z,m,rfl⟩:=mD h;exact .cmp2 (d j) (d l) (d m)
  ·exact nn h
 |IfExp q a b _=>
  refine bDk h λx j h=>bDk h λy l h=>?_;obtain⟨z,m,rfl⟩:=mD h;exact .ite (d j) (d l) (d m)
 |Tuple ps _ _=>
  obtain⟨x,j,rfl⟩:=mD h;exact .tup (qx5 d j)
 |List ps _=>
  obtain⟨x,j,rfl⟩:=mD h;exact .lst (qx5 d j)
 |Subscript a b _=>exact qf4 d h
 |Call g ps ks q=>
  have h:trCl o (R c) c q g ps ks=Y e:=h;unfold trCl at h
  split at h
  ·refine gDk h λh1 h=>aDk h1 λg hd=>?_
   split at h
   ·rename_i a s;obtain⟨x,j,rfl⟩:=mD h;obtain⟨rfl,q,w,e,hs⟩:=qdt s;cases e;exact .lenset (qz5 g) hs (d j)
   ·exact qf6 d g hd h
  ·exact qcd d h
  ·exact nn h
 |Attribute a f _=>
  refine gDk h λC h=>bDk h λz m h=>?_;obtain⟨x,j,rfl⟩:=mD h;obtain⟨t,r⟩:=fD m;refine aDk r λs u=>?_;have:=qqb u;subst this;exact .attr (d j) t
 |Dict ks vs _=>
  have h:trDi o (R c) ks vs=Y e:=h;unfold trDi at h
  split at h
  ·cases h
   cases o==2 with
   |false=>exact .dic0
   |true=>exact .tdn
  ·refine gDk h λh1 h=>?_;obtain⟨x,j,rfl⟩:=mD h;exact .dic (qh6 d j) (of_decide_eq_true h1)
  ·exact nn h
 |ListComp elt v sc _=>
  have h:trLc o R c elt sc v=Y e:=h;unfold trLc at h
  split at h
  ·refine gDk h λh1 h=>?_;cases eq_of_beq h1;exact qvp (ifs:=B) d h
  ·refine gDk h λh1 h=>?_;cases eq_of_beq h1;exact qvp (ifs:=Y _) d h
  ·exact nn h
 |_=>exact nn h
def trF_ok{R:TrE}(g:TrO Q R):TrO (CkF Q) (trF o R):=λ{c p e} h=>by
 unfold trF at h;refine gDk h λhp h=>bDk h λx d h=>gDk h λa h=>?_;cases h;have k:=trX_ok g hp d
 cases f:(o (pk p.pos) % 2==1)&&gcOk p && !isGc x with
 |false=>exact .of hp a k
 |true=>
  refine aDk f λh1 h2=>aDk h1 λ_ h1=>.gc hp a h1 (λb e=>?_) k;rw[e]at h2;cases h2
theorem qy2:∀n,TrO (CkN n) (trE o n)
 |0=>λh=>nomatch h
 |n+1=>trF_ok (qy2 n)
noncomputable def qii:Qx->Yb
 |.ListComp ..=>O
 |_=>Y6
noncomputable def qla(o:Y0->Y0)(f:Qx->Y3 E)(c:Ctx)(p:Qx):Qx->Y3 S
 |.Name x _=>(ixS x c.N).bind λi=>gd (isL c x) ((f p).map λe=>.set (.var i) e)
 |.Subscript a i tp=>(f p).bind λe=>(f a).bind λx=>(f i).map λy=>bif o (pk tp) / 2==2 then .tds x y e else .dset x y e
 |.Attribute a m tp=>(f p).bind λe=>gd (Nat.ble 3 (o (pk tp) / 2)) ((c.glo.ats.find? λz=>z.1==o (pk tp) / 2 - 3&&sq z.2 m).bind λz=>(f a).map λx=>.setA z.1 x z.2 e)
 |_=>B
noncomputable def trS1(o:Y0->Y0)(f:Qx->Y3 E)(Bq:L Stmt->L S)(c:Ctx):Stmt->Y3 S
 |.Assign [t] p _=>qla o f c p t
 |.Expr p _=>gd (swOk p) ((f p).map .expr)
 |.Return (Y p) _=>(f p).map .ret
 |.If q a b _=>(f q).map λe=>.ite e (Bq a) (Bq b)
 |.For tg it b [] pos=>gd (shOk it) ((trT c tg).bind λt=>bif o (pk pos) / 2==1 then(f it).map λe=>.ford t e (Bq b) else(trI f c tg it).map λe=>.forr t e (Bq b))
 |_=>B
noncomputable def qnf:Stmt->Yb
 |.Expr (.Constant (.str _) _ _) _=>O
 |_=>Y6
noncomputable def trSL(g:Stmt->S):L Stmt->L S
 |[]=>[]
 |p::r=>bif qnf p then trSL g r else g p::trSL g r
noncomputable def trSs(o:Y0->Y0)(f:TrE)(c:Ctx):Y0->L Stmt->L S
 |0,ps=>trSL (λ_=>.bad) ps
 |n+1,ps=>trSL (λp=>(trS1 o (f c) (trSs o f c n) c p).getD .bad) ps
theorem qk2(a:∀p,CkS c (g p) p):∀ps,CkSs c (trSL g ps) ps
 |[]=>.nil
 |p::r=>by
  unfold trSL
  cases hd:qnf p with
  |false=>exact .cons (a p) (qk2 a r)
  |true=>
   unfold qnf at hd
   split at hd
   ·exact .doc (qk2 a r)
   ·cases hd
def qf8(b:Fo CkE c f)(h:qla o f c p t=Y s):CkS c s (.Assign [t] p pos):=by
 unfold qla at h
 split at h
 ·rename_i x k;refine bDk h λi hi h=>gDk h λhl h=>?_;obtain⟨e,d,rfl⟩:=mD h
  cases j:qii p with
  |true=>
   unfold qii at j
   split at j
   ·exact .setC (ixS_eq hi) (qas hl) (b d) ⟨_,_,_,_,rfl⟩ λenv _=>qgk _ _ _ _ _ _ _ env
   ·cases j
  |false=>
   refine .set (ixS_eq hi) (qas hl) (b d) λenv=>sw_ok ?_ _ _ _;have:=(b d).sh
   cases p<;>first|rfl|(cases j; done)|(cases this; done)
 ·rename_i a i k;refine bDk h λe d h=>bDk h λx g h=>?_;obtain⟨y,n,rfl⟩:=mD h
  cases o (pk k) / 2==2 with
  |false=>exact .dset (b g) (b n) (b d)
  |true=>exact .tds (b g) (b n) (b d)
 ·rename_i a m k;refine bDk h λe d h=>gDk h λ_ h=>bDk h λz q h=>?_;obtain⟨x,g,rfl⟩:=mD h;obtain⟨r,l⟩:=fD q;refine aDk l λ_ u=>?_;have:=qqb u;subst this;exact .setA (b g) (b d) r
 ·exact nn h
def qlk(d:Fo CkE c f)(g:∀ps,CkSs c (Bq ps) ps)(h:trS1 o f Bq c p=Y s):CkS c s p:=by
 unfold trS1 at h
 split at h
 ·exact qf8 d h
 ·refine gDk h λh1 h=>?_;obtain⟨e,a,rfl⟩:=mD h;exact .expr (d a) λenv=>sw_ok h1 _ _ _
 ·obtain⟨e,a,rfl⟩:=mD h;exact .ret (d a)
 ·obtain⟨e,a,rfl⟩:=mD h;exact .ite (d a) (g _) (g _)
 ·rename_i tg it b pos;refine gDk h λh1 h=>bDk h λt i h=>?_
  cases j:o (pk pos) / 2==1 with
  |true=>
   rw[j]at h;obtain⟨e,a,rfl⟩:=mD h;exact .ford (qcb i) (d a) (g _)
  |false=>
   rw[j]at h;obtain⟨e,a,rfl⟩:=mD h;exact .forr (qcb i) (qh7 d a) (λenv x=>qls h1 _ _) (g _)
 ·exact nn h
theorem qk1(a:TrO CkE f):∀n ps,CkSs c (trSs o f c n ps) ps
 |0,ps=>qk2 (λ_=>.bad) ps
 |n+1,ps=>qk2 (λp=>by
  cases h:trS1 o (f c) (trSs o f c n) c p with
  |none=>exact .bad
  |some s=>exact qlk (a) (qk1 a n) h) ps
noncomputable def argN(st:Stmt):L Y5:=(qqf st).args.map (·.arg)
noncomputable def locN(st:Stmt):L Y5:=argN st++((qzd st).names.filter λy=>kL (Y y.2) && !((argN st).any (sq y.1))).map (·.1)
noncomputable def trFn(o:Y0->Y0)(names:L Y5)(glo:Glo)(st:Stmt):Fn:=
 ⟨(argN st).length,(locN st).length,trSs o (trE o 30) ⟨locN st,qzd st,names,glo⟩ 12 (qzu st)⟩
noncomputable def scOk(st:Stmt):Bool:=(qzd st).kind==.function && !(qzd st).isCoroutine && !(qzd st).isGenerator&&ndB (locN st)&&(argN st).all (λx=>kL (lk (qzd st).names x))&&(qzd st).names.all (λy=>y.2 != .free)
def qc2{st:Stmt}(h:scOk st=O):FnScope (locN st) (argN st) (qzd st):=by
 refine aDk h λh c=>aDk h λh d=>aDk h λh e=>aDk h λh f=>aDk h λh1 h2=>?_;refine⟨eq_of_beq h1,by simpa using h2,by simpa using f,qad e,by unfold locN; rw[List.take_left],λx b=>?_,λy a=>?_⟩
 ·have:=kL_eq (Qzj.mp d x b);rwa [qwj]at this
 ·simpa using Qzj.mp c y a
abbrev Orc:=L (Y0×L Y0)
abbrev Rw:=Y3 Y7×Y5×Y5×Stmt×Orc
noncomputable def orc:Orc->Y0->Y0
 |[],_=>0
 |(v,l)::r,k=>bif l.any (k.beq ·) then v else orc r k
noncomputable def msT:Y0->L Rw->L (Y0×Y7×Y5)
 |_,[]=>[]
 |n,(Y C,m,_)::r=>(n,C,m)::msT (n+1) r
 |n,(B,_)::r=>msT (n+1) r
noncomputable def fnsT(names:L Y5)(glo:Glo)(t:L Rw):L Fn:=t.map λr=>trFn (orc r.2.2.2.2) names glo r.2.2.2.1
def ms_mem:∀{n},q∈msT n t->∃k r,q.1=n+k/\t[k]?=Y r/\r.1=Y q.2.1/\r.2.1=q.2.2:=by
 induction t with
 |nil=>exact λh=>nomatch h
 |cons a t b=>
  obtain⟨C,m,z⟩:=a;intro n h;have up:q∈msT (n+1) t->∃k r,q.1=n+k/\((C,m,z)::t)[k]?=Y r/\r.1=Y q.2.1/\r.2.1=q.2.2:=λh=>by
   obtain⟨k,r,e,w⟩:=b h;exact⟨k+1,r,by lia,w⟩
  cases C with
  |none=>exact up h
  |some C=>
   rcases Qqy.mp h with rfl|h
   ·exact⟨0,_,rfl,rfl,rfl,rfl⟩
   ·exact up h
abbrev Bd(r:Rw):Prop:=∀(kV doc pm:Y8) (an:Y3 Y7) (cdv ct:Y8) (us:L Y8),us.length=(argN r.2.2.2.1).length->bindArgs (PySem.W.fnOf r.2.1 r.2.2.1 (qqf r.2.2.2.1) (qzu r.2.2.2.1) (qzd r.2.2.2.1) .none kV doc pm an cdv ct) ⟨us,[]⟩=pure ((argN r.2.2.2.1).zip us)
inductive RwK (K:Qqq):Rw->Prop
 |fn {x:Y5}{st:Stmt}{o:Orc}{f:Y7}{od an:Y3 Y7}{sl:Array (Y3 Y8)}{oc kV dc pm cd ct:Y8}(a:Qx3 K mainGlobals x=Y (Y (.ref f))) (l:K.lookup f=Y ⟨oc,od,.func (PySem.W.fnOf x x (qqf st) (qzu st) (qzd st) .none kV dc pm an cd ct),sl⟩) (c:PySem.W.codeIn K cd x=O) (k:Qzm K (.ref f)=O):RwK K (B,x,x,st,o)
 |me {C:Y7}{m x:Y5}{st:Stmt}{o:Orc}{f:Y7}{od an:Y3 Y7}{sl:Array (Y3 Y8)}{oc kV dc pm cd ct:Y8}(a:PySem.W.findIn K (.ref C) m=Y (Y (.ref f))) (fn:PySem.W.isFn K (.ref f)=O) (l:K.lookup f=Y ⟨oc,od,.func (PySem.W.fnOf m x (qqf st) (qzu st) (qzd st) .none kV dc pm an cd ct),sl⟩) (c:PySem.W.codeIn K cd x=O) (k:Qzm K (.ref f)=O):RwK K (Y C,m,x,st,o)
noncomputable def rwOk(r:Rw):Bool:=scOk r.2.2.2.1&&(r.1.isNone||(qg9 r.2.2.1).not)
def qgj{K:Qqq}(X:K.In h)(G:h.Ns mainGlobals mg)(d:glo.ms=msT 0 t)(n:∀r∈t,RwK K r)(q:∀r∈t,Bd r)(p:t.all rwOk=O)(f)(x)(e:(t.map (·.2.2.1))[f]?=Y x):FText K mg (fnsT (t.map (·.2.2.1)) glo t) (t.map (·.2.2.1)) glo f x:=by
 rw[Qqw]at e;obtain⟨r,g,rfl⟩:=mD e;have i:=Qqf g;have j:(fnsT (t.map (·.2.2.1)) glo t)[f]?=Y (trFn (orc r.2.2.2.2) (t.map (·.2.2.1)) glo r.2.2.2.1):=by
  unfold fnsT;rw[Qqw,g]
  rfl
 have d:∀C m,(f,C,m)∈glo.ms->r.1=Y C/\r.2.1=m:=λC m w=>by
  rw[d]at w;obtain⟨k,r',e,h1,h2⟩:=ms_mem w;obtain rfl:f=k:=e.trans (Qxn k);cases g.symm.trans h1;exact h2
 refine aDk (Qzj.mp p r i) λh1 h2=>?_;have b:=q r i;have s:=qc2 h1
 cases n r i with
 |fn a l c k=>exact⟨_,_,_,_,_,_,_,j,qwe l c k,⟨λ_=>Qx8 X G a,λC m w=>nomatch (d C m w).1⟩,(qwe l c k).binds b,s,qk1 (qy2 30) 12 _,rfl,rfl⟩
 |@me C m x st o f y an sl A kV dc v D ct a fn l c k=>
  refine⟨_,_,_,_,_,_,_,j,qwe l c k,⟨λz=>?_,λC m w=>?_⟩,(qwe l c k).binds b,s,qk1 (qy2 30) 12 _,rfl,rfl⟩
  ·have h2:=h2;rw[z]at h2;cases h2
  ·obtain⟨e,u⟩:=d C m w;cases e;cases u;exact⟨a,fn,k⟩
structure Vof (K:Qqq) (u:Y8) (d:D):Prop where
 ex:∃v,RelV v u/\∀m H,IsD K m H d v
structure Vsf (K:Qqq) (us:L Y8) (ds:L D):Prop where
 ex:∃vs,Vals vs us/\∀m H,IsDs K m H ds vs
structure Enf (prm:Qr) (K:Qqq) (es:L Q1) (ks:L Y5) (ds:L D):Prop where
 ex:∃us vs,EntOk prm es ks us/\Vals vs us/\∀m H,IsDs K m H ds vs
def vInt{K:Qqq}:Vof K (.int i t) (.int i):=⟨.int _,⟨_,rfl⟩,λm H=>mkInt _⟩
def vStr{K:Qqq}:Vof K (.str s t) (.str s):=⟨.str _,⟨_,rfl⟩,λm H=>mkStr _⟩
def vNil{K:Qqq}:Vsf K [] []:=⟨[],.nil,λ_ _=>qz9⟩
def vCons{K:Qqq}:Vof K u d->Vsf K us ds->Vsf K (u::us) (d::ds)
 |⟨v,a,b⟩,⟨vs,c,e⟩=>⟨v::vs,.cons a c,λm H=>qzm (b m H) (e m H)⟩
def vTup{K:Qqq}{gd:Y3 Y7}(h:K.lookup a=Y ⟨.type "tuple",gd,.seq vs.toArray e,b⟩)(q:Vsf K vs ds)(n:Nat.ble vs.length sizeLine=O):Vof K (.ref a) (.tup ds):=by
 obtain⟨vs,c,d⟩:=q;exact⟨.ref _,rfl,λm H=>qq3 (.inr ⟨_,_,_,h,rfl,rfl,Nat.le_of_ble_eq_true n,c⟩) (d m H)⟩
def eNil{K:Qqq}:Enf a K [] [] []:=⟨[],[],.nil,.nil,λ_ _=>qz9⟩
def eCons{K:Qqq}:Vof K u d->Enf g K es ks ds->Enf g K (⟨PyData.keyHash g k,.str k t,u⟩::es) (k::ks) (d::ds)
 |⟨v,a,b⟩,⟨us,vs,e,c,f⟩=>⟨_,v::vs,.cons e,.cons a c,λm H=>qzm (b m H) (f m H)⟩
inductive GlK (K:Qqq) (q:Y5×D):Prop
 |mk {v:Y8}(g:Qx3 K mainGlobals q.1=Y (Y v)) (h:Vof K v q.2):GlK K q
inductive GdK (prm:Qr) (K:Qqq) (q:Y5×L Y5×L D):Prop
 |mk {a:Y7}{es:L Q1}{ep:Y0}(g:Qx3 K mainGlobals q.1=Y (Y (.ref a))) (l:K.lookup a=Y { cls:=.type "dict",data:=.dict es.toArray ep }) (h:Enf prm K es q.2.1 q.2.2) (n:(a==Qn)=Y6):GdK prm K q
noncomputable def gloOk(g:Glo):Bool:=(g.ats.all λq=>g.cl.any λz=>z.2==q.1)&&g.ds.all λq=>ndB q.2.1
def glo_mo{K:Qqq}(X:K.In h)(G:h.Ns mainGlobals mg)(o:gloOk glo=O)(s:∀q∈glo.ds,GdK prm K q)(r:∀q∈glo.cs,GlK K q)(j:∀q∈glo.cl,ClK K q.1 q.2)(p:∀q∈glo.ats,PySem.W.findIn K (.ref q.1) q.2=Y B)(z:∀x∈bNm,Qx3 K mainGlobals x=Y B):Mo K mg glo prm:=by
 refine aDk o λc1 c2=>⟨λt C i=>(j _ i).mo X G,λC f i=>⟨?_,p _ i⟩,λx ks ds i=>?_,λx d i=>?_,λx i=>PySem.W.mg_none_of X G (z x i)⟩
 ·obtain⟨y,m,e⟩:=Qjq.mp (Qzj.mp c1 _ i);have e:=eq_of_beq e;subst e;exact(j _ m).cls
 ·cases s _ i with
  |mk g l q n=>
   obtain⟨k,vs,e,c,d⟩:=q.ex;exact⟨_,Qx8 X G g,⟨k,vs,_,_,l,e,c,d⟩,qad (Qzj.mp c2 _ i),n⟩
 ·cases r _ i with
  |mk g q=>
   obtain⟨v,a,b⟩:=q.ex;exact⟨_,v,Qx8 X G g,a,b⟩
def law_mk{l:PySem.W.OpenLaw}{K:Qqq}{st:Stmt}(X:K.In h)(G:h.Ns mainGlobals mg)(d:mg x=Y (.ref m))(f:t[i]?=Y (B,x,x,st,o))(A:argN st=[y])(C:glo.ms=msT 0 t)(g:∀r∈t,Bd r)(E:(t.all rwOk&&gloOk glo)=O)(ok:∀ns:L J,ns.length<=63->∃st',M.callD (fnsT (t.map (·.2.2.1)) glo t) (n+1) i [.lst (ns.map D.int)] []=Y (.bl O,st'))(e:∀r∈t,RwK K r)(Q:∀q∈glo.ds,GdK w.params K q)(N:∀q∈glo.cs,GlK K q)(I:∀q∈glo.cl,ClK K q.1 q.2)(H:∀q∈glo.ats,PySem.W.findIn K (.ref q.1) q.2=Y B)(z:∀x∈bNm,Qx3 K mainGlobals x=Y B):∃fd:Qp,(∀(s:Qz) (v:Y8),BindsTo s fd ⟨[v],[]⟩ [(y,v)])/\∀base:Heap,K.In base->base.Ns mainGlobals mg->FnOk l.prog w K mg base CX0 (2*(n+1)) m fd [y] (qlm K):=by
 refine aDk E λc1 c2=>?_;have p:=glo_mo X G c2 Q N I H z;have T:=qgj X G C e g c1;have j:=Qqf f;have b:=g _ j;have s:=qc2 (aD (Qzj.mp c1 _ j)).1
 cases e _ j with
 |fn a u c k=>
  cases d.symm.trans (Qx8 X G a);have F:=λbase=>(qio (P:=l.prog) (base:=base) (tab_ok T p _) p (by unfold fnsT; rw[Qqw,f]; rfl) (qwe u c k) s (qk1 (qy2 30) 12 _) rfl rfl).imp (law_sp ok);have b:=b;dsimp only[Bd]at b;rw[A]at F b;exact⟨_,λs v=>.of_eq (b _ _ _ _ _ _ [v] rfl),λbase _ _=>F base⟩
end MS
end
open M.D renaming int->Z,loc->Y2,tup->Y9,lst->Yc
open M.Ya renaming lst->Y1
open M.E renaming var->Yd
section
namespace K39
open PySem L2 MS
open M (D Fn)
noncomputable abbrev tF(x:Y5)(i:Y0)(l:Orc):Rw:=(B,x,x,top i,l)
noncomputable abbrev tM(C:Y7)(m x:Y5)(i j:Y0)(l:Orc):Rw:=(Y C,m,x,cb (top i) j,l)
noncomputable def tab:L Rw:=[tF "inside" 14 [],
 tF "has_one" 15 [(1,[27015052])],
 tF "can_part" 16 [],
 tF "parted" 17 [],
 tF "in_ground" 18 [],
 tF "counted" 20 [],
 tF "through" 21 [(1,[50011030])],
 tM 191 "__init__" "Claim.__init__" 23 0 [(388,[55008018,56008019,57008017,58008017,59008019,60008018])],
 tM 191 "piece" "Claim.piece" 23 1 [(388,[63042051,63054063,64008020,64023034])],
 tM 191 "state" "Claim.state" 23 3 [(388,[71011021,73017026,75011022])],
 tM 273 "__init__" "Claims.__init__" 24 0 [(552,[81008017,82008017,83008016])],
 tM 273 "names" "Claims.names" 24 1 [(552,[86020029])],
 tM 273 "named" "Claims.named" 24 2 [(2,[89011032,91015030]),(552,[89023032,91015024])],
 tM 273 "standing" "Claims.standing" 24 3 [(552,[94033041,94045054]),(2,[94045060]),(388,[94045071])],
 tM 273 "stake" "Claims.stake" 24 4 [(552,[97008017,97059068,98008037]),(2,[97008022]),(1,[97070075])],
 tM 273 "vest" "Claims.vest" 24 5 [(552,[101016025,104012020]),(2,[101016031]),(388,[102011027,102054066,103012024])],
 tM 273 "vest_all" "Claims.vest_all" 24 6 [(553,[107020032]),(552,[108012042])],
 tM 273 "change" "Claims.change" 24 7 [(2,[112011032,114016031]),(552,[112023032,114016025,118019039,121033042]),(388,[115011027,120012022,121012022,121044054,123012023,125012023])],
 tM 273 "part" "Claims.part" 24 8 [(552,[129016025,134008017,136012020,136028036]),(2,[129016034,134008022]),(388,[130024036,133008020,134025056,135011023])],
 tF "bounds" 34 [],
 tF "fits" 35 [],
 tF "all_fit" 36 [(1,[160015079]),(2,[160028039])],
 tF "is_cell" 37 [(1,[162040072])],
 tF "good_steps" 38 [(1,[164040081])],
 tF "good_outcrops" 39 [(1,[168015059])],
 tF "sound_vein" 40 [],
 tF "numbers_agree" 41 [],
 tF "sound" 42 [(1,[184011049])],
 tF "climbed" 45 [],
 tF "met_columns" 46 [(1290,[197012028,198012030,201022034]),(2,[200037050])],
 tF "columns_at" 47 [(1290,[204021033]),(1291,[208016029]),(2,[209008017,210051060]),(1,[210021061])],
 tF "ground_of" 49 [(1290,[214011029])],
 tF "outcrop" 50 [(1290,[216011030])],
 tF "outcrops" 51 [],
 tF "covers" 52 [],
 tF "standing_grounds" 54 [(1291,[223058074])],
 tF "ranked" 55 [],
 tF "heirs" 56 [(1,[234012052,234028051,235018041])],
 tF "first_claim" 57 [],
 tF "title" 58 [(1,[239023041])],
 tF "owner" 59 [(1,[241012030]),(1290,[242038056])],
 tF "over" 60 [(1,[244025048])],
 tF "check_district" 66 [],
 tF "check_day" 67 [],
 tM 642 "__init__" "Field.__init__" 68 0 [(1290,[263008019,264008017,265008016,266008018,267008019,268008019,269008016,270008018]),(4,[269019021])],
 tM 642 "enter" "Field.enter" 68 1 [(1290,[274021032,276018026,278008016,279015032])],
 tM 642 "answer" "Field.answer" 68 2 [(1290,[283019040,285019040,287019041,289019039,291019039,292015026,292034042]),(552,[292015049])],
 tM 642 "enter_vein" "Field.enter_vein" 68 3 [(1290,[295008018,295019027,296008019,296029037]),(2,[295008028]),(552,[296008047])],
 tM 642 "enter_join" "Field.enter_join" 68 4 [(2,[302011033,302037060,306011030,308008025]),(1290,[302023033,302050060,306019030,308008019])],
 tM 642 "enter_stake" "Field.enter_stake" 68 5 [(2,[313008048,314028044]),(1290,[313020030,314028038,315008019,315026034]),(552,[315008065])],
 tM 642 "enter_dig" "Field.enter_dig" 68 6 [(4,[320015024,322011027,324008022,325034038]),(1290,[322019027,324008016,325008054,326008065]),(1,[325022039]),(1291,[326022057])],
 tM 642 "enter_pay" "Field.enter_pay" 68 7 [(1290,[330008050])],
 tM 642 "gatekeeper" "Field.gatekeeper" 68 8 [(1,[334016033]),(1290,[335042059])],
 tM 642 "owe" "Field.owe" 68 9 [(1290,[339012022,339031039])],
 tM 642 "today" "Field.today" 68 11 [(1290,[345015023])],
 tM 642 "size" "Field.size" 68 12 [(1290,[348015026])],
 tM 642 "term" "Field.term" 68 13 [(1290,[351015024])],
 tM 642 "veins" "Field.veins" 68 14 [(1290,[354020030])],
 tM 642 "claims" "Field.claims" 68 15 [(1290,[357015026]),(552,[357015034])],
 tM 642 "vein" "Field.vein" 68 16 [(2,[360011033,362015031]),(1290,[360023033,362015025])],
 tM 642 "joined" "Field.joined" 68 17 [(2,[365011033]),(1290,[365023033,367015026])],
 tM 642 "claim" "Field.claim" 68 18 [(1290,[370016027]),(552,[370016039]),(388,[371016027,371029041,371043053,371055067,371069080])],
 tM 642 "state" "Field.state" 68 19 [(1290,[374015026,374045053]),(552,[374015038]),(388,[374015054])],
 tM 642 "years" "Field.years" 68 20 [(1290,[377020031]),(552,[377020043]),(388,[377020048])],
 tM 642 "standing" "Field.standing" 68 21 [(1290,[380015026,380036044]),(552,[380015045])],
 tM 642 "entries" "Field.entries" 68 22 [(1290,[383020030])],
 tF "_law_draw" 70 [],
 tF "_law_same" 71 [(1,[407024108,407025072])],
 tF "_law_size" 72 [(1,[416017101,417017111,417030111])],
 tF "_law_term" 73 [(1,[421011085])],
 tF "_law_rect" 74 [(1,[423013127,423020126,424013131,424020130])],
 tF "_law_steps" 75 [(1,[427017125,427018039])],
 tF "_law_outs" 76 [(1,[433072085])],
 tF "_law_who" 77 [(1,[439054073])],
 tF "_law_pick" 78 [],
 tF "_law_vein" 79 [(1,[445075124])],
 tF "_law_claim_fact" 80 [(1,[453011129])],
 tF "_law_fact" 81 [(1,[456017105,457017116])],
 tF "_law_plan" 82 [(1,[467016029])],
 tF "_law_dig" 83 [(1,[477056073])],
 tF "_law_pay" 84 [(1,[484081093])],
 tF "_law_look" 85 [(1291,[486017035,487017036,492027054,493027054,494029050,494052072]),(1290,[488022040,488042059,488061078,489027058,490027060,491027054]),(1,[489026092,490026094,491026083,492026083,493026083,494028073])],
 tF "_law_dug" 86 [(1,[497036093])],
 tF "_law_other_mouths" 87 [],
 tF "_law_other_worths" 88 [],
 tF "_law_words" 89 [(1290,[522023065]),(1,[523021042,524012049])],
 tF "_law_ore" 90 [(1,[526018131])],
 tF "_law_scaled" 91 [(1,[529015094,530015090,533018065])],
 tF "law" 92 [(1,[539021100,540017075,541018124,541061123,542017063,543017071,544011051,544059098,546011103,546021061,546063102,548036090])]]
noncomputable def names:L Y5:=tab.map (·.2.2.1)
noncomputable def glo:Glo:=⟨[("COIN",.int 10),("COINS",.tup [.int 1,.int 1000000]),("DAYS",.tup [.int 1,.int 400]),("DEPTHS",.tup [.int 0,.int 12]),("FOLK",.tup [.int 1,.int 40]),("LEFT",.int 0),("LENGTHS",.tup [.int 1,.int 24]),("LINES",.tup [.int 1,.int 23]),("LOW",.int 3),("MOST_COLUMNS",.int 16),("MOVES",.tup [.tup [.int 0,.int 0],.tup [.int 1,.int 0],.tup [.int (-1),.int 0],.tup [.int 0,.int 1],.tup [.int 0,.int (-1)]]),("RIGHT",.int 2),("SIDES",.tup [.int 0,.int 1]),("STEPS",.tup [.int 0,.int 4]),("TERMS",.tup [.int 1,.int 400]),("TOP",.int 1)],[("ASKS",["join","stake","work","sell","part","give","dig","pay"],[.tup [.str "day",.str "day",.str "below"],.tup [.str "folk",.str "x",.str "y",.str "x",.str "y"],.tup [.str "day"],.tup [.str "day",.str "folk"],.tup [.str "day",.str "side",.str "line",.str "folk"],.tup [.str "day"],.tup [.str "folk",.str "x",.str "y",.str "x",.str "y",.str "floor",.str "coins"],.tup [.str "folk",.str "folk",.str "coins"]])],msT 0 tab,[("Claim",191),("Claims",273),("Field",642)],[(191,"days"),(191,"given"),(191,"ground"),(191,"last"),(191,"owner"),(191,"vested"),(273,"book"),(273,"row"),(273,"year"),(642,"day"),(642,"debts"),(642,"dug"),(642,"extent"),(642,"found"),(642,"joints"),(642,"staked"),(642,"year")]⟩
noncomputable def fns:L Fn:=fnsT names glo tab
end K39
end
section
namespace K39
open PySem (Str)
open M
noncomputable abbrev sO(x:String):D:=.str (Str.ofString x)
structure Cl where
 nm:J
 j:Y0
 o:J
 g:J×J×J×J
 ds:L J
 la:J
 v:Y3 J
 gv:Y3 J
noncomputable def oD:Y3 J->D
 |none=>.non
 |some i=>.int i
noncomputable def rD(g:J×J×J×J):D:=.tup [.int g.1,.int g.2.1,.int g.2.2.1,.int g.2.2.2]
noncomputable def Cl.cell(c:Cl):Ya:=.obj 191 [("owner",.int c.o),("ground",rD c.g),("days",.loc (c.j+8)),("last",.int c.la),("vested",oD c.v),("given",oD c.gv)]
noncomputable def Cl.dl(c:Cl):Ya:=.lst O (c.ds.map .int)
structure Zt where
 s:D
 dg:L (L J×D)
 es:L D
noncomputable def FS(sz:Zt)(T d:J)(fo jo bo:L (D×D))(ro:L D)(rest:Y4):Y4:=
 .obj 642 [("extent",sz.s),("year",.int T),("day",.int d),("found",.loc 1),("joints",.loc 2),("staked",.loc 3),("dug",.loc 6),("debts",.loc 7)]::.dic O fo::.dic O jo::.obj 273 [("year",.int T),("book",.loc 4),("row",.loc 5)]::.dic O bo::.lst O ro::.tdc O sz.dg::.lst O sz.es::rest
def isN(h:o=B):isNon (oD o)=true:=by rw[h]; rfl
def isS(h:o=Y x):isNon (oD o)=false:=by rw[h]; rfl
def nnN(h:o=B):(!isNon (oD o))=false:=by rw[h]; rfl
def nnS(h:o=Y x):(!isNon (oD o))=true:=by rw[h]; rfl
section
variable {sz:Zt}{T d:J}{fo jo bo:L (D×D)}{ro:L D}{rest:Y4}
noncomputable def stW(c:Cl)(day:J):String:=if c.gv.isSome then "given" else if c.la<day then "fallen" else if c.v.isNone then "unvested" else "stands"
def qqq(m)(c)(a)(h:rest[c.j+1]?=Y c.cell):callD fns (m+1) 9 [Y2 (c.j+9),Z a] (FS sz T d fo jo bo ro rest)=Y (sO (stW c a),FS sz T d fo jo bo ro rest):=by
 unfold stW
 cases b:c.gv with
 |some x=>
  exact qzz 8 [] 1 (λq=>_/\_/\q) [.r c.cell,.b O] ⟨h,nnS b,rfl⟩
 |none=>
  by_cases hl:c.la<a
  ·rw[Z6 hl];exact qzz 8 [] 1 (λq=>_/\_/\_/\_/\q) [.r c.cell,.b Y6,.r c.cell,.b O] ⟨h,nnN b,h,Z3 hl,rfl⟩
  ·rw[Z5 hl]
   cases e:c.v with
   |none=>exact qzz 8 [] 1 (λq=>_/\_/\_/\_/\_/\_/\q) [.r c.cell,.b Y6,.r c.cell,.b Y6,.r c.cell,.b O] ⟨h,nnN b,h,Z4 hl,h,isN e,rfl⟩
   |some x=>exact qzz 8 [] 1 (λq=>_/\_/\_/\_/\_/\_/\q) [.r c.cell,.b Y6,.r c.cell,.b Y6,.r c.cell,.b Y6] ⟨h,nnN b,h,Z4 hl,h,isS e,rfl⟩
end
noncomputable def cD(p:J×J):D:=.tup [.int p.1,.int p.2]
noncomputable def inB(g:J×J×J×J)(p:J×J):Bool:=decide (g.1<=p.1)&&decide (p.1<=g.2.2.1)&&(decide (g.2.1<=p.2)&&decide (p.2<=g.2.2.2))
def qj6(m)(st)(g)(p):callD fns (m+1) 0 [rD g,cD p] st=Y (.bl (inB g p),st):=by
 unfold inB
 by_cases h1:g.1<=p.1
 ·by_cases h2:p.1<=g.2.2.1
  ·by_cases a:g.2.1<=p.2
   ·by_cases b:p.2<=g.2.2.2
    ·rw[Z3 h1,Z3 h2,Z3 a,Z3 b];exact qzz 0 [] 1 (λq=>_/\_/\_/\_/\q) [.b O,.b O,.b O,.b O] ⟨Z3 h1,Z3 h2,Z3 a,Z3 b,rfl⟩
    ·rw[Z3 h1,Z3 h2,Z3 a,Z4 b];exact qzz 0 [] 1 (λq=>_/\_/\_/\_/\q) [.b O,.b O,.b O,.b Y6] ⟨Z3 h1,Z3 h2,Z3 a,Z4 b,rfl⟩
   ·rw[Z3 h1,Z3 h2,Z4 a,Bool.false_and];exact qzz 0 [] 1 (λq=>_/\_/\_/\q) [.b O,.b O,.b Y6] ⟨Z3 h1,Z3 h2,Z4 a,rfl⟩
  ·rw[Z3 h1,Z4 h2];exact qzz 0 [] 1 (λq=>_/\_/\q) [.b O,.b Y6] ⟨Z3 h1,Z4 h2,rfl⟩
 ·rw[Z4 h1];exact qzz 0 [] 1 (λq=>_/\q) [.b Y6] ⟨Z4 h1,rfl⟩
theorem asB:∀bs:L Yb,asBools (bs.map .bl)=Y bs
 |[]=>rfl
 |b::r=>by show(asBools (r.map .bl)).map (b::·)=_; rw[asB r]; rfl
def nlB(bs:L Yb):noLocs (bs.map .bl)=true:=qzb λ_ _=>rfl
def qcp(h:τ[i]?=Y (Y q))(a:rowAt st q=Y ds):∃s,src (RL c) τ st (.var i)=Y (s,st)/\(∀i,s.at st i=Y ds[i]?)/\s.size st=ds.length:=by
 have e:=qqm c τ st (.var i) (q,st) (by show(match τ[i]? with|some (Y d)=>Y (d,st)|_=>B)=_; rw[h])
 cases q with
 |tup xs=>
  cases a;exact⟨.tup ds,by show((RL c).ev τ st (.var i)).bind _=_; rw[e]; rfl,λi=>rfl,rfl⟩
 |lst xs=>
  have a:=a;exact⟨.lst (.lst xs),by show((RL c).ev τ st (.var i)).bind _=_; rw[e]; rfl,qqs a,qzs a⟩
 |loc l=>
  have a:seqAt st (Y2 l)=Y ds:=a;exact⟨.lst (Y2 l),by show((RL c).ev τ st (.var i)).bind _=_; rw[e]; show(seqAt st (Y2 l)).map _=_; rw[a]; rfl,qqs a,qzs a⟩
 |_=>cases a
def qqr{α:Type}(xs:L α)(f g:α->D)(h:τ[i]?=Y (Y q))(m:rowAt st q=Y (xs.map f))(n:xs.length<lim)(b:inner sr τ=B::a)(o:∀x∈xs,(RL c).ev (Y (f x)::a) st elt=Y (g x,st)):
  stepEv (RL c) τ st (.comp (.var 0) (Yd i) B elt sr)=Y (Y2 st.length,st++[Y1 O (xs.map g)]):=by
 obtain⟨s,h1,h2,p⟩:=qcp h m;refine qa7 h1 h2 p b (by simp) (by simpa using n) λk d e hd j=>?_;rw[Qqw]at hd j;obtain⟨x,l,rfl⟩:=Qqb.mp hd;rw[l]at j;cases j;exact o x (Qqf l)
noncomputable def hasB(g:J×J×J×J)(ps:L (J×J)):Bool:=ps.any (inB g)
def qim(m)(a:rowAt st q=Y (ps.map cD))(b:ps.length<lim):callD fns (m+2) 1 [rD g,q] st=Y (.bl (hasB g ps),st):=by
 have h1:=qqr (c:=callD fns (m+1)) (τ:=[Y (rD g),Y q]) (i:=1) (elt:=.call 0 [Yd 1,Yd 0]) (sr:=[B,Y 0]) ps cD (λp=>.bl (inB g p)) rfl a b rfl λp _=>qzc 0 [0] 1 (λq=>_/\q) [.c (.bl (inB g p),st)] ⟨qj6 m st g p,rfl⟩;have e:ps.map (λp=>D.bl (inB g p))=(ps.map (inB g)).map .bl:=by rw[Qq6]; rfl
 rw[e]at h1;have d:bfun st .any [Yc ((ps.map (inB g)).map .bl)]=Y (.bl (hasB g ps),st):=by
  show(asBools _).map _=_;rw[asB];simp[hasB,List.any_map,Function.comp_def]
 exact qzz 0 [] 2 (λq=>_/\_/\_/\q) [.c (Y2 st.length,st++[Y1 O ((ps.map (inB g)).map .bl)]),.l ((ps.map (inB g)).map .bl),.c (.bl (hasB g ps),st)] ⟨h1,qzw (st:=st) (nlB (ps.map (inB g))),d,rfl⟩
def gl{c:Ya}:(st++[c])[st.length]?=Y c:=by simp
def sl{c:Ya}:(st++[c]).set st.length c'=st++[c']:=by simp
def qwg(P:Y0->Sl->Y4->Prop)(h:τ[i]?=Y (Y q))(p:P 0 τ st)(m:∀k a st',P k a st'->rowAt st' q=Y ds)(r:∀k a st' d,ds[k]?=Y d->P k a st'->∃b f,((setT t d a).bind λj=>(RL c).ex j st' body)=Y (.nx b,f)/\P (k+1) b f):
  ∃a st',stepEx (RL c) τ st (.forr t (.var i) body)=Y (.nx a,st')/\P ds.length a st':=by
 have e:=qqm c τ st (.var i) (q,st) (by show(match τ[i]? with|some (Y d)=>Y (d,st)|_=>B)=_; rw[h]);have g:∀s:Src,src (RL c) τ st (.var i)=Y (s,st)->s.size st=ds.length->(∀k a st',P k a st'->s.at st' k=Y ds[k]?)->∃a st',stepEx (RL c) τ st (.forr t (.var i) body)=Y (.nx a,st')/\P ds.length a st':=λs h1 h2 u=>by
  obtain⟨a,st',o,n⟩:=qvx P (λ_ _=>False) p h2 u (λk a st' d hd hp=>by
   obtain⟨b,f,o,n⟩:=r k a st' d hd hp
   exact .inl ⟨b,f,.inl o,n⟩)
  refine⟨a,st',?_,n.resolve_right id⟩;show(src (RL c) τ st (.var i)).bind _=_;rw[h1];exact o
 have h1:=m 0 τ st p
 cases q with
 |tup xs=>
  cases h1;exact g (.tup ds) (by show((RL c).ev τ st (.var i)).bind _=_; rw[e]; rfl) rfl λk a st' _=>rfl
 |lst xs=>
  exact g (.lst (.lst xs)) (by show((RL c).ev τ st (.var i)).bind _=_; rw[e]; rfl) (qzs h1) λk a st' hp=>qqs (show seqAt st' (.lst xs)=_ from m k a st' hp) k
 |loc l=>
  have h1:seqAt st (Y2 l)=Y ds:=h1;exact g (.lst (Y2 l)) (by show((RL c).ev τ st (.var i)).bind _=_; rw[e]; show(seqAt st (Y2 l)).map _=_; rw[h1]; rfl) (qzs h1) λk a st' hp=>qqs (show seqAt st' (Y2 l)=_ from m k a st' hp) k
 |_=>cases h1
def qyd{ks:L J}(h):idxD (st++[.lst w (ks.map Z)]) (Y2 st.length) (Z (-1))=Y (Z (ks.getLast h)):=by
 have hl:=Qxp.mpr h;show(seqAt (st++[.lst w (ks.map Z)]) (Y2 st.length)).bind _=_;have:seqAt (st++[.lst w (ks.map Z)]) (Y2 st.length)=Y (ks.map Z):=by show listAt _ _=_; unfold listAt; rw[gl]
 rw[this];show atI (ks.map D.int) (-1)=_;unfold atI ixN;rw[Z5 (by decide),Z6 (by simp; lia)];simp only[oBs,Qqz];rw[show(-1+(ks.length:J)).toNat=ks.length - 1 by lia,Qqw,List.getLast_eq_getElem,Qqc (by lia)]
 rfl
noncomputable def chS(T:J)(ks:L J)(x:J):L Int:=if h:ks=[] then [x] else if x<=ks.getLast h+T then ks++[x] else ks
def chS_ne(T)(ks)(x):chS T ks x≠[]:=by
 unfold chS
 split
 ·exact List.cons_ne_nil _ _
 ·rename_i h
  split
  ·simp
  ·exact h
theorem qi2{T:J}:∀{xs ks},xs≠[]\/ks≠[]->xs.foldl (chS T) ks≠[]
 |[],_,h=>h.resolve_left λz=>z rfl
 |x::r,ks,_=>qi2 (xs:=r) (.inr (chS_ne T ks x))
def qb0(m){T:J}{xs:L J}(z:xs.length<1000)(y:∀r,rowAt (st++r) q=Y (xs.map Z)):callD fns (m+1) 5 [Z T,q] st=Y (Y2 st.length,st++[Y1 O ((xs.foldl (chS T) []).map Z)]):=by
 obtain⟨f,st',h1,k,o,ks,rfl,rfl,v,C⟩:=qwg (c:=callD fns m) (i:=1) (t:=.var 3) (body:=[.ite (.or (.not (.var 2)) (.cmp .LtE (.var 3) (.bin .Add (.idx (.var 2) (.neg (.lit (Z 1)))) (.var 0)))) [.expr (.meth (.var 2) .append [.var 3])] []])
  (λk f st'=>k<=xs.length/\∃o ks,f=[Y (Z T),Y q,Y (Y2 st.length),o]/\st'=st++[Y1 O ((ks:L J).map Z)]/\ks=(xs.take k).foldl (chS T) []/\ks.length<=k)
  rfl ⟨Qq8 _,B,[],rfl,rfl,rfl,Qqk _⟩ (λk f st' h=>by obtain⟨_,o,ks,_,rfl,_⟩:=h; exact y _) (λk f st' d hd h=>by
   obtain⟨A,o,ks,rfl,rfl,h1,h2⟩:=h;rw[Qqw]at hd;obtain⟨x,n,rfl⟩:=Qqb.mp hd;have j:=(Qqj.mp n).1;have tk:(xs.take (k+1)).foldl (chS T) []=chS T ks x:=by rw[Qxk,n,Qj2,<- h1]; rfl
   have g:(ks.map D.int).length<lim:=by simp; unfold lim; lia
   have u:(st++[Ya.lst O (ks.map Z)]).set st.length (Y1 O (ks.map Z++[Z x]))=st++[Y1 O ((ks++[x]).map Z)]:=by rw[sl]; simp
   have l:=gl (st:=st) (c:=Y1 O (ks.map Z))
   by_cases e:ks=[]
   ·subst e;exact⟨[Y (Z T),Y q,Y (Y2 st.length),Y (Z x)],(st++[Ya.lst O []]).set st.length (Y1 O [Z x]),qzy 0 [] 0 (λq=>_/\_/\_/\_/\q) [.r (Y1 O []),.k,.r (Y1 O []),.r (Y1 O []),.b O] ⟨l,l,l,Z3 g,rfl⟩,j,Y (Z x),[x],rfl,sl,tk.symm,by simp⟩
   ·have p:(!(ks.map D.int).isEmpty)=true:=by cases ks with|nil=>exact absurd rfl e|cons a b=>rfl
    by_cases s:x<=ks.getLast e+T
    ·exact⟨[Y (Z T),Y q,Y (Y2 st.length),Y (Z x)],(st++[Ya.lst O (ks.map Z)]).set st.length (Y1 O (ks.map Z++[Z x])),qzy 0 [] 0 (λq=>_/\_/\_/\_/\_/\_/\_/\q) [.r (Y1 O (ks.map Z)),.b O,.i (Z (ks.getLast e)),.b O,.r (Y1 O (ks.map Z)),.r (Y1 O (ks.map Z)),.b O] ⟨l,p,qyd (st:=st) (w:=O) e,Z3 s,l,l,Z3 g,rfl⟩,j,Y (Z x),ks++[x],rfl,u,by rw[tk]; unfold chS; rw[dif_neg e,Z6 s],by simp; lia⟩
    ·exact⟨[Y (Z T),Y q,Y (Y2 st.length),Y (Z x)],st++[Y1 O (ks.map Z)],qzy 0 [] 0 (λq=>_/\_/\_/\_/\q) [.r (Y1 O (ks.map Z)),.b O,.i (Z (ks.getLast e)),.b Y6] ⟨l,p,qyd (st:=st) (w:=O) e,Z4 s,rfl⟩,j,Y (Z x),ks,rfl,rfl,by rw[tk]; unfold chS; rw[dif_neg e,Z5 s],by lia⟩)
 rw[Qqz,Qzv]at v;rw[<- v];exact qzz 0 [] 1 (λq=>_/\q) [.s (.nx [Y (Z T),Y q,Y (Y2 st.length),o],st++[Y1 O (ks.map Z)])] ⟨h1,rfl⟩
def nlI(ks:L J):noLocs (ks.map Z)=true:=qzb λ_ _=>rfl
noncomputable def thr(T:J)(xs:L J):Int:=(xs.foldl (chS T) []).getLast?.getD 0+T
def qkd(m){T:J}(a:xs≠[])(c:xs.length<1000)(b:∀r,rowAt (st++r) q=Y (xs.map Z)):callD fns (m+2) 6 [Z T,q] st=Y (Z (thr T xs),st):=by
 have h2:=qb0 m (T:=T) c b;have h1:=qi2 (T:=T) (xs:=xs) (ks:=[]) (.inl a);unfold thr;generalize xs.foldl (chS T) []=ks at h1 h2;rw[List.getLast?_eq_some_getLast h1];have e:idxD st (.lst (ks.map Z)) (Z (-1))=Y (Z (ks.getLast h1)):=by
  have:=qyd (st:=[]) (w:=O) h1;exact this
 exact qzz 0 [5] 2 (λq=>_/\_/\_/\q) [.c (Y2 st.length,st++[Y1 O (ks.map Z)]),.l (ks.map Z),.i (Z (ks.getLast h1))] ⟨h2,qzw (st:=st) (nlI ks),e,rfl⟩
noncomputable def ik(st:Y4)(C:Y0)(F:L (Y5×D)):Y0->Y4
 |0=>st++[.obj C (F.take 0)]
 |k+1=>(ik st C F k).set st.length (.obj C (F.take (k+1)))
theorem qno:∀k,ik st C F k=st++[.obj C (F.take k)]
 |0=>rfl
 |k+1=>by show(ik st C F k).set _ _=_; rw[qno k,sl]
def ik_at(k):(ik st C F k)[st.length]?=Y (.obj C (F.take k)):=by rw[qno k,gl]
noncomputable def clF(o:J)(g:J×J×J×J)(dl:D)(la:J):L (Y5×D):=[("owner",.int o),("ground",rD g),("days",dl),("last",.int la),("vested",.non),("given",.non)]
def cinit(m)(st)(o la)(g)(dl):callD fns (m+1) 7 [Y2 st.length,Z o,rD g,dl,Z la] (st++[.obj 191 []])=Y (.non,st++[.obj 191 (clF o g dl la)]):=by
 have h:=λk=>ik_at (st:=st) (C:=191) (F:=clF o g dl la) k;exact qjc 0 [] 1 (.non,ik st 191 (clF o g dl la) 6) (λq=>_/\_/\_/\_/\_/\_/\q) [.r (.obj 191 ((clF o g dl la).take 0)),.r (.obj 191 ((clF o g dl la).take 1)),.r (.obj 191 ((clF o g dl la).take 2)),.r (.obj 191 ((clF o g dl la).take 3)),.r (.obj 191 ((clF o g dl la).take 4)),.r (.obj 191 ((clF o g dl la).take 5))] ⟨h 0,h 1,h 2,h 3,h 4,h 5,by rw[qno]; rfl⟩
structure Inv (Bq:Y0) (rest:Y4) (cs:L Cl):Prop where
 lo:∀c∈cs,Bq<=c.j
 at_:∀c∈cs,rest[c.j]?=Y c.dl/\rest[c.j+1]?=Y c.cell
 pw:cs.Pairwise λa b=>a.j+1<b.j
 ne:∀c∈cs,c.ds≠[]/\c.ds.length<900
 nd:(cs.map (·.nm)).Nodup
noncomputable def qzf(cs:L Cl):L (D×D):=cs.map λc=>(.int c.nm,.loc (c.j+9))
def Inv.inj{Bq:Y0}(h:Inv Bq rest cs)(g:a∈cs)(j:b∈cs)(e:a.nm=b.nm):a=b:=by
 have:=h.nd;clear h
 induction cs with
 |nil=>cases g
 |cons c r i=>
  rw[Qqm,Qzy]at this;rcases Qqy.mp g with rfl|f<;>rcases Qqy.mp j with rfl|d
  ·rfl
  ·exact absurd (Qqv.mpr ⟨b,d,e.symm⟩) this.1
  ·exact absurd (Qqv.mpr ⟨a,f,e⟩) this.1
  ·exact i f d this.2
def qwn(a)(r)(n):dget (qzf (a::r)) (Z n)=bif a.nm==n then Y (Y2 (a.j+9)) else dget (qzf r) (Z n):=by
 unfold dget qzf;rw[Qqm,Qza];show Option.map _ (match (a.nm==n) with|true=>_|false=>_)=_;cases a.nm==n<;>rfl
def qn6(h:∀c∈cs,c.nm≠n):dget (qzf cs) (Z n)=none:=by
 induction cs with
 |nil=>rfl
 |cons c r a=>
  rw[qwn,beq_false_of_ne (h c (.head _))];exact a λc b=>h c (.tail _ b)
def qhi(h:c∈cs)(b:(cs.map (·.nm)).Nodup):dget (qzf cs) (Z c.nm)=Y (Y2 (c.j+9)):=by
 induction cs with
 |nil=>cases h
 |cons a r d=>
  rw[qwn];rw[Qqm,Qzy]at b;rcases Qqy.mp h with rfl|h'
  ·rw[beq_self_eq_true]; rfl
  ·rw[beq_false_of_ne λe=>b.1 (Qqv.mpr ⟨c,h',e.symm⟩)];exact d h' b.2
def Inv.get{Bq:Y0}(h:Inv Bq rest cs)(a:c∈cs):dget (qzf cs) (Z c.nm)=Y (Y2 (c.j+9)):=qhi a h.nd
def Inv.apart{Bq:Y0}(h:Inv Bq rest cs)(g:a∈cs)(j:b∈cs)(e:a.nm≠b.nm):a.j+1<b.j\/b.j+1<a.j:=by
 have:=h.pw;clear h
 induction cs with
 |nil=>cases g
 |cons c r i=>
  rw[Qxj]at this;rcases Qqy.mp g with rfl|f<;>rcases Qqy.mp j with rfl|d
  ·exact absurd rfl e
  ·exact .inl (this.1 b d)
  ·exact .inr (this.1 a f)
  ·exact i f d this.2
noncomputable def upd(cs:L Cl)(c':Cl):L Cl:=cs.map λx=>if x.nm=c'.nm then c' else x
def qjk(i:c∈cs)(a:(cs.map (·.nm)).Nodup)(e:c'.nm=c.nm)(k:c'.j=c.j):qzf (upd cs c')=qzf cs:=by
 unfold qzf upd;rw[Qq6];refine Qzr λx f=>?_;show(D.int (if x.nm=c'.nm then c' else x).nm,D.loc ((if x.nm=c'.nm then c' else x).j+9))=_
 by_cases h:x.nm=c'.nm
 ·have g:x=c:=by
   have:∀{l:L Cl},(l.map (·.nm)).Nodup->x∈l->c∈l->x.nm=c.nm->x=c:=λ{l} a f i e=>by
    induction l with
    |nil=>cases f
    |cons y r j=>
     rw[Qqm,Qzy]at a;rcases Qqy.mp f with rfl|b<;>rcases Qqy.mp i with rfl|d
     ·rfl
     ·exact absurd (Qqv.mpr ⟨c,d,e.symm⟩) a.1
     ·exact absurd (Qqv.mpr ⟨x,b,e⟩) a.1
     ·exact j a.2 b d
   exact this a f i (h.trans e)
  rw[Z6 h,e,k,g]
 ·rw[Z5 h]
def qyu:(upd cs c').map (·.nm)=cs.map (·.nm):=by
 unfold upd;rw[Qq6];refine Qzr λx _=>?_;show(if x.nm=c'.nm then c' else x).nm=x.nm
 by_cases h:x.nm=c'.nm
 ·rw[Z6 h,h]
 ·rw[Z5 h]
def Inv.put{Bq:Y0}(h:Inv Bq rest cs)(g:c∈cs)(e:c'.nm=c.nm)(i:c'.j=c.j)(hd:c'.ds≠[]/\c'.ds.length<900):Inv Bq ((rest.set c.j c'.dl).set (c.j+1) c'.cell) (upd cs c'):=by
 have lt:=(Qqj.mp (h.at_ c g).2).1;refine⟨λx f=>?_,λx f=>?_,?_,λx f=>?_,by rw[qyu]; exact h.nd⟩
 ·obtain⟨y,d,rfl⟩:=Qqv.mp f
  by_cases hn:y.nm=c'.nm
  ·rw[Z6 hn,i]; exact h.lo c g
  ·rw[Z5 hn]; exact h.lo y d
 ·obtain⟨y,d,rfl⟩:=Qqv.mp f
  by_cases hn:y.nm=c'.nm
  ·rw[Z6 hn,i];constructor
   ·rw[Qqo (by lia),Qzq (by lia)]
   ·rw[Qzq (by rw[Qzs]; lia)]
  ·rw[Z5 hn];have:=h.at_ y d;rcases h.apart d g (λz=>hn (z.trans e.symm)) with z|z
   ·exact⟨by rw[Qqo (by lia),Qqo (by lia)]; exact this.1,by rw[Qqo (by lia),Qqo (by lia)]; exact this.2⟩
   ·exact⟨by rw[Qqo (by lia),Qqo (by lia)]; exact this.1,by rw[Qqo (by lia),Qqo (by lia)]; exact this.2⟩
 ·unfold upd;rw[List.pairwise_map];have j:∀y∈cs,(if y.nm=c'.nm then c' else y).j=y.j:=λy d=>by
   by_cases hn:y.nm=c'.nm
   ·rw[Z6 hn,i,h.inj d g (hn.trans e)]
   ·rw[Z5 hn]
  refine List.Pairwise.imp_of_mem (λ{a b} l k z=>?_) h.pw;rw[j a l,j b k];exact z
 ·obtain⟨y,d,rfl⟩:=Qqv.mp f
  by_cases hn:y.nm=c'.nm
  ·rw[Z6 hn]; exact hd
  ·rw[Z5 hn]; exact h.ne y d
theorem Inv.cell{Bq:Y0}(h:Inv Bq rest cs)(a:c∈cs)(e:c'.nm=c.nm)(b:c'.j=c.j)(hd:c'.ds=c.ds):Inv Bq (rest.set (c.j+1) c'.cell) (upd cs c'):=by
 have:=h.put a e b (hd▸h.ne c a);have lt:=(Qqj.mp (h.at_ c a).2).1;have z:rest.set c.j c'.dl=rest:=by
  apply Qj1;intro i
  by_cases hi:c.j=i
  ·subst hi;rw[Qzq (by lia),(h.at_ c a).1];unfold Cl.dl;rw[hd]
  ·rw[Qqo hi]
 rwa [z]at this
def Inv.more{Bq:Y0}(h:Inv Bq rest cs)(r):Inv Bq (rest++r) cs:=
 ⟨h.lo,λc a=>⟨by rw[Qq0 (Qqj.mp (h.at_ c a).1).1]; exact(h.at_ c a).1,by rw[Qq0 (Qqj.mp (h.at_ c a).2).1]; exact(h.at_ c a).2⟩,h.pw,h.ne,h.nd⟩
def Inv.add{Bq:Y0}(h:Inv Bq rest cs)(c)(i:c.j=rest.length)(g:∀x∈cs,x.nm≠c.nm)(hd:c.ds≠[]/\c.ds.length<900)(j:Bq<=rest.length):Inv Bq (rest++[c.dl,c.cell]) (cs++[c]):=by
 have m:=h.more [c.dl,c.cell];refine⟨λx d=>?_,λx d=>?_,?_,λx d=>?_,?_⟩
 ·rcases Qqn.mp d with d|d
  ·exact h.lo x d
  ·cases Qqa.mp d; lia
 ·rcases Qqn.mp d with d|d
  ·exact m.at_ x d
  ·cases Qqa.mp d;rw[i];constructor<;>simp
 ·rw[Qje];refine⟨h.pw,List.pairwise_singleton ..,λa f b e=>?_⟩;cases Qqa.mp e;have:=(Qqj.mp (h.at_ a f).2).1
  lia
 ·rcases Qqn.mp d with d|d
  ·exact h.ne x d
  ·cases Qqa.mp d; exact hd
 ·rw[Qql,Qxm];refine⟨h.nd,by simp,λa f b e=>?_⟩;obtain⟨x,d,rfl⟩:=Qqv.mp f;simp only[Qqm,Qxy,Qqa]at e;subst e;exact g x d
def qa4(b:∀x∈cs,x.nm≠c.nm):dput (qzf cs) (Z c.nm) (Y2 (c.j+9))=qzf (cs++[c]):=by
 unfold dput;have:(qzf cs).any (λp=>eqT p.1 (Z c.nm))=false:=by
  rw[Qjp];intro p hp;obtain⟨x,a,rfl⟩:=Qqv.mp hp;show ¬ (x.nm==c.nm)=O;simpa using b x a
 rw[this];simp[qzf]
def qqt{Bq:Y0}{rest:Y4}(h:Bq<=i):(rest.set i c).take Bq=rest.take Bq:=by
 apply Qj1;intro k;rw[Qx1,Qx1]
 by_cases a:k<Bq
 ·rw[Z6 a,Z6 a,Qqo (by lia)]
 ·rw[Z5 a,Z5 a]
def qcq{R:L Cl}(e:c'.nm=c.nm)(h:((A++c::R).map (·.nm)).Nodup):upd (A++c::R) c'=A++c'::R:=by
 rw[Qql,Qqm,Qxm,Qzy]at h;have a:∀x∈A,x.nm≠c'.nm:=λx d=>by
  rw[e];exact h.2.2 _ (Qqv.mpr ⟨x,d,rfl⟩) _ (Qq5 ..)
 have b:∀x∈R,x.nm≠c'.nm:=λx d z=>h.2.1.1 (Qqv.mpr ⟨x,d,by rw[z,e]⟩);unfold upd;rw[Qql,Qqm,Z6 e.symm];have g:A.map (λx=>if x.nm=c'.nm then c' else x)=A:=by
  conv=>rhs; rw[<- Qx6 A]
  exact Qzr λx d=>Z5 (a x d)
 have f:R.map (λx=>if x.nm=c'.nm then c' else x)=R:=by
  conv=>rhs; rw[<- Qx6 R]
  exact Qzr λx d=>Z5 (b x d)
 rw[g,f]
noncomputable abbrev rowD(ro:L J):L D:=ro.map .int
section
variable {sz:Zt}{T d:J}{fo jo:L (D×D)}{ro:L J}{rest:Y4}{cs:L Cl}{Bq:Y0}
noncomputable abbrev FC(sz:Zt)(T d:J)(fo jo:L (D×D))(cs:L Cl)(ro:L J)(rest:Y4):Y4:=FS sz T d fo jo (qzf cs) (rowD ro) rest
def qxa(c)(a):(stW c a = "unvested"/\c.v=B/\c.gv=B/\a<=c.la)\/(stW c a = "stands"/\c.v≠B/\c.gv=B/\a<=c.la)\/(stW c a = "given"/\c.gv≠B)\/(stW c a = "fallen"/\c.la<a/\c.gv=B):=by
 unfold stW
 cases e:c.gv with
 |some x=>exact .inr (.inr (.inl ⟨rfl,by simp⟩))
 |none=>
  by_cases hl:c.la<a
  ·exact .inr (.inr (.inr ⟨by simp[hl],hl,rfl⟩))
  ·cases b:c.v with
   |none=>exact .inl ⟨by simp[hl],rfl,rfl,by lia⟩
   |some x=>exact .inr (.inl ⟨by simp[hl],by simp,rfl,by lia⟩)
noncomputable def hit(day:J)(ps:L (J×J))(c:Cl):Bool:=decide (stW c day = "unvested")&&hasB c.g ps
noncomputable def vst(day:J)(ps:L (J×J))(c:Cl):Cl:=if hit day ps c then { c with v:=Y day } else c
def qcz(m)(I:Inv Bq rest cs)(j:c∈cs)(a)(n:rowAt (FC sz T d fo jo cs ro rest) q=Y (ps.map cD))(o:ps.length<lim)(p:ro.length<1000):
  callD fns (m+3) 15 [Y2 3,Z c.nm,Z a,q] (FC sz T d fo jo cs ro rest)=Y (.non,if hit a ps c then FC sz T d fo jo cs (ro++[c.nm]) (rest.set (c.j+1) (vst a ps c).cell) else FC sz T d fo jo cs ro rest):=by
 have hs:=qqq (sz:=sz) (T:=T) (d:=d) (fo:=fo) (jo:=jo) (bo:=qzf cs) (ro:=rowD ro) (m+1) c a (I.at_ c j).2;have f:=I.get j;have i:=qim m (g:=c.g) n o;have b:=(I.at_ c j).2;have no:∀w,stW c a=w->(w = "stands"\/w = "given"\/w = "fallen")->hit a ps c=false:=λw e h=>by
  unfold hit;rw[e];rcases h with rfl|rfl|rfl<;>rfl
 rcases qxa c a with⟨e,h1,h2,r⟩|⟨e,_⟩|⟨e,_⟩|⟨e,_⟩
 ·rw[e]at hs;have hi:hit a ps c=hasB c.g ps:=by unfold hit; rw[e]; rfl
  cases k:hasB c.g ps with
  |true=>
   rw[k]at hi i;have l:vst a ps c={ c with v:=Y a }:=by unfold vst; rw[hi]; rfl
   rw[hi,Z6 rfl,l];have el:rowD (ro++[c.nm])=rowD ro++[Z c.nm]:=by simp
   unfold FC;rw[el];exact qzz 8 [9,1] 3 (λq=>_/\_/\_/\_/\_/\_/\_/\q) [.q (Y (Y2 (c.j+9))),.r c.cell,.c (sO "unvested",FC sz T d fo jo cs ro rest),.r c.cell,.c (.bl O,FC sz T d fo jo cs ro rest),.r c.cell,.b O] ⟨f,b,hs,b,i,b,Z3 (show(rowD ro).length<lim by simp; unfold lim; lia),rfl⟩
  |false=>
   rw[k]at hi i;rw[hi,Z5 (by simp)];exact qzz 8 [9,1] 3 (λq=>_/\_/\_/\_/\_/\q) [.q (Y (Y2 (c.j+9))),.r c.cell,.c (sO "unvested",FC sz T d fo jo cs ro rest),.r c.cell,.c (.bl Y6,FC sz T d fo jo cs ro rest)] ⟨f,b,hs,b,i,rfl⟩
 ·rw[no _ e (.inl rfl),Z5 (by simp)];rw[e]at hs;exact qzz 8 [9,1] 3 (λq=>_/\_/\_/\q) [.q (Y (Y2 (c.j+9))),.r c.cell,.c (sO "stands",FC sz T d fo jo cs ro rest)] ⟨f,b,hs,rfl⟩
 ·rw[no _ e (.inr (.inl rfl)),Z5 (by simp)];rw[e]at hs;exact qzz 8 [9,1] 3 (λq=>_/\_/\_/\q) [.q (Y (Y2 (c.j+9))),.r c.cell,.c (sO "given",FC sz T d fo jo cs ro rest)] ⟨f,b,hs,rfl⟩
 ·rw[no _ e (.inr (.inr rfl)),Z5 (by simp)];rw[e]at hs;exact qzz 8 [9,1] 3 (λq=>_/\_/\_/\q) [.q (Y (Y2 (c.j+9))),.r c.cell,.c (sO "fallen",FC sz T d fo jo cs ro rest)] ⟨f,b,hs,rfl⟩
def qx2{ds:L D}(P:Y0->Sl->Y4->Prop)(m:src (RL c) τ st it=Y (s,st))(l:s.size st=ds.length)(j:∀k a st',P k a st'->s.at st' k=Y ds[k]?)(n:P 0 τ st)(i:∀k a st' d,ds[k]?=Y d->P k a st'->∃b e,((setT t d a).bind λf=>(RL c).ex f st' body)=Y (.nx b,e)/\P (k+1) b e):
  ∃a st',stepEx (RL c) τ st (.forr t it body)=Y (.nx a,st')/\P ds.length a st':=by
 obtain⟨a,st',h,g⟩:=qvx P (λ_ _=>False) n l j (λk a st' d hd hp=>by
  obtain⟨b,e,h,g⟩:=i k a st' d hd hp
  exact .inl ⟨b,e,.inl h,g⟩)
 refine⟨a,st',?_,g.resolve_right id⟩;show(src (RL c) τ st it).bind _=_;rw[m];exact h
def qqz(a)(ps)(c):(vst a ps c).nm=c.nm/\(vst a ps c).j=c.j/\(vst a ps c).ds=c.ds:=by
 unfold vst;cases hit a ps c<;>exact⟨rfl,rfl,rfl⟩
noncomputable def rvF(day:J)(ps:L (J×J))(r:Y4)(c:Cl):Y4:=if hit day ps c then r.set (c.j+1) (vst day ps c).cell else r
def qi5(m)(I:Inv Bq rest cs)(a)(ps)(F:ps.length<lim)(N:ro.length+cs.length<1000):
  ∃b,(∀sz:Zt,callD fns (m+4) 16 [Y2 3,Z a,.tup (ps.map cD)] (FC sz T d fo jo cs ro rest)=Y (.non,FC sz T d fo jo (cs.map (vst a ps)) (ro++(cs.filter (hit a ps)).map (·.nm)) b))/\Inv Bq b (cs.map (vst a ps))/\b.take Bq=rest.take Bq/\b.length=rest.length:=by
 have i:∀sz:Zt,callD fns (m+4) 16 [Y2 3,Z a,.tup (ps.map cD)] (FC sz T d fo jo cs ro rest)=Y (.non,FC sz T d fo jo (cs.map (vst a ps)) (ro++(cs.filter (hit a ps)).map (·.nm)) (cs.foldl (rvF a ps) rest))/\Inv Bq (cs.foldl (rvF a ps) rest) (cs.map (vst a ps))/\(cs.foldl (rvF a ps) rest).take Bq=rest.take Bq/\(cs.foldl (rvF a ps) rest).length=rest.length:=λsz=>by
  have bk:∀A R:L Cl,qzf (A.map (vst a ps)++R)=qzf (A++R):=λA R=>by
   unfold qzf;rw[Qql,Qql,Qq6]
   congr 1
   exact Qzr λc _=>by
    show(D.int (vst a ps c).nm,D.loc ((vst a ps c).j+9))=_;rw[(qqz a ps c).1,(qqz a ps c).2.1]
  have keys:keysOf (qzf cs)=cs.map λc=>D.int c.nm:=by unfold keysOf qzf; rw[Qq6]; rfl
  have u:(RL (callD fns (m+3))).ev [Y (Y2 3),Y (Z a),Y (.tup (ps.map cD)),B] (FC sz T d fo jo cs ro rest) (.gc (.mcall 273 11 "names" (.var 0) []))=Y (.lst (cs.map λc=>D.int c.nm),FC sz T d fo jo cs ro rest):=by
   have g:=qzw (st:=FC sz T d fo jo cs ro rest) (ds:=keysOf (qzf cs)) (by rw[keys]; exact qzb λ_ _=>rfl);rw[<- keys];exact qzc 8 [] 3 (λq=>_/\q) [.l (keysOf (qzf cs))] ⟨g,rfl⟩
  obtain⟨e,st',h1,o,r',h2,C,l,p,K,n⟩:=qx2 (it:=.gc (.mcall 273 11 "names" (.var 0) [])) (ds:=cs.map λc=>D.int c.nm) (t:=.var 3) (body:=[.expr (.mcall 273 15 "vest" (.var 0) [.var 3,.var 1,.var 2])])
   (λk e st'=>∃o r',e=[Y (Y2 3),Y (Z a),Y (.tup (ps.map cD)),o]/\st'=FC sz T d fo jo ((cs.take k).map (vst a ps)++cs.drop k) (ro++((cs.take k).filter (hit a ps)).map (·.nm)) r'/\Inv Bq r' ((cs.take k).map (vst a ps)++cs.drop k)/\r'.take Bq=rest.take Bq/\r'.length=rest.length/\r'=(cs.take k).foldl (rvF a ps) rest)
   (by show((RL (callD fns (m+3))).ev _ _ _).bind _=_; rw[u]; rfl) (by simp[Src.size,seqAt]) (λk e st' h=>rfl) ⟨B,rest,rfl,by simp,by simpa using I,rfl,rfl,rfl⟩ (λk e st' x v h=>by
    obtain⟨o,r',rfl,rfl,Jq,l,p,n⟩:=h;rw[Qqw]at v;obtain⟨c,z,rfl⟩:=Qqb.mp v;have y:=(Qqj.mp z).1;have j:=(Qqj.mp z).2;have dr:cs.drop k=c::cs.drop (k+1):=by rw[Qxt y,j]
    have tk:cs.take (k+1)=cs.take k++[c]:=by rw[Qzh y,j]
    rw[dr]at Jq ⊢;have s:c∈(cs.take k).map (vst a ps)++c::cs.drop (k+1):=by simp
    have r:(ro++((cs.take k).filter (hit a ps)).map (·.nm)).length<1000:=by
     have:=Qzu (hit a ps) (cs.take k);rw[Qqh,Qqz];rw[Qzz]at this
     lia
    have w:=qcz (sz:=sz) (T:=T) (d:=d) (fo:=fo) (jo:=jo) m Jq s a (q:=.tup (ps.map cD)) rfl F r;generalize H:(if hit a ps c=O then _ else _:Y4)=E at w;refine⟨[Y (Y2 3),Y (Z a),Y (.tup (ps.map cD)),Y (Z c.nm)],E,qzy 8 [15] 3 (λq=>_/\q) [.c (.non,E)] ⟨w,rfl⟩,Y (Z c.nm),if hit a ps c then r'.set (c.j+1) (vst a ps c).cell else r',rfl,?_,?_,?_,?_,by rw[tk,Qj2,<- n]; rfl⟩
    ·rw[<- H]
     cases f:hit a ps c with
     |true=>
      have G:qzf ((cs.take (k+1)).map (vst a ps)++cs.drop (k+1))=qzf ((cs.take k).map (vst a ps)++c::cs.drop (k+1)):=by rw[bk,bk,Qjv,<- dr,Qjv]
      rw[Z6 rfl,Z6 rfl];unfold FC;rw[G,tk,Qz2,Qql];simp[f]
     |false=>
      rw[Z5 (by simp),Z5 (by simp),tk,Qql,Qz2,Qql];have:vst a ps c=c:=by unfold vst; rw[f]; rfl
      simp[f,this]
    ·rw[tk,Qql,Qzx];show Inv Bq _ (List.map (vst a ps) (cs.take k)++vst a ps c::cs.drop (k+1))
     cases f:hit a ps c with
     |true=>
      have:=Jq.cell s (qqz a ps c).1 (qqz a ps c).2.1 (qqz a ps c).2.2;rwa [qcq (qqz a ps c).1 Jq.nd]at this
     |false=>
      have:vst a ps c=c:=by unfold vst; rw[f]; rfl
      rw[this];exact Jq
    ·cases f:hit a ps c with
     |true=>
      rw[Z6 rfl,qqt (by have:=Jq.lo c s; lia)];exact l
     |false=>exact l
    ·cases f:hit a ps c with
     |true=>rw[Z6 rfl,Qzs]; exact p
     |false=>exact p)
  simp only[Qqz,Qzv,List.drop_length,Qq7]at C l n;subst h2 C;rw[<- n];exact⟨qzz 8 [] 4 (λq=>_/\q) [.s (.nx [Y (Y2 3),Y (Z a),Y (.tup (ps.map cD)),o],FC sz T d fo jo (cs.map (vst a ps)) (ro++(cs.filter (hit a ps)).map (·.nm)) r')] ⟨h1,rfl⟩,l,p,K⟩
 exact⟨_,λsz=>(i sz).1,(i ⟨.non,[],[]⟩).2⟩
end
section
variable {sz:Zt}{T d:J}{fo jo:L (D×D)}{ro:L J}{rest:Y4}{cs:L Cl}{Bq:Y0}
theorem set2{b:Ya}:∀{rest},(rest++[a,b]).set (rest.length+1) c=rest++[a,c]
 |[]=>rfl
 |x::r=>congrArg (x::·) (set2)
def bk1(e:c'.nm=c.nm)(a:c'.j=c.j):qzf (cs++[c'])=qzf (cs++[c]):=by simp[qzf,e,a]
def qwf(bo)(r)(s):(FS sz T d fo jo bo r s).length=s.length+8:=by simp[FS]
def qgy(m)(I:Inv Bq rest cs)(v:Bq<=rest.length)(dy o)(g)(n:∀bo r,rowAt (FS sz T d fo jo bo (rowD ro) (rest++r)) q=Y (ps.map cD))(p:ps.length<lim)(y:ro.length+cs.length<900)(i:∀x∈cs,x.nm≠dy)(w:thr T [dy]=a):
  callD fns (m+4) 14 [Y2 3,Z dy,Z o,rD g,q] (FC sz T d fo jo cs ro rest)=Y (.non,FC sz T d fo jo (cs++[vst dy ps ⟨dy,rest.length,o,g,[dy],a,B,B⟩]) (ro++if hit dy ps ⟨dy,rest.length,o,g,[dy],a,B,B⟩ then [dy] else []) (rest++[Y1 O [Z dy],(vst dy ps ⟨dy,rest.length,o,g,[dy],a,B,B⟩).cell]))/\
   Inv Bq (rest++[Y1 O [Z dy],(vst dy ps ⟨dy,rest.length,o,g,[dy],a,B,B⟩).cell]) (cs++[vst dy ps ⟨dy,rest.length,o,g,[dy],a,B,B⟩]):=by
 have k:=qkd (m+1) (st:=FC sz T d fo jo cs ro (rest++[Y1 O [Z dy]])) (T:=T) (q:=Yc [Z dy]) (xs:=[dy]) (by simp) (by simp) (λr=>rfl);rw[w]at k;generalize b:(⟨dy,rest.length,o,g,[dy],a,B,B⟩:Cl)=c;have c1:c.nm=dy:=by rw[<- b]
 have c2:c.j=rest.length:=by rw[<- b]
 have c3:c.dl=Y1 O [Z dy]:=by rw[<- b]; rfl
 have c4:c.cell=.obj 191 (clF o g (Y2 (rest.length+8)) a):=by rw[<- b]; rfl
 have Jq:=I.add c c2 (by rw[c1]; exact i) (by rw[<- b]; simp) v;have V:=qqz dy ps c;have f:=cinit (m+2) (FC sz T d fo jo cs ro (rest++[Y1 O [Z dy]])) o a g (Y2 (rest.length+8));have e:=qcz m Jq (c:=c) (by simp) dy (n _ _) p (by lia);have j:FS sz T d fo jo (dput (qzf cs) (Z dy) (Y2 (FC sz T d fo jo cs ro (rest++[Y1 O [Z dy]])).length)) (rowD ro) (rest++[Y1 O [Z dy]]++[.obj 191 (clF o g (Y2 (rest.length+8)) a)])=FC sz T d fo jo (cs++[c]) ro (rest++[c.dl,c.cell]):=by
  have:(FC sz T d fo jo cs ro (rest++[Y1 O [Z dy]])).length=c.j+9:=by rw[qwf,c2]; simp
  rw[this,<- c1,qa4 (by rw[c1]; exact i),c1,<- c3,<- c4];simp
 rw[c1,<- j]at e;have t:=qzw (st:=FC sz T d fo jo cs ro (rest++[Y1 O [Z dy]])) (ds:=[Z dy]) rfl;generalize u:(if hit dy ps c=O then _ else _:Y4)=l at e;have h:decide ((qzf cs).length<lim)=true:=Z3 (by unfold qzf lim; rw[Qqz]; lia);have run:callD fns (m+4) 14 [Y2 3,Z dy,Z o,rD g,q] (FC sz T d fo jo cs ro rest)=Y (.non,l):=
  qzz 8 [6,7,15] 4 (λq=>_/\_/\_/\_/\_/\q) [.l [Z dy],.c (Z a,FC sz T d fo jo cs ro (rest++[Y1 O [Z dy]])),.c (.non,FC sz T d fo jo cs ro (rest++[Y1 O [Z dy]])++[.obj 191 (clF o g (Y2 (rest.length+8)) a)]),.b O,.c (.non,l)] ⟨t,k,f,h,e,rfl⟩
 rw[run,<- u];rw[j]
 cases s:hit dy ps c with
 |true=>
  have:=Jq.cell (by simp) V.1 V.2.1 V.2.2;rw[qcq V.1 Jq.nd,c2,set2]at this;rw[c3]at this;refine⟨?_,this⟩;rw[Z6 rfl,Z6 rfl,c2,set2,c3];unfold FC;rw[bk1 V.1 V.2.1]
 |false=>
  have:vst dy ps c=c:=by unfold vst; rw[s]; rfl
  rw[this,<- c3];refine⟨?_,Jq⟩;rw[Z5 (by simp),Z5 (by simp),Qq7]
end
def over(day:J)(c:Cl):Prop:=c.gv≠B\/c.la<day
def Ow(c:Cl):Prop:=1<=c.o/\c.o<=40
inductive Op (day:J):L Cl->L J->L Cl->L J->Prop
 |same {cs ro}:Op day cs ro cs ro
 |upd {cs ro c c'} (hc:c∈cs) (hn:c'.nm=c.nm) (hv:c'.v=c.v) (hw:Ow c'):Op day cs ro (upd cs c') ro
 |vein {cs ro} (ps:L (J×J)):Op day cs ro (cs.map (vst day ps)) (ro++(cs.filter (hit day ps)).map (·.nm))
 |stake {cs ro c} (ps:L (J×J)) (hn:c.nm=day) (hv:c.v=B) (hw:Ow c):Op day cs ro (cs++[vst day ps c]) (ro++if hit day ps c then [day] else [])
 |part0 {cs ro c c' p} (hc:c∈cs) (hn:c'.nm=c.nm) (hv:c'.v=c.v) (hw:Ow c') (pw:Ow p) (pn:p.nm=day) (pv:p.v=c.v) (h:c.v=B):Op day cs ro (K39.upd cs c'++[p]) ro
 |part1 {cs ro c c' p A R} (hc:c∈cs) (hn:c'.nm=c.nm) (hv:c'.v=c.v) (hw:Ow c') (pw:Ow p) (pn:p.nm=day) (hr:ro=A++c.nm::R):Op day cs ro (K39.upd cs c'++[p]) (A++c.nm::day::R)
def ix1:idxD st (Y9 (a::b::r)) (Z 1)=Y b:=by
 show atI (a::b::r) 1=_;unfold atI ixN;rw[Z6 (by decide),Z6 (by simp; lia)]
 rfl
section
variable {sz:Zt}{T d:J}{fo jo:L (D×D)}{ro:L J}{rest:Y4}{cs:L Cl}{Bq:Y0}
def chg_no(m)(e n)(w)(r)(f:∀c∈cs,c.nm≠n):callD fns (m+1) 17 [Y2 3,Z e,Y9 (sO w::Z n::r)] (FC sz T d fo jo cs ro rest)=Y (sO "noclaim",FC sz T d fo jo cs ro rest):=
 qzz 8 [] 1 (λq=>_/\_/\q) [.i (Z n),.q B] ⟨ix1 (st:=FC sz T d fo jo cs ro rest) (a:=sO w) (b:=Z n) (r:=r),qn6 f,rfl⟩
def qhp(m)(I:Inv Bq rest cs)(f)(w)(r)(i:c∈cs)(j:over f c):callD fns (m+2) 17 [Y2 3,Z f,Y9 (sO w::Z c.nm::r)] (FC sz T d fo jo cs ro rest)=Y (sO "ended",FC sz T d fo jo cs ro rest):=by
 have hs:=qqq (sz:=sz) (T:=T) (d:=d) (fo:=fo) (jo:=jo) (bo:=qzf cs) (ro:=rowD ro) m c f (I.at_ c i).2;have h:=I.get i;have g:=(I.at_ c i).2;rcases qxa c f with⟨e,h1,h2,k⟩|⟨e,h1,h2,k⟩|⟨e,_⟩|⟨e,_⟩
 ·rcases j with z|z
  ·exact absurd h2 z
  ·lia
 ·rcases j with z|z
  ·exact absurd h2 z
  ·lia
 ·rw[e]at hs;exact qzz 8 [9] 2 (λq=>_/\_/\_/\_/\_/\q) [.i (Z c.nm),.q (Y (Y2 (c.j+9))),.q (Y (Y2 (c.j+9))),.r c.cell,.c (sO "given",FC sz T d fo jo cs ro rest)] ⟨ix1 (st:=FC sz T d fo jo cs ro rest) (a:=sO w) (b:=Z c.nm) (r:=r),h,h,g,hs,rfl⟩
 ·rw[e]at hs;exact qzz 8 [9] 2 (λq=>_/\_/\_/\_/\_/\q) [.i (Z c.nm),.q (Y (Y2 (c.j+9))),.q (Y (Y2 (c.j+9))),.r c.cell,.c (sO "fallen",FC sz T d fo jo cs ro rest)] ⟨ix1 (st:=FC sz T d fo jo cs ro rest) (a:=sO w) (b:=Z c.nm) (r:=r),h,h,g,hs,rfl⟩
def qai(b:¬ over a c):stW c a = "unvested"\/stW c a = "stands":=by
 rcases qxa c a with⟨e,_⟩|⟨e,_⟩|⟨_,e⟩|⟨_,e,_⟩
 ·exact .inl e
 ·exact .inr e
 ·exact absurd (.inl e) b
 ·exact absurd (.inr e) b
def qhr(m)(I:Inv Bq rest cs)(b)(g:c∈cs)(h:¬ over b c):callD fns (m+2) 17 [Y2 3,Z b,Y9 [sO "give",Z c.nm]] (FC sz T d fo jo cs ro rest)=Y (sO "good",FC sz T d fo jo cs ro (rest.set (c.j+1) { c with gv:=Y b:Cl }.cell)):=by
 have hs:=qqq (sz:=sz) (T:=T) (d:=d) (fo:=fo) (jo:=jo) (bo:=qzf cs) (ro:=rowD ro) m c b (I.at_ c g).2;have f:=I.get g;have a:=(I.at_ c g).2;rcases qai h with e|e
 ·rw[e]at hs;exact qzz 8 [9] 2 (λq=>_/\_/\_/\_/\_/\q) [.q (Y (Y2 (c.j+9))),.q (Y (Y2 (c.j+9))),.r c.cell,.c (sO "unvested",FC sz T d fo jo cs ro rest),.r c.cell] ⟨f,f,a,hs,a,rfl⟩
 ·rw[e]at hs;exact qzz 8 [9] 2 (λq=>_/\_/\_/\_/\_/\q) [.q (Y (Y2 (c.j+9))),.q (Y (Y2 (c.j+9))),.r c.cell,.c (sO "stands",FC sz T d fo jo cs ro rest),.r c.cell] ⟨f,f,a,hs,a,rfl⟩
def qho(m)(I:Inv Bq rest cs)(b o)(g:c∈cs)(h:¬ over b c):callD fns (m+2) 17 [Y2 3,Z b,Y9 [sO "sell",Z c.nm,Z o]] (FC sz T d fo jo cs ro rest)=Y (sO "good",FC sz T d fo jo cs ro (rest.set (c.j+1) { c with o:=o:Cl }.cell)):=by
 have hs:=qqq (sz:=sz) (T:=T) (d:=d) (fo:=fo) (jo:=jo) (bo:=qzf cs) (ro:=rowD ro) m c b (I.at_ c g).2;have f:=I.get g;have a:=(I.at_ c g).2;rcases qai h with e|e
 ·rw[e]at hs;exact qzz 8 [9] 2 (λq=>_/\_/\_/\_/\_/\q) [.q (Y (Y2 (c.j+9))),.q (Y (Y2 (c.j+9))),.r c.cell,.c (sO "unvested",FC sz T d fo jo cs ro rest),.r c.cell] ⟨f,f,a,hs,a,rfl⟩
 ·rw[e]at hs;exact qzz 8 [9] 2 (λq=>_/\_/\_/\_/\_/\q) [.q (Y (Y2 (c.j+9))),.q (Y (Y2 (c.j+9))),.r c.cell,.c (sO "stands",FC sz T d fo jo cs ro rest),.r c.cell] ⟨f,f,a,hs,a,rfl⟩
def qhn(m)(I:Inv Bq rest cs)(a)(k:c∈cs)(n:¬ over a c)(s:c.ds.length<899)(o:thr T (c.ds++[a])=h):callD fns (m+3) 17 [Y2 3,Z a,Y9 [sO "work",Z c.nm]] (FC sz T d fo jo cs ro rest)=Y (sO "good",FC sz T d fo jo cs ro ((rest.set c.j { c with ds:=c.ds++[a],la:=h:Cl }.dl).set (c.j+1) { c with ds:=c.ds++[a],la:=h:Cl }.cell)):=by
 have hs:=qqq (sz:=sz) (T:=T) (d:=d) (fo:=fo) (jo:=jo) (bo:=qzf cs) (ro:=rowD ro) (m+1) c a (I.at_ c k).2;have j:=I.get k;obtain⟨f,g⟩:=I.at_ c k;have lt:=(Qqj.mp f).1;have b:(rest.set c.j (Y1 O (c.ds.map Z++[Z a])))[c.j+1]?=Y c.cell:=by rw[Qqo (by lia)]; exact g
 have i:(c.ds.map D.int).length<lim:=by rw[Qqz]; unfold lim; lia
 have l:=qkd m (T:=T) (q:=Y2 (c.j+8)) (xs:=c.ds++[a]) (by simp) (by simp; lia) (λr=>by
  show listAt _ _=_;unfold listAt;have:(FC sz T d fo jo cs ro (rest.set c.j (Y1 O (c.ds.map Z++[Z a])))++r)[c.j+8]?=((rest.set c.j (Y1 O (c.ds.map Z++[Z a])))++r)[c.j]?:=rfl;rw[this,Qq0 (by rw[Qzs]; exact lt),Qzq lt]
  simp)
 rw[o]at l;have p:({ c with ds:=c.ds++[a],la:=h:Cl }).dl=Y1 O (c.ds.map Z++[Z a]):=by unfold Cl.dl; simp
 rw[p];rcases qai n with e|e
 ·rw[e]at hs;exact qzz 8 [9,6] 3 (λq=>_/\_/\_/\_/\_/\_/\_/\_/\_/\_/\_/\q) [.q (Y (Y2 (c.j+9))),.q (Y (Y2 (c.j+9))),.r c.cell,.c (sO "unvested",FC sz T d fo jo cs ro rest),.r c.cell,.r c.dl,.r c.dl,.b O,.r c.cell,.c (Z h,FC sz T d fo jo cs ro (rest.set c.j (Y1 O (c.ds.map Z++[Z a])))),.r c.cell] ⟨j,j,g,hs,g,f,f,Z3 i,b,l,b,rfl⟩
 ·rw[e]at hs;exact qzz 8 [9,6] 3 (λq=>_/\_/\_/\_/\_/\_/\_/\_/\_/\_/\_/\q) [.q (Y (Y2 (c.j+9))),.q (Y (Y2 (c.j+9))),.r c.cell,.c (sO "stands",FC sz T d fo jo cs ro rest),.r c.cell,.r c.dl,.r c.dl,.b O,.r c.cell,.c (Z h,FC sz T d fo jo cs ro (rest.set c.j (Y1 O (c.ds.map Z++[Z a])))),.r c.cell] ⟨j,j,g,hs,g,f,f,Z3 i,b,l,b,rfl⟩
end
section
variable {sz:Zt}{T d:J}{fo jo:L (D×D)}{ro:L J}{rest:Y4}{cs:L Cl}{Bq:Y0}
def qgp(m){c:Cl}(e:rest[c.j]?=Y c.dl)(a:rest[c.j+1]?=Y c.cell)(nm o)(g):callD fns (m+2) 8 [Y2 (c.j+9),Z o,rD g] (FC sz T d fo jo cs ro rest)=Y (Y2 (rest.length+9),FC sz T d fo jo cs ro (rest++[c.dl,(⟨nm,rest.length,o,g,c.ds,c.la,c.v,B⟩:Cl).cell])):=by
 have b:=cinit m (FC sz T d fo jo cs ro (rest++[c.dl])) o c.la g (Y2 (rest.length+8));have h1:(rest++[c.dl])[c.j+1]?=Y c.cell:=by rw[Qq0 (Qqj.mp a).1]; exact a
 have h2:(rest++[c.dl]++[Ya.obj 191 (clF o g (Y2 (rest.length+8)) c.la)])[c.j+1]?=Y c.cell:=by rw[Qq0 (Qqj.mp h1).1]; exact h1
 have f:=gl (st:=rest++[c.dl]) (c:=.obj 191 (clF o g (Y2 (rest.length+8)) c.la));refine qjc 8 [7] 2 (Y2 (FC sz T d fo jo cs ro (rest++[c.dl])).length,FC sz T d fo jo cs ro ((rest++[c.dl]++[Ya.obj 191 (clF o g (Y2 (rest.length+8)) c.la)]).set (rest++[c.dl]).length (⟨nm,rest.length,o,g,c.ds,c.la,c.v,B⟩:Cl).cell)) (λq=>_/\_/\_/\_/\_/\_/\q) [.r c.cell,.r c.dl,.r c.cell,.c (.non,FC sz T d fo jo cs ro (rest++[c.dl])++[.obj 191 (clF o g (Y2 (rest.length+8)) c.la)]),.r c.cell,.r (.obj 191 (clF o g (Y2 (rest.length+8)) c.la))] ⟨a,e,h1,b,h2,f,?_⟩;rw[sl,qwf];simp
def qdb(m)(g)(s line)(c:s=0\/s=1):(∀st:Y4,callD fns (m+2) 3 [rD g,Z s,Z line] st=Y (.non,st))\/∃a b,∀st:Y4,callD fns (m+2) 3 [rD g,Z s,Z line] st=Y (Y9 [rD a,rD b],st):=by
 rcases c with rfl|rfl
 ·by_cases h1:g.1<line
  ·by_cases h2:line<=g.2.2.1
   ·exact .inr ⟨(g.1,g.2.1,line - 1,g.2.2.2),(line,g.2.1,g.2.2.1,g.2.2.2),λst=>qzz 0 [] 2 (λq=>_/\_/\q) [.b O,.b O,.k] ⟨Z3 h1,Z3 h2,rfl⟩⟩
   ·exact .inl (λst=>qzz 0 [] 2 (λq=>_/\_/\q) [.b O,.b Y6] ⟨Z3 h1,Z4 h2,rfl⟩)
  ·exact .inl (λst=>qzz 0 [] 2 (λq=>_/\q) [.b Y6] ⟨Z4 h1,rfl⟩)
 ·by_cases h1:g.2.1<line
  ·by_cases h2:line<=g.2.2.2
   ·exact .inr ⟨(g.1,g.2.1,g.2.2.1,line - 1),(g.1,line,g.2.2.1,g.2.2.2),λst=>qzz 0 [] 2 (λq=>_/\_/\q) [.b O,.b O,.k] ⟨Z3 h1,Z3 h2,rfl⟩⟩
   ·exact .inl (λst=>qzz 0 [] 2 (λq=>_/\_/\q) [.b O,.b Y6] ⟨Z3 h1,Z4 h2,rfl⟩)
  ·exact .inl (λst=>qzz 0 [] 2 (λq=>_/\q) [.b Y6] ⟨Z4 h1,rfl⟩)
def qnl(X:L D)(y z)(Z7):(X++y::Z7).take (X.length+1)++z::(X++y::Z7).drop (X.length+1)=X++y::z::Z7:=by
 induction X with
 |nil=>rfl
 |cons x r a=>exact congrArg (x::·) a
def eqI(a b):eqT (Z a) (Z b)=(a==b):=rfl
def row_ix{R:L J}(h:n ∉ A)(st:Y4):(if flat 9 (Z n)&&flats 9 (rowD (A++n::R)) then((rowD (A++n::R)).findIdx? λy=>eqT y (Z n)).map λ(j:Y0)=>(D.int (j:J),st) else B)=Y (Z (A.length:J),st):=by
 have f:∀l:L J,flats 9 (rowD l)=true:=λl=>by
  induction l with
  |nil=>rfl
  |cons a r b=>show(flat 9 (Z a)&&flats 9 (rowD r))=O; rw[b]; rfl
 rw[f,show flat 9 (Z n)=O from rfl,Qx7,Z6 rfl];have:(rowD (A++n::R)).findIdx? (λy=>eqT y (Z n))=Y A.length:=by
  induction A with
  |nil=>show(if (n==n)=O then _ else _)=_; simp
  |cons a r b=>
   have c:(a==n)=false:=by simp only[Qqy,not_or]at h; simpa using λe=>h.1 e.symm
   show List.findIdx? _ (D.int a::rowD (r++n::R))=_;rw[Qjn];rw[eqI,c];simp only[Qzw];rw[b (λz=>h (Qqt _ z))]
   rfl
 rw[this]
 rfl
def qml(m)(I:Inv Bq rest cs)(hB:Bq<=rest.length)(day line o s)(hs:s=0\/s=1)(k:c∈cs)(hw:Ow c)(U:1<=o/\o<=40)(hr:ro.length+cs.length<900)(hn:∀x∈cs,x.nm≠day)(hv:c.v≠B->∃A R,ro=A++c.nm::R/\c.nm ∉ A):
  ∃w t E f,(∀sz:Zt,callD fns (m+3) 18 [Y2 3,Z day,Y9 [sO "part",Z c.nm,Z s,Z line,Z o]] (FC sz T d fo jo cs ro rest)=Y (sO w,FC sz T d fo jo t E f))/\Inv Bq f t/\Op day cs ro t E/\f.take Bq=rest.take Bq/\rest.length<=f.length/\(∀c∈t,∃x,x.ds.length<=c.ds.length/\c.ds.length<=x.ds.length+1/\x∈cs):=by
 have V:=I.get k;obtain⟨W,j⟩:=I.at_ c k;rcases qdb (m:=m) c.g s line hs with hp|⟨a,b,hp⟩
 ·exact⟨"nocut",cs,ro,rest,λsz=>qzz 8 [3] 3 (λq=>_/\_/\_/\q) [.q (Y (Y2 (c.j+9))),.r c.cell,.c (.non,FC sz T d fo jo cs ro rest),.k] ⟨V,j,hp (FC sz T d fo jo cs ro rest),rfl⟩,I,.same,rfl,Qqk _,λc k=>⟨c,by lia,by lia,k⟩⟩
 ·have Jq:=I.cell (c':={ c with g:=a }) k rfl rfl rfl;have lt:=(Qqj.mp j).1;have k1:(rest.set (c.j+1) ({ c with g:=a }:Cl).cell)[c.j]?=Y ({ c with g:=a }:Cl).dl:=by rw[Qqo (by lia)]; exact W
  have v:(rest.set (c.j+1) ({ c with g:=a }:Cl).cell)[c.j+1]?=Y ({ c with g:=a }:Cl).cell:=Qzq (by lia);have i:=λsz:Zt=>qgp (sz:=sz) (T:=T) (d:=d) (fo:=fo) (jo:=jo) (cs:=cs) (ro:=ro) (m:=m) (c:={ c with g:=a }) k1 v day o b;have X:=qjk (c':={ c with g:=a }) k I.nd rfl rfl;generalize n:rest.set (c.j+1) ({ c with g:=a }:Cl).cell=l at Jq k1 v i;have a0:l.length=rest.length:=by rw[<- n,Qzs]
  have Q:l.take Bq=rest.take Bq:=by rw[<- n]; exact qqt (by have:=I.lo c k; lia)
  generalize h:(⟨day,l.length,o,b,({ c with g:=a }:Cl).ds,({ c with g:=a }:Cl).la,({ c with g:=a }:Cl).v,B⟩:Cl)=p at i;have p1:p.nm=day:=by rw[<- h]
  have p2:p.j=l.length:=by rw[<- h]
  have p3:p.dl=({ c with g:=a }:Cl).dl:=by rw[<- h]; rfl
  have p4:p.v=c.v:=by rw[<- h]
  have p5:Ow p:=by rw[<- h]; exact U
  have F:∀x∈upd cs { c with g:=a },x.nm≠p.nm:=λx hx=>by
   have:x.nm∈(upd cs { c with g:=a }).map (·.nm):=Qqv.mpr ⟨x,hx,rfl⟩;rw[qyu]at this;obtain⟨y,C,e⟩:=Qqv.mp this;rw[<- e,p1];exact hn y C
  have J2:=Jq.add p p2 F (by rw[<- h]; exact I.ne c k) (by lia);rw[p3]at J2;have u:dput (qzf cs) (Z day) (Y2 (l.length+9))=qzf (upd cs { c with g:=a }++[p]):=by
   rw[<- qa4 F,X,p1,p2]
  have tk:(l++[({ c with g:=a }:Cl).dl,p.cell]).take Bq=rest.take Bq:=by rw[Qjg (by lia),Q]
  have ln:rest.length<=(l++[({ c with g:=a }:Cl).dl,p.cell]).length:=by rw[Qqh]; lia
  have P:(l++[({ c with g:=a }:Cl).dl,p.cell])[c.j+1]?=Y ({ c with g:=a }:Cl).cell:=by rw[Qq0 (by lia)]; exact v
  have N:decide ((qzf cs).length<lim)=true:=Z3 (by unfold qzf lim; rw[Qqz]; lia);have K:∀y∈upd cs { c with g:=a }++[p],∃x,x.ds.length<=y.ds.length/\y.ds.length<=x.ds.length+1/\x∈cs:=λy C=>by
   rcases Qqn.mp C with C|C
   ·obtain⟨z,hz,rfl⟩:=Qqv.mp C
    by_cases e:z.nm=({ c with g:=a }:Cl).nm
    ·rw[Z6 e]; exact⟨c,Qqk _,Qxw _,k⟩
    ·rw[Z5 e]; exact⟨z,Qqk _,Qxw _,hz⟩
   ·cases Qqa.mp C;exact⟨c,by rw[<- h]; exact Qqk _,by rw[<- h]; exact Qxw _,k⟩
  cases r:c.v with
  |none=>
   refine⟨"good",upd cs { c with g:=a }++[p],ro,l++[({ c with g:=a }:Cl).dl,p.cell],λsz=>?_,J2,.part0 k rfl rfl hw p5 p1 p4 r,tk,ln,K⟩;rw[<- n]at i v P u ⊢;unfold FC;rw[<- u];exact qzz 8 [3,8] 3 (λq=>_/\_/\_/\_/\_/\_/\_/\_/\_/\q) [.q (Y (Y2 (c.j+9))),.r c.cell,.c (Y9 [rD a,rD b],FC sz T d fo jo cs ro rest),.k,.r c.cell,.r ({ c with g:=a }:Cl).cell,.c (Y2 ((rest.set (c.j+1) ({ c with g:=a }:Cl).cell).length+9),FC sz T d fo jo cs ro (rest.set (c.j+1) ({ c with g:=a }:Cl).cell++[({ c with g:=a }:Cl).dl,p.cell])),.b O,.r ({ c with g:=a }:Cl).cell,.b Y6] ⟨V,j,hp (FC sz T d fo jo cs ro rest),j,v,i sz,N,P,nnN r,rfl⟩
  |some x=>
   obtain⟨A,R,e,hA⟩:=hv (by rw[r]; simp);refine⟨"good",upd cs { c with g:=a }++[p],A++c.nm::day::R,l++[({ c with g:=a }:Cl).dl,p.cell],λsz=>?_,J2,.part1 k rfl rfl hw p5 p1 e,tk,ln,K⟩;rw[<- n]at i v P u ⊢;have H:=row_ix (R:=R) hA (FS sz T d fo jo (dput (qzf cs) (Z day) (Y2 ((rest.set (c.j+1) ({ c with g:=a }:Cl).cell).length+9))) (rowD ro) (rest.set (c.j+1) ({ c with g:=a }:Cl).cell++[({ c with g:=a }:Cl).dl,p.cell]));rw[<- e]at H;have G:(rowD ro).length=ro.length:=by simp
   have a1:ro.length=A.length+(R.length+1):=by rw[e]; simp
   have hok:decide (0<=(A.length:J)+1/\(A.length:J)+1<=(rowD ro).length/\(rowD ro).length<lim)=true:=Z3 ⟨by lia,by rw[G]; lia,by rw[G]; unfold lim; lia⟩;have S:(rowD ro).take ((A.length:J)+1).toNat++Z day::(rowD ro).drop ((A.length:J)+1).toNat=rowD (A++c.nm::day::R):=by
    rw[show((A.length:J)+1).toNat=(rowD A).length+1 by simp,e];have:=qnl (rowD A) (Z c.nm) (Z day) (rowD R);simpa[rowD] using this
   unfold FC;rw[<- u,<- S];exact qzz 8 [3,8] 3 (λq=>_/\_/\_/\_/\_/\_/\_/\_/\_/\_/\_/\q) [.q (Y (Y2 (c.j+9))),.r c.cell,.c (Y9 [rD a,rD b],FC sz T d fo jo cs ro rest),.k,.r c.cell,.r ({ c with g:=a }:Cl).cell,.c (Y2 ((rest.set (c.j+1) ({ c with g:=a }:Cl).cell).length+9),FC sz T d fo jo cs ro (rest.set (c.j+1) ({ c with g:=a }:Cl).cell++[({ c with g:=a }:Cl).dl,p.cell])),.b O,.r ({ c with g:=a }:Cl).cell,.b O,.c (Z (A.length:J),FS sz T d fo jo (dput (qzf cs) (Z day) (Y2 ((rest.set (c.j+1) ({ c with g:=a }:Cl).cell).length+9))) (rowD ro) (rest.set (c.j+1) ({ c with g:=a }:Cl).cell++[({ c with g:=a }:Cl).dl,p.cell])),.b O] ⟨V,j,hp (FC sz T d fo jo cs ro rest),j,v,i sz,N,P,nnS r,H,hok,rfl⟩
end
structure RowI (day:J) (cs:L Cl) (ro:L J):Prop where
 in1:∀n∈ro,∃c∈cs,c.nm=n
 in2:∀c∈cs,c.v≠B->c.nm∈ro
 le:∀c∈cs,c.nm<=day
 ow:∀c∈cs,Ow c
noncomputable def voD(vs:L (J×D×L (J×J))):L (D×D):=vs.map λv=>(.int v.1,.tup [v.2.1,.tup (v.2.2.map cD)])
section
variable {sz:Zt}{T d:J}{fo jo:L (D×D)}{ro:L J}{rest:Y4}{cs:L Cl}{Bq:Y0}
def qic(h:Op b cs ro cs' i):(∀c∈cs',(∃x∈cs,x.nm=c.nm)\/c.nm=b)/\cs'.length<=cs.length+1/\i.length+cs.length<=ro.length+cs'.length+cs.length:=by
 have g:∀(cs:L Cl) f,(upd cs f).length=cs.length:=λcs f=>by unfold upd; simp
 have un:∀(cs:L Cl) f,∀c∈upd cs f,∃x∈cs,x.nm=c.nm:=λcs f c e=>by
  have:c.nm∈(upd cs f).map (·.nm):=Qqv.mpr ⟨c,e,rfl⟩;rw[qyu]at this;exact Qqv.mp this
 cases h with
 |same=>exact⟨λc e=>.inl ⟨c,e,rfl⟩,by lia,by lia⟩
 |upd e hn k j=>exact⟨λc e=>.inl (un _ _ c e),by rw[g]; lia,by rw[g]; lia⟩
 |vein ps=>
  refine⟨λc e=>?_,by simp,?_⟩
  ·obtain⟨x,a,rfl⟩:=Qqv.mp e;exact .inl ⟨x,a,(qqz b ps x).1.symm⟩
  ·have:=Qzu (hit b ps) cs;simp
   lia
 |@stake c ps hn k j=>
  refine⟨λx a=>?_,by simp,?_⟩
  ·rcases Qqn.mp a with a|a
   ·exact .inl ⟨x,a,rfl⟩
   ·cases Qqa.mp a;exact .inr ((qqz b ps c).1.trans hn)
  ·split<;>simp<;>lia
 |@part0 c f p e hn k j pw pn m h=>
  refine⟨λx a=>?_,by simp[g],by simp[g]<;>lia⟩;rcases Qqn.mp a with a|a
  ·exact .inl (un _ _ x a)
  ·cases Qqa.mp a; exact .inr pn
 |@part1 c f p A R e hn k j pw pn l=>
  subst l;refine⟨λx a=>?_,by simp[g],by simp[g]; lia⟩;rcases Qqn.mp a with a|a
  ·exact .inl (un _ _ x a)
  ·cases Qqa.mp a; exact .inr pn
inductive CF':D->Prop
 |work (n:J):CF' (.tup [sO "work",.int n])
 |give (n:J):CF' (.tup [sO "give",.int n])
 |sell (n o:J) (ho:1<=o/\o<=40):CF' (.tup [sO "sell",.int n,.int o])
 |part (n s l o:J) (hs:s=0\/s=1) (ho:1<=o/\o<=40):CF' (.tup [sO "part",.int n,.int s,.int l,.int o])
def qa0(cs:L Cl)(n):(∀c∈cs,c.nm≠n)\/∃c∈cs,c.nm=n:=by
 by_cases h:∃c∈cs,c.nm=n
 ·exact .inr h
 ·exact .inl λc a e=>h ⟨c,a,e⟩
theorem qwz:∀{l:L J},n∈l->∃A R,l=A++n::R/\n ∉ A
 |a::r,h=>by
  by_cases e:a=n
  ·exact⟨[],r,by rw[e]; rfl,by simp⟩
  ·rcases Qqy.mp h with z|z
   ·exact absurd z.symm e
   ·obtain⟨A,R,rfl,b⟩:=qwz z;exact⟨a::A,R,rfl,by simp only[Qqy,not_or]; exact⟨λq=>e q.symm,b⟩⟩
def qe7(m)(I:Inv Bq rest cs)(V:Bq<=rest.length)(u b)(hd:u<b)(S:ro.length+cs.length<900)(H:∀c∈cs,c.ds.length<899)(Rw:RowI u cs ro)(U:CF' f):
  ∃w i j a,(∀sz:Zt,callD fns (m+4) 17 [Y2 3,Z b,f] (FC sz T d fo jo cs ro rest)=Y (sO w,FC sz T d fo jo i j a))/\Inv Bq a i/\Op b cs ro i j/\a.take Bq=rest.take Bq/\rest.length<=a.length/\(∀c∈i,∃x,x.ds.length<=c.ds.length/\c.ds.length<=x.ds.length+1/\(x∈cs)):=by
 have self:∀c∈cs,∃x,x.ds.length<=c.ds.length/\c.ds.length<=x.ds.length+1/\x∈cs:=λc g=>⟨c,by lia,by lia,g⟩
 have p:∀{c C:Cl},c∈cs->c.ds.length<=C.ds.length->C.ds.length<=c.ds.length+1->∀y∈upd cs C,∃x,x.ds.length<=y.ds.length/\y.ds.length<=x.ds.length+1/\x∈cs:=λ{c C} g h1 h2 y P=>by
  obtain⟨z,N,rfl⟩:=Qqv.mp P
  by_cases e:z.nm=C.nm
  ·rw[Z6 e]; exact⟨c,h1,h2,g⟩
  ·rw[Z5 e]; exact self z N
 have no:∀n w r,(∀c∈cs,c.nm≠n)->∃G i j a,(∀sz:Zt,callD fns (m+4) 17 [Y2 3,Z b,Y9 (sO w::Z n::r)] (FC sz T d fo jo cs ro rest)=Y (sO G,FC sz T d fo jo i j a))/\Inv Bq a i/\Op b cs ro i j/\a.take Bq=rest.take Bq/\rest.length<=a.length/\(∀c∈i,∃x,x.ds.length<=c.ds.length/\c.ds.length<=x.ds.length+1/\(x∈cs)):=λn w r h=>
  ⟨"noclaim",cs,ro,rest,λ_=>chg_no (m+3) b n w r h,I,.same,rfl,Qqk _,self⟩
 have E:∀c w r,c∈cs->over b c->∃G i j a,(∀sz:Zt,callD fns (m+4) 17 [Y2 3,Z b,Y9 (sO w::Z c.nm::r)] (FC sz T d fo jo cs ro rest)=Y (sO G,FC sz T d fo jo i j a))/\Inv Bq a i/\Op b cs ro i j/\a.take Bq=rest.take Bq/\rest.length<=a.length/\(∀c∈i,∃x,x.ds.length<=c.ds.length/\c.ds.length<=x.ds.length+1/\(x∈cs)):=λc w r h k=>
  ⟨"ended",cs,ro,rest,λ_=>qhp (m+2) I b w r h k,I,.same,rfl,Qqk _,self⟩
 cases U with
 |work n=>
  rcases qa0 cs n with h|⟨c,g,rfl⟩
  ·exact no n _ _ h
  ·by_cases k:over b c
   ·exact E c _ _ g k
   ·have h:=λsz:Zt=>qhn (sz:=sz) (T:=T) (d:=d) (fo:=fo) (jo:=jo) (ro:=ro) (m+1) I b g k (H c g) rfl;generalize thr T (c.ds++[b])=K at h;refine⟨"good",upd cs { c with ds:=c.ds++[b],la:=K },ro,_,?_,I.put g rfl rfl ⟨by simp,by have:=H c g; simp; lia⟩,.upd g rfl rfl (Rw.ow c g),?_,?_,p g (by simp) (by simp)⟩
    ·intro sz;unfold FC;rw[qjk (c':={ c with ds:=c.ds++[b],la:=K }) g I.nd rfl rfl];exact h sz
    ·rw[qqt (by have:=I.lo c g; lia),qqt (I.lo c g)]
    ·simp
 |give n=>
  rcases qa0 cs n with h|⟨c,g,rfl⟩
  ·exact no n _ _ h
  ·by_cases k:over b c
   ·exact E c _ _ g k
   ·refine⟨"good",upd cs { c with gv:=Y b },ro,_,?_,I.cell g rfl rfl rfl,.upd g rfl rfl (Rw.ow c g),qqt (by have:=I.lo c g; lia),by simp,p g (Qqk _) (by simp)⟩;intro sz;unfold FC;rw[qjk (c':={ c with gv:=Y b }) g I.nd rfl rfl];exact qhr (m+2) I b g k
 |sell n o v=>
  rcases qa0 cs n with h|⟨c,g,rfl⟩
  ·exact no n _ _ h
  ·by_cases k:over b c
   ·exact E c _ _ g k
   ·refine⟨"good",upd cs { c with o:=o },ro,_,?_,I.cell g rfl rfl rfl,.upd g rfl rfl v,qqt (by have:=I.lo c g; lia),by simp,p g (Qqk _) (by simp)⟩;intro sz;unfold FC;rw[qjk (c':={ c with o:=o }) g I.nd rfl rfl];exact qho (m+2) I b o g k
 |part n s l o hs v=>
  rcases qa0 cs n with h|⟨c,g,rfl⟩
  ·exact no n _ _ h
  ·by_cases k:over b c
   ·exact E c _ _ g k
   ·obtain⟨w,i,j,a,h1,h2,h3,h4,X,W⟩:=qml (T:=T) (d:=d) (fo:=fo) (jo:=jo) m I V b l o s hs g (Rw.ow c g) v S (λx Q e=>by have:=Rw.le x Q; lia) (λR=>qwz (Rw.in2 c g R));have F:=I.get g;have A:=(I.at_ c g).2;refine⟨w,i,j,a,λsz=>?_,h2,h3,h4,X,W⟩;have h1:=h1 sz;have t:=qqq (sz:=sz) (T:=T) (d:=d) (fo:=fo) (jo:=jo) (bo:=qzf cs) (ro:=rowD ro) (m+2) c b A;rcases qai k with e|e
    ·rw[e]at t;exact qzz 8 [9,18] 4 (λq=>_/\_/\_/\_/\_/\q) [.q (Y (Y2 (c.j+9))),.q (Y (Y2 (c.j+9))),.r c.cell,.c (sO "unvested",FC sz T d fo jo cs ro rest),.c (sO w,FC sz T d fo jo i j a)] ⟨F,F,A,t,h1,rfl⟩
    ·rw[e]at t;exact qzz 8 [9,18] 4 (λq=>_/\_/\_/\_/\_/\q) [.q (Y (Y2 (c.j+9))),.q (Y (Y2 (c.j+9))),.r c.cell,.c (sO "stands",FC sz T d fo jo cs ro rest),.c (sO w,FC sz T d fo jo i j a)] ⟨F,F,A,t,h1,rfl⟩
end
section
variable {sz:Zt}{T d:J}{fo jo:L (D×D)}{ro:L J}{rest:Y4}{cs:L Cl}{Bq:Y0}
def day_ok(m)(st)(a)(c:1<=a)(b:a<=400):callD fns (m+2) 43 [Z a] st=Y (.non,st):=
 qzz 0 [] 2 (λq=>_/\_/\q) [.b O,.b O] ⟨Z3 c,Z3 b,rfl⟩
def qq2(m){S:Y4}(g:1<=a)(e:a<=400)(hd:d<a)(b:callD fns (m+6) 27 [sz.s,f] (FC sz T d fo jo cs ro rest)=Y (.bl O,FC sz T d fo jo cs ro rest))(c:callD fns (m+6) 46 [Y2 0,f] (FC sz T a fo jo cs ro rest)=Y (v,S)):
  callD fns (m+7) 45 [Y2 0,Z a,f] (FC sz T d fo jo cs ro rest)=Y (v,S):=
 qzz 8 [43,27,46] 7 (λq=>_/\_/\_/\_/\q) [.c (.non,FC sz T d fo jo cs ro rest),.c (.bl O,FC sz T d fo jo cs ro rest),.b Y6,.c (v,S)] ⟨day_ok (m+4) (FC sz T d fo jo cs ro rest) a g e,b,Z4 (show ¬ a<=d by lia),c,rfl⟩
def qfn(m){S:Y4}(a:CF' f)(h:callD fns (m+4) 17 [Y2 3,Z d,f] (FC sz T d fo jo cs ro rest)=Y (v,S)):callD fns (m+5) 46 [Y2 0,f] (FC sz T d fo jo cs ro rest)=Y (v,S):=by
 cases a with
 |work n=>exact qzz 8 [17] 5 (λq=>_/\q) [.c (v,S)] ⟨h,rfl⟩
 |give n=>exact qzz 8 [17] 5 (λq=>_/\q) [.c (v,S)] ⟨h,rfl⟩
 |sell n o _=>exact qzz 8 [17] 5 (λq=>_/\q) [.c (v,S)] ⟨h,rfl⟩
 |part n s l o hs _=>exact qzz 8 [17] 5 (λq=>_/\q) [.c (v,S)] ⟨h,rfl⟩
def qhu(m)(a b f)(h:jo.length<1000):∃w c,(∀sz:Zt,callD fns (m+2) 46 [Y2 0,Y9 [sO "join",Z a,Z b,Z f]] (FC sz T d fo jo cs ro rest)=Y (sO w,FC sz T d fo c cs ro rest))/\c.length<=jo.length+1/\(c=jo\/(b<a/\(dget fo (Z b)).isSome/\c=dput jo (Z a) (Y9 [Z b,Z f]))):=by
 have hl:decide (jo.length<lim)=true:=Z3 (by unfold lim; lia);have dl:∀v,(dput jo (Z a) v).length<=jo.length+1:=λv=>by unfold dput; split<;>simp
 cases h1:dget fo (Z a) with
 |none=>exact⟨"novein",jo,λsz=>qzz 8 [] 2 (λq=>_/\q) [.q B] ⟨h1,rfl⟩,by lia,.inl rfl⟩
 |some x=>
  cases h2:dget fo (Z b) with
  |none=>exact⟨"novein",jo,λsz=>qzz 8 [] 2 (λq=>_/\_/\q) [.q (Y x),.q B] ⟨h1,h2,rfl⟩,by lia,.inl rfl⟩
  |some y=>
   by_cases e:a<=b
   ·exact⟨"order",jo,λsz=>qzz 8 [] 2 (λq=>_/\_/\_/\q) [.q (Y x),.q (Y y),.b O] ⟨h1,h2,Z3 e,rfl⟩,by lia,.inl rfl⟩
   ·cases g:dget jo (Z a) with
    |some z=>exact⟨"joined",jo,λsz=>qzz 8 [] 2 (λq=>_/\_/\_/\_/\q) [.q (Y x),.q (Y y),.b Y6,.q (Y z)] ⟨h1,h2,Z4 e,g,rfl⟩,by lia,.inl rfl⟩
    |none=>exact⟨"good",dput jo (Z a) (Y9 [Z b,Z f]),λsz=>qzz 8 [] 2 (λq=>_/\_/\_/\_/\_/\q) [.q (Y x),.q (Y y),.b Y6,.q B,.b O] ⟨h1,h2,Z4 e,g,hl,rfl⟩,dl _,.inr ⟨by lia,rfl,rfl⟩⟩
def qkr(h:∀p∈kvs,eqT p.1 (Z n)=Y6):dput kvs (Z n) v=kvs++[(Z n,v)]:=by
 unfold dput;have:kvs.any (λp=>eqT p.1 (Z n))=false:=by
  rw[Qjp];intro p hp;rw[h p hp];simp
 rw[this];simp
def qfu(h:∀v∈vs,v.1≠n)(s)(ps):dput (voD vs) (Z n) (Y9 [s,Y9 (ps.map cD)])=voD (vs++[(n,s,ps)]):=by
 rw[qkr λp hp=>?_]
 ·simp[voD]
 ·obtain⟨v,a,rfl⟩:=Qqv.mp hp;show(v.1==n)=Y6;simpa using h v a
def qht(m)(I:Inv Bq rest cs)(s)(ps)(vs)(c:∀v∈vs,v.1≠d)(b:vs.length<1000)(i:ps.length<1000)(e:ro.length+cs.length<1000):
  ∃a,(∀sz:Zt,callD fns (m+6) 46 [Y2 0,Y9 [sO "vein",s,Y9 (ps.map cD)]] (FC sz T d (voD vs) jo cs ro rest)=Y (sO "good",FC sz T d (voD (vs++[(d,s,ps)])) jo (cs.map (vst d ps)) (ro++(cs.filter (hit d ps)).map (·.nm)) a))/\Inv Bq a (cs.map (vst d ps))/\a.take Bq=rest.take Bq/\a.length=rest.length:=by
 obtain⟨a,h1,h2,h,g⟩:=qi5 (T:=T) (d:=d) (fo:=voD (vs++[(d,s,ps)])) (jo:=jo) m I d ps (by unfold lim; lia) e;refine⟨a,λsz=>?_,h2,h,g⟩;have h1:=h1 sz;have f:decide ((voD vs).length<lim)=true:=Z3 (by unfold voD lim; rw[Qqz]; lia);rw[<- qfu c]at h1 ⊢;exact qzz 8 [16] 6 (λq=>_/\_/\q) [.b O,.c (.non,FC sz T d (dput (voD vs) (Z d) (Y9 [s,Y9 (ps.map cD)])) jo (cs.map (vst d ps)) (ro++(cs.filter (hit d ps)).map (·.nm)) a)] ⟨f,h1,rfl⟩
end
section
variable {sz:Zt}{T d:J}{jo:L (D×D)}{ro:L J}{rest:Y4}{cs:L Cl}{Bq:Y0}
noncomputable def FSf(sz:Zt)(T d:J)(fo jo bo:L (D×D))(ro:L D)(rest:Y4):Y4:=
 .obj 642 [("extent",sz.s),("year",.int T),("day",.int d),("found",.loc 1),("joints",.loc 2),("staked",.loc 3),("dug",.loc 6),("debts",.loc 7)]::.dic Y6 fo::.dic O jo::.obj 273 [("year",.int T),("book",.loc 4),("row",.loc 5)]::.dic O bo::.lst O ro::.tdc O sz.dg::.lst O sz.es::rest
theorem qyr:∀{vs}{v},v∈vs->(vs.map (·.1)).Nodup->dget (voD vs) (Z v.1)=Y (Y9 [v.2.1,Y9 (v.2.2.map cD)])
 |a::r,v,h,hn=>by
  unfold dget voD;rw[Qqm,Qza];show Option.map _ (match (a.1==v.1) with|true=>_|false=>_)=_;rw[Qqm,Qzy]at hn;rcases Qqy.mp h with rfl|h'
  ·simp
  ·have e:(a.1==v.1)=false:=by
    rw[beq_eq_false_iff_ne];exact λe=>hn.1 (Qqv.mpr ⟨v,h',e.symm⟩)
   rw[e];exact qyr h' hn.2
def qfl(m)(I:Inv Bq rest cs)(X:Bq<=rest.length)(o)(F:1<=o/\o<=40)(g:J×J×J×J)(vs)(C:(vs.map (·.1)).Nodup)(Q:vs.length<1000)(n:∀v∈vs,v.2.2.length<=16)(R:ro.length+cs.length<900)(S:∀x∈cs,x.nm≠d):
  ∃e i b,(∀sz:Zt,callD fns (m+6) 46 [Y2 0,.tup [sO "stake",Z o,Z g.1,Z g.2.1,Z g.2.2.1,Z g.2.2.2]] (FC sz T d (voD vs) jo cs ro rest)=Y (sO "good",FC sz T d (voD vs) jo e i b))/\Inv Bq b e/\Op d cs ro e i/\b.take Bq=rest.take Bq/\rest.length<=b.length/\(∀c∈e,c∈cs\/c.ds.length=1):=by
 have keys:keysOf (voD vs)=vs.map λv=>D.int v.1:=by unfold keysOf voD; rw[Qq6]; rfl
 have z:∀k,((vs.take k).flatMap (·.2.2)).length<=16*k:=λk=>by
  rw[List.length_flatMap];have:∀l:L (J×D×L (J×J)),(∀v∈l,v.2.2.length<=16)->(l.map λv=>v.2.2.length).sum<=16*l.length:=λl=>by
   induction l with
   |nil=>intro _; simp
   |cons a r P=>
    intro h;have h1:=h a (Qq5 ..);have h2:=P λv p=>h v (Qqt _ p);simp only[Qqm,List.sum_cons,Qqi]
    lia
  have h:=this (vs.take k) λv p=>n v (List.mem_of_mem_take p);have:(vs.take k).length<=k:=by rw[Qzz]; lia
  lia
 obtain⟨ps,u⟩:∃ps,vs.flatMap (·.2.2)=ps:=⟨_,rfl⟩
 have E:ps.length<lim:=by
  have:=z vs.length;rw[Qzv,u]at this;unfold lim
  lia
 have all:∀sz:Zt,callD fns (m+6) 46 [Y2 0,.tup [sO "stake",Z o,Z g.1,Z g.2.1,Z g.2.2.1,Z g.2.2.2]] (FC sz T d (voD vs) jo cs ro rest)=Y (sO "good",FC sz T d (voD vs) jo (cs++[vst d ps ⟨d,(rest++[Ya.lst O (ps.map cD)]).length,o,g,[d],thr T [d],B,B⟩]) (ro++if hit d ps ⟨d,(rest++[Ya.lst O (ps.map cD)]).length,o,g,[d],thr T [d],B,B⟩ then [d] else []) (rest++[Y1 O (ps.map cD)]++[Y1 O [Z d],(vst d ps ⟨d,(rest++[Ya.lst O (ps.map cD)]).length,o,g,[d],thr T [d],B,B⟩).cell]))/\Inv Bq (rest++[Y1 O (ps.map cD)]++[Y1 O [Z d],(vst d ps ⟨d,(rest++[Ya.lst O (ps.map cD)]).length,o,g,[d],thr T [d],B,B⟩).cell]) (cs++[vst d ps ⟨d,(rest++[Ya.lst O (ps.map cD)]).length,o,g,[d],thr T [d],B,B⟩]):=λsz=>by
  obtain⟨j,st',h1,h2⟩:=qvx (f:=λτ st x=>(setT (.var 3) x τ).bind λj=>(RL (callD fns (m+4))).ex j st [.expr (.meth (.var 2) .extend [.idx (.didx (.attr 642 (.var 0) "found") (.var 3)) (.lit (Z 1))])]) (s:=.tup (keysOf (voD vs))) (ds:=vs.map λv=>D.int v.1) (st:=FSf sz T d (voD vs) jo (qzf cs) (rowD ro) (rest++[Y1 O []]))
   (λk j st'=>∃x,j=[Y (Y2 0),Y (.tup [sO "stake",Z o,Z g.1,Z g.2.1,Z g.2.2.1,Z g.2.2.2]),Y (Y2 (rest.length+8)),x]/\st'=FSf sz T d (voD vs) jo (qzf cs) (rowD ro) (rest++[Y1 O (((vs.take k).flatMap (·.2.2)).map cD)])) (λ_ _=>False)
   ⟨B,rfl,by simp⟩ (by simp[Src.size,keys]) (λk j st' _=>by rw[keys]; rfl) (λk j st' x K h=>by
    obtain⟨y,rfl,rfl⟩:=h;rw[Qqw]at K;obtain⟨v,p,rfl⟩:=Qqb.mp K;have U:=(Qqj.mp p).1;have G:=(Qqj.mp p).2;have tk:vs.take (k+1)=vs.take k++[v]:=by rw[Qzh U,G]
    have V:=qyr (Qqf p) C;have N:=gl (st:=rest) (c:=Y1 O (((vs.take k).flatMap (·.2.2)).map cD))
    have W:decide ((((vs.take k).flatMap (·.2.2)).map cD).length+(v.2.2.map cD).length<=lim)=true:=Z3 (by
     have:=z k;have:=n v (Qqf p);rw[Qqz,Qqz];unfold lim
     lia)
    refine .inl ⟨[Y (Y2 0),Y (.tup [sO "stake",Z o,Z g.1,Z g.2.1,Z g.2.2.1,Z g.2.2.2]),Y (Y2 (rest.length+8)),Y (Z v.1)],FSf sz T d (voD vs) jo (qzf cs) (rowD ro) ((rest++[Ya.lst O (((vs.take k).flatMap (·.2.2)).map cD)]).set rest.length (Y1 O (((vs.take k).flatMap (·.2.2)).map cD++v.2.2.map cD))),.inl (qzy 8 [] 4 (λq=>_/\_/\_/\_/\q) [.r (Y1 O (((vs.take k).flatMap (·.2.2)).map cD)),.q (Y (.tup [v.2.1,.tup (v.2.2.map cD)])),.r (Y1 O (((vs.take k).flatMap (·.2.2)).map cD)),.b O] ⟨N,V,N,W,rfl⟩),Y (Z v.1),rfl,?_⟩;rw[sl,tk]
    simp)
  obtain⟨x,rfl,rfl⟩:=h2.resolve_right id;rw[Qqz,Qzv]at h1;rw[u]at h1;have t:stepEx (RL (callD fns (m+4))) [Y (Y2 0),Y (.tup [sO "stake",Z o,Z g.1,Z g.2.1,Z g.2.2.1,Z g.2.2.2]),Y (Y2 (rest.length+8)),B] (FC sz T d (voD vs) jo cs ro (rest++[Y1 O []])) (.ford (.var 3) (.attr 642 (.var 0) "found") [.expr (.meth (.var 2) .extend [.idx (.didx (.attr 642 (.var 0) "found") (.var 3)) (.lit (Z 1))])])=Y (.nx [Y (Y2 0),Y (.tup [sO "stake",Z o,Z g.1,Z g.2.1,Z g.2.2.1,Z g.2.2.2]),Y (Y2 (rest.length+8)),x],FC sz T d (voD vs) jo cs ro (rest++[Y1 O (ps.map cD)])):=by
   have ea:(RL (callD fns (m+4))).ev [Y (Y2 0),Y (.tup [sO "stake",Z o,Z g.1,Z g.2.1,Z g.2.2.1,Z g.2.2.2]),Y (Y2 (rest.length+8)),B] (FC sz T d (voD vs) jo cs ro (rest++[Y1 O []])) (.attr 642 (.var 0) "found")=Y (Y2 1,FC sz T d (voD vs) jo cs ro (rest++[Y1 O []])):=qzc 8 [] 4 (λq=>q) [] rfl;show((RL (callD fns (m+4))).ev _ _ _).bind _=_;rw[ea];show((loop (.tup (keysOf (voD vs))) _ ((voD vs).length+1) 0 _ (FSf sz T d (voD vs) jo (qzf cs) (rowD ro) (rest++[Y1 O []]))).bind _)=_;have:(voD vs).length+1=(Src.tup (keysOf (voD vs))).size (FSf sz T d (voD vs) jo (qzf cs) (rowD ro) (rest++[Y1 O []]))+1:=by simp[Src.size,keysOf]
   rw[this,h1]
   rfl
  have ⟨H,h4⟩:=qgy (sz:=sz) (T:=T) (d:=d) (fo:=voD vs) (jo:=jo) (ro:=ro) m (I.more [Y1 O (ps.map cD)]) (by simp; lia) d o g (q:=Y2 (rest.length+8)) (λbo r=>by
   show listAt _ _=_;unfold listAt;have:(FS sz T d (voD vs) jo bo (rowD ro) (rest++[Y1 O (ps.map cD)]++r))[rest.length+8]?=(rest++[Ya.lst O (ps.map cD)]++r)[rest.length]?:=rfl;rw[this]
   simp) E R S rfl
  have A:∀e i b,callD fns (m+4) 14 [Y2 3,Z d,Z o,rD g,Y2 (rest.length+8)] (FC sz T d (voD vs) jo cs ro (rest++[Y1 O (ps.map cD)]))=Y (.non,FC sz T d (voD vs) jo e i b)->callD fns (m+6) 46 [Y2 0,.tup [sO "stake",Z o,Z g.1,Z g.2.1,Z g.2.2.1,Z g.2.2.2]] (FC sz T d (voD vs) jo cs ro rest)=Y (sO "good",FC sz T d (voD vs) jo e i b):=λe i b H=>
   qzz 8 [14] 6 (λq=>_/\_/\q) [.s (.nx [Y (Y2 0),Y (.tup [sO "stake",Z o,Z g.1,Z g.2.1,Z g.2.2.1,Z g.2.2.2]),Y (Y2 (rest.length+8)),x],FC sz T d (voD vs) jo cs ro (rest++[Y1 O (ps.map cD)])),.c (.non,FC sz T d (voD vs) jo e i b)] ⟨t,H,rfl⟩
  exact⟨A _ _ _ H,h4⟩
 refine⟨_,_,_,λsz=>(all sz).1,(all ⟨.non,[],[]⟩).2,.stake ps rfl rfl F,?_,?_,?_⟩
 ·rw[Qzx,Qjg X]
 ·simp
 ·intro c w;rcases Qqn.mp w with w|w
  ·exact .inl w
  ·cases Qqa.mp w;rw[(qqz _ _ _).2.2];exact .inr rfl
end
noncomputable def stB(cs:L Cl)(day:J)(n:J):Bool:=match cs.find? λc=>c.nm==n with
 |some c=>decide (stW c day = "stands")
 |none=>Y6
section
variable {sz:Zt}{T d:J}{fo jo:L (D×D)}{ro:L J}{rest:Y4}{cs:L Cl}{Bq:Y0}
def stB_of(g:(cs.map (·.nm)).Nodup)(h:c∈cs)(f):stB cs f c.nm=decide (stW c f = "stands"):=by
 have:cs.find? (λx=>x.nm==c.nm)=Y c:=by
  induction cs with
  |nil=>cases h
  |cons a r i=>
   rw[Qqm,Qzy]at g;rw[Qza];rcases Qqy.mp h with rfl|b
   ·simp
   ·have e:(a.nm==c.nm)=false:=by
     rw[beq_eq_false_iff_ne];exact λe=>g.1 (Qqv.mpr ⟨c,b,e.symm⟩)
    rw[e];exact i g.2 b
 unfold stB;rw[this]
def qy7(m)(I:Inv Bq rest cs)(j:∀n∈ro,∃c∈cs,c.nm=n)(o:ro.length<1000):callD fns (m+3) 64 [Y2 0] (FC sz T d fo jo cs ro rest)=Y (Y2 (FC sz T d fo jo cs ro rest).length,FC sz T d fo jo cs ro rest++[Y1 O (rowD (ro.filter (stB cs d)))]):=by
 have k:(RL (callD fns (m+1))).ev [Y (Y2 3),Y (Z d)] (FC sz T d fo jo cs ro rest) (.attr 273 (Yd 0) "row")=Y (Y2 5,FC sz T d fo jo cs ro rest):=qzc 8 [] 1 (λq=>q) [] rfl;have h:=qyn (it:=.attr 273 (Yd 0) "row") (elt:=Yd 0) (c:=.cmp .Eq (.mcall 191 9 "state" (.didx (.attr 273 (Yd 2) "book") (Yd 0)) [Yd 1]) (.lit (sO "stands"))) (sr:=[B,Y 1,Y 0]) (p:=λx=>match x with|Z n=>stB cs d n|_=>Y6) id
  (by show((RL (callD fns (m+1))).ev _ _ _).bind _=_; rw[k]; rfl) (λi=>rfl) rfl rfl (by simp; unfold lim; lia)
  (λi x l=>by
   rw[Qqw]at l;obtain⟨n,hn,rfl⟩:=Qqb.mp l;obtain⟨c,g,rfl⟩:=j n (Qqf hn);have a:=qqq (sz:=sz) (T:=T) (d:=d) (fo:=fo) (jo:=jo) (bo:=qzf cs) (ro:=rowD ro) m c d (I.at_ c g).2;have f:=I.get g;have b:=(I.at_ c g).2;show _=Y (stB cs d c.nm,_);rw[stB_of I.nd g];rcases qxa c d with⟨e,_⟩|⟨e,_⟩|⟨e,_⟩|⟨e,_⟩<;>rw[e]at a ⊢
   ·exact qzh 8 [9] 1 (λq=>_/\_/\_/\q) [.q (Y (Y2 (c.j+9))),.r c.cell,.c (sO "unvested",FC sz T d fo jo cs ro rest)] ⟨f,b,a,rfl⟩
   ·exact qzh 8 [9] 1 (λq=>_/\_/\_/\q) [.q (Y (Y2 (c.j+9))),.r c.cell,.c (sO "stands",FC sz T d fo jo cs ro rest)] ⟨f,b,a,rfl⟩
   ·exact qzh 8 [9] 1 (λq=>_/\_/\_/\q) [.q (Y (Y2 (c.j+9))),.r c.cell,.c (sO "given",FC sz T d fo jo cs ro rest)] ⟨f,b,a,rfl⟩
   ·exact qzh 8 [9] 1 (λq=>_/\_/\_/\q) [.q (Y (Y2 (c.j+9))),.r c.cell,.c (sO "fallen",FC sz T d fo jo cs ro rest)] ⟨f,b,a,rfl⟩)
  (λi x _ _=>qqm _ _ _ _ _ rfl)
 have e:((rowD ro).filter λx=>match x with|Z n=>stB cs d n|_=>Y6).map id=rowD (ro.filter (stB cs d)):=by
  rw[Qx6];unfold rowD;rw[List.filter_map]
  rfl
 rw[e]at h;exact qzz 8 [] 3 (λq=>_/\q) [.c (Y2 (FC sz T d fo jo cs ro rest).length,FC sz T d fo jo cs ro rest++[Y1 O (rowD (ro.filter (stB cs d)))])] ⟨h,rfl⟩
def qjb(m)(I:Inv Bq rest cs)(e:c∈cs):callD fns (m+2) 61 [Y2 0,Z c.nm] (FC sz T d fo jo cs ro rest)=Y (Y9 [Z c.o,rD c.g,Z c.la,oD c.v,oD c.gv],FC sz T d fo jo cs ro rest):=by
 have b:=I.get e;have a:=(I.at_ c e).2;exact qzz 8 [] 2 (λq=>_/\_/\_/\_/\_/\_/\_/\q) [.q (Y (Y2 (c.j+9))),.q (Y (Y2 (c.j+9))),.r c.cell,.r c.cell,.r c.cell,.r c.cell,.r c.cell] ⟨b,b,a,a,a,a,a,rfl⟩
end
def qn3{cs a:L Cl}(e:a.map (·.nm)=cs.map (·.nm))(h:∃c∈cs,c.nm=n):∃c∈a,c.nm=n:=by
 have:=Qqv.mpr h;rw[<- e]at this;exact Qqv.mp this
def qem{cs:L Cl}(h:∃c∈cs,c.nm=n):∃c∈cs++[p],c.nm=n:=by
 obtain⟨c,a,e⟩:=h;exact⟨c,Qze _ a,e⟩
def qkq{Q:Cl->Prop}(h:∀c∈cs,Q c)(b:Q p):∀c∈cs++[p],Q c:=λc a=>by
 rcases Qqn.mp a with a|a
 ·exact h c a
 ·cases Qqa.mp a; exact b
def qvl{Q:Cl->Prop}(h:∀c∈cs,Q c)(b:Q c'):∀c∈upd cs c',Q c:=λc d=>by
 obtain⟨y,a,rfl⟩:=Qqv.mp d
 by_cases z:y.nm=c'.nm
 ·rw[Z6 z]; exact b
 ·rw[Z5 z]; exact h y a
def vst_o(a)(ps)(c):(vst a ps c).o=c.o:=by
 unfold vst;cases hit a ps c<;>rfl
def op_row(hd:s<day)(R:RowI s cs ro)(h:Op day cs ro k ro'):RowI day k ro':=by
 have b:∀c∈k,c.nm<=day:=λc f=>by
  rcases (qic h).1 c f with⟨x,a,e⟩|e
  ·have:=R.le x a; lia
  ·lia
 have un:∀{c g:Cl},c∈cs->g.nm=c.nm->g.v=c.v->∀x∈upd cs g,x.v≠B->x.nm∈ro:=λ{c g} f e i=>qvl R.in2 λz=>by rw[e]; exact R.in2 c f (by rw[<- i]; exact z)
 have o:∀{g:Cl},∀n∈ro,∃c∈upd cs g,c.nm=n:=λ{g} n hn=>qn3 qyu (R.in1 n hn)
 cases h with
 |same=>exact⟨R.in1,R.in2,b,R.ow⟩
 |@upd c g f e i j=>exact⟨o,un f e i,b,qvl R.ow j⟩
 |vein ps=>
  have nm:(cs.map (vst day ps)).map (·.nm)=cs.map (·.nm):=by
   rw[Qq6];exact Qzr λc _=>(qqz day ps c).1
  refine⟨λn a=>?_,λx a d=>?_,b,λx a=>?_⟩
  ·rcases Qqn.mp a with a|a
   ·exact qn3 nm (R.in1 n a)
   ·obtain⟨c,f,e⟩:=Qqv.mp a;exact qn3 nm ⟨c,(Qxe.mp f).1,e⟩
  ·obtain⟨y,l,rfl⟩:=Qqv.mp a;rw[(qqz day ps y).1]
   cases m:hit day ps y with
   |true=>exact Qqr _ (Qqv.mpr ⟨y,Qxe.mpr ⟨l,m⟩,rfl⟩)
   |false=>
    have:vst day ps y=y:=by unfold vst; rw[m]; rfl
    rw[this]at d;exact Qze _ (R.in2 y l d)
  ·obtain⟨y,l,rfl⟩:=Qqv.mp a;unfold Ow;rw[vst_o];exact R.ow y l
 |@stake c ps e i j=>
  have r:=(qqz day ps c).1.trans e;refine⟨λn a=>?_,λx a d=>?_,b,qkq R.ow (by unfold Ow; rw[vst_o]; exact j)⟩
  ·rcases Qqn.mp a with a|a
   ·exact qem (R.in1 n a)
   ·split at a
    ·exact⟨_,Qqr _ (.head _),r.trans (Qqa.mp a).symm⟩
    ·cases a
  ·rcases Qqn.mp a with a|a
   ·exact Qze _ (R.in2 x a d)
   ·cases Qqa.mp a
    cases m:hit day ps c with
    |true=>exact Qqr _ (by rw[r,Z6 rfl]; exact .head _)
    |false=>
     have:vst day ps c=c:=by unfold vst; rw[m]; rfl
     rw[this]at d;exact absurd i d
 |@part0 c g p f e i j pw pn t q=>exact⟨λn a=>qem (o n a),qkq (un f e i) (λz=>absurd (t.trans q) z),b,qkq (qvl R.ow j) pw⟩
 |@part1 c g p A Q f e i j pw pn u=>
  subst u;have ext:∀n,n∈A++c.nm::Q->n∈A++c.nm::day::Q:=λn z=>by
   simp only[Qqn,Qqy]at z ⊢;rcases z with z|z|z
   ·exact .inl z
   ·exact .inr (.inl z)
   ·exact .inr (.inr (.inr z))
  refine⟨λn a=>?_,qkq (λx a z=>ext _ (un f e i x a z)) (λ_=>by rw[pn]; simp),b,qkq (qvl R.ow j) pw⟩;have:n=day\/n∈A++c.nm::Q:=by
   simp only[Qqn,Qqy]at a ⊢;rcases a with z|z|z|z
   ·exact .inr (.inl z)
   ·exact .inr (.inr (.inl z))
   ·exact .inl z
   ·exact .inr (.inr (.inr z))
  rcases this with rfl|z
  ·exact⟨p,Qqr _ (.head _),pn⟩
  ·exact qem (o n z)
theorem qwx{ds:L D}{S:Y4}(g:D->Y3 D)(P:Sl->Prop)(b:∀i,it.at S i=Y ds[i]?)(m:ds.length<lim)(l:∀τ d,d∈ds->P τ->∃a,f τ S d=Y (g d,a,S)/\P a):
  ∀(k i:Y0) (τ:Sl),i+k=ds.length->P τ->loopC it f (k+1) i ((ds.take i).filterMap g) τ S=Y (ds.filterMap g,S)
 |0,i,τ,h,p=>by
  have e:i=ds.length:=by lia
  subst e;rw[loopC,b,Qzc (Qqk _),Qzv];simp only[oBs];rw[Z5 (by have:=Qj6 g ds; lia)]
 |k+1,i,τ,h,p=>by
  have hi:i<ds.length:=by lia
  obtain⟨a,o,n⟩:=l τ ds[i] (Qxh hi) p;rw[loopC,b,Qqc hi];simp only[oBs];rw[Z5 (by have:=Qj6 g (ds.take i); rw[Qzz]at this; lia),o];have c:=qwx g P b m l k (i+1) a (by lia) n;rw[Qzh hi,Qjw]at c;simp only[oBs]
  cases j:g ds[i] with
  |none=>simpa[j] using c
  |some x=>simpa[j] using c
def qzt{ds:L D}(g:D->Y3 D)(P:Sl->Prop)(f:src (RL c) τ st it=Y (s,st))(b:∀i,s.at st i=Y ds[i]?)(e:s.size st=ds.length)(h:ds.length<lim)(k:P (inner sr τ))(j:∀τ d,d∈ds->P τ->∃a,turnC (RL c) t test elt τ st d=Y (g d,a,st)/\P a):
  stepEv (RL c) τ st (.comp t it test elt sr)=Y (Y2 st.length,st++[Y1 O (ds.filterMap g)]):=by
 show((src (RL c) τ st it).bind λp=>(loopC p.1 (turnC (RL c) t test elt) (p.1.size p.2+1) 0 [] (inner sr τ) p.2).map λq=>alloc q.2 (Y1 O q.1))=_;rw[f];simp only[oBs,e];have:=qwx g P b h j ds.length 0 (inner sr τ) (by lia) k;rw[Qkj,List.filterMap_nil]at this;rw[this]
 rfl
def qxr(h:setT t d τ=Y a)(b:(RL c).ev a st elt=Y (x,st)):turnC (RL c) t B elt τ st d=Y (Y x,a,st):=by
 unfold turnC;rw[h];simp only[oBs,b,oMs]
def turn_if(h:setT t d τ=Y a)(e:(RL c).tst a st q=Y (b,st))(f:b=O->(RL c).ev a st elt=Y (x,st)):turnC (RL c) t (Y q) elt τ st d=Y (if b then Y x else B,a,st):=by
 unfold turnC;rw[h];simp only[oBs,e]
 cases b with
 |false=>rfl
 |true=>rw[Z6 rfl,f rfl]; rfl
noncomputable def szD(W H P:J):D:=.tup [.int W,.int H,.int P]
noncomputable def bD(W H P:J):L (D×D):=[(sO "day",.tup [.int 1,.int 400]),(sO "folk",.tup [.int 1,.int 40]),(sO "x",.tup [.int 0,.int (W - 1)]),(sO "y",.tup [.int 0,.int (H - 1)]),(sO "floor",.tup [.int 0,.int P]),(sO "below",.tup [.int 1,.int P]),(sO "side",.tup [.int 0,.int 1]),(sO "line",.tup [.int 1,.int 23]),(sO "step",.tup [.int 0,.int 4]),(sO "coins",.tup [.int 1,.int 1000000])]
def Fit(W H P:J)(p:J×String):Prop:=∃lo hi,dget (bD W H P) (sO p.2)=Y (.tup [.int lo,.int hi])/\lo<=p.1/\p.1<=hi
def qnu(m)(st)(c:lo<=v)(b:v<=a):callD fns (m+1) 20 [Z v,Y9 [Z lo,Z a]] st=Y (.bl O,st):=
 qzz 0 [] 1 (λq=>_/\_/\q) [.b O,.b O] ⟨Z3 c,Z3 b,rfl⟩
def qfb(m)(st)(W H P):callD fns (m+1) 19 [szD W H P] st=Y (Y2 st.length,st++[.dic O (bD W H P)]):=
 qjc 0 [] 1 (Y2 st.length,(st++[Ya.dic O []]).set st.length (.dic O (bD W H P))) (λq=>_/\q) [.r (.dic O [])] ⟨gl (st:=st) (c:=.dic O []),by rw[sl]⟩
def qq7(m)(st)(d:L (J×String))(w:d.length<1000)(n:∀p∈d,Fit W H P p):callD fns (m+2) 21 [szD W H P,.tup (d.map λp=>sO p.2),.tup (d.map λp=>Z p.1)] st=Y (.bl O,st++[.dic O (bD W H P)]):=by
 have h1:(!((((d.map λp=>D.int p.1).length:Y0):J)==((d.map λp=>sO p.2).length:Y0)))=false:=by simp
 have h:∀i,pairAt (d.map λp=>D.int p.1) (d.map λp=>sO p.2) i=(d.map λp=>D.tup [Z p.1,sO p.2])[i]?:=λi=>by
  unfold pairAt;rw[Qqw,Qqw,Qqw];cases d[i]?<;>rfl
 have g:=qzt (t:=.tup [0,1]) (it:=.zip (.var 2) (.var 1)) (sr:=[B,B,Y 3]) (λ_=>Y (.bl O)) (λτ=>∃a b,τ=[a,b,Y (Y2 st.length)])
  (by
   have u:(RL (callD fns (m+1))).ev [Y (szD W H P),Y (.tup (d.map λp=>sO p.2)),Y (.tup (d.map λp=>Z p.1)),Y (Y2 st.length)] (st++[.dic O (bD W H P)]) (.var 2)=Y (.tup (d.map λp=>Z p.1),st++[.dic O (bD W H P)]):=qqm _ _ _ _ _ rfl;have v:(RL (callD fns (m+1))).ev [Y (szD W H P),Y (.tup (d.map λp=>sO p.2)),Y (.tup (d.map λp=>Z p.1)),Y (Y2 st.length)] (st++[.dic O (bD W H P)]) (.var 1)=Y (.tup (d.map λp=>sO p.2),st++[.dic O (bD W H P)]):=qqm _ _ _ _ _ rfl;show((RL (callD fns (m+1))).ev _ _ (.var 2)).bind _=_;rw[u];show((RL (callD fns (m+1))).ev _ _ (.var 1)).bind _=_;rw[v]
   rfl) (λi=>by rw[<- h]; rfl) (by simp[Src.size,rowAt]) (by simp; unfold lim; lia) ⟨B,B,rfl⟩ (λτ x j hp=>by
   obtain⟨a,b,rfl⟩:=hp;obtain⟨p,hp,rfl⟩:=Qqv.mp j;obtain⟨lo,hi,l,o,f⟩:=n p hp;refine⟨[Y (Z p.1),Y (sO p.2),Y (Y2 st.length)],?_,Y (Z p.1),Y (sO p.2),rfl⟩;have:=qzc (fns:=fns) (k:=m) (τ:=[Y (Z p.1),Y (sO p.2),Y (Y2 st.length)]) (st:=st++[.dic O (bD W H P)]) (e:=.call 20 [.var 0,.didx (.var 2) (.var 1)]) (r:=(.bl O,st++[.dic O (bD W H P)])) 0 [20] 1 (λq=>_/\_/\_/\q) [.r (.dic O (bD W H P)),.q (Y (.tup [Z lo,Z hi])),.c (.bl O,st++[.dic O (bD W H P)])] ⟨gl (st:=st) (c:=.dic O (bD W H P)),l,qnu m (st++[.dic O (bD W H P)]) o f,rfl⟩
   exact qxr rfl this)
 have s:(d.map λp=>D.tup [Z p.1,sO p.2]).filterMap (λ_=>Y (D.bl O))=(d.map λ_=>O).map .bl:=by
  rw[Qzg,Qq6];exact Qxv▸rfl
 rw[s]at g;have f:bfun (st++[.dic O (bD W H P)]) .all [.lst ((d.map λ_=>O).map .bl)]=Y (.bl O,st++[.dic O (bD W H P)]):=by
  show(asBools _).map _=_;rw[asB];exact congrArg (λb=>Y (D.bl b,_)) (by simp)
 exact qzz 0 [19] 2 (λq=>_/\_/\_/\_/\_/\q) [.b Y6,.c (Y2 st.length,st++[.dic O (bD W H P)]),.c (Y2 (st++[Ya.dic O (bD W H P)]).length,st++[.dic O (bD W H P)]++[Y1 O ((d.map λ_=>O).map .bl)]),.l ((d.map λ_=>O).map .bl),.c (.bl O,st++[.dic O (bD W H P)])] ⟨h1,qfb m st W H P,g,qzw (st:=st++[.dic O (bD W H P)]) (nlB (d.map λ_=>O)),f,rfl⟩
def tkl{c:Ya}:(st++[c]).take st.length=st:=by simp
def gB(st:Y4)(c):noLoc (.bl O)=O/\(st++[c]).take st.length=st:=⟨rfl,tkl⟩
section
def qbu(b:1<=n)(a:n<=400):Fit W H P (n,"day"):=⟨1,400,by kernel_rfl,b,a⟩
def qkp(b:1<=n)(a:n<=40):Fit W H P (n,"folk"):=⟨1,40,by kernel_rfl,b,a⟩
def f_x(a:0<=n)(b:n<W):Fit W H P (n,"x"):=⟨0,W - 1,by kernel_rfl,a,by simp; lia⟩
def f_y(a:0<=n)(b:n<H):Fit W H P (n,"y"):=⟨0,H - 1,by kernel_rfl,a,by simp; lia⟩
def qn2(b:1<=n)(a:n<=P):Fit W H P (n,"below"):=⟨1,P,by kernel_rfl,b,a⟩
def f_side(b:0<=n)(a:n<=1):Fit W H P (n,"side"):=⟨0,1,by kernel_rfl,b,a⟩
def f_line(b:1<=n)(a:n<=23):Fit W H P (n,"line"):=⟨1,23,by kernel_rfl,b,a⟩
def f_step(b:0<=n)(a:n<=4):Fit W H P (n,"step"):=⟨0,4,by kernel_rfl,b,a⟩
def s_work(m)(st)(b:1<=n)(a:n<=400):callD fns (m+3) 27 [szD W H P,Y9 [sO "work",Z n]] st=Y (.bl O,st):=
 qzz 0 [21] 3 (λq=>_/\_/\q) [.c (.bl O,st++[.dic O (bD W H P)]),.g] ⟨qq7 m st (W:=W) (H:=H) (P:=P) [(n,"day")] (by simp) (by simp only[Qqa,forall_eq]; exact qbu b a),gB st (.dic O (bD W H P)),rfl⟩
def s_give(m)(st)(b:1<=n)(a:n<=400):callD fns (m+3) 27 [szD W H P,Y9 [sO "give",Z n]] st=Y (.bl O,st):=
 qzz 0 [21] 3 (λq=>_/\_/\q) [.c (.bl O,st++[.dic O (bD W H P)]),.g] ⟨qq7 m st (W:=W) (H:=H) (P:=P) [(n,"day")] (by simp) (by simp only[Qqa,forall_eq]; exact qbu b a),gB st (.dic O (bD W H P)),rfl⟩
def s_sell(m)(st)(d:1<=n)(c:n<=400)(b:1<=o)(a:o<=40):callD fns (m+3) 27 [szD W H P,Y9 [sO "sell",Z n,Z o]] st=Y (.bl O,st):=
 qzz 0 [21] 3 (λq=>_/\_/\q) [.c (.bl O,st++[.dic O (bD W H P)]),.g] ⟨qq7 m st (W:=W) (H:=H) (P:=P) [(n,"day"),(o,"folk")] (by simp) (by simp only[Qqy,Qq2,or_false,forall_eq_or_imp,forall_eq]; exact⟨qbu d c,qkp b a⟩),gB st (.dic O (bD W H P)),rfl⟩
def s_part(m)(st)(h:1<=n)(g:n<=400)(f:0<=s)(e:s<=1)(d:1<=l)(c:l<=23)(b:1<=o)(a:o<=40):callD fns (m+3) 27 [szD W H P,Y9 [sO "part",Z n,Z s,Z l,Z o]] st=Y (.bl O,st):=
 qzz 0 [21] 3 (λq=>_/\_/\q) [.c (.bl O,st++[.dic O (bD W H P)]),.g] ⟨qq7 m st (W:=W) (H:=H) (P:=P) [(n,"day"),(s,"side"),(l,"line"),(o,"folk")] (by simp) (by simp only[Qqy,Qq2,or_false,forall_eq_or_imp,forall_eq]; exact⟨qbu h g,f_side f e,f_line d c,qkp b a⟩),gB st (.dic O (bD W H P)),rfl⟩
def s_join(m)(st)(i:1<=a)(h:a<=400)(g:1<=b)(e:b<=400)(d:1<=f)(c:f<=P):callD fns (m+3) 27 [szD W H P,Y9 [sO "join",Z a,Z b,Z f]] st=Y (.bl O,st):=
 qzz 0 [21] 3 (λq=>_/\_/\q) [.c (.bl O,st++[.dic O (bD W H P)]),.g] ⟨qq7 m st (W:=W) (H:=H) [(a,"day"),(b,"day"),(f,"below")] (by simp) (by simp only[Qqy,Qq2,or_false,forall_eq_or_imp,forall_eq]; exact⟨qbu i h,qbu g e,qn2 d c⟩),gB st (.dic O (bD W H P)),rfl⟩
def s_stake(m)(st){g:J×J×J×J}(d:1<=o)(c:o<=40)(b:0<=g.1)(x1:g.1<=g.2.2.1)(x2:g.2.2.1<W)(a:0<=g.2.1)(y1:g.2.1<=g.2.2.2)(y2:g.2.2.2<H):callD fns (m+3) 27 [szD W H P,Y9 [sO "stake",Z o,Z g.1,Z g.2.1,Z g.2.2.1,Z g.2.2.2]] st=Y (.bl O,st):=
 qzz 0 [21] 3 (λq=>_/\_/\_/\_/\q) [.c (.bl O,st++[.dic O (bD W H P)]),.g,.b O,.b O] ⟨qq7 m st (P:=P) [(o,"folk"),(g.1,"x"),(g.2.1,"y"),(g.2.2.1,"x"),(g.2.2.2,"y")] (by simp) (by simp only[Qqy,Qq2,or_false,forall_eq_or_imp,forall_eq]; exact⟨qkp d c,f_x b (by lia),f_y a (by lia),f_x (by lia) x2,f_y (by lia) y2⟩),gB st (.dic O (bD W H P)),Z3 x1,Z3 y1,rfl⟩
def Cin(W H:J)(p:J×J):Prop:=0<=p.1/\p.1<W/\0<=p.2/\p.2<H
def qox(m)(st)(h:Cin W H p):callD fns (m+3) 22 [szD W H P,cD p] st=Y (.bl O,st):=
 qzz 0 [21] 3 (λq=>_/\_/\q) [.c (.bl O,st++[.dic O (bD W H P)]),.g] ⟨qq7 m st (P:=P) [(p.1,"x"),(p.2,"y")] (by simp) (by simp only[Qqy,Qq2,or_false,forall_eq_or_imp,forall_eq]; exact⟨f_x h.1 h.2.1,f_y h.2.2.1 h.2.2.2⟩),gB st (.dic O (bD W H P)),rfl⟩
theorem qj8:∀(ks:L (L J)),ks.Nodup->∀S,(S++ks).Nodup->ks.foldl addK S=S++ks
 |[],_,S,_=>by simp
 |k::r,h,S,a=>by
  rw[Qjy];have:addK S k=S++[k]:=by
   unfold addK;rw[Z5];rw[Qxm]at a;exact λz=>a.2.2 k z k (Qq5 ..) rfl
  rw[this,qj8 r (Qzy.mp h).2 (S++[k]) (by simpa using a)];simp
theorem qih:∀ps:L (J×J),(ps.map cD).mapM keyD=Y (ps.map λp=>[p.1,p.2])
 |[]=>rfl
 |p::r=>by
  rw[Qqm,Qkk,qih r]
  rfl
def qm9{ps:L (J×J)}(d:ps.Nodup)(e:ps.length<=16):qvk (Y9 (ps.map cD))=Y (Z (ps.length:J)):=by
 show((ps.map cD).mapM keyD).bind _=_;rw[qih];have h:(ps.map λp=>[p.1,p.2]).Nodup:=by
  refine List.Pairwise.map _ (λa b c z=>c ?_) d;simp only[List.cons.injEq,and_true]at z;exact Prod.ext z.1 z.2
 show(if (ps.map cD).length<=16 then _ else _)=_;rw[Z6 (by simpa using e)];unfold distinct;rw[qj8 _ h [] (by simpa using h)];simp
def s_vein(m)(st){a:L J}{ps:L (J×J)}(E:(a.length:J)=P)(x:a.length<=100)(o:∀s∈a,0<=s/\s<=4)(F:1<=ps.length)(y:ps.length<=16)(t:ps.Nodup)(v:∀p∈ps,Cin W H p):callD fns (m+6) 27 [szD W H P,Y9 [sO "vein",Y9 (a.map Z),Y9 (ps.map cD)]] st=Y (.bl O,st):=by
 have d:=qq7 (m+1) st (W:=W) (H:=H) (P:=P) (a.map λs=>(s,"step")) (by simp; lia) (λp hp=>by obtain⟨s,e,rfl⟩:=Qqv.mp hp; exact f_step (o s e).1 (o s e).2);rw[Qq6,Qq6]at d;have C:a.map ((λp:J×String=>sO p.2)∘λs=>(s,"step"))=List.replicate a.length (sO "step"):=by
  rw[List.eq_replicate_iff];refine⟨by simp,λb w=>?_⟩;obtain⟨s,_,rfl⟩:=Qqv.mp w
  rfl
 have A:a.map ((λp:J×String=>D.int p.1)∘λs=>(s,"step"))=a.map Z:=rfl;rw[C,A]at d;have u:binop st .Mult (Y9 [sO "step"]) (Z P)=Y (Y9 (List.replicate a.length (sO "step")),st):=by
  show(if decide (P < -(2 ^ 62))||decide (2 ^ 62<=P)||decide (lim<1*P.toNat) then B else Y (D.tup (List.replicate P.toNat [sO "step"]).flatten,st))=_;have:P.toNat=a.length:=by lia
  rw[Z5 (by simp; unfold lim; lia),this]
  congr 3
  induction a.length with
  |zero=>rfl
  |succ k r=>rw[Qzp,Qxa,r]; rfl
 have l:decide ((1:J)<=((ps.map cD).length:Y0))=true:=Z3 (by simp; lia);have j:decide (((ps.map cD).length:J)<=16)=true:=Z3 (by simp; lia);have f:=qqr (c:=callD fns (m+3)) (τ:=[Y (szD W H P),Y (Y9 (ps.map cD))]) (st:=st) (i:=1) (elt:=.call 22 [Yd 1,Yd 0]) (sr:=[B,Y 0]) ps cD (λ_=>.bl O) rfl rfl (by unfold lim; lia) rfl λp hp=>qzc 0 [22] 3 (λq=>_/\q) [.c (.bl O,st)] ⟨qox m st (P:=P) (v p hp),rfl⟩;have z:ps.map (λ_=>D.bl O)=(ps.map λ_=>O).map .bl:=by rw[Qq6]; rfl
 rw[z]at f;have n:bfun st .all [Yc ((ps.map λ_=>O).map .bl)]=Y (.bl O,st):=by
  show(asBools _).map _=_;rw[asB];exact congrArg (λb=>Y (D.bl b,_)) (by simp)
 have g:qvk (Y9 (ps.map cD))=Y (Z ((ps.map cD).length:J)):=by rw[qm9 t y]; simp
 have h:(((ps.map cD).length:J)==((ps.map cD).length:Y0))=true:=by simp
 exact qzz 0 [21,22] 6 (λq=>_/\_/\_/\_/\_/\_/\_/\_/\_/\_/\q) [.k,.c (Y9 (List.replicate a.length (sO "step")),st),.c (.bl O,st++[.dic O (bD W H P)]),.g,.b O,.b O,.c (Y2 st.length,st++[Y1 O ((ps.map λ_=>O).map .bl)]),.l ((ps.map λ_=>O).map .bl),.c (.bl O,st),.i (Z ((ps.map cD).length:J)),.b O] ⟨u,d,gB st (.dic O (bD W H P)),l,j,f,qzw (st:=st) (nlB (ps.map λ_=>O)),n,g,h,rfl⟩
end
noncomputable def scr(ns:L J):D:=.lst (ns.map .int)
def modE(a)(h:0<b):∃v,(∀S,binop S .Mod (Z a) (Z b)=Y (Z v,S))/\0<=v/\v<b:=⟨_,λS=>bMo S a h,Int.emod_nonneg _ (by lia),Int.emod_lt_of_pos _ h⟩
def divE(a)(h:0<b)(c:b<2 ^ 64):∃v,∀S,binop S .FloorDiv (Z a) (Z b)=Y (Z v,S):=⟨_,λS=>bDi S a h c⟩
noncomputable def itD:Y0->J->J
 |0,a=>a
 |n+1,a=>itD n a / 10000000000
noncomputable abbrev drT(ns:L J)(k j many cell turn rest:J)(o:Y3 D):Sl:=[Y (scr ns),Y (.int k),Y (.int j),Y (.int many),Y (.int cell),Y (.int turn),Y (.int rest),o,B,B]
def qet(m)(st)(g:0<=j)(f:j<100000):∃o,stepEx (RL (callD fns m)) (drT ns k j many cell turn cell B) st (.forr (.var 7) (.rng1 (.var 2)) [.set (.var 6) (.bin .FloorDiv (.var 6) (.bin .Pow (.lit (Z 10)) (.lit (Z 10))))])=Y (.nx (drT ns k j many cell turn (itD j.toNat cell) o),st):=by
 obtain⟨a,st',e,o,rfl,rfl⟩:=qx2 (c:=callD fns m) (τ:=drT ns k j many cell turn cell B) (st:=st) (it:=.rng1 (.var 2)) (s:=.rng 0 j.toNat) (ds:=(List.range j.toNat).map λ(i:Y0)=>D.int (0+i)) (t:=.var 7) (body:=[.set (.var 6) (.bin .FloorDiv (.var 6) (.bin .Pow (.lit (Z 10)) (.lit (Z 10))))])
  (λi a st'=>∃o,a=drT ns k j many cell turn (itD i cell) o/\st'=st)
  (by
   have e:(RL (callD fns m)).ev (drT ns k j many cell turn cell B) st (.var 2)=Y (Z j,st):=qqm _ _ _ _ _ rfl;show((RL (callD fns m)).ev _ _ (.var 2)).bind _=_;rw[e];show(if big j=O then B else Y (Src.rng 0 j.toNat,st))=_
   rw[Z5 (by unfold big; simp; lia)])
  (by simp[Src.size]) (λi _ _ _=>qw5 _ _ _) ⟨B,rfl,rfl⟩ (λi a st' d hd h=>by
   obtain⟨o,rfl,rfl⟩:=h;rw[Qqw]at hd;obtain⟨x,_,rfl⟩:=Qqb.mp hd;refine⟨drT ns k j many cell turn (itD i cell / 10000000000) (Y (Z (0+x))),st',?_,_,rfl,rfl⟩;show(RL (callD fns m)).ex (drT ns k j many cell turn (itD i cell) (Y (Z (0+x)))) st' _=_
   exact qzy (k:=m) 0 [] 0 (λq=>_/\q) [.c (Z (itD i cell / 10000000000),st')] ⟨bDi st' (itD i cell) (b:=10000000000) (by decide) (by decide),rfl⟩)
 rw[Qqz,Qxc]at e;exact⟨o,e⟩
noncomputable abbrev drZ(o y t z w x u v:J)(S:Y4):Tp:=[.b O,.b O,.b O,.c (.int o,S),.b O,.c (.int y,S),.c (.int t,S),.c (.int z,S),.b O,.c (.int w,S),.b O,.b O,.c (.int x,S),.c (.int u,S),.c (.int v,S)]
noncomputable abbrev drX(a c t:J)(τ:Sl)(S:Y4)(r:Tp):Tp:=.b O::.c (.int a,S)::.i (.int c)::.c (.int t,S)::.s (.nx τ,S)::r
def dr0(W:ns.length<=63)(k j)(s:0<=j)(e:j<100000)(r:0<many):∃v:J,(∀m st,callD fns (m+1) 66 [scr ns,Z k,Z j,Z many] st=Y (Z v,st))/\0<=v/\v<many:=by
 obtain⟨cell,c,pre⟩:∃cell c:J,(ns=[]/\cell=0/\c=1)\/(0<((ns.map D.int).length:J)/\∃a,(∀S,binop S .Mod (Z k) (Z (ns.map D.int).length)=Y (Z a,S))/\(∀S,idxD S (scr ns) (Z a)=Y (Z cell))/\∀S,binop S .FloorDiv (Z k) (Z (ns.map D.int).length)=Y (Z c,S)):=by
  by_cases t:ns=[]
  ·exact⟨0,1,.inl ⟨t,rfl,rfl⟩⟩
  ·have hp:=Qxp.mpr t;have hl:(ns.map D.int).length=ns.length:=Qqz _;have d:0<((ns.map D.int).length:J):=by lia
   obtain⟨a,h,Q,P⟩:=modE k d;obtain⟨b,h'⟩:=divE k d (by lia);have n:a.toNat<ns.length:=by lia
   exact⟨ns[a.toNat],b,.inr ⟨d,a,h,λS=>by simp only[scr,idxD,seqAt,oBs,atI,ixN,Q,if_true,P,Qqw,Qqc n,oMs],h'⟩⟩
 obtain⟨one,h1,V,U⟩:=modE (cell*7919+k*104729+j*1299709+31) (b:=1000000007) (by decide);obtain⟨y,h2⟩:=divE cell (b:=1009) (by decide) (by decide);obtain⟨two,I,_,_⟩:=modE (one*48271+y) (b:=998244353) (by decide);obtain⟨z,H,T,R⟩:=modE one (b:=9973) (by decide);obtain⟨tw,n,_,_⟩:=modE (two*(z+1)+j) (b:=1000000009) (by decide);obtain⟨w,G⟩:=divE tw (b:=1013) (by decide) (by decide);obtain⟨u,F,_,_⟩:=modE (one*69621+tw*40692+w) (b:=2147483647) (by decide);obtain⟨v,E,g,f⟩:=modE u r;obtain⟨x,N,_,_⟩:=modE (itD j.toNat cell) (b:=10000000000) (by decide);obtain⟨p,K,C,A⟩:=modE x r;have tl:=λst=>(⟨qqw (by decide) (by decide),qqw (by decide) (by decide),qqw (by decide) (by decide),h1 st,qqw (by decide) (by decide),h2 st,I st,H st,qqw (by lia) (by lia),n st,qqw (by decide) (by decide),qqw (by decide) (by decide),G st,F st,E st,rfl⟩:mulOk cell 7919=O/\mulOk k 104729=O/\mulOk j 1299709=O/\_/\mulOk one 48271=O/\_/\_/\_/\mulOk two (z+1)=O/\_/\mulOk one 69621=O/\mulOk tw 40692=O/\_/\_/\_/\(D.int v,st)=(D.int v,st))
 rcases pre with⟨rfl,rfl,rfl⟩|⟨d,a,p1,p2,i⟩
 ·refine⟨v,λm st=>?_,g,f⟩;obtain⟨o,hl⟩:=qet m st (ns:=[]) (k:=k) (many:=many) (cell:=0) (turn:=1) s e;exact qzz (k:=m) 0 [] 1 (λq=>_/\_/\_/\_/\_/\_/\_/\_/\_/\_/\_/\_/\_/\_/\_/\_/\_/\_/\q) (.b Y6::.s (.nx (drT [] k j many 0 1 (itD j.toNat 0) o),st)::.b Y6::drZ one y two z tw w u v st) ⟨(rfl:decide ((0:J)<0)=Y6),hl,(rfl:((1:J)==0)=Y6),tl st⟩
 ·have l:decide (0<((ns.map D.int).length:J))=true:=Z3 d;have lp:=λm st=>qet m st (ns:=ns) (k:=k) (many:=many) (cell:=cell) (turn:=c) s e
  by_cases c1:c=0
  ·by_cases c2:1000000000000000000<=cell
   ·by_cases c3:0<itD j.toNat cell
    ·refine⟨p,λm st=>?_,C,A⟩;obtain⟨o,hl⟩:=lp m st;exact qzz (k:=m) 0 [] 1 (λq=>_/\_/\_/\_/\_/\_/\_/\_/\_/\_/\q) (drX a cell c (drT ns k j many cell c (itD j.toNat cell) o) st [.b O,.b O,.b O,.c (Z x,st),.c (Z p,st)]) ⟨l,p1 st,p2 st,i st,hl,beq_iff_eq.mpr c1,Z3 c2,Z3 c3,N st,K st,rfl⟩
    ·refine⟨v,λm st=>?_,g,f⟩;obtain⟨o,hl⟩:=lp m st;exact qzz (k:=m) 0 [] 1 (λq=>_/\_/\_/\_/\_/\_/\_/\_/\_/\_/\_/\_/\_/\_/\_/\_/\_/\_/\_/\_/\_/\_/\_/\q) (drX a cell c (drT ns k j many cell c (itD j.toNat cell) o) st (.b O::.b O::.b Y6::drZ one y two z tw w u v st)) ⟨l,p1 st,p2 st,i st,hl,beq_iff_eq.mpr c1,Z3 c2,Z4 c3,tl st⟩
   ·refine⟨v,λm st=>?_,g,f⟩;obtain⟨o,hl⟩:=lp m st;exact qzz (k:=m) 0 [] 1 (λq=>_/\_/\_/\_/\_/\_/\_/\_/\_/\_/\_/\_/\_/\_/\_/\_/\_/\_/\_/\_/\_/\_/\q) (drX a cell c (drT ns k j many cell c (itD j.toNat cell) o) st (.b O::.b Y6::drZ one y two z tw w u v st)) ⟨l,p1 st,p2 st,i st,hl,beq_iff_eq.mpr c1,Z4 c2,tl st⟩
  ·refine⟨v,λm st=>?_,g,f⟩;obtain⟨o,hl⟩:=lp m st;exact qzz (k:=m) 0 [] 1 (λq=>_/\_/\_/\_/\_/\_/\_/\_/\_/\_/\_/\_/\_/\_/\_/\_/\_/\_/\_/\_/\_/\q) (drX a cell c (drT ns k j many cell c (itD j.toNat cell) o) st (.b Y6::drZ one y two z tw w u v st)) ⟨l,p1 st,p2 st,i st,hl,beq_eq_false_iff_ne.mpr c1,tl st⟩
section
variable {ns:L J}(hn:ns.length<=63)
include hn
theorem dr(m)(st)(k j)(d:0<=j)(b:j<100000)(c:0<many):∃v:J,callD fns (m+1) 66 [scr ns,Z k,Z j,Z many] st=Y (Z v,st)/\0<=v/\v<many:=by
 obtain⟨v,h,a⟩:=dr0 hn k j d b c;exact⟨v,h m st,a⟩
theorem qlo(m)(st)(k):∃W H P:J,callD fns (m+2) 68 [scr ns,Z k] st=Y (szD W H P,st)/\1<=W/\W<=24/\1<=H/\H<=24/\0<=P/\P<=12:=by
 obtain⟨a,n,x,w⟩:=dr hn m st k 0 (many:=6) (by decide) (by decide) (by decide);obtain⟨b,l,b1,b2⟩:=dr hn m st k 1 (many:=6) (by decide) (by decide) (by decide);obtain⟨c,j,c1,c2⟩:=dr hn m st k 2 (many:=6) (by decide) (by decide) (by decide);obtain⟨e,h,v,u⟩:=dr hn m st k 3 (many:=12) (by decide) (by decide) (by decide);have s:=qzw (st:=st) (ds:=[Y9 [Z 24,Z (1+(1+b) / 3),Z (c / 2)],Y9 [Z (1+(1+a) / 3),Z 24,Z (c / 2)]]) rfl;have p:=qzw (st:=st) (ds:=[Y9 [Z (1+(1+a) / 3),Z (1+(1+b) / 3),Z 12],Y9 [Z (1+a),Z (1+b),Z c]]) rfl;have o:=qzw (st:=st) (ds:=[Y9 [Z 24,Z (1+(1+b) / 3),Z (c / 2)],Y9 [Z (1+(1+a) / 3),Z 24,Z (c / 2)],Y9 [Z (1+(1+a) / 3),Z (1+(1+b) / 3),Z 12],Y9 [Z (1+a),Z (1+b),Z c]]) rfl;have d:∀(i:J) (r:D),(if decide (e<3) then e else 3)=i->idxD st (Yc [Y9 [Z 24,Z (1+(1+b) / 3),Z (c / 2)],Y9 [Z (1+(1+a) / 3),Z 24,Z (c / 2)],Y9 [Z (1+(1+a) / 3),Z (1+(1+b) / 3),Z 12],Y9 [Z (1+a),Z (1+b),Z c]]) (Z i)=Y r->callD fns (m+2) 68 [scr ns,Z k] st=Y (r,st):=λi r hi f=>by
  rw[<- hi]at f
  by_cases g:e<3
  ·rw[Z3 g]at f;exact qzz 0 [66] 2 (λq=>_/\_/\_/\_/\_/\_/\_/\_/\_/\q) [.c (Z a,st),.c (Z b,st),.c (Z c,st),.l [Y9 [Z 24,Z (1+(1+b) / 3),Z (c / 2)],Y9 [Z (1+(1+a) / 3),Z 24,Z (c / 2)]],.l [Y9 [Z (1+(1+a) / 3),Z (1+(1+b) / 3),Z 12],Y9 [Z (1+a),Z (1+b),Z c]],.k,.l [Y9 [Z 24,Z (1+(1+b) / 3),Z (c / 2)],Y9 [Z (1+(1+a) / 3),Z 24,Z (c / 2)],Y9 [Z (1+(1+a) / 3),Z (1+(1+b) / 3),Z 12],Y9 [Z (1+a),Z (1+b),Z c]],.c (Z e,st),.b O,.i r] ⟨n,l,j,s,p,o,h,Z3 g,f,rfl⟩
  ·rw[Z4 g]at f;exact qzz 0 [66] 2 (λq=>_/\_/\_/\_/\_/\_/\_/\_/\_/\q) [.c (Z a,st),.c (Z b,st),.c (Z c,st),.l [Y9 [Z 24,Z (1+(1+b) / 3),Z (c / 2)],Y9 [Z (1+(1+a) / 3),Z 24,Z (c / 2)]],.l [Y9 [Z (1+(1+a) / 3),Z (1+(1+b) / 3),Z 12],Y9 [Z (1+a),Z (1+b),Z c]],.k,.l [Y9 [Z 24,Z (1+(1+b) / 3),Z (c / 2)],Y9 [Z (1+(1+a) / 3),Z 24,Z (c / 2)],Y9 [Z (1+(1+a) / 3),Z (1+(1+b) / 3),Z 12],Y9 [Z (1+a),Z (1+b),Z c]],.c (Z e,st),.b Y6,.i r] ⟨n,l,j,s,p,o,h,Z4 g,f,rfl⟩
 by_cases t:e=0
 ·exact⟨24,1+(1+b) / 3,c / 2,d 0 _ (by subst t; rfl) rfl,by lia,by lia,by lia,by lia,by lia,by lia⟩
 ·by_cases h1:e=1
  ·exact⟨1+(1+a) / 3,24,c / 2,d 1 _ (by subst h1; rfl) rfl,by lia,by lia,by lia,by lia,by lia,by lia⟩
  ·by_cases h2:e=2
   ·exact⟨1+(1+a) / 3,1+(1+b) / 3,12,d 2 _ (by subst h2; rfl) rfl,by lia,by lia,by lia,by lia,by lia,by lia⟩
   ·exact⟨1+a,1+b,c,d 3 _ (by rw[Z4 (by lia)]; rfl) rfl,by lia,by lia,by lia,by lia,by lia,by lia⟩
theorem qld(m)(st)(k):∃T:J,callD fns (m+2) 69 [scr ns,Z k] st=Y (Z T,st)/\1<=T/\T<=400:=by
 obtain⟨a,f,j,i⟩:=dr hn m st k 5 (many:=400) (by decide) (by decide) (by decide);obtain⟨b,e,b1,b2⟩:=dr hn m st k 4 (many:=4) (by decide) (by decide) (by decide);have g:=qzw (st:=st) (ds:=[Z (1+a),Z (1+a % 4),Z (4+a % 50),Z (4+a % 50)]) rfl;have c:∀T:J,idxD st (Yc [Z (1+a),Z (1+a % 4),Z (4+a % 50),Z (4+a % 50)]) (Z b)=Y (Z T)->callD fns (m+2) 69 [scr ns,Z k] st=Y (Z T,st):=λT h=>
  qzz 0 [66] 2 (λq=>_/\_/\_/\_/\q) [.c (Z a,st),.l [Z (1+a),Z (1+a % 4),Z (4+a % 50),Z (4+a % 50)],.c (Z b,st),.i (Z T)] ⟨f,g,e,h,rfl⟩
 have d:b=0\/b=1\/b=2\/b=3:=by lia
 rcases d with rfl|rfl|rfl|rfl
 ·exact⟨1+a,c _ rfl,by lia,by lia⟩
 ·exact⟨1+a % 4,c _ rfl,by lia,by lia⟩
 ·exact⟨4+a % 50,c _ rfl,by lia,by lia⟩
 ·exact⟨4+a % 50,c _ rfl,by lia,by lia⟩
theorem qyq(m)(st)(k j)(n:0<=j)(l:j<1000)(f:0<W)(i:0<H):∃g:J×J×J×J,callD fns (m+2) 70 [scr ns,Z k,Z j,Z W,Z H] st=Y (rD g,st)/\0<=g.1/\g.1<=g.2.2.1/\g.2.2.1<W/\0<=g.2.1/\g.2.1<=g.2.2.2/\g.2.2.2<H:=by
 obtain⟨a,s,w,v⟩:=dr hn m st k j n (by lia) f;obtain⟨b,r,b1,b2⟩:=dr hn m st k (j+1) (by lia) (by lia) f;obtain⟨c,p,c1,c2⟩:=dr hn m st k (j+2) (by lia) (by lia) i;obtain⟨e,o,u,t⟩:=dr hn m st k (j+3) (by lia) (by lia) i;have d:∀x y:J,bfun st .sorted [Yc [Z x,Z y]]=Y (Y2 st.length,st++[Y1 O [Z (min x y),Z (max x y)]]):=λx y=>by
  show Y (alloc st (Y1 O ((sortInt [x,y]).map Z)))=_;have:sortInt [x,y]=[min x y,max x y]:=by
   show(if x<=y then [x,y] else [y,x])=_
   by_cases h:x<=y
   ·rw[Z6 h,Int.min_eq_left h,Int.max_eq_right h]
   ·rw[Z5 h,Int.min_eq_right (by lia),Int.max_eq_left (by lia)]
  rw[this]
  rfl
 refine⟨(min a b,min c e,max a b,max c e),?_,by simp only; lia,by simp only; lia,by simp only; lia,by simp only; lia,by simp only; lia,by simp only; lia⟩;exact qzz 0 [66] 2 (λq=>_/\_/\_/\_/\_/\_/\_/\_/\_/\_/\q) [.c (Z a,st),.c (Z b,st),.l [Z a,Z b],.c (Y2 st.length,st++[Y1 O [Z (min a b),Z (max a b)]]),.l [Z (min a b),Z (max a b)],.c (Z c,st),.c (Z e,st),.l [Z c,Z e],.c (Y2 st.length,st++[Y1 O [Z (min c e),Z (max c e)]]),.l [Z (min c e),Z (max c e)]] ⟨s,r,qzw (st:=st) (ds:=[Z a,Z b]) rfl,d a b,qzw (st:=st) (ds:=[Z (min a b),Z (max a b)]) rfl,p,o,qzw (st:=st) (ds:=[Z c,Z e]) rfl,d c e,qzw (st:=st) (ds:=[Z (min c e),Z (max c e)]) rfl,rfl⟩
theorem qvm(m)(st)(k j)(d:0<=j)(c:j<1000):∃o:J,callD fns (m+2) 73 [scr ns,Z k,Z j] st=Y (Z o,st)/\1<=o/\o<=40:=by
 obtain⟨a,f,i,h⟩:=dr hn m st k (j+1) (many:=6) (by lia) (by lia) (by decide);have g:=qzw (st:=st) (ds:=[Z 40,Z 4,Z 4,Z 4,Z 4,Z 4]) rfl;have ⟨w,hw,w1,w2⟩:∃w:J,idxD st (Yc [Z 40,Z 4,Z 4,Z 4,Z 4,Z 4]) (Z a)=Y (Z w)/\0<w/\w<=40:=by
  have:a=0\/a=1\/a=2\/a=3\/a=4\/a=5:=by lia
  rcases this with rfl|rfl|rfl|rfl|rfl|rfl
  ·exact⟨40,rfl,by decide,by decide⟩
  all_goals exact⟨4,rfl,by decide,by decide⟩
 obtain⟨b,e,b1,b2⟩:=dr hn m st k j d (by lia) w1;exact⟨1+b,qzz 0 [66] 2 (λq=>_/\_/\_/\_/\q) [.l [Z 40,Z 4,Z 4,Z 4,Z 4,Z 4],.c (Z a,st),.i (Z w),.c (Z b,st)] ⟨g,f,hw,e,rfl⟩,by lia,by lia⟩
theorem qyx(m)(st)(k j)(r:0<=j)(o:j<1000){xs:L J}(l:∀x∈xs,1<=x/\x<=400):∃n:J,callD fns (m+2) 74 [scr ns,Z k,Z j,Yc (xs.map Z)] st=Y (Z n,st)/\1<=n/\n<=400:=by
 obtain⟨b,g,b1,b2⟩:=dr hn m st k (j+1) (many:=400) (by lia) (by lia) (by decide)
 by_cases f:xs=[]
 ·subst f;exact⟨1+b,qzz 0 [66] 2 (λq=>_/\q) [.k,.c (Z b,st)] ⟨g,rfl⟩,by lia,by lia⟩
 ·have hl:=Qxp.mpr f;have i:(((xs.map D.int).length:J)==0)=false:=by
   rw[beq_eq_false_iff_ne];simp;exact f
  obtain⟨a,h,t,s⟩:=dr hn m st k j (many:=14) (by lia) (by lia) (by decide)
  by_cases h1:a=0
  ·exact⟨1+b,qzz 0 [66] 2 (λq=>_/\_/\_/\_/\q) [.b Y6,.c (Z a,st),.b O,.c (Z b,st)] ⟨i,h,(show(a==0)=O by simpa using h1),g,rfl⟩,by lia,by lia⟩
  ·obtain⟨c,p,c1,c2⟩:=dr hn m st k (j+1) (many:=((xs.map D.int).length:J)) (by lia) (by lia) (by simp; lia);rw[Qqz]at c2;have hi:c.toNat<xs.length:=by lia
   have d:=l xs[c.toNat] (Qxh hi);have e:idxD st (Yc (xs.map Z)) (Z c)=Y (Z xs[c.toNat]):=by
    show atI (xs.map D.int) c=_;unfold atI ixN;rw[Z6 c1,Z6 (by simpa using c2)];simp[Qqc hi]
   exact⟨xs[c.toNat],qzz 0 [66] 2 (λq=>_/\_/\_/\_/\_/\q) [.b Y6,.c (Z a,st),.b Y6,.c (Z c,st),.i (Z xs[c.toNat])] ⟨i,h,(show(a==0)=Y6 by simpa using h1),p,e,rfl⟩,d.1,d.2⟩
end
section
variable {ns:L J}(hn:ns.length<=63)
include hn
omit hn in
noncomputable def stT(d:J):Int:=[0,1,2,3,4,0,0].getD d.toNat 0
theorem qgw(m)(st)(k j)(w:0<=j)(u:j<1000)(y:0<=P)(p:P<=12):∃f:L J,callD fns (m+2) 71 [scr ns,Z k,Z j,Z P] st=Y (.tup (f.map Z),st)/\(f.length:J)=P/\∀s∈f,0<=s/\s<=4:=by
 obtain⟨c,o⟩:=Classical.axiomOfChoice (λx:J=>show ∃v:J,(0<=x->x<100000->∀m st,callD fns (m+1) 66 [scr ns,Z k,Z x,Z 7] st=Y (Z v,st))/\0<=v/\v<7 by
  by_cases h:0<=x/\x<100000
  ·obtain⟨v,a,b⟩:=dr0 hn k x (many:=7) h.1 h.2 (by decide);exact⟨v,λ_ _=>a,b⟩
  ·exact⟨0,λp h2=>absurd ⟨p,h2⟩ h,by decide⟩)
 have r:(List.range P.toNat).map (λ(i:Y0)=>D.int (0+i))=(List.range P.toNat).map λ(i:Y0)=>D.int i:=Qzr λi _=>by simp
 have h:=qzt (t:=.var 0) (it:=.rng1 (.var 3)) (elt:=.idx (.gc (.lst [.lit (Z 0),.lit (Z 1),.lit (Z 2),.lit (Z 3),.lit (Z 4),.lit (Z 0),.lit (Z 0)])) (.call 66 [.var 3,.var 2,.bin .Add (.var 1) (.var 0),.lit (Z 7)])) (sr:=[B,Y 2,Y 1,Y 0]) (λd=>match d with|Z i=>Y (Z (stT (c (j+i))))|_=>B) (λτ=>∃a,τ=[a,Y (Z j),Y (Z k),Y (scr ns)])
  (by
   have e:(RL (callD fns (m+1))).ev [Y (scr ns),Y (Z k),Y (Z j),Y (Z P)] st (.var 3)=Y (Z P,st):=qqm _ _ _ _ _ rfl;show((RL (callD fns (m+1))).ev _ _ (.var 3)).bind _=_;rw[e];show(if big P=O then B else Y (Src.rng 0 P.toNat,st))=_
   rw[Z5 (by unfold big; simp; lia)])
  (λi=>by rw[qw5,r]) (by simp[Src.size]) (by simp; unfold lim; lia) ⟨B,rfl⟩ (λτ d hd hp=>by
   obtain⟨a,rfl⟩:=hp;obtain⟨i,hi,rfl⟩:=Qqv.mp hd;have hi:=Qz9.mp hi;refine⟨[Y (Z (i:Y0)),Y (Z j),Y (Z k),Y (scr ns)],?_,Y (Z (i:Y0)),rfl⟩;obtain⟨hd,l,g⟩:=o (j+(i:Y0));have hd:=hd (by lia) (by lia) m st;have n:idxD st (.lst [Z 0,Z 1,Z 2,Z 3,Z 4,Z 0,Z 0]) (Z (c (j+(i:Y0))))=Y (Z (stT (c (j+(i:Y0))))):=by
    generalize c (j+(i:Y0))=v at l g ⊢;have:v=0\/v=1\/v=2\/v=3\/v=4\/v=5\/v=6:=by lia
    rcases this with rfl|rfl|rfl|rfl|rfl|rfl|rfl<;>rfl
   exact qxr rfl (qzc 0 [66] 1 (λq=>_/\_/\_/\q) [.l [Z 0,Z 1,Z 2,Z 3,Z 4,Z 0,Z 0],.c (Z (c (j+(i:Y0))),st),.i (Z (stT (c (j+(i:Y0)))))] ⟨qzw (st:=st) (ds:=[Z 0,Z 1,Z 2,Z 3,Z 4,Z 0,Z 0]) rfl,hd,n,rfl⟩))
 have e:((List.range P.toNat).map λ(i:Y0)=>D.int i).filterMap (λd=>match d with|Z i=>Y (D.int (stT (c (j+i))))|_=>B)=((List.range P.toNat).map λ(i:Y0)=>stT (c (j+(i:Y0)))).map Z:=by
  rw[Qzg,Qq6];exact Qxv▸rfl
 rw[e]at h;refine⟨(List.range P.toNat).map λ(i:Y0)=>stT (c (j+(i:Y0))),qzz 0 [] 2 (λq=>_/\_/\q) [.c (Y2 st.length,st++[Y1 O (((List.range P.toNat).map λ(i:Y0)=>stT (c (j+(i:Y0)))).map Z)]),.l (((List.range P.toNat).map λ(i:Y0)=>stT (c (j+(i:Y0)))).map Z)] ⟨h,qzw (st:=st) (nlI ((List.range P.toNat).map λ(i:Y0)=>stT (c (j+(i:Y0))))),rfl⟩,by simp; lia,λs hs=>?_⟩;obtain⟨i,_,rfl⟩:=Qqv.mp hs;obtain⟨_,l,g⟩:=o (j+(i:Y0));generalize c (j+(i:Y0))=v at l g ⊢;have:v=0\/v=1\/v=2\/v=3\/v=4\/v=5\/v=6:=by lia
 rcases this with rfl|rfl|rfl|rfl|rfl|rfl|rfl<;>decide
omit hn in
theorem qis(ps:L (J×J)):flats 9 (ps.map cD)=true:=by
 induction ps with
 |nil=>rfl
 |cons p r a=>show(flat 9 (cD p)&&flats 9 (r.map cD))=O; rw[a]; rfl
omit hn in
theorem any_c(ps:L (J×J))(p):((ps.map cD).any λy=>eqT y (cD p))=decide (p∈ps):=by
 induction ps with
 |nil=>rfl
 |cons a r b=>
  have e:eqT (cD a) (cD p)=decide (p=a):=by
   show((a.1==p.1)&&((a.2==p.2)&&O))=_;rw[Qx7,Qjb];simp only[Qqs,beq_iff_eq,decide_eq_true_eq];exact⟨λh=>Prod.ext h.1.symm h.2.symm,λh=>by rw[h]; exact⟨rfl,rfl⟩⟩
  rw[Qqm,Qz3,b,e];simp only[Qqy]
  by_cases h1:p=a<;>by_cases h2:p∈r<;>simp[h1,h2]
theorem qmo(m)(st)(k j)(hj:0<=j)(a0:j<1000)(w1:1<=W)(T:W<=24)(h1:1<=H)(h2:H<=24):∃ps:L (J×J),callD fns (m+2) 72 [scr ns,Z k,Z j,szD W H P] st=Y (.tup (ps.map cD),st++[Y1 O (ps.map cD)])/\1<=ps.length/\ps.length<=16/\ps.Nodup/\∀p∈ps,Cin W H p:=by
 have D:0<W*H:=Int.mul_pos (by lia) (by lia);have a3:=Int.mul_le_mul T h2 (by lia) (by lia);obtain⟨f,hf,f1,f2⟩:=dr hn m st k j hj (by lia) D;obtain⟨g,hg,g1,g2⟩:=dr hn m st k (j+1) (by lia) (by lia) D;obtain⟨a,N,a1,a2⟩:=dr hn m (st++[Y1 O []]) k (j+2) (many:=4) (by lia) (by lia) (by decide);have ⟨w,hw,x1,x2⟩:∃w:J,idxD (st++[Y1 O []]) (.lst [Z 16,Z 4,Z 4,Z 4]) (Z a)=Y (Z w)/\0<w/\w<=16:=by
  have:a=0\/a=1\/a=2\/a=3:=by lia
  rcases this with rfl|rfl|rfl|rfl
  ·exact⟨16,rfl,by decide,by decide⟩
  all_goals exact⟨4,rfl,by decide,by decide⟩
 obtain⟨b,K,b1,b2⟩:=dr hn m (st++[Y1 O []]) k (j+3) (by lia) (by lia) x1;have I:(RL (callD fns (m+1))).ev [Y (scr ns),Y (Z k),Y (Z j),Y (szD W H P),Y (Z (W*H)),Y (Z f),Y (Z (1+g)),Y (Y2 st.length),B,B] (st++[Y1 O []]) (.bin .Add (.lit (Z 1)) (.call 66 [.var 0,.var 1,.bin .Add (.var 2) (.lit (Z 3)),.idx (.gc (.lst [.lit (Z 16),.lit (Z 4),.lit (Z 4),.lit (Z 4)])) (.call 66 [.var 0,.var 1,.bin .Add (.var 2) (.lit (Z 2)),.lit (Z 4)])]))=Y (Z (1+b),st++[Y1 O []]):=
  qzc 0 [66] 1 (λq=>_/\_/\_/\_/\q) [.l [Z 16,Z 4,Z 4,Z 4],.c (Z a,st++[Y1 O []]),.i (Z w),.c (Z b,st++[Y1 O []])] ⟨qzw (st:=st++[Y1 O []]) (ds:=[Z 16,Z 4,Z 4,Z 4]) rfl,N,hw,K,rfl⟩
 obtain⟨h,st',h3,k',o,C,ps,rfl,rfl,p1,p2,A,x⟩:=qx2 (st:=st++[Y1 O []]) (it:=.rng1 (.bin .Add (.lit (Z 1)) (.call 66 [.var 0,.var 1,.bin .Add (.var 2) (.lit (Z 3)),.idx (.gc (.lst [.lit (Z 16),.lit (Z 4),.lit (Z 4),.lit (Z 4)])) (.call 66 [.var 0,.var 1,.bin .Add (.var 2) (.lit (Z 2)),.lit (Z 4)])]))) (t:=.var 8)
  (body:=[.set (.var 9) (.bin .Mod (.bin .Add (.var 5) (.bin .Mult (.var 8) (.var 6))) (.var 4)),.ite (.cmp .NotIn (.tup [.bin .Mod (.var 9) (.idx (.var 3) (.lit (Z 0))),.bin .FloorDiv (.var 9) (.idx (.var 3) (.lit (Z 0)))]) (.var 7)) [.expr (.meth (.var 7) .append [.tup [.bin .Mod (.var 9) (.idx (.var 3) (.lit (Z 0))),.bin .FloorDiv (.var 9) (.idx (.var 3) (.lit (Z 0)))]])] []])
  (λi h st'=>i<=(1+b).toNat/\∃o C ps,h=[Y (scr ns),Y (Z k),Y (Z j),Y (szD W H P),Y (Z (W*H)),Y (Z f),Y (Z (1+g)),Y (Y2 st.length),o,C]/\st'=st++[Y1 O ((ps:L (J×J)).map cD)]/\ps.length<=i/\(0<i->1<=ps.length)/\ps.Nodup/\∀p∈ps,Cin W H p)
  (by
   show((RL (callD fns (m+1))).ev _ _ _).bind _=_;rw[I];show(if big (1+b)=O then B else Y (Src.rng 0 (1+b).toNat,_))=_
   rw[Z5 (by unfold big; simp; lia)])
  (by simp[Src.size]) (λi h st' _=>qw5 _ _ _) ⟨Qq8 _,B,B,[],rfl,rfl,by simp,by simp,List.nodup_nil,by simp⟩ (λi h st' d hd hp=>by
   obtain⟨_,o,C,ps,rfl,rfl,p1,p2,A,x⟩:=hp;rw[Qqw]at hd;obtain⟨i',s,rfl⟩:=Qqb.mp hd;have G:i<(1+b).toNat:=by
    have:=(Qqj.mp s).1;simpa using this
   rw[Qxo G]at s;cases s;generalize n:(f+(0+(i:J))*(1+g)) % (W*H)=pl;have X:0<=pl:=by rw[<- n]; exact Int.emod_nonneg _ (by lia)
   have V:pl<W*H:=by rw[<- n]; exact Int.emod_lt_of_pos _ D
   have R:mulOk (0+(i:J)) (1+g)=true:=qqw (by lia) (by lia);have Q:binop (st++[Y1 O (ps.map cD)]) .Mod (Z (f+(0+(i:J))*(1+g))) (Z (W*H))=Y (Z pl,st++[Y1 O (ps.map cD)]):=by rw[bMo _ _ D,n]
   have F:binop (st++[Y1 O (ps.map cD)]) .Mod (Z pl) (Z W)=Y (Z (pl % W),st++[Y1 O (ps.map cD)]):=bMo _ _ (by lia);have E:binop (st++[Y1 O (ps.map cD)]) .FloorDiv (Z pl) (Z W)=Y (Z (pl / W),st++[Y1 O (ps.map cD)]):=bDi _ _ (by lia) (by lia);have S:=gl (st:=st) (c:=Y1 O (ps.map cD));have l:cmpD (st++[Y1 O (ps.map cD)]) .NotIn (cD (pl % W,pl / W)) (Y2 st.length)=Y (!decide ((pl % W,pl / W)∈ps)):=by
    have e:inD (st++[Y1 O (ps.map cD)]) (cD (pl % W,pl / W)) (Y2 st.length)=Y (decide ((pl % W,pl / W)∈ps)):=by
     show(seqAt (st++[Y1 O (ps.map cD)]) (Y2 st.length)).bind _=_;have:seqAt (st++[Y1 O (ps.map cD)]) (Y2 st.length)=Y (ps.map cD):=by show listAt _ _=_; unfold listAt; rw[gl]
     rw[this];show(if flat 9 (cD (pl % W,pl / W))&&flats 9 (ps.map cD) then Y ((ps.map cD).any λy=>eqT y (cD (pl % W,pl / W))) else B)=_;rw[qis,any_c]
     rfl
    show(inD _ _ _).map (!·)=_;rw[e]
    rfl
   by_cases u:(pl % W,pl / W)∈ps
   ·rw[Z3 u]at l;refine⟨_,_,qzy 0 [] 1 (λq=>_/\_/\_/\_/\_/\q) [.b O,.c (Z pl,st++[Y1 O (ps.map cD)]),.c (Z (pl % W),st++[Y1 O (ps.map cD)]),.c (Z (pl / W),st++[Y1 O (ps.map cD)]),.b Y6] ⟨R,Q,F,E,l,rfl⟩,by lia,Y (Z (0+(i:J))),Y (Z pl),ps,rfl,rfl,by lia,λ_=>Qxp.mpr (λz=>by rw[z]at u; cases u),A,x⟩
   ·rw[Z4 u]at l;have v:(ps.map cD).length<lim:=by rw[Qqz]; unfold lim; lia
    refine⟨_,_,qzy 0 [] 1 (λq=>_/\_/\_/\_/\_/\_/\_/\_/\_/\_/\q) [.b O,.c (Z pl,st++[Y1 O (ps.map cD)]),.c (Z (pl % W),st++[Y1 O (ps.map cD)]),.c (Z (pl / W),st++[Y1 O (ps.map cD)]),.b O,.r (Y1 O (ps.map cD)),.c (Z (pl % W),st++[Y1 O (ps.map cD)]),.c (Z (pl / W),st++[Y1 O (ps.map cD)]),.r (Y1 O (ps.map cD)),.b O] (r:=(.nx [Y (scr ns),Y (Z k),Y (Z j),Y (szD W H P),Y (Z (W*H)),Y (Z f),Y (Z (1+g)),Y (Y2 st.length),Y (Z (0+(i:J))),Y (Z pl)],(st++[Ya.lst O (ps.map cD)]).set st.length (Y1 O (ps.map cD++[cD (pl % W,pl / W)])))) ⟨R,Q,F,E,l,S,F,E,S,Z3 v,rfl⟩,by lia,Y (Z (0+(i:J))),Y (Z pl),ps++[(pl % W,pl / W)],rfl,by rw[sl]; simp,by simp; lia,λ_=>by simp,?_,λp hp=>?_⟩
    ·rw[Qxm];exact⟨A,by simp,λa N b K=>by cases Qqa.mp K; exact λz=>u (z▸N)⟩
    ·rcases Qqn.mp hp with hp|hp
     ·exact x p hp
     ·cases Qqa.mp hp;refine⟨Int.emod_nonneg _ (by lia),Int.emod_lt_of_pos _ (by lia),Int.ediv_nonneg X (by lia),?_⟩
      exact Int.ediv_lt_of_lt_mul (by lia) (by rw[Int.mul_comm]; exact V))
 rw[Qqz,Qxc]at p1 p2 k';refine⟨ps,?_,p2 (by lia),by lia,A,x⟩;have U:mulOk W H=true:=qqw (by lia) (by lia);exact qzz 0 [66] 2 (λq=>_/\_/\_/\_/\_/\q) [.b O,.c (Z f,st),.c (Z g,st),.s (.nx [Y (scr ns),Y (Z k),Y (Z j),Y (szD W H P),Y (Z (W*H)),Y (Z f),Y (Z (1+g)),Y (Y2 st.length),o,C],st++[Y1 O (ps.map cD)]),.r (Y1 O (ps.map cD))] ⟨U,hf,hg,h3,gl (st:=st) (c:=Y1 O (ps.map cD)),rfl⟩
end
inductive DF (W H P:J):D->Prop
 |vein {ss:L J}{ps:L (J×J)}(hP:(ss.length:J)=P) (hP2:ss.length<=100) (hs:∀s∈ss,0<=s/\s<=4) (h1:1<=ps.length) (h2:ps.length<=16) (hn:ps.Nodup) (hc:∀p∈ps,Cin W H p):DF W H P (.tup [sO "vein",.tup (ss.map .int),.tup (ps.map cD)])
 |join {a b f:J}(h1:1<=a) (h2:a<=400) (h3:1<=b) (h4:b<=400) (h5:1<=f) (h6:f<=P):DF W H P (.tup [sO "join",.int a,.int b,.int f])
 |stake {o:J}{g:J×J×J×J}(h1:1<=o) (h2:o<=40) (x0:0<=g.1) (x1:g.1<=g.2.2.1) (x2:g.2.2.1<W) (y0:0<=g.2.1) (y1:g.2.1<=g.2.2.2) (y2:g.2.2.2<H):DF W H P (.tup [sO "stake",.int o,.int g.1,.int g.2.1,.int g.2.2.1,.int g.2.2.2])
 |claim {f:D}(h:CF' f) (hs:∀m st,callD fns (m+6) 27 [szD W H P,f] st=Y (.bl O,st)):DF W H P f
def DF.sound(h:DF W H P f)(m)(st):callD fns (m+6) 27 [szD W H P,f] st=Y (.bl O,st):=by
 cases h with
 |vein e a hs h1 h2 hn d=>exact s_vein m st e a hs h1 h2 hn d
 |join h1 h2 k j i g=>exact s_join (m+3) st h1 h2 k j i g
 |stake h1 h2 c x1 x2 b y1 y2=>exact s_stake (m+3) st h1 h2 c x1 x2 b y1 y2
 |claim h hs=>exact hs m st
noncomputable def wIs(f:D)(ws:L String):Bool:=match f with
 |.tup (.str z::_)=>ws.any λw=>MS.sq z (Str.ofString w)
 |_=>Y6
noncomputable def pD(p:J×D):D:=.tup [.int p.1,p.2]
def qjo(ps:L (J×J)):noLoc (Y9 (ps.map cD))=true:=by rw[qxc]; exact qzb λ_ _=>rfl
def gT(st)(ps:L (J×J)):noLoc (Y9 (ps.map cD))=O/\(st++[Ya.lst O (ps.map cD)]).take st.length=st:=⟨qjo ps,tkl⟩
section
variable {ns:L J}(hn:ns.length<=63){W H P:J}(w1:1<=W)(w2:W<=24)(h1:1<=H)(h2:H<=24)(p0:0<=P)(p1:P<=12)
include hn w1 w2 h1 h2 p0 p1
theorem qi6(m)(st)(k):∃f,callD fns (m+3) 75 [scr ns,Z k,szD W H P] st=Y (f,st)/\DF W H P f:=by
 obtain⟨a,hs,c,b⟩:=qgw hn m st k 8 (by decide) (by decide) p0 p1;obtain⟨ps,i,h,g,e,d⟩:=qmo hn m st k 1 (P:=P) (by decide) (by decide) w1 w2 h1 h2;exact⟨_,qzz 0 [71,72] 3 (λq=>_/\_/\_/\q) [.c (Y9 (a.map Z),st),.c (Y9 (ps.map cD),st++[Y1 O (ps.map cD)]),.g] ⟨hs,i,gT st ps,rfl⟩,.vein c (by lia) b h g e d⟩
theorem qhs(m)(st)(k d)(F:0<=d)(y1:d<8){xs:L J}(C:∀x∈xs,1<=x/\x<=400):∃f,callD fns (m+3) 76 [scr ns,Z k,Z d,szD W H P,Yc (xs.map Z)] st=Y (f,st)/\DF W H P f:=by
 obtain⟨c,r,c1,c2⟩:=qyx hn m st k 1 (by decide) (by decide) C;obtain⟨o,p,u,t⟩:=qvm hn m st k 3 (by decide) (by decide);obtain⟨s,hs,A,G⟩:=dr hn (m+1) st k 5 (many:=2) (by decide) (by decide) (by decide);have ⟨l,hl,v,z,b,j,D⟩:∃l:J,(∃w:J,callD fns (m+2) 66 [scr ns,Z k,Z 6,Z w] st=Y (Z l,st)/\w=(if decide ((if s=0 then W else H)<23) then(if s=0 then W else H) else 23))/\0<=l/\l<23/\∃b,decide ((if s=0 then W else H)<23)=b/\True:=by
  by_cases h:(if s=0 then W else H)<23
  ·have hp:0<(if s=0 then W else H):=by split<;>lia
   obtain⟨l,hl,v,z⟩:=dr hn (m+1) st k 6 (by decide) (by decide) hp;exact⟨l,⟨_,hl,by rw[Z3 h]; rfl⟩,v,by lia,O,Z3 h,trivial⟩
  ·obtain⟨l,hl,v,z⟩:=dr hn (m+1) st k 6 (many:=23) (by decide) (by decide) (by decide);exact⟨l,⟨_,hl,by rw[Z4 h]; rfl⟩,v,by lia,Y6,Z4 h,trivial⟩
 obtain⟨w,hl,a⟩:=hl;have E:DF W H P (Y9 [sO "work",Z c]):=.claim (.work c) λm st=>s_work (m+3) st c1 c2;have dg:DF W H P (Y9 [sO "give",Z c]):=.claim (.give c) λm st=>s_give (m+3) st c1 c2;have ds:DF W H P (Y9 [sO "sell",Z c,Z o]):=.claim (.sell c o ⟨u,t⟩) λm st=>s_sell (m+3) st c1 c2 u t;have dp:DF W H P (Y9 [sO "part",Z c,Z s,Z (1+l),Z o]):=.claim (.part c s (1+l) o (by lia) ⟨u,t⟩) λm st=>s_part (m+3) st c1 c2 A (by lia) (by lia) (by lia) u t;have g:=qzw (st:=st) (ds:=[Y9 [sO "sell",Z c,Z o],Y9 [sO "part",Z c,Z s,Z (1+l),Z o],Y9 [sO "give",Z c]]) rfl;have n:∀f,(d<3/\f=Y9 [sO "work",Z c])\/(¬ d<3/\idxD st (Yc [Y9 [sO "sell",Z c,Z o],Y9 [sO "part",Z c,Z s,Z (1+l),Z o],Y9 [sO "give",Z c]]) (Z (d / 2 - 1))=Y f)->callD fns (m+3) 76 [scr ns,Z k,Z d,szD W H P,Yc (xs.map Z)] st=Y (f,st):=λf hf=>by
  have y:s=0\/s=1:=by lia
  rcases y with rfl|rfl
  ·rw[Z6 rfl]at j a
   cases b with
   |true=>
    rw[j,Z6 rfl]at a;subst a;rcases hf with⟨i,rfl⟩|⟨i,hf⟩
    ·exact qzz 0 [66,73,74] 3 (λq=>_/\_/\_/\_/\_/\_/\q) [.c (Z c,st),.c (Z o,st),.c (Z 0,st),.b O,.c (Z l,st),.b O] ⟨r,p,hs,j,hl,Z3 i,rfl⟩
    ·exact qzz 0 [66,73,74] 3 (λq=>_/\_/\_/\_/\_/\_/\_/\_/\q) [.c (Z c,st),.c (Z o,st),.c (Z 0,st),.b O,.c (Z l,st),.b Y6,.l [Y9 [sO "sell",Z c,Z o],Y9 [sO "part",Z c,Z 0,Z (1+l),Z o],Y9 [sO "give",Z c]],.i f] ⟨r,p,hs,j,hl,Z4 i,g,hf,rfl⟩
   |false=>
    rw[j,Z5 (by simp)]at a;subst a;rcases hf with⟨i,rfl⟩|⟨i,hf⟩
    ·exact qzz 0 [66,73,74] 3 (λq=>_/\_/\_/\_/\_/\_/\q) [.c (Z c,st),.c (Z o,st),.c (Z 0,st),.b Y6,.c (Z l,st),.b O] ⟨r,p,hs,j,hl,Z3 i,rfl⟩
    ·exact qzz 0 [66,73,74] 3 (λq=>_/\_/\_/\_/\_/\_/\_/\_/\q) [.c (Z c,st),.c (Z o,st),.c (Z 0,st),.b Y6,.c (Z l,st),.b Y6,.l [Y9 [sO "sell",Z c,Z o],Y9 [sO "part",Z c,Z 0,Z (1+l),Z o],Y9 [sO "give",Z c]],.i f] ⟨r,p,hs,j,hl,Z4 i,g,hf,rfl⟩
  ·rw[Z5 (show ¬ (1:J)=0 by decide)]at j a
   cases b with
   |true=>
    rw[j,Z6 rfl]at a;subst a;rcases hf with⟨i,rfl⟩|⟨i,hf⟩
    ·exact qzz 0 [66,73,74] 3 (λq=>_/\_/\_/\_/\_/\_/\q) [.c (Z c,st),.c (Z o,st),.c (Z 1,st),.b O,.c (Z l,st),.b O] ⟨r,p,hs,j,hl,Z3 i,rfl⟩
    ·exact qzz 0 [66,73,74] 3 (λq=>_/\_/\_/\_/\_/\_/\_/\_/\q) [.c (Z c,st),.c (Z o,st),.c (Z 1,st),.b O,.c (Z l,st),.b Y6,.l [Y9 [sO "sell",Z c,Z o],Y9 [sO "part",Z c,Z 1,Z (1+l),Z o],Y9 [sO "give",Z c]],.i f] ⟨r,p,hs,j,hl,Z4 i,g,hf,rfl⟩
   |false=>
    rw[j,Z5 (by simp)]at a;subst a;rcases hf with⟨i,rfl⟩|⟨i,hf⟩
    ·exact qzz 0 [66,73,74] 3 (λq=>_/\_/\_/\_/\_/\_/\q) [.c (Z c,st),.c (Z o,st),.c (Z 1,st),.b Y6,.c (Z l,st),.b O] ⟨r,p,hs,j,hl,Z3 i,rfl⟩
    ·exact qzz 0 [66,73,74] 3 (λq=>_/\_/\_/\_/\_/\_/\_/\_/\q) [.c (Z c,st),.c (Z o,st),.c (Z 1,st),.b Y6,.c (Z l,st),.b Y6,.l [Y9 [sO "sell",Z c,Z o],Y9 [sO "part",Z c,Z 1,Z (1+l),Z o],Y9 [sO "give",Z c]],.i f] ⟨r,p,hs,j,hl,Z4 i,g,hf,rfl⟩
 by_cases i:d<3
 ·exact⟨_,n _ (.inl ⟨i,rfl⟩),E⟩
 ·have:d / 2 - 1=0\/d / 2 - 1=1\/d / 2 - 1=2:=by lia
  rcases this with e|e|e
  ·exact⟨_,n _ (.inr ⟨i,by rw[e]; rfl⟩),ds⟩
  ·exact⟨_,n _ (.inr ⟨i,by rw[e]; rfl⟩),dp⟩
  ·exact⟨_,n _ (.inr ⟨i,by rw[e]; rfl⟩),dg⟩
end
noncomputable def dys(pl:L (J×D))(ws:L String):L Int:=(pl.filter λp=>wIs p.2 ws).map (·.1)
def dys_in(h:x∈dys pl ws):∃p∈pl,p.1=x:=by
 obtain⟨p,hp,rfl⟩:=Qqv.mp h;exact⟨p,(Qxe.mp hp).1,rfl⟩
noncomputable def gW(ws:L String):D->Y3 D
 |.tup [.int x,f]=>if wIs f ws then Y (.int x) else B
 |_=>B
def qn4(pl)(ws):(pl.map pD).filterMap (gW ws)=(dys pl ws).map Z:=by
 unfold dys
 induction pl with
 |nil=>rfl
 |cons p r a=>
  have e:gW ws (pD p)=if wIs p.2 ws then Y (Z p.1) else none:=rfl
  rw[Qqm,Qzn,e,a]
  cases h:wIs p.2 ws with
  |true=>simp[List.filter_cons,h]
  |false=>simp[List.filter_cons,h]
section
variable {ns:L J}(hn:ns.length<=63){W H P:J}(w1:1<=W)(w2:W<=24)(h1:1<=H)(h2:H<=24)(p0:0<=P)(p1:P<=12)
theorem ql1:rowAt (st++[Y1 O pl]) (Y2 st.length)=Y pl:=by
 show listAt _ _=_;unfold listAt;rw[gl]
theorem qi1(m)(st)(ws)(g:∀p∈pl,DF W H P p.2)(l:pl.length<1000)(c:τ[3]?=Y (Y (Y2 st.length)))(f:∀p:J×D,DF W H P p.2->(RL (callD fns m)).tst [Y (Z p.1),Y p.2] (st++[Y1 O (pl.map pD)]) q=Y (wIs p.2 ws,st++[Y1 O (pl.map pD)])):
  stepEv (RL (callD fns m)) τ (st++[Y1 O (pl.map pD)]) (.comp (.tup [0,1]) (.var 3) (Y q) (.var 0) [B,B])=Y (Y2 (st++[Ya.lst O (pl.map pD)]).length,st++[Y1 O (pl.map pD)]++[Y1 O ((dys pl ws).map Z)]):=by
 obtain⟨s,k,j,i⟩:=qcp c (ql1 (pl:=pl.map pD))
 have h:=qzt (t:=.tup [0,1]) (elt:=.var 0) (sr:=[B,B]) (gW ws) (λτ=>∃a b,τ=[a,b]) k j i (by simp; unfold lim; lia) ⟨B,B,rfl⟩ (λτ d hd c=>by
  obtain⟨a,b,rfl⟩:=c;obtain⟨p,e,rfl⟩:=Qqv.mp hd
  exact⟨[Y (Z p.1),Y p.2],turn_if rfl (f p (g p e)) λ_=>qqm _ _ _ _ _ rfl,Y (Z p.1),Y p.2,rfl⟩)
 rw[qn4]at h;exact h
theorem t_vein(m)(S)(p:J×D)(h:DF W H P p.2):(RL (callD fns m)).tst [Y (Z p.1),Y p.2] S (.cmp .Eq (.idx (Yd 1) (.lit (Z 0))) (.lit (sO "vein")))=Y (wIs p.2 ["vein"],S):=by
 obtain⟨x,f⟩:=p
 cases h with
 |vein=>exact qzh 0 [] 0 (λq=>q) [] rfl
 |join=>exact qzh 0 [] 0 (λq=>q) [] rfl
 |stake=>exact qzh 0 [] 0 (λq=>q) [] rfl
 |claim h _=>cases h<;>exact qzh 0 [] 0 (λq=>q) [] rfl
theorem t_name(m)(S)(p:J×D)(h:DF W H P p.2):(RL (callD fns m)).tst [Y (Z p.1),Y p.2] S (.cmp .In (.idx (.var 1) (.lit (Z 0))) (.tup [.lit (sO "stake"),.lit (sO "part")]))=Y (wIs p.2 ["stake","part"],S):=by
 obtain⟨x,f⟩:=p
 cases h with
 |vein=>exact qzh 0 [] 0 (λq=>q) [] rfl
 |join=>exact qzh 0 [] 0 (λq=>q) [] rfl
 |stake=>exact qzh 0 [] 0 (λq=>q) [] rfl
 |claim h _=>cases h<;>exact qzh 0 [] 0 (λq=>q) [] rfl
include hn w1 w2 h1 h2 p0 p1
theorem qn0(m)(st)(k){pl:L (J×D)}(K:∀p∈pl,DF W H P p.2/\1<=p.1/\p.1<=400)(hl:pl.length<100):∃f,callD fns (m+4) 77 [scr ns,Z k,szD W H P,Y2 st.length] (st++[Y1 O (pl.map pD)])=Y (f,st++[Y1 O (pl.map pD)])/\DF W H P f:=by
 obtain⟨y,j,y1,y2⟩:=dr hn (m+2) (st++[Y1 O (pl.map pD)]) k 0 (many:=20) (by decide) (by decide) (by decide);have U:∀u,∀x∈dys pl u,1<=x/\x<=400:=λu x hx=>by
  obtain⟨p,e,rfl⟩:=dys_in hx;exact(K p e).2
 have dl:∀u,(((dys pl u).map D.int).length:J)=((dys pl u).length:J):=λu=>by simp
 have c1:=qi1 (m+3) st (τ:=[Y (scr ns),Y (Z k),Y (szD W H P),Y (Y2 st.length),Y (Z y),B,B,B]) ["vein"] (λp e=>(K p e).1) (by lia) rfl (λp h=>t_vein (m+3) _ p h);have c2:=qi1 (m+3) st (τ:=[Y (scr ns),Y (Z k),Y (szD W H P),Y (Y2 st.length),Y (Z y),Y (Yc ((dys pl ["vein"]).map Z)),B,B]) ["stake","part"] (λp e=>(K p e).1) (by lia) rfl (λp h=>t_name (m+3) _ p h);generalize hS:st++[Y1 O (pl.map pD)]=S at j c1 c2 ⊢;generalize F:dys pl ["vein"]=vs at c1 c2;generalize G:dys pl ["stake","part"]=c at c2;have R:∀x∈vs,1<=x/\x<=400:=by rw[<- F]; exact U _
 have du:∀x∈c,1<=x/\x<=400:=by rw[<- G]; exact U _
 have gv:=qzw (st:=S) (nlI vs);have s:=qzw (st:=S) (nlI c);have Q:∀xs:L J,xs=[]->((((xs.map D.int).length:Y0):J)==0)=true:=λxs h=>by rw[h]; rfl
 have E:∀xs:L J,xs≠[]->((((xs.map D.int).length:Y0):J)==0)=false:=λxs h=>by
  rw[beq_eq_false_iff_ne];simpa using h
 obtain⟨C,N,v⟩:=qi6 hn w1 w2 h1 h2 p0 p1 m S k
 by_cases t1:y<3
 ·exact⟨C,qzz 0 [66,70,73,74,75,76] 4 (λq=>_/\_/\_/\_/\_/\_/\_/\q) [.c (Z y,S),.c (Y2 S.length,S++[Y1 O (vs.map Z)]),.l (vs.map Z),.c (Y2 S.length,S++[Y1 O (c.map Z)]),.l (c.map Z),.b O,.c (C,S)] ⟨j,c1,gv,c2,s,Z3 t1,N,rfl⟩,v⟩
 ·by_cases tA:y<8/\vs=[]
  ·exact⟨C,qzz 0 [66,70,73,74,75,76] 4 (λq=>_/\_/\_/\_/\_/\_/\_/\_/\_/\q) [.c (Z y,S),.c (Y2 S.length,S++[Y1 O (vs.map Z)]),.l (vs.map Z),.c (Y2 S.length,S++[Y1 O (c.map Z)]),.l (c.map Z),.b Y6,.b O,.b O,.c (C,S)] ⟨j,c1,gv,c2,s,Z4 t1,Z3 tA.1,Q vs tA.2,N,rfl⟩,v⟩
  ·by_cases tB:y<5/\0<P
   ·have n:=λz=>tA ⟨by lia,z⟩;have i:y<8:=by lia
    obtain⟨fl,hf,f1,f2⟩:=dr hn (m+2) S k 5 (by decide) (by decide) tB.2;obtain⟨a,ha,a1,a2⟩:=qyx hn (m+1) S k 1 (by decide) (by decide) R;obtain⟨b,hb,b1,b2⟩:=qyx hn (m+1) S k 3 (by decide) (by decide) R;exact⟨_,qzz 0 [66,70,73,74,75,76] 4 (λq=>_/\_/\_/\_/\_/\_/\_/\_/\_/\_/\_/\_/\_/\q) [.c (Z y,S),.c (Y2 S.length,S++[Y1 O (vs.map Z)]),.l (vs.map Z),.c (Y2 S.length,S++[Y1 O (c.map Z)]),.l (c.map Z),.b Y6,.b O,.b Y6,.b O,.b O,.c (Z fl,S),.c (Z a,S),.c (Z b,S)] (r:=(Y9 [sO "join",Z a,Z b,Z (1+fl)],S)) ⟨j,c1,gv,c2,s,Z4 t1,Z3 i,E vs n,Z3 tB.1,Z3 tB.2,hf,ha,hb,rfl⟩,.join a1 a2 b1 b2 (by lia) (by lia)⟩
   ·obtain⟨o,w,o1,o2⟩:=qvm hn (m+1) S k 1 (by decide) (by decide);obtain⟨g,A,x0,x1,x2,z0,X,V⟩:=qyq hn (m+1) S k 3 (W:=W) (H:=H) (by decide) (by decide) (by lia) (by lia);have ds:DF W H P (Y9 [sO "stake",Z o,Z g.1,Z g.2.1,Z g.2.2.1,Z g.2.2.2]):=.stake o1 o2 x0 x1 x2 z0 X V
    by_cases d:y<12
    ·by_cases i:y<8
     ·have n:=λz=>tA ⟨i,z⟩
      by_cases l:y<5
      ·have tp:=λz=>tB ⟨l,z⟩;exact⟨_,qzz 0 [66,70,73,74,75,76] 4 (λq=>_/\_/\_/\_/\_/\_/\_/\_/\_/\_/\_/\_/\_/\q) [.c (Z y,S),.c (Y2 S.length,S++[Y1 O (vs.map Z)]),.l (vs.map Z),.c (Y2 S.length,S++[Y1 O (c.map Z)]),.l (c.map Z),.b Y6,.b O,.b Y6,.b O,.b Y6,.b O,.c (Z o,S),.c (rD g,S)] ⟨j,c1,gv,c2,s,Z4 t1,Z3 i,E vs n,Z3 l,Z4 tp,Z3 d,w,A,rfl⟩,ds⟩
      ·exact⟨_,qzz 0 [66,70,73,74,75,76] 4 (λq=>_/\_/\_/\_/\_/\_/\_/\_/\_/\_/\_/\_/\q) [.c (Z y,S),.c (Y2 S.length,S++[Y1 O (vs.map Z)]),.l (vs.map Z),.c (Y2 S.length,S++[Y1 O (c.map Z)]),.l (c.map Z),.b Y6,.b O,.b Y6,.b Y6,.b O,.c (Z o,S),.c (rD g,S)] ⟨j,c1,gv,c2,s,Z4 t1,Z3 i,E vs n,Z4 l,Z3 d,w,A,rfl⟩,ds⟩
     ·have l:¬ y<5:=by lia
      exact⟨_,qzz 0 [66,70,73,74,75,76] 4 (λq=>_/\_/\_/\_/\_/\_/\_/\_/\_/\_/\_/\q) [.c (Z y,S),.c (Y2 S.length,S++[Y1 O (vs.map Z)]),.l (vs.map Z),.c (Y2 S.length,S++[Y1 O (c.map Z)]),.l (c.map Z),.b Y6,.b Y6,.b Y6,.b O,.c (Z o,S),.c (rD g,S)] ⟨j,c1,gv,c2,s,Z4 t1,Z4 i,Z4 l,Z3 d,w,A,rfl⟩,ds⟩
    ·have i:¬ y<8:=by lia
     have l:¬ y<5:=by lia
     by_cases tC:y<17/\c=[]
     ·exact⟨_,qzz 0 [66,70,73,74,75,76] 4 (λq=>_/\_/\_/\_/\_/\_/\_/\_/\_/\_/\_/\_/\_/\q) [.c (Z y,S),.c (Y2 S.length,S++[Y1 O (vs.map Z)]),.l (vs.map Z),.c (Y2 S.length,S++[Y1 O (c.map Z)]),.l (c.map Z),.b Y6,.b Y6,.b Y6,.b Y6,.b O,.b O,.c (Z o,S),.c (rD g,S)] ⟨j,c1,gv,c2,s,Z4 t1,Z4 i,Z4 l,Z4 d,Z3 tC.1,Q c tC.2,w,A,rfl⟩,ds⟩
     ·obtain⟨f,hf,T⟩:=qhs hn w1 w2 h1 h2 p0 p1 m S k (y - 12) (by lia) (by lia) du
      by_cases t:y<17
      ·have I:=λz=>tC ⟨t,z⟩;exact⟨f,qzz 0 [66,70,73,74,75,76] 4 (λq=>_/\_/\_/\_/\_/\_/\_/\_/\_/\_/\_/\_/\q) [.c (Z y,S),.c (Y2 S.length,S++[Y1 O (vs.map Z)]),.l (vs.map Z),.c (Y2 S.length,S++[Y1 O (c.map Z)]),.l (c.map Z),.b Y6,.b Y6,.b Y6,.b Y6,.b O,.b Y6,.c (f,S)] ⟨j,c1,gv,c2,s,Z4 t1,Z4 i,Z4 l,Z4 d,Z3 t,E c I,hf,rfl⟩,T⟩
      ·exact⟨f,qzz 0 [66,70,73,74,75,76] 4 (λq=>_/\_/\_/\_/\_/\_/\_/\_/\_/\_/\_/\q) [.c (Z y,S),.c (Y2 S.length,S++[Y1 O (vs.map Z)]),.l (vs.map Z),.c (Y2 S.length,S++[Y1 O (c.map Z)]),.l (c.map Z),.b Y6,.b Y6,.b Y6,.b Y6,.b Y6,.c (f,S)] ⟨j,c1,gv,c2,s,Z4 t1,Z4 i,Z4 l,Z4 d,Z4 t,hf,rfl⟩,T⟩
theorem qmj(m)(st)(k)(k1:0<=k)(k2:k<1000)(m1:1<=many)(X:many<=24):∃pl:L (J×D),callD fns (m+5) 78 [scr ns,Z k,szD W H P,Z many] st=Y (Y2 st.length,st++[Y1 O (pl.map pD)])/\(pl.length:J)=many/\(∀p∈pl,DF W H P p.2/\1<=p.1/\p.1<=360)/\(pl.map (·.1)).Pairwise (· < ·):=by
 obtain⟨a,A,a1,a2⟩:=dr hn (m+3) st k 0 (many:=4) (by decide) (by decide) (by decide);have n:∃e:J,idxD st (.lst [Z 1,Z 3,Z 8,Z 15]) (Z a)=Y (Z e)/\1<=e/\e<=15:=by
  have:a=0\/a=1\/a=2\/a=3:=by lia
  rcases this with rfl|rfl|rfl|rfl
  ·exact⟨1,rfl,by decide,by decide⟩
  ·exact⟨3,rfl,by decide,by decide⟩
  ·exact⟨8,rfl,by decide,by decide⟩
  ·exact⟨15,rfl,by decide,by decide⟩
 obtain⟨e,y,V,U⟩:=n;have g:=qzw (st:=st) (ds:=[Z 1,Z 3,Z 8,Z 15]) rfl;obtain⟨h,st',K,k',d,o,pl,rfl,rfl,w,C,l,u⟩:=qx2 (st:=st++[Y1 O []]) (it:=.rng2 (.bin .Add (.var 1) (.lit (Z 1))) (.bin .Add (.bin .Add (.var 1) (.lit (Z 1))) (.var 3))) (t:=.var 7)
  (body:=[.set (.var 6) (.bin .Add (.bin .Add (.var 6) (.lit (Z 1))) (.call 66 [.var 0,.var 7,.lit (Z 25),.var 4])),.expr (.meth (.var 5) .append [.tup [.var 6,.call 77 [.var 0,.var 7,.var 2,.var 5]]])])
  (λi h st'=>i<=many.toNat/\∃(d:J) (o:Y3 D) (pl:L (J×D)),h=[Y (scr ns),Y (Z k),Y (szD W H P),Y (Z many),Y (Z e),Y (Y2 st.length),Y (Z d),o]/\st'=st++[Y1 O (pl.map pD)]/\pl.length=i/\(0<=d/\d<=15*i)/\(∀p∈pl,DF W H P p.2/\1<=p.1/\p.1<=d)/\(pl.map (·.1)).Pairwise (· < ·))
  (by
   have Q:(RL (callD fns (m+4))).ev [Y (scr ns),Y (Z k),Y (szD W H P),Y (Z many),Y (Z e),Y (Y2 st.length),Y (Z 0),B] (st++[Y1 O []]) (.bin .Add (.var 1) (.lit (Z 1)))=Y (Z (k+1),st++[Y1 O []]):=qzc 0 [] 4 (λq=>q) [] rfl;have N:(RL (callD fns (m+4))).ev [Y (scr ns),Y (Z k),Y (szD W H P),Y (Z many),Y (Z e),Y (Y2 st.length),Y (Z 0),B] (st++[Y1 O []]) (.bin .Add (.bin .Add (.var 1) (.lit (Z 1))) (.var 3))=Y (Z (k+1+many),st++[Y1 O []]):=qzc 0 [] 4 (λq=>q) [] rfl;show((RL (callD fns (m+4))).ev _ _ _).bind _=_;rw[Q];show((RL (callD fns (m+4))).ev _ _ _).bind _=_;rw[N];show(if (big (k+1)||big (k+1+many))=O then B else Y (Src.rng (k+1) (k+1+many - (k+1)).toNat,_))=_
   rw[Z5 (by unfold big; simp; lia),show k+1+many - (k+1)=many by lia])
  (by simp[Src.size]) (λi h st' _=>qw5 _ _ _) ⟨Qq8 _,0,B,[],rfl,rfl,rfl,⟨by lia,by lia⟩,by simp,.nil⟩ (λi h st' x E hp=>by
   obtain⟨_,d,o,pl,rfl,rfl,w,C,l,u⟩:=hp;rw[Qqw]at E;obtain⟨i',j,rfl⟩:=Qqb.mp E;have z:i<many.toNat:=by
    have:=(Qqj.mp j).1;simpa using this
   rw[Qxo z]at j;cases j;obtain⟨v,G,T,S⟩:=dr hn (m+3) (st++[Y1 O (pl.map pD)]) (k+1+(i:Y0)) 25 (many:=e) (by decide) (by decide) (by lia);obtain⟨f,hf,R⟩:=qn0 hn w1 w2 h1 h2 p0 p1 m st (k+1+(i:Y0)) (λp hp=>by have:=l p hp; exact⟨this.1,this.2.1,by lia⟩) (by lia);have F:=gl (st:=st) (c:=Y1 O (pl.map pD));have s:(pl.map pD).length<lim:=by rw[Qqz]; unfold lim; lia
   refine⟨_,_,qzy 0 [66,77] 4 (λq=>_/\_/\_/\_/\_/\q) [.c (Z v,st++[Y1 O (pl.map pD)]),.r (Y1 O (pl.map pD)),.c (f,st++[Y1 O (pl.map pD)]),.r (Y1 O (pl.map pD)),.b O] (r:=(.nx [Y (scr ns),Y (Z k),Y (szD W H P),Y (Z many),Y (Z e),Y (Y2 st.length),Y (Z (d+1+v)),Y (Z (k+1+(i:Y0)))],(st++[Ya.lst O (pl.map pD)]).set st.length (Y1 O (pl.map pD++[pD (d+1+v,f)])))) ⟨G,F,hf,F,Z3 s,rfl⟩,by lia,d+1+v,Y (Z (k+1+(i:Y0))),pl++[(d+1+v,f)],rfl,by rw[sl]; simp,by simp[w],⟨by lia,by lia⟩,λp hp=>?_,?_⟩
   ·rcases Qqn.mp hp with hp|hp
    ·have:=l p hp;exact⟨this.1,this.2.1,by lia⟩
    ·cases Qqa.mp hp;exact⟨R,by simp only; lia,Int.le_refl _⟩
   ·rw[Qql,Qje];refine⟨u,by simp,λa A b I=>?_⟩;obtain⟨p,hp,rfl⟩:=Qqv.mp A;simp only[Qqm,Qxy,Qqa]at I;have:=l p hp
    lia)
 rw[Qqz,Qxc]at w C;refine⟨pl,qzz 0 [66] 5 (λq=>_/\_/\_/\_/\q) [.l [Z 1,Z 3,Z 8,Z 15],.c (Z a,st),.i (Z e),.s (.nx [Y (scr ns),Y (Z k),Y (szD W H P),Y (Z many),Y (Z e),Y (Y2 st.length),Y (Z d),o],st++[Y1 O (pl.map pD)])] ⟨g,A,y,K,rfl⟩,by lia,λp hp=>?_,u⟩;have:=l p hp;exact⟨this.1,this.2.1,by lia⟩
end
abbrev En:=J×J×J×J
noncomputable def eD(e:En):D:=.tup [.int e.1,.int e.2.1,.int e.2.2.1,.int e.2.2.2]
theorem qdp{ds:L D}(P:Y0->Sl->Y4->Prop)(c:D->Y4->Prop)(b:∀i τ st,P i τ st->s.at st i=Y ds[i]?)(g:∀i τ st d,ds[i]?=Y d->P i τ st->(∃a st',f τ st d=Y (.nx a,st')/\P (i+1) a st')\/∃v st',f τ st d=Y (.rt v,st')/\c v st'):
  ∀(k i:Y0) (τ:Sl) (st:Y4),i+k=ds.length->P i τ st->(∃a st',loop s f (k+1) i τ st=Y (.nx a,st')/\P ds.length a st')\/∃v st',loop s f (k+1) i τ st=Y (.rt v,st')/\c v st'
 |0,i,τ,st,h,p=>by
  have e:i=ds.length:=by lia
  subst e;refine .inl ⟨τ,st,?_,p⟩;rw[loop,b _ _ _ p];simp[Qzc (Qqk _)]
 |k+1,i,τ,st,h,p=>by
  have hi:i<ds.length:=by lia
  have h1:ds[i]?=Y ds[i]:=by simp
  rw[loop,b _ _ _ p,h1];simp only[oBs];rcases g i τ st _ h1 p with⟨a,st',e,q⟩|⟨v,st',e,q⟩
  ·rw[e]; exact qdp P c b g k (i+1) a st' (by lia) q
  ·rw[e]; exact .inr ⟨v,st',rfl,q⟩
def qip{ds:L D}(P:Y0->Sl->Y4->Prop)(h:D->Y4->Prop)(n:src (RL c) τ st it=Y (s,st))(m:s.size st=ds.length)(l:∀k a st',P k a st'->s.at st' k=Y ds[k]?)(o:P 0 τ st)(j:∀k a st' d,ds[k]?=Y d->P k a st'->(∃g b,((setT t d a).bind λf=>(RL c).ex f st' body)=Y (.nx g,b)/\P (k+1) g b)\/∃v b,((setT t d a).bind λf=>(RL c).ex f st' body)=Y (.rt v,b)/\h v b):
  (∃a st',stepEx (RL c) τ st (.forr t it body)=Y (.nx a,st')/\P ds.length a st')\/∃v st',stepEx (RL c) τ st (.forr t it body)=Y (.rt v,st')/\h v st':=by
 have e:∀x,loop s (λτ st d=>(setT t d τ).bind λa=>(RL c).ex a st body) (ds.length+1) 0 τ st=x->stepEx (RL c) τ st (.forr t it body)=x:=λx i=>by
  show(src (RL c) τ st it).bind _=_;rw[n];simp only[oBs];rw[m];exact i
 rcases qdp P h l j ds.length 0 τ st (by lia) o with⟨a,st',q,p⟩|⟨v,st',q,p⟩
 ·exact .inl ⟨a,st',e _ q,p⟩
 ·exact .inr ⟨v,st',e _ q,p⟩
section
def qei(b:1<=n)(a:n<=1000000):Fit W H P (n,"coins"):=⟨1,1000000,by kernel_rfl,b,a⟩
def qn1(b:0<=n)(a:n<=P):Fit W H P (n,"floor"):=⟨0,P,by kernel_rfl,b,a⟩
def s_pay(m)(st)(f:1<=a)(e:a<=40)(b1:1<=b)(b2:b<=40)(ne:a≠b)(d:1<=n)(c:n<=1000000):callD fns (m+3) 27 [szD W H P,Y9 [sO "pay",Z a,Z b,Z n]] st=Y (.bl O,st):=
 qzz 0 [21] 3 (λq=>_/\_/\_/\q) [.c (.bl O,st++[.dic O (bD W H P)]),.g,.b O] ⟨qq7 m st (W:=W) (H:=H) (P:=P) [(a,"folk"),(b,"folk"),(n,"coins")] (by simp) (by simp only[Qqy,Qq2,or_false,forall_eq_or_imp,forall_eq]; exact⟨qkp f e,qkp b1 b2,qei d c⟩),gB st (.dic O (bD W H P)),(show(!(a==b))=O by simpa using ne),rfl⟩
def s_dig(m)(st)(j:1<=o)(i:o<=40)(x1:0<=b)(x2:b<W)(y1:0<=a)(y2:a<H)(h:0<=x)(g:x<W)(f:0<=y)(e:y<H)(d:0<=z)(c:z<=P)(l:1<=n)(k:n<=1000000):callD fns (m+3) 27 [szD W H P,Y9 [sO "dig",Z o,Z b,Z a,Z x,Z y,Z z,Z n]] st=Y (.bl O,st):=
 qzz 0 [21] 3 (λq=>_/\_/\q) [.c (.bl O,st++[.dic O (bD W H P)]),.g] ⟨qq7 m st [(o,"folk"),(b,"x"),(a,"y"),(x,"x"),(y,"y"),(z,"floor"),(n,"coins")] (by simp) (by simp only[Qqy,Qq2,or_false,forall_eq_or_imp,forall_eq]; exact⟨qkp j i,f_x x1 x2,f_y y1 y2,f_x h g,f_y f e,qn1 d c,qei l k⟩),gB st (.dic O (bD W H P)),rfl⟩
end
section
variable {sz:Zt}{T d:J}{fo jo:L (D×D)}{ro:L J}{rest:Y4}{cs:L Cl}
noncomputable def owE(d a:J)(c:Y3 J)(t:J):L En:=match c with
 |some b=>if b=a then [] else [(d,a,b,t)]
 |none=>[]
def qyk(d a)(c)(t):(owE d a c t).length<=1:=by
 unfold owE
 split
 ·split
  ·exact Qq8 _
  ·exact Qqk _
 ·exact Qq8 _
def qdd(m)(a)(c)(t)(g:sz.es.length<1000):callD fns (m+1) 53 [Y2 0,Z a,oD c,Z t] (FC sz T d fo jo cs ro rest)=Y (.non,FC ⟨sz.s,sz.dg,sz.es++(owE d a c t).map eD⟩ T d fo jo cs ro rest):=by
 have f:FC ⟨sz.s,sz.dg,sz.es++([]:L En).map eD⟩ T d fo jo cs ro rest=FC sz T d fo jo cs ro rest:=by rw[Qxy,Qq7]
 cases c with
 |none=>
  show _=Y (_,FC ⟨_,_,_++([]:L En).map eD⟩ T d fo jo cs ro rest);rw[f];exact qzz 8 [] 1 (λq=>_/\q) [.b Y6] ⟨(show(!isNon .non)=Y6 from rfl),rfl⟩
 |some b=>
  show _=Y (_,FC ⟨_,_,_++(if b=a then [] else [(d,a,b,t)]:L En).map eD⟩ T d fo jo cs ro rest)
  by_cases e:b=a
  ·rw[Z6 e,f];exact qzz 8 [] 1 (λq=>_/\_/\q) [.b O,.b Y6] ⟨(show(!isNon (Z b))=O from rfl),(show(!(b==a))=Y6 by simpa using e),rfl⟩
  ·rw[Z5 e];exact qzz 8 [] 1 (λq=>_/\_/\_/\q) [.b O,.b O,.b O] ⟨(show(!isNon (Z b))=O from rfl),(show(!(b==a))=O by simpa using e),Z3 (p:=sz.es.length<lim) (by unfold lim; lia),rfl⟩
def mul10(n):mulOk 10 n=true:=rfl
def pay_ok(m)(ne:a≠b)(c:sz.es.length<1000):callD fns (m+2) 51 [Y2 0,Y9 [sO "pay",Z a,Z b,Z n]] (FC sz T d fo jo cs ro rest)=Y (sO "good",FC ⟨sz.s,sz.dg,sz.es++[(d,b,a,10*n)].map eD⟩ T d fo jo cs ro rest):=by
 have h2:=qdd (T:=T) (d:=d) (fo:=fo) (jo:=jo) (ro:=ro) (rest:=rest) (cs:=cs) m b (Y a) (10*n) c;rw[show owE d b (Y a) (10*n)=[(d,b,a,10*n)] from Z5 ne]at h2;exact qzz 8 [53] 2 (λq=>_/\_/\q) [.b O,.c (.non,FC ⟨sz.s,sz.dg,sz.es++[(d,b,a,10*n)].map eD⟩ T d fo jo cs ro rest)] ⟨mul10 n,h2,rfl⟩
end
theorem gs_of{cs:L Cl}:∀{row},(∀n∈row,∃c∈cs,c.nm=n)->∃b:L Cl,b.map (·.nm)=row/\∀c∈b,c∈cs
 |[],_=>⟨[],rfl,Qqp _⟩
 |n::r,h=>by
  obtain⟨c,f,rfl⟩:=h n (.head _);obtain⟨b,e,d⟩:=gs_of λx a=>h x (.tail _ a)
  exact⟨c::b,by rw[Qqm,e],λx a=>by
   rcases Qqy.mp a with rfl|a
   ·exact f
   ·exact d x a⟩
def gS(x)(st:Y4)(h:noLoc x=O):noLoc x=O/\st.take st.length=st:=⟨h,Qzv⟩
noncomputable def sgD(gs:L Cl):L D:=gs.map λc=>.tup [.int c.nm,rD c.g]
def nl_sg(a):noLocs (sgD a)=true:=qzb λ_ _=>rfl
section
variable {sz:Zt}{T d:J}{fo jo:L (D×D)}{ro:L J}{rest:Y4}{cs:L Cl}{Bq:Y0}
def qey(m)(I:Inv Bq rest cs)(a:c∈cs):callD fns (m+3) 31 [Y2 0,Z c.nm] (FC sz T d fo jo cs ro rest)=Y (rD c.g,FC sz T d fo jo cs ro rest):=
 qzz 8 [61] 3 (λq=>_/\q) [.c (Y9 [Z c.o,rD c.g,Z c.la,oD c.v,oD c.gv],FC sz T d fo jo cs ro rest)] ⟨qjb (sz:=sz) (T:=T) (d:=d) (fo:=fo) (jo:=jo) (ro:=ro) m I a,rfl⟩
def sg_ok(m)(I:Inv Bq rest cs)(f:∀n∈ro,∃c∈cs,c.nm=n)(p:ro.length<1000):∃a:L Cl,(∀c∈a,c∈cs)/\a.length<=ro.length/\∀sz:Zt,callD fns (m+4) 35 [Y2 0] (FC sz T d fo jo cs ro rest)=Y (Y2 (FC sz T d fo jo cs ro rest).length,FC sz T d fo jo cs ro rest++[Y1 O (sgD a)]):=by
 obtain⟨a,l,j⟩:=gs_of (row:=ro.filter (stB cs d)) λn hn=>f n (Qxe.mp hn).1;have o:=Qzu (stB cs d) ro;have h:a.length<=ro.length:=by
  have:=congrArg List.length l;rw[Qqz]at this
  lia
 refine⟨a,j,h,λsz=>?_⟩;have b:=qy7 (sz:=sz) (T:=T) (d:=d) (fo:=fo) (jo:=jo) m I f p;rw[<- l]at b;have i:(RL (callD fns (m+3))).ev [Y (Y2 0)] (FC sz T d fo jo cs ro rest) (.gc (.mcall 642 64 "standing" (.var 0) []))=Y (.lst (rowD (a.map (·.nm))),FC sz T d fo jo cs ro rest):=
  qzc 8 [64] 3 (λq=>_/\_/\q) [.c (Y2 (FC sz T d fo jo cs ro rest).length,FC sz T d fo jo cs ro rest++[Y1 O (rowD (a.map (·.nm)))]),.l (rowD (a.map (·.nm)))] ⟨b,qzw (st:=FC sz T d fo jo cs ro rest) (nlI (a.map (·.nm))),rfl⟩
 have r:=qa7 (it:=.gc (.mcall 642 64 "standing" (.var 0) [])) (elt:=.tup [.var 0,.call 31 [.var 1,.var 0]]) (sr:=[B,Y 0]) (es:=sgD a)
  (by show((RL (callD fns (m+3))).ev _ _ _).bind _=_; rw[i]; rfl) (qqs rfl) (qzs rfl) rfl (by unfold sgD; simp) (by simp; unfold lim; lia) λk x e hd g=>by
   have hd:((a.map (·.nm)).map D.int)[k]?=Y x:=hd;rw[Qq6,Qqw]at hd;unfold sgD at g;rw[Qqw]at g;obtain⟨c,h1,rfl⟩:=Qqb.mp hd;rw[h1]at g;cases g;exact qzc 8 [31] 3 (λq=>_/\q) [.c (rD c.g,FC sz T d fo jo cs ro rest)] ⟨qey (sz:=sz) (T:=T) (d:=d) (fo:=fo) (jo:=jo) (ro:=ro) m I (j c (Qqf h1)),rfl⟩
 exact qzz 8 [] 4 (λq=>_/\q) [.c (Y2 (FC sz T d fo jo cs ro rest).length,FC sz T d fo jo cs ro rest++[Y1 O (sgD a)])] ⟨r,rfl⟩
theorem qir{α:Type}{P:α->Yb}{c:α}:∀{l:L α}{k:Y0},(∀x∈l.take k,P x=Y6)->l[k]?=Y c->P c=O->l.find? P=Y c
 |[],_,_,h,_=>by cases h
 |x::l,0,_,h,hp=>by cases h; exact List.find?_cons_of_pos hp
 |x::l,k+1,h1,h2,hp=>by
  rw[List.find?_cons_of_neg (by rw[h1 x (.head _)]; exact Qqu)];exact qir (λy a=>h1 y (.tail _ a)) h2 hp
def take_all{α:Type}{P:α->Prop}{l:L α}{c:α}(h:∀x∈l.take k,P x)(b:l[k]?=Y c)(e:P c):∀x∈l.take (k+1),P x:=λx a=>by
 rw[Qxk,b]at a;rcases Qqn.mp a with a|a
 ·exact h x a
 ·cases Qqa.mp a; exact e
def qmn(m)(I:Inv Bq rest cs)(s:∀n∈ro,∃c∈cs,c.nm=n)(w:ro.length<1000)(p):∃o:Y3 Cl,(∀c,o=Y c->c∈cs)/\∀sz:Zt,callD fns (m+5) 41 [Y2 0,cD p] (FC sz T d fo jo cs ro rest)=Y (oD (o.map (·.nm)),FC sz T d fo jo cs ro rest):=by
 obtain⟨j,z,y,hs⟩:=sg_ok (T:=T) (d:=d) (fo:=fo) (jo:=jo) m I s w;refine⟨j.find? λc=>inB c.g p,λc i=>z c (Qzt i),λsz=>?_⟩;have hs:=hs sz;have u:(RL (callD fns (m+4))).ev [Y (Y2 0),Y (cD p),B,B] (FC sz T d fo jo cs ro rest) (.gc (.call 35 [.var 0]))=Y (.lst (sgD j),FC sz T d fo jo cs ro rest):=
  qzc 8 [35] 4 (λq=>_/\_/\q) [.c (Y2 (FC sz T d fo jo cs ro rest).length,FC sz T d fo jo cs ro rest++[Y1 O (sgD j)]),.l (sgD j)] ⟨hs,qzw (st:=FC sz T d fo jo cs ro rest) (nl_sg j),rfl⟩
 generalize A:FC sz T d fo jo cs ro rest=S at *;rcases qip (it:=.gc (.call 35 [.var 0])) (t:=.tup [2,3]) (body:=[.ite (.call 0 [.var 3,.var 1]) [.ret (.var 2)] []])
  (λk f st'=>(∀c∈j.take k,inB c.g p=Y6)/\∃a b,f=[Y (Y2 0),Y (cD p),a,b]/\st'=S) (λv st'=>∃c,j.find? (λc=>inB c.g p)=Y c/\v=Z c.nm/\st'=S)
  (by show((RL (callD fns (m+4))).ev _ _ _).bind _=_; rw[u]; rfl) (qzs rfl) (λk f st' _=>qqs rfl k) ⟨Qqp _,_,_,rfl,rfl⟩ (λk f st' x r h=>by
   obtain⟨hn,a,b,rfl,rfl⟩:=h;unfold sgD at r;rw[Qqw]at r;obtain⟨c,i,rfl⟩:=Qqb.mp r;have g:=qj6 (m+3) st' c.g p
   cases l:inB c.g p with
   |true=>
    rw[l]at g;exact .inr ⟨Z c.nm,st',qzy 0 [0] 4 (λq=>_/\q) [.c (.bl O,st')] ⟨g,rfl⟩,c,qir hn i l,rfl,rfl⟩
   |false=>
    rw[l]at g
    exact .inl ⟨[Y (Y2 0),Y (cD p),Y (Z c.nm),Y (rD c.g)],st',qzy 0 [0] 4 (λq=>_/\q) [.c (.bl Y6,st')] ⟨g,rfl⟩,take_all hn i l,_,_,rfl,rfl⟩) with⟨f,st',e,hn,a,b,rfl,rfl⟩|⟨v,st',e,c,i,rfl,rfl⟩
 ·have:j.find? (λc=>inB c.g p)=none:=Qjm.mpr λc i=>by
   rw[hn c (by unfold sgD; rw[Qqz,Qzv]; exact i)];exact Qqu
  rw[this];exact qzz 0 [] 5 (λq=>_/\q) [.s (.nx [Y (Y2 0),Y (cD p),a,b],st')] ⟨e,rfl⟩
 ·rw[i];exact qzz 0 [] 5 (λq=>_/\q) [.s (.rt (Z c.nm),st')] ⟨e,rfl⟩
def qnr(m)(I:Inv Bq rest cs)(a:∀n∈ro,∃c∈cs,c.nm=n)(b:ro.length<1000)(p):∃o:Y3 J,(∀n,o=Y n->∃c∈cs,n=c.o)/\∀sz:Zt,callD fns (m+6) 52 [Y2 0,cD p] (FC sz T d fo jo cs ro rest)=Y (oD o,FC sz T d fo jo cs ro rest):=by
 obtain⟨o,h1,h2⟩:=qmn (T:=T) (d:=d) (fo:=fo) (jo:=jo) m I a b p;refine⟨o.map (·.o),λn hn=>?_,λsz=>?_⟩
 ·obtain⟨c,f,rfl⟩:=Qqb.mp hn;exact⟨c,h1 c f,rfl⟩
 have h2:=h2 sz
 cases o with
 |none=>exact qzz 8 [41] 6 (λq=>_/\_/\_/\q) [.c (.non,FC sz T d fo jo cs ro rest),.g,.b O] ⟨h2,gS .non (FC sz T d fo jo cs ro rest) rfl,(show isNon .non=O from rfl),rfl⟩
 |some c=>
  have e:=qjb (sz:=sz) (T:=T) (d:=d) (fo:=fo) (jo:=jo) (ro:=ro) (m+3) I (h1 c rfl);exact qzz 8 [41,61] 6 (λq=>_/\_/\_/\_/\q) [.c (Z c.nm,FC sz T d fo jo cs ro rest),.g,.b Y6,.c (Y9 [Z c.o,rD c.g,Z c.la,oD c.v,oD c.gv],FC sz T d fo jo cs ro rest)] ⟨h2,gS (Z c.nm) (FC sz T d fo jo cs ro rest) rfl,(show isNon (Z c.nm)=Y6 from rfl),e,rfl⟩
end
noncomputable def ing(W H P x y z:J):Bool:=(decide (0<=x)&&decide (x<W))&&((decide (0<=y)&&decide (y<H))&&(decide (0<=z)&&decide (z<=P)))
def qil(m)(st)(W H P x y z):callD fns (m+1) 4 [szD W H P,Y9 [Z x,Z y,Z z]] st=Y (.bl (ing W H P x y z),st):=by
 unfold ing
 by_cases h1:0<=x
 ·by_cases h2:x<W
  ·by_cases a:0<=y
   ·by_cases b:y<H
    ·by_cases c:0<=z
     ·rw[Z3 h1,Z3 h2,Z3 a,Z3 b,Z3 c];have e:((O&&O)&&((O&&O)&&(O&&decide (z<=P))))=decide (z<=P):=by cases decide (z<=P)<;>rfl
      rw[e];exact qzz 0 [] 1 (λq=>_/\_/\_/\_/\_/\_/\q) [.b O,.b O,.b O,.b O,.b O,.b (decide (z<=P))] ⟨Z3 h1,Z3 h2,Z3 a,Z3 b,Z3 c,(show decide (z<=P)=decide (z<=P) from rfl),rfl⟩
     ·rw[Z3 h1,Z3 h2,Z3 a,Z3 b,Z4 c];exact qzz 0 [] 1 (λq=>_/\_/\_/\_/\_/\q) [.b O,.b O,.b O,.b O,.b Y6] ⟨Z3 h1,Z3 h2,Z3 a,Z3 b,Z4 c,rfl⟩
    ·rw[Z3 h1,Z3 h2,Z3 a,Z4 b];exact qzz 0 [] 1 (λq=>_/\_/\_/\_/\q) [.b O,.b O,.b O,.b Y6] ⟨Z3 h1,Z3 h2,Z3 a,Z4 b,rfl⟩
   ·rw[Z3 h1,Z3 h2,Z4 a];exact qzz 0 [] 1 (λq=>_/\_/\_/\q) [.b O,.b O,.b Y6] ⟨Z3 h1,Z3 h2,Z4 a,rfl⟩
  ·rw[Z3 h1,Z4 h2];exact qzz 0 [] 1 (λq=>_/\_/\q) [.b O,.b Y6] ⟨Z3 h1,Z4 h2,rfl⟩
 ·rw[Z4 h1];exact qzz 0 [] 1 (λq=>_/\q) [.b Y6] ⟨Z4 h1,rfl⟩
noncomputable abbrev mvD:D:=.tup [.tup [.int 0,.int 0],.tup [.int 1,.int 0],.tup [.int (-1),.int 0],.tup [.int 0,.int 1],.tup [.int 0,.int (-1)]]
noncomputable abbrev clB:L M.S:=[.set (.var 3) (.bin .Sub (.var 3) (.idx (.idx (.glo "MOVES" mvD) (.var 5)) (.lit (.int 0)))),.set (.var 4) (.bin .Sub (.var 4) (.idx (.idx (.glo "MOVES" mvD) (.var 5)) (.lit (.int 1)))),.ite (.not (.call 4 [.var 0,.tup [.var 3,.var 4,.lit (.int 0)]])) [.ret (.lit .non)] []]
noncomputable def mvX:J->J×J
 |1=>(1,0)
 |2=>(-1,0)
 |3=>(0,1)
 |4=>(0,-1)
 |_=>(0,0)
noncomputable def stp(W H P x y s:J):Y3 (J×J):=if ing W H P (x - (mvX s).1) (y - (mvX s).2) 0 then Y (x - (mvX s).1,y - (mvX s).2) else B
def clb_ok(m)(st)(g:0<=s)(f:s<=4)(u v):(RL (callD fns (m+1))).ex [Y (szD W H P),Y u,Y v,Y (Z x),Y (Z y),Y (Z s)] st clB=Y (match stp W H P x y s with|some q=>.nx [Y (szD W H P),Y u,Y v,Y (Z q.1),Y (Z q.2),Y (Z s)]|none=>.rt .non,st):=by
 have c:∀s:J,atI [D.tup [Z 0,Z 0],Y9 [Z 1,Z 0],Y9 [Z (-1),Z 0],Y9 [Z 0,Z 1],Y9 [Z 0,Z (-1)]] s=Y (Y9 [Z (mvX s).1,Z (mvX s).2])->(RL (callD fns (m+1))).ex [Y (szD W H P),Y u,Y v,Y (Z x),Y (Z y),Y (Z s)] st clB=Y (match stp W H P x y s with|some q=>.nx [Y (szD W H P),Y u,Y v,Y (Z q.1),Y (Z q.2),Y (Z s)]|none=>.rt .non,st):=λs hi=>by
  unfold stp;generalize mvX s=q at hi ⊢;obtain⟨dx,a⟩:=q;have b:=qil m st W H P (x - dx) (y - a) 0;dsimp only at hi ⊢
  cases d:ing W H P (x - dx) (y - a) 0 with
  |true=>
   rw[d]at b;exact qzy 0 [4] 1 (λq=>_/\_/\_/\q) [.i (Y9 [Z dx,Z a]),.n,.i (Y9 [Z dx,Z a]),.n,.c (.bl O,st)] ⟨hi,hi,b,rfl⟩
  |false=>
   rw[d]at b;exact qzy 0 [4] 1 (λq=>_/\_/\_/\q) [.i (Y9 [Z dx,Z a]),.n,.i (Y9 [Z dx,Z a]),.n,.c (.bl Y6,st)] ⟨hi,hi,b,rfl⟩
 have e:s=0\/s=1\/s=2\/s=3\/s=4:=by lia
 rcases e with rfl|rfl|rfl|rfl|rfl<;>exact c _ rfl
noncomputable def cO:Y3 (J×J)->D
 |some p=>cD p
 |none=>.non
noncomputable def clm(W H P:J):J->J->L J->Y3 (J×J)
 |x,y,[]=>Y (x,y)
 |x,y,s::r=>(stp W H P x y s).bind λq=>clm W H P q.1 q.2 r
theorem qex{Q:J->Prop}:∀{l:L D},(∀q∈l,∃s,q=Z s/\Q s)->∃a:L J,l=a.map Z/\∀s∈a,Q s
 |[],_=>⟨[],rfl,Qqp _⟩
 |d::r,h=>by
  obtain⟨s,rfl,hs⟩:=h _ (.head _);obtain⟨a,rfl,c⟩:=qex λq b=>h q (.tail _ b);exact⟨s::a,rfl,Qjf.mpr ⟨hs,c⟩⟩
def qhm(m){c:L J}(j:∀s∈c,0<=s/\s<=4):∃o:Y3 (J×J),∀st,callD fns (m+2) 28 [szD W H P,.tup (c.map Z),.tup [Z x,Z y,Z z]] st=Y (cO o,st):=by
 obtain⟨G,w,I⟩:=qex (l:=cut (c.map D.int) B (Y z)) (Q:=λs=>0<=s/\s<=4) λq p=>by
  unfold cut at p;obtain⟨s,h1,rfl⟩:=Qqv.mp (List.mem_of_mem_drop (List.mem_of_mem_take p));exact⟨s,rfl,j s h1⟩
 refine⟨clm W H P x y G.reverse,λst=>?_⟩;have r:(RL (callD fns (m+1))).ev [Y (szD W H P),Y (.tup (c.map Z)),Y (.tup [Z x,Z y,Z z]),Y (Z x),Y (Z y),B] st (.sli (.var 1) B (Y (.idx (.var 2) (.lit (Z 2)))))=Y (.tup (cut (c.map Z) B (Y z)),st):=qzc 0 [] 1 (λq=>q) [] rfl;generalize E:G.reverse=R;have A:∀s∈R,0<=s/\s<=4:=λs h=>I s (by rw[<- E]at h; exact List.mem_reverse.mp h);have i:(cut (c.map D.int) B (Y z)).reverse=R.map Z:=by rw[w,<- List.map_reverse,E]
 generalize cut (c.map D.int) B (Y z)=u at r i;rcases qip (it:=.rev (.sli (.var 1) B (Y (.idx (.var 2) (.lit (Z 2)))))) (t:=.var 5) (ds:=R.map Z)
  (λk d st'=>∃g f a,clm W H P x y R=clm W H P g f (R.drop k)/\d=[Y (szD W H P),Y (.tup (c.map Z)),Y (.tup [Z x,Z y,Z z]),Y (Z g),Y (Z f),a]/\st'=st) (λv st'=>clm W H P x y R=B/\v=.non/\st'=st)
  (by show((RL (callD fns (m+1))).ev _ _ _).bind _=_; rw[r]; rfl) (by rw[<- i,List.length_reverse]; rfl) (λk d st' _=>by
   rw[<- i];show Y (if k<u.length then u[u.length - 1 - k]? else B)=_
   by_cases n:k<u.length
   ·rw[Z6 n,List.getElem?_reverse n]
   ·rw[Z5 n,Qzc (by rw[List.length_reverse]; lia)]) ⟨_,_,_,rfl,rfl,rfl⟩ (λk d st' q p h=>by
   obtain⟨g,f,a,b,rfl,rfl⟩:=h;rw[Qqw]at p;obtain⟨s,j,rfl⟩:=Qqb.mp p;obtain⟨n,j⟩:=Qqj.mp j;have F:=A s (j▸Qxh n);rw[Qxt n,j]at b;have e:=clb_ok m st' F.1 F.2 (.tup (c.map Z)) (.tup [Z x,Z y,Z z]) (W:=W) (H:=H) (P:=P) (x:=g) (y:=f);have b:clm W H P x y R=(stp W H P g f s).bind λq=>clm W H P q.1 q.2 (R.drop (k+1)):=b
   cases C:stp W H P g f s with
   |some q=>
    rw[C]at b e;exact .inl ⟨_,_,e,q.1,q.2,_,b,rfl,rfl⟩
   |none=>
    rw[C]at b e
    exact .inr ⟨_,_,e,b,rfl,rfl⟩) with⟨d,st',e,g,f,a,b,rfl,rfl⟩|⟨v,st',e,b,rfl,rfl⟩
 ·rw[Qqz,List.drop_length]at b;rw[b];exact qzz 0 [] 2 (λq=>_/\q) [.n,.n,.s (.nx [Y (szD W H P),Y (.tup (c.map Z)),Y (.tup [Z x,Z y,Z z]),Y (Z g),Y (Z f),a],st')] ⟨e,rfl⟩
 ·rw[b];exact qzz 0 [] 2 (λq=>_/\q) [.n,.n,.s (.rt .non,st')] ⟨e,rfl⟩
theorem qeg{g:D->Y3 D}{Q:J->Prop}:∀{ds:L D},(∀d∈ds,∀x,g d=Y x->∃i,x=Z i/\Q i)->∃ys:L J,ds.filterMap g=ys.map Z/\ys.length<=ds.length/\∀y∈ys,Q y
 |[],_=>⟨[],rfl,Qqk _,Qqp _⟩
 |d::r,h=>by
  obtain⟨ys,e,l,q⟩:=qeg λx b=>h x (.tail _ b);rw[Qzn,e]
  cases c:g d with
  |none=>exact⟨ys,rfl,Qxg l,q⟩
  |some x=>
   obtain⟨i,rfl,hi⟩:=h d (.head _) x c
   exact⟨i::ys,rfl,Nat.succ_le_succ l,λy a=>by
    rcases Qqy.mp a with rfl|a
    ·exact hi
    ·exact q y a⟩
def VsOk(vs:L (J×D×L (J×J))):Prop:=∀v∈vs,(∃ss:L J,v.2.1=.tup (ss.map .int)/\(∀s∈ss,0<=s/\s<=4)/\ss.length<1000)/\v.2.2.length<=16
noncomputable def enW(w:D):D->Y3 D
 |.tup [.int i,x]=>if eqT x w then Y (.int i) else B
 |_=>B
noncomputable def ltW(n:Y0):D->Y3 D
 |.int i=>if decide (i<(n:J)) then Y (.int i) else B
 |_=>B
section
variable {W H P:J}{dg:L (L J×D)}{T d:J}{jo:L (D×D)}{ro:L J}{rest:Y4}{cs:L Cl}{vs:L (J×D×L (J×J))}
def qjj(m)(a:(vs.map (·.1)).Nodup)(b:v∈vs):callD fns (m+1) 59 [Y2 0,Z v.1] (FC sz T d (voD vs) jo cs ro rest)=Y (Y9 [v.2.1,Y9 (v.2.2.map cD)],FC sz T d (voD vs) jo cs ro rest):=by
 have h:=qyr b a;exact qzz 8 [] 1 (λq=>_/\_/\q) [.q (Y (Y9 [v.2.1,Y9 (v.2.2.map cD)])),.q (Y (Y9 [v.2.1,Y9 (v.2.2.map cD)]))] ⟨h,h,rfl⟩
def qvv(m)(a:(vs.map (·.1)).Nodup)(b:v∈vs):callD fns (m+1) 60 [Y2 0,Z v.1] (FC sz T d (voD vs) jo cs ro rest)=Y ((dget jo (Z v.1)).getD .non,FC sz T d (voD vs) jo cs ro rest):=by
 have h:=qyr b a;exact qzz 8 [] 1 (λq=>_/\_/\q) [.q (Y (Y9 [v.2.1,Y9 (v.2.2.map cD)])),.q (dget jo (Z v.1))] ⟨h,(show dget jo (Z v.1)=dget jo (Z v.1) from rfl),rfl⟩
def met_ok(m)(A:(vs.map (·.1)).Nodup)(R:v∈vs)(hV:VsOk vs)(hk:rest[j]?=Y (.dic O kvs))(K:dget jo (Z v.1)=B\/∃b f l xs,dget jo (Z v.1)=Y (.tup [Z b,Z f])/\dget kvs (Z b)=Y (Y2 (l+8))/\rest[l]?=Y (Y1 O ((xs:L J).map Z))/\xs.length<=16/\∀x∈xs,0<=x):
  ∃ys:L J,(∀c:L D,callD fns (m+3) 29 [Y2 0,Z v.1,.tup [Z x,Z y,Z z],Y2 (j+8)] (FC ⟨szD W H P,dg,c⟩ T d (voD vs) jo cs ro rest)=Y (Y2 (FC ⟨szD W H P,dg,c⟩ T d (voD vs) jo cs ro rest).length,FC ⟨szD W H P,dg,c⟩ T d (voD vs) jo cs ro rest++[Y1 O (ys.map Z)]))/\ys.length<=16/\∀y∈ys,0<=y/\y<(v.2.2.length:J):=by
 obtain⟨⟨ss,es,a1,_⟩,a4⟩:=hV v R;obtain⟨o,U⟩:=qhm m (W:=W) (H:=H) (P:=P) (x:=x) (y:=y) (z:=z) a1;generalize hw:cO o=w at U;have a0:∀p:J×J,∀S:Y4,∀n:Y0,(RL (callD fns (m+2))).tst [Y (Z n),Y (cD p),Y w] S (.cmp .Eq (.var 1) (.var 2))=Y (eqT (cD p) w,S):=λp S n=>by
  subst hw
  cases o with
  |none=>exact qzh 0 [] 2 (λq=>q) [] rfl
  |some q=>exact qzh 0 [] 2 (λq=>q) [] rfl
 obtain⟨ys,e,l,q⟩:=qeg (g:=enW w) (Q:=λy=>0<=y/\y<(v.2.2.length:J)) (ds:=v.2.2.zipIdx.map λp=>D.tup [Z (p.2:J),cD p.1]) (λx N u k=>by
  obtain⟨p,hp,rfl⟩:=Qqv.mp N;have hi:=List.snd_lt_of_mem_zipIdx hp;have k:(if eqT (cD p.1) w then Y (D.int (p.2:J)) else B)=Y u:=k
  split at k
  ·cases k; exact⟨_,rfl,by lia,by lia⟩
  ·cases k)
 rw[Qqz,Qjo]at l;have own:∀(S:Y4) (r:D),stepEv (RL (callD fns (m+2))) [Y (Y2 0),Y (Z v.1),Y (.tup [Z x,Z y,Z z]),Y (Y2 (j+8)),Y (.tup [v.2.1,.tup (v.2.2.map cD)]),Y r,Y w] S (.comp (.tup [0,1]) (.enu (.idx (.var 4) (.lit (Z 1)))) (Y (.cmp .Eq (.var 1) (.var 2))) (.var 0) [B,B,Y 6])=Y (Y2 S.length,S++[Y1 O (ys.map Z)]):=λS r=>by
  have I:(RL (callD fns (m+2))).ev [Y (Y2 0),Y (Z v.1),Y (.tup [Z x,Z y,Z z]),Y (Y2 (j+8)),Y (.tup [v.2.1,.tup (v.2.2.map cD)]),Y r,Y w] S (.idx (.var 4) (.lit (Z 1)))=Y (.tup (v.2.2.map cD),S):=qzc 0 [] 2 (λq=>q) [] rfl;have a3:∀i:Y0,((v.2.2.zipIdx.map λp=>D.tup [Z (p.2:J),cD p.1])[i]?)=((v.2.2.map cD)[i]?).map λx=>D.tup [Z i,x]:=λi=>by
   rw[Qqw,List.getElem?_zipIdx,Qqw]
   cases v.2.2[i]? with
   |none=>rfl
   |some p=>show Y (D.tup [Z ((0+i:Y0):J),cD p])=_; rw[Qxn]; rfl
  have h:=qzt (t:=.tup [0,1]) (it:=.enu (.idx (.var 4) (.lit (Z 1)))) (elt:=.var 0) (sr:=[B,B,Y 6]) (enW w) (λτ=>∃a b,τ=[a,b,Y w])
   (by show((RL (callD fns (m+2))).ev _ _ _).bind _=_; rw[I]; rfl) (λi=>by rw[a3]; rfl) (by rw[Qqz,Qjo]; show(v.2.2.map cD).length=_; rw[Qqz]) (by rw[Qqz,Qjo]; unfold lim; lia) ⟨B,B,rfl⟩ (λτ x N C=>by
    obtain⟨a,b,rfl⟩:=C;obtain⟨p,hp,rfl⟩:=Qqv.mp N
    exact⟨[Y (Z (p.2:J)),Y (cD p.1),Y w],turn_if rfl (a0 p.1 S p.2) λ_=>qqm _ _ _ _ _ rfl,_,_,rfl⟩)
  rw[e]at h;exact h
 have V:∀r:D,(dget jo (Z v.1)).getD .non=r->(isNon r=O\/∃b f,r=.tup [Z b,Z f]/\¬ f<=z)->∀c:L D,callD fns (m+3) 29 [Y2 0,Z v.1,.tup [Z x,Z y,Z z],Y2 (j+8)] (FC ⟨szD W H P,dg,c⟩ T d (voD vs) jo cs ro rest)=Y (Y2 (FC ⟨szD W H P,dg,c⟩ T d (voD vs) jo cs ro rest).length,FC ⟨szD W H P,dg,c⟩ T d (voD vs) jo cs ro rest++[Y1 O (ys.map Z)]):=λr hn h2 c=>by
  have G:=qjj (m+1) (T:=T) (d:=d) (jo:=jo) (cs:=cs) (ro:=ro) (rest:=rest) A R (sz:=⟨szD W H P,dg,c⟩);have h1:=qvv (m+1) (T:=T) (d:=d) (jo:=jo) (cs:=cs) (ro:=ro) (rest:=rest) A R (sz:=⟨szD W H P,dg,c⟩);rw[hn]at h1;have U:=U (FC ⟨szD W H P,dg,c⟩ T d (voD vs) jo cs ro rest);have e:=own (FC ⟨szD W H P,dg,c⟩ T d (voD vs) jo cs ro rest) r;rcases h2 with h2|⟨b,f,rfl,h2⟩
  ·rw[es]at G e;exact qzz 8 [59,60,28] 3 (λq=>_/\_/\_/\_/\_/\q) [.c (.tup [.tup (ss.map Z),.tup (v.2.2.map cD)],FC ⟨szD W H P,dg,c⟩ T d (voD vs) jo cs ro rest),.c (r,FC ⟨szD W H P,dg,c⟩ T d (voD vs) jo cs ro rest),.b Y6,.c (w,FC ⟨szD W H P,dg,c⟩ T d (voD vs) jo cs ro rest),.c (Y2 (FC ⟨szD W H P,dg,c⟩ T d (voD vs) jo cs ro rest).length,FC ⟨szD W H P,dg,c⟩ T d (voD vs) jo cs ro rest++[Y1 O (ys.map Z)])] ⟨G,h1,(show(!isNon r)=Y6 by rw[h2]; rfl),U,e,rfl⟩
  ·rw[es]at G e;exact qzz 8 [59,60,28] 3 (λq=>_/\_/\_/\_/\_/\q) [.c (.tup [.tup (ss.map Z),.tup (v.2.2.map cD)],FC ⟨szD W H P,dg,c⟩ T d (voD vs) jo cs ro rest),.c (.tup [Z b,Z f],FC ⟨szD W H P,dg,c⟩ T d (voD vs) jo cs ro rest),.k,.b Y6,.c (w,FC ⟨szD W H P,dg,c⟩ T d (voD vs) jo cs ro rest),.c (Y2 (FC ⟨szD W H P,dg,c⟩ T d (voD vs) jo cs ro rest).length,FC ⟨szD W H P,dg,c⟩ T d (voD vs) jo cs ro rest++[Y1 O (ys.map Z)])] ⟨G,h1,Z4 h2,U,e,rfl⟩
 rcases K with K|⟨b,f,l,xs,K,hb,hl,a5,X⟩
 ·exact⟨ys,V .non (by rw[K]; rfl) (.inl rfl),by lia,q⟩
 ·by_cases hf:f<=z
  ·obtain⟨ys,e,le,q⟩:=qeg (g:=ltW (v.2.2.map cD).length) (Q:=λy=>0<=y/\y<(v.2.2.length:J)) (ds:=xs.map Z) (λx N u k=>by
    obtain⟨i,hi,rfl⟩:=Qqv.mp N;have k:(if decide (i<((v.2.2.map cD).length:J)) then Y (D.int i) else B)=Y u:=k
    split at k
    ·rename_i a2;cases k;have:=of_decide_eq_true a2;rw[Qqz]at this;exact⟨_,rfl,X i hi,this⟩
    ·cases k)
   rw[Qqz]at le;refine⟨ys,λc=>?_,by lia,q⟩;have G:=qjj (m+1) (T:=T) (d:=d) (jo:=jo) (cs:=cs) (ro:=ro) (rest:=rest) A R (sz:=⟨szD W H P,dg,c⟩);have E:=qvv (m+1) (T:=T) (d:=d) (jo:=jo) (cs:=cs) (ro:=ro) (rest:=rest) A R (sz:=⟨szD W H P,dg,c⟩);rw[K]at E;generalize hS:FC ⟨szD W H P,dg,c⟩ T d (voD vs) jo cs ro rest=S at G E;have F:listAt S (l+8)=Y (xs.map Z):=by
    subst hS;unfold listAt;have:(FC ⟨szD W H P,dg,c⟩ T d (voD vs) jo cs ro rest)[l+8]?=rest[l]?:=rfl;rw[this,hl]
   have I:(RL (callD fns (m+2))).ev [Y (Y2 0),Y (Z v.1),Y (.tup [Z x,Z y,Z z]),Y (Y2 (j+8)),Y (.tup [v.2.1,.tup (v.2.2.map cD)]),Y (.tup [Z b,Z f]),B] S (.didx (.var 3) (.idx (.var 5) (.lit (Z 0))))=Y (Y2 (l+8),S):=by
    subst hS;exact qzc 8 [] 2 (λq=>_/\_/\q) [.r (.dic O kvs),.q (Y (Y2 (l+8)))] ⟨hk,hb,rfl⟩
   have h:=qzt (t:=.var 0) (it:=.didx (.var 3) (.idx (.var 5) (.lit (Z 0)))) (test:=Y (.cmp .Lt (.var 0) (.bcall .len [.idx (.var 1) (.lit (Z 1))]))) (elt:=.var 0) (sr:=[B,Y 4]) (s:=.lst (Y2 (l+8))) (ltW (v.2.2.map cD).length) (λτ=>∃a,τ=[a,Y (.tup [v.2.1,.tup (v.2.2.map cD)])])
    (by show((RL (callD fns (m+2))).ev _ _ _).bind _=_; rw[I]; show(listAt S (l+8)).map _=_; rw[F]; rfl) (qqs F) (qzs F) (by rw[Qqz]; unfold lim; lia) ⟨B,rfl⟩ (λτ u k C=>by
     obtain⟨a,rfl⟩:=C;obtain⟨i,hi,rfl⟩:=Qqv.mp k
     exact⟨[Y (Z i),Y (.tup [v.2.1,.tup (v.2.2.map cD)])],turn_if rfl (qzh 0 [] 2 (λq=>_/\q) [.b (decide (i<((v.2.2.map cD).length:J)))] ⟨(show decide (i<((v.2.2.map cD).length:J))=decide (i<((v.2.2.map cD).length:J)) from rfl),rfl⟩) λ_=>qqm _ _ _ _ _ rfl,_,rfl⟩)
   rw[e]at h;subst hS;exact qzz 8 [59,60,28] 3 (λq=>_/\_/\_/\_/\q) [.c (.tup [v.2.1,.tup (v.2.2.map cD)],FC ⟨szD W H P,dg,c⟩ T d (voD vs) jo cs ro rest),.c (.tup [Z b,Z f],FC ⟨szD W H P,dg,c⟩ T d (voD vs) jo cs ro rest),.k,.b O,.c (Y2 (FC ⟨szD W H P,dg,c⟩ T d (voD vs) jo cs ro rest).length,FC ⟨szD W H P,dg,c⟩ T d (voD vs) jo cs ro rest++[Y1 O (ys.map Z)])] ⟨G,E,Z3 hf,h,rfl⟩
  ·exact⟨ys,V _ (by rw[K]; rfl) (.inr ⟨b,f,rfl,hf⟩),by lia,q⟩
end
noncomputable def metD:Y0->L J->L (D×D)
 |_,[]=>[]
 |Bq,a::r=>(.int a,.loc Bq)::metD (Bq+1) r
theorem qae(a):∀(r:L J) (Bq:Y0),metD Bq (r++[a])=metD Bq r++[(Z a,Y2 (Bq+r.length))]
 |[],Bq=>rfl
 |x::r,Bq=>by
  show(D.int x,D.loc Bq)::metD (Bq+1) (r++[a])=_;rw[qae a r,Qqi,show Bq+1+r.length=Bq+(r.length+1) by lia]
  rfl
theorem qyy:∀{r}{Bq i},r.Nodup->r[i]?=Y n->dget (metD Bq r) (Z n)=Y (Y2 (Bq+i))
 |x::r,Bq,i,hn,hi=>by
  unfold dget;show Option.map _ (match (x==n) with|true=>_|false=>_)=_;rw[Qzy]at hn
  cases i with
  |zero=>cases hi; rw[beq_self_eq_true]; rfl
  |succ i=>
   have hi:=hi;have a:x≠n:=λe=>hn.1 (by rw[e]; exact Qqf hi);rw[beq_false_of_ne a];have:=qyy (Bq:=Bq+1) hn.2 hi;rw[show Bq+1+i=Bq+(i+1) by lia]at this;exact this
theorem qdm:∀(r:L J) (Bq:Y0),(metD Bq r).length=r.length
 |[],_=>rfl
 |_::r,Bq=>congrArg (· + 1) (qdm r (Bq+1))
theorem qdn:∀{r}{Bq},p∈metD Bq r->∃x∈r,p.1=Z x
 |a::r,Bq,h=>by
  rcases Qqy.mp h with rfl|h
  ·exact⟨a,.head _,rfl⟩
  ·obtain⟨x,b,e⟩:=qdn h;exact⟨x,.tail _ b,e⟩
theorem set0:∀{R:Y4},(R++a::b::ls).set R.length a'=R++a'::b::ls
 |[]=>rfl
 |x::r=>congrArg (x::·) (set0)
theorem set1:∀{R:Y4},(R++a::b::ls).set (R.length+1) c=R++a::c::ls
 |[]=>rfl
 |x::r=>congrArg (x::·) (set1)
theorem get0(i):∀{R:Y4},(R++ls)[R.length+i]?=ls[i]?
 |[]=>by rw[List.nil_append,Qja,Qxn]
 |x::r=>by
  rw[Qqi,show r.length+1+i=(r.length+i)+1 by lia];exact get0 i
def qec(h:ex[i]?=Y (Y1 O ds))(a:noLocs ds=O):gcD st (Y2 (st.length+i),st++ex)=(Yc ds,st):=by
 rw[gc_x (by simp)];unfold gcX;rw[Z5 (by simp[noLoc])];simp only[Qjz,if_true,get0,h,a];simp
def CoI(vs:L (J×D×L (J×J)))(pr:L (J×J)):Prop:=∀p∈pr,∃v∈vs,v.1=p.1/\0<=p.2/\p.2<(v.2.2.length:J)
noncomputable abbrev ysC(ys:L J):Ya:=.lst O (ys.map .int)
def JoI(vs:L (J×D×L (J×J)))(jo:L (D×D)):Prop:=∀p∈jo,∃a b f:J,p=(.int a,.tup [.int b,.int f])/\b<a/\b∈vs.map (·.1)
def qap(Jq:JoI vs jo)(h:dget jo (Z a)=Y x):∃b f:J,x=Y9 [Z b,Z f]/\b<a/\b∈vs.map (·.1):=by
 unfold dget at h;obtain⟨p,hp,rfl⟩:=Qqb.mp h;obtain⟨c,b,f,rfl,h1,h2⟩:=Jq p (Qzt hp);have e:=Qxs hp;have e:=e;cases beq_iff_eq.mp e;exact⟨b,f,rfl,h1,h2⟩
section
variable {W H P:J}{dg:L (L J×D)}{T d:J}{jo:L (D×D)}{ro:L J}{rest:Y4}{cs:L Cl}{vs:L (J×D×L (J×J))}
noncomputable abbrev coB:L M.S:=[.dset (.var 2) (.var 4) (.call 29 [.var 0,.var 4,.var 1,.var 2]),.expr (.meth (.var 3) .extend [.gc (.comp (.var 0) (.didx (.var 2) (.var 4)) B (.tup [.var 1,.var 0]) [B,Y 4])])]
noncomputable abbrev coX(rest:Y4)(vs:L (J×D×L (J×J)))(k:Y0)(s:L (J×J)×L (L J)):Y4:=rest++.dic O (metD (rest.length+10) ((vs.take k).map (·.1)))::.lst O (s.1.map cD)::s.2.map ysC
theorem chain{S:Type}{I:Y0->S->Prop}{R:Y0->S->S->Prop}{s0:S}(b:I 0 s0):∀n:Y0,(∀k s,k<n->I k s->∃s',I (k+1) s'/\R k s s')->∃f:Y0->S,f 0=s0/\(∀k,k<=n->I k (f k))/\∀k,k<n->R k (f k) (f (k+1))
 |0,_=>⟨λ_=>s0,rfl,λk a=>by cases Nat.le_zero.mp a; exact b,λk a=>absurd a (Nat.not_lt_zero k)⟩
 |n+1,h=>by
  obtain⟨f,e,hi,g⟩:=chain b n λk s a=>h k s (Qxl a);obtain⟨s',h1,h2⟩:=h n (f n) (Qzb n) (hi n (Qqk n));refine⟨λk=>if k<=n then f k else s',(Z6 (Qq8 n)).trans e,λk a=>?_,λk a=>?_⟩<;>dsimp only
  ·by_cases c:k<=n
   ·rw[Z6 c]; exact hi k c
   ·rw[Z5 c,show k=n+1 by lia]; exact h1
  ·rw[Z6 (Qxb a)]
   by_cases c:k+1<=n
   ·rw[Z6 c]; exact g k c
   ·rw[Z5 c,show k=n by lia]; exact h2
def qoq(m:Y0)(V:(vs.map (·.1)).Pairwise (· < ·))(c4:vs.length<60)(hV:VsOk vs)(Jq:JoI vs jo){x y z:J}(b5:ing W H P x y z=O):
  ∃ex:Y4,∃n:L (J×J),(∀j:L D,callD fns (m+4) 30 [Y2 0,.tup [Z x,Z y,Z z]] (FC ⟨szD W H P,dg,j⟩ T d (voD vs) jo cs ro rest)=Y (Y2 ((FC ⟨szD W H P,dg,j⟩ T d (voD vs) jo cs ro rest).length+1),FC ⟨szD W H P,dg,j⟩ T d (voD vs) jo cs ro rest++ex))/\ex[1]?=Y (Y1 O (n.map cD))/\CoI vs n/\n.length<=16*vs.length:=by
 have G:(vs.map (·.1)).Nodup:=V.imp λh=>by lia
 have keys:keysOf (voD vs)=vs.map λv=>D.int v.1:=by unfold keysOf voD; rw[Qq6]; rfl
 obtain⟨F,c3,c2,c1⟩:=chain (S:=L (J×J)×L (L J)) (I:=λk s=>s.2.length=k/\(∀ys∈s.2,ys.length<=16/\∀u∈ys,0<=u)/\CoI vs s.1/\s.1.length<=16*k)
  (R:=λk s s'=>∀v,vs[k]?=Y v->∀(j:L D) (o:Y3 D),((setT (.var 4) (Z v.1) [Y (Y2 0),Y (.tup [Z x,Z y,Z z]),Y (Y2 (rest.length+8)),Y (Y2 (rest.length+9)),o]).bind λa7=>(RL (callD fns (m+3))).ex a7 (FC ⟨szD W H P,dg,j⟩ T d (voD vs) jo cs ro (coX rest vs k s)) coB)=Y (.nx [Y (Y2 0),Y (.tup [Z x,Z y,Z z]),Y (Y2 (rest.length+8)),Y (Y2 (rest.length+9)),Y (Z v.1)],FC ⟨szD W H P,dg,j⟩ T d (voD vs) jo cs ro (coX rest vs (k+1) s'))) (s0:=([],[])) ⟨rfl,Qqp _,Qqp _,Qqk _⟩ vs.length λk s w h=>by
  obtain⟨n,l⟩:=s;obtain⟨h4,h5,h6,h7⟩:=h;dsimp only at h4 h5 h6 h7;obtain⟨v,K⟩:∃v,vs[k]?=Y v:=⟨_,Qqc w⟩
  have a0:=Qqf K;have tk:(vs.take (k+1)).map (·.1)=(vs.take k).map (·.1)++[v.1]:=by rw[Qxk,K,Qql]; rfl
  have nk:=(List.Sublist.map (·.1) (Qjr k vs)).nodup G;have C:=(List.Sublist.map (·.1) (Qjr (k+1) vs)).nodup G;generalize N:(vs.take k).map (·.1)=ns at nk C tk;have nl:ns.length=k:=by rw[<- N,Qqz,Qzz]; lia
  have b8:∀p∈metD (rest.length+10) ns,eqT p.1 (Z v.1)=false:=λp hp=>by
   obtain⟨u,E,e⟩:=qdn hp;rw[tk,Qxm]at C;rw[e];exact beq_false_of_ne (C.2.2 u E v.1 (Qqa.mpr rfl))
  have a1:dput (metD (rest.length+10) ns) (Z v.1) (Y2 ((rest.length+10)+k))=metD (rest.length+10) (ns++[v.1]):=by
   rw[qkr b8,qae,nl]
  obtain⟨ys,hm,m1,m2⟩:=met_ok m (rest:=rest++.dic O (metD (rest.length+10) ns)::Y1 O (n.map cD)::l.map ysC) (W:=W) (H:=H) (P:=P) (dg:=dg) (T:=T) (d:=d) (cs:=cs) (ro:=ro) (x:=x) (y:=y) (z:=z) G a0 hV (get0 0) (by
   cases hj:dget jo (Z v.1) with
   |none=>exact .inl rfl
   |some u=>
    obtain⟨b,f,rfl,hb,c0⟩:=qap Jq hj;obtain⟨vb,b3,rfl⟩:=Qqv.mp c0;obtain⟨i,hi⟩:=List.mem_iff_getElem?.mp b3;have b6:=(Qqj.mp hi).1;have b7:i<k:=by
     by_cases c:i<k
     ·exact c
     ·exfalso;have a9:(vs.map (·.1))[k]?=Y v.1:=by rw[Qqw,K]; rfl
      have b0:(vs.map (·.1))[i]?=Y vb.1:=by rw[Qqw,hi]; rfl
      obtain⟨_,e1⟩:=Qqj.mp a9;obtain⟨_,e2⟩:=Qqj.mp b0
      by_cases e:i=k
      ·subst e; rw[e1]at e2; lia
      ·have:=Qxr.mp V k i (by simpa using w) (by simpa using b6) (by lia);rw[e1,e2]at this
       lia
    have a3:ns[i]?=Y vb.1:=by rw[<- N,Qqw,Qj3 b7,hi]; rfl
    have U:i<l.length:=by lia
    refine .inr ⟨vb.1,f,rest.length+2+i,l[i],rfl,?_,?_,h5 _ (Qxh U)⟩
    ·rw[qyy nk a3,show rest.length+10+i=rest.length+2+i+8 by lia]
    ·rw[show rest.length+2+i=rest.length+(i+2) by lia,get0];show(l.map ysC)[i]?=_;rw[Qqw,Qqc U]
     rfl)
  refine⟨(n++ys.map (λi=>(v.1,i)),l++[ys]),⟨by simp[h4],?_,?_,?_⟩,λv' b4 j o=>?_⟩
  ·intro u E;rcases Qqn.mp E with E|E
   ·exact h5 u E
   ·cases Qqa.mp E; exact⟨m1,λi hi=>(m2 i hi).1⟩
  ·intro p hp;rcases Qqn.mp hp with hp|hp
   ·exact h6 p hp
   ·obtain⟨i,hi,rfl⟩:=Qqv.mp hp;exact⟨v,a0,rfl,m2 i hi⟩
  ·rw[Qqh,Qqz]; lia
  cases K.symm.trans b4;have hm:=hm j;unfold coX;rw[N,tk];dsimp only;generalize hX:rest++.dic O (metD (rest.length+10) ns)::Y1 O (n.map cD)::l.map ysC=X at hm ⊢;have c5:X.length=rest.length+2+k:=by rw[<- hX]; simp[h4]; lia
  have eL:(FC ⟨szD W H P,dg,j⟩ T d (voD vs) jo cs ro X).length=rest.length+10+k:=by rw[qwf]; lia
  have eY:(X++[ysC ys]).set rest.length (.dic O (dput (metD (rest.length+10) ns) (Z v.1) (Y2 (FC ⟨szD W H P,dg,j⟩ T d (voD vs) jo cs ro X).length)))=rest++.dic O (metD (rest.length+10) (ns++[v.1]))::Y1 O (n.map cD)::(l++[ys]).map ysC:=by
   rw[eL,a1,<- hX,Qzx];show(rest++.dic O (metD (rest.length+10) ns)::Y1 O (n.map cD)::(l.map ysC++[ysC ys])).set _ _=_;rw[set0,Qql]
   rfl
  have r0:(X++[ysC ys])[rest.length]?=Y (.dic O (metD (rest.length+10) ns)):=by rw[<- hX,Qzx]; exact get0 0
  have r1:((X++[ysC ys]).set rest.length (.dic O (dput (metD (rest.length+10) ns) (Z v.1) (Y2 (FC ⟨szD W H P,dg,j⟩ T d (voD vs) jo cs ro X).length))))[rest.length+1]?=Y (Y1 O (n.map cD)):=by rw[eY]; exact get0 1
  have eF:FC ⟨szD W H P,dg,j⟩ T d (voD vs) jo cs ro ((X++[ysC ys]).set rest.length (.dic O (dput (metD (rest.length+10) ns) (Z v.1) (Y2 (FC ⟨szD W H P,dg,j⟩ T d (voD vs) jo cs ro X).length))))=FC ⟨szD W H P,dg,j⟩ T d (voD vs) jo cs ro (rest++.dic O (metD (rest.length+10) (ns++[v.1]))::Y1 O (n.map cD)::(l++[ys]).map ysC):=by rw[eY]
  have a2:(ns++[v.1])[k]?=Y v.1:=by rw[<- nl]; simp
  have hq:=qyy (Bq:=rest.length+10) (tk▸C) a2;have a5:(RL (callD fns (m+3))).ev [Y (Y2 0),Y (.tup [Z x,Z y,Z z]),Y (Y2 (rest.length+8)),Y (Y2 (rest.length+9)),Y (Z v.1)] (FC ⟨szD W H P,dg,j⟩ T d (voD vs) jo cs ro (rest++.dic O (metD (rest.length+10) (ns++[v.1]))::Y1 O (n.map cD)::(l++[ys]).map ysC)) (.didx (.var 2) (.var 4))=Y (Y2 (rest.length+10+k),FC ⟨szD W H P,dg,j⟩ T d (voD vs) jo cs ro (rest++.dic O (metD (rest.length+10) (ns++[v.1]))::Y1 O (n.map cD)::(l++[ys]).map ysC)):=by
   have g:=get0 (R:=rest) (ls:=.dic O (metD (rest.length+10) (ns++[v.1]))::Y1 O (n.map cD)::(l++[ys]).map ysC) 0;generalize rest++.dic O (metD (rest.length+10) (ns++[v.1]))::Y1 O (n.map cD)::(l++[ys]).map ysC=Z7 at g ⊢;exact qzc 8 [] 3 (λq=>_/\_/\q) [.r (.dic O (metD (rest.length+10) (ns++[v.1]))),.q (Y (Y2 (rest.length+10+k)))] ⟨g,hq,rfl⟩
  have Q:listAt (FC ⟨szD W H P,dg,j⟩ T d (voD vs) jo cs ro (rest++.dic O (metD (rest.length+10) (ns++[v.1]))::Y1 O (n.map cD)::(l++[ys]).map ysC)) (rest.length+10+k)=Y (ys.map Z):=by
   unfold listAt;rw[show rest.length+10+k=rest.length+(k+2)+8 by lia];show(match (rest++.dic O (metD (rest.length+10) (ns++[v.1]))::Y1 O (n.map cD)::(l++[ys]).map ysC)[rest.length+(k+2)]? with|some (.lst _ ds)=>Y ds|_=>B)=_;rw[get0];rw[<- h4];simp
  have a6:=qzt (t:=.var 0) (it:=.didx (.var 2) (.var 4)) (elt:=.tup [.var 1,.var 0]) (sr:=[B,Y 4]) (s:=.lst (Y2 (rest.length+10+k))) (λu=>Y (.tup [Z v.1,u])) (λτ=>∃a,τ=[a,Y (Z v.1)])
   (by show((RL (callD fns (m+3))).ev _ _ _).bind _=_; rw[a5]; show(listAt _ _).map _=_; rw[Q]; rfl) (qqs Q) (qzs Q) (by rw[Qqz]; unfold lim; lia) ⟨B,rfl⟩ (λτ u E a8=>by
    obtain⟨a,rfl⟩:=a8;obtain⟨i,hi,rfl⟩:=Qqv.mp E
    exact⟨[Y (Z i),Y (Z v.1)],qxr rfl (qzc 0 [] 3 (λq=>q) [] rfl),_,rfl⟩)
  have ef:(ys.map D.int).filterMap (λu=>Y (D.tup [Z v.1,u]))=(ys.map λi=>(v.1,i)).map cD:=by
   rw[Qzg,Qq6];exact Qxv▸rfl
  rw[ef,<- eF]at a6;have g2:=qzw (st:=FC ⟨szD W H P,dg,j⟩ T d (voD vs) jo cs ro ((X++[ysC ys]).set rest.length (.dic O (dput (metD (rest.length+10) ns) (Z v.1) (Y2 (FC ⟨szD W H P,dg,j⟩ T d (voD vs) jo cs ro X).length))))) (ds:=(ys.map λi=>(v.1,i)).map cD) (qzb λ_ _=>rfl);have b1:decide ((metD (rest.length+10) ns).length<lim)=true:=Z3 (by rw[qdm,nl]; unfold lim; lia);have b2:decide ((n.map cD).length+((ys.map λi=>(v.1,i)).map cD).length<=lim)=true:=Z3 (by simp only[Qqz]; unfold lim; lia);have e2:FC ⟨szD W H P,dg,j⟩ T d (voD vs) jo cs ro (((X++[ysC ys]).set rest.length (.dic O (dput (metD (rest.length+10) ns) (Z v.1) (Y2 (FC ⟨szD W H P,dg,j⟩ T d (voD vs) jo cs ro X).length)))).set (rest.length+1) (Y1 O (n.map cD++(ys.map λi=>(v.1,i)).map cD)))=FC ⟨szD W H P,dg,j⟩ T d (voD vs) jo cs ro (rest++.dic O (metD (rest.length+10) (ns++[v.1]))::Y1 O ((n++ys.map λi=>(v.1,i)).map cD)::(l++[ys]).map ysC):=by rw[eY,set1,<- Qql]
  rw[<- e2];exact qzy 8 [29] 3 (λq=>_/\_/\_/\_/\_/\_/\_/\_/\q) [.c (Y2 (FC ⟨szD W H P,dg,j⟩ T d (voD vs) jo cs ro X).length,FC ⟨szD W H P,dg,j⟩ T d (voD vs) jo cs ro X++[ysC ys]),.r (.dic O (metD (rest.length+10) ns)),.b O,.r (Y1 O (n.map cD)),.c (Y2 (FC ⟨szD W H P,dg,j⟩ T d (voD vs) jo cs ro ((X++[ysC ys]).set rest.length (.dic O (dput (metD (rest.length+10) ns) (Z v.1) (Y2 (FC ⟨szD W H P,dg,j⟩ T d (voD vs) jo cs ro X).length))))).length,FC ⟨szD W H P,dg,j⟩ T d (voD vs) jo cs ro ((X++[ysC ys]).set rest.length (.dic O (dput (metD (rest.length+10) ns) (Z v.1) (Y2 (FC ⟨szD W H P,dg,j⟩ T d (voD vs) jo cs ro X).length))))++[Y1 O ((ys.map λi=>(v.1,i)).map cD)]),.l ((ys.map λi=>(v.1,i)).map cD),.r (Y1 O (n.map cD)),.b O]
   (r:=(.nx [Y (Y2 0),Y (.tup [Z x,Z y,Z z]),Y (Y2 (rest.length+8)),Y (Y2 (rest.length+9)),Y (Z v.1)],FC ⟨szD W H P,dg,j⟩ T d (voD vs) jo cs ro (((X++[ysC ys]).set rest.length (.dic O (dput (metD (rest.length+10) ns) (Z v.1) (Y2 (FC ⟨szD W H P,dg,j⟩ T d (voD vs) jo cs ro X).length)))).set (rest.length+1) (Y1 O (n.map cD++(ys.map λi=>(v.1,i)).map cD))))) ⟨hm,r0,b1,r1,a6,g2,r1,b2,rfl⟩
 obtain⟨h4,h5,h6,h7⟩:=c2 vs.length (Qqk _);refine⟨.dic O (metD (rest.length+10) (vs.map (·.1)))::Y1 O ((F vs.length).1.map cD)::(F vs.length).2.map ysC,(F vs.length).1,λj=>?_,rfl,h6,h7⟩;have b9:(RL (callD fns (m+3))).ev [Y (Y2 0),Y (.tup [Z x,Z y,Z z]),Y (Y2 (rest.length+8)),Y (Y2 (rest.length+9)),B] (FC ⟨szD W H P,dg,j⟩ T d (voD vs) jo cs ro (rest++[.dic O [],Y1 O []])) (.gc (.mcall 642 57 "veins" (.var 0) []))=Y (.lst (vs.map λv=>D.int v.1),FC ⟨szD W H P,dg,j⟩ T d (voD vs) jo cs ro (rest++[.dic O [],Y1 O []])):=by
  have g:=qzw (st:=FC ⟨szD W H P,dg,j⟩ T d (voD vs) jo cs ro (rest++[.dic O [],Y1 O []])) (ds:=keysOf (voD vs)) (by rw[keys]; exact qzb λ_ _=>rfl);rw[<- keys];exact qzc 8 [] 3 (λq=>_/\q) [.l (keysOf (voD vs))] ⟨g,rfl⟩
 obtain⟨A,st',h1,hk,o,rfl,rfl⟩:=qx2 (st:=FC ⟨szD W H P,dg,j⟩ T d (voD vs) jo cs ro (rest++[.dic O [],Y1 O []])) (it:=.gc (.mcall 642 57 "veins" (.var 0) [])) (t:=.var 4) (body:=coB)
  (λk A st'=>k<=vs.length/\∃o:Y3 D,A=[Y (Y2 0),Y (.tup [Z x,Z y,Z z]),Y (Y2 (rest.length+8)),Y (Y2 (rest.length+9)),o]/\st'=FC ⟨szD W H P,dg,j⟩ T d (voD vs) jo cs ro (coX rest vs k (F k)))
  (by show((RL (callD fns (m+3))).ev _ _ _).bind _=_; rw[b9]; rfl) (qzs rfl) (λk A st' _=>qqs rfl k) ⟨Qq8 _,B,rfl,by rw[c3]; rfl⟩ (λk A st' q hq h=>by
   obtain⟨hk,o,rfl,rfl⟩:=h;rw[Qqw]at hq;obtain⟨v,K,rfl⟩:=Qqb.mp hq;have w:=(Qqj.mp K).1
   exact⟨_,_,c1 k w v K j o,w,_,rfl,rfl⟩)
 unfold coX at h1;rw[Qqz,Qzv]at h1;have a4:=qil (m+2) (FC ⟨szD W H P,dg,j⟩ T d (voD vs) jo cs ro rest) W H P x y z;rw[b5]at a4;have e0:(rest++[Ya.dic O []]).set rest.length (.dic O (dall []))=rest++[.dic O []]:=sl;have h2:stepEx (RL (callD fns (m+3))) [Y (Y2 0),Y (.tup [Z x,Z y,Z z]),Y (Y2 (rest.length+8)),Y (Y2 (((rest++[Ya.dic O []]).set rest.length (.dic O (dall []))).length+8)),B] (FC ⟨szD W H P,dg,j⟩ T d (voD vs) jo cs ro ((rest++[Ya.dic O []]).set rest.length (.dic O (dall []))++[Y1 O []])) (.forr (.var 4) (.gc (.mcall 642 57 "veins" (.var 0) [])) coB)=Y (.nx [Y (Y2 0),Y (.tup [Z x,Z y,Z z]),Y (Y2 (rest.length+8)),Y (Y2 (rest.length+9)),o],FC ⟨szD W H P,dg,j⟩ T d (voD vs) jo cs ro (rest++.dic O (metD (rest.length+10) (vs.map (·.1)))::Y1 O ((F vs.length).1.map cD)::(F vs.length).2.map ysC)):=by
  rw[e0,Qzx,Qqh];exact h1
 exact qzz 8 [4] 4 (λq=>_/\_/\_/\q) [.c (.bl O,FC ⟨szD W H P,dg,j⟩ T d (voD vs) jo cs ro rest),.r (.dic O []),.s (.nx [Y (Y2 0),Y (.tup [Z x,Z y,Z z]),Y (Y2 (rest.length+8)),Y (Y2 (rest.length+9)),o],FC ⟨szD W H P,dg,j⟩ T d (voD vs) jo cs ro (rest++.dic O (metD (rest.length+10) (vs.map (·.1)))::Y1 O ((F vs.length).1.map cD)::(F vs.length).2.map ysC))] ⟨a4,gl (st:=rest) (c:=.dic O []),h2,rfl⟩
end
noncomputable def hiD(p:J×String):D:=.tup [.int p.1,sO p.2]
def nl_h(a:L (J×String)):noLocs (a.map hiD)=true:=qzb λ_ _=>rfl
def cov_ok(m)(st)(g)(x y z):callD fns (m+2) 34 [rD g,Y9 [Z x,Z y,Z z]] st=Y (.bl (inB g (x,y)),st):=
 qzz 0 [0] 2 (λq=>_/\q) [.c (.bl (inB g (x,y)),st)] ⟨qj6 m st g (x,y),rfl⟩
noncomputable abbrev rkB:L M.S:=[.ite (.call 1 [.var 6,.var 1]) [.expr (.meth (.var 3) .append [.tup [.var 5,.lit (sO "dip")]])] [.ite (.call 34 [.var 6,.var 2]) [.expr (.meth (.var 4) .append [.tup [.var 5,.lit (sO "ground")]])] []]]
noncomputable abbrev rkS(st:Y4)(a b:L (J×String)):Y4:=st++[.lst O (a.map hiD)]++[.lst O (b.map hiD)]
def ap1{b:Ya}:(st++[a]++[b]).set st.length c=st++[c]++[b]:=by
 rw[Qzx,Qzx];exact set0
noncomputable def rkA(ps:L (J×J))(gs:L Cl):L (J×String):=gs.filterMap λc=>if hasB c.g ps then Y (c.nm,"dip") else B
noncomputable def rkG(ps:L (J×J))(p:J×J)(gs:L Cl):L (J×String):=gs.filterMap λc=>if hasB c.g ps then B else if inB c.g p then Y (c.nm,"ground") else B
def qc6(m){cs:L Cl}(P:∀c∈d,c∈cs)(U:d.length<1000){ps:L (J×J)}(N:ps.length<lim)(x y z):∃a b:L (J×String),(∀st:Y4,callD fns (m+3) 36 [.lst (sgD d),.lst (ps.map cD),.tup [Z x,Z y,Z z]] st=Y (Y2 (rkS st a b).length,rkS st a b++[Y1 O (a.map hiD++b.map hiD)]))/\(∀p∈a++b,∃c∈cs,c.nm=p.1):=by
 refine⟨rkA ps d,rkG ps (x,y) d,λst=>?_,λp hp=>?_⟩
 rotate_left
 ·rcases Qqn.mp hp with hp|hp
  ·obtain⟨c,s,e⟩:=Qxq.mp hp
   split at e
   ·cases e; exact⟨c,P c s,rfl⟩
   ·cases e
  ·obtain⟨c,s,e⟩:=Qxq.mp hp
   split at e
   ·cases e
   ·split at e
    ·cases e; exact⟨c,P c s,rfl⟩
    ·cases e
 obtain⟨j,st',h1,T,u,v,a,b,rfl,rfl,h2,G,F⟩:=qwg (c:=callD fns (m+2)) (i:=0) (t:=.tup [5,6]) (body:=rkB)
  (λk j st'=>k<=d.length/\∃(u v:Y3 D) (a b:L (J×String)),j=[Y (.lst (sgD d)),Y (.lst (ps.map cD)),Y (.tup [Z x,Z y,Z z]),Y (Y2 st.length),Y (Y2 (st++[Ya.lst O []]).length),u,v]/\st'=rkS st a b/\a.length+b.length<=k/\a=rkA ps (d.take k)/\b=rkG ps (x,y) (d.take k))
  rfl ⟨Qq8 _,B,B,[],[],rfl,rfl,Qqk _,rfl,rfl⟩ (λk j st' _=>rfl) (λk j st' q A h=>by
   obtain⟨T,u,v,a,b,rfl,rfl,h2,G,F⟩:=h;have f:=(Qqj.mp A).1;unfold sgD at A f;rw[Qqz]at f;rw[Qqw]at A;obtain⟨c,s,rfl⟩:=Qqb.mp A;have tk:d.take (k+1)=d.take k++[c]:=by rw[Qxk,s]; rfl
   have tA:rkA ps (d.take (k+1))=a++rkA ps [c]:=by rw[tk,G]; exact Qjw
   have K:rkG ps (x,y) (d.take (k+1))=b++rkG ps (x,y) [c]:=by rw[tk,F]; exact Qjw
   have I:rkA ps [c]=if hasB c.g ps then [(c.nm,"dip")] else []:=by unfold rkA; rw[Qzn]; split<;>simp_all
   have H:rkG ps (x,y) [c]=if hasB c.g ps then [] else if inB c.g (x,y) then [(c.nm,"ground")] else []:=by unfold rkG; rw[Qzn]; split<;>simp_all
   have o:=qim m (st:=rkS st a b) (g:=c.g) (q:=.lst (ps.map cD)) rfl N;have w:=cov_ok m (rkS st a b) c.g x y z;have L2:(st++[Ya.lst O []]).length=(st++[Ya.lst O (a.map hiD)]).length:=by simp
   have E:(rkS st a b)[st.length]?=Y (Y1 O (a.map hiD)):=by unfold rkS; rw[Qzx]; exact get0 0
   have C:(rkS st a b)[(st++[Ya.lst O []]).length]?=Y (Y1 O (b.map hiD)):=by unfold rkS; rw[L2]; exact gl
   have S:decide ((a.map hiD).length<lim)=true:=Z3 (by rw[Qqz]; unfold lim; lia);have R:decide ((b.map hiD).length<lim)=true:=Z3 (by rw[Qqz]; unfold lim; lia)
   cases n:hasB c.g ps with
   |true=>
    rw[n]at o;refine⟨_,_,qzy 0 [1,34] 2 (λq=>_/\_/\_/\_/\q) [.c (.bl O,rkS st a b),.r (Y1 O (a.map hiD)),.r (Y1 O (a.map hiD)),.b O] (r:=(.nx [Y (.lst (sgD d)),Y (.lst (ps.map cD)),Y (.tup [Z x,Z y,Z z]),Y (Y2 st.length),Y (Y2 (st++[Ya.lst O []]).length),Y (Z c.nm),Y (rD c.g)],(rkS st a b).set st.length (Y1 O (a.map hiD++[hiD (c.nm,"dip")])))) ⟨o,E,E,S,rfl⟩,f,_,_,a++[(c.nm,"dip")],b,rfl,by unfold rkS; rw[ap1,Qql]; rfl,by rw[Qqh]; simp only[Qxx]; lia,by rw[tA,I,n]; rfl,by rw[K,H,n]; exact(Qq7 b).symm⟩
   |false=>
    rw[n]at o
    cases l:inB c.g (x,y) with
    |true=>
     rw[l]at w;refine⟨_,_,qzy 0 [1,34] 2 (λq=>_/\_/\_/\_/\_/\q) [.c (.bl Y6,rkS st a b),.c (.bl O,rkS st a b),.r (Y1 O (b.map hiD)),.r (Y1 O (b.map hiD)),.b O] (r:=(.nx [Y (.lst (sgD d)),Y (.lst (ps.map cD)),Y (.tup [Z x,Z y,Z z]),Y (Y2 st.length),Y (Y2 (st++[Ya.lst O []]).length),Y (Z c.nm),Y (rD c.g)],(rkS st a b).set (st++[Ya.lst O []]).length (Y1 O (b.map hiD++[hiD (c.nm,"ground")])))) ⟨o,w,C,C,R,rfl⟩,f,_,_,a,b++[(c.nm,"ground")],rfl,by unfold rkS; rw[L2,sl,Qql]; rfl,by rw[Qqh]; simp only[Qxx]; lia,by rw[tA,I,n]; exact(Qq7 a).symm,by rw[K,H,n,l]; rfl⟩
    |false=>
     rw[l]at w
     exact⟨_,_,qzy 0 [1,34] 2 (λq=>_/\_/\q) [.c (.bl Y6,rkS st a b),.c (.bl Y6,rkS st a b)] (r:=(.nx [Y (.lst (sgD d)),Y (.lst (ps.map cD)),Y (.tup [Z x,Z y,Z z]),Y (Y2 st.length),Y (Y2 (st++[Ya.lst O []]).length),Y (Z c.nm),Y (rD c.g)],rkS st a b)) ⟨o,w,rfl⟩,f,_,_,a,b,rfl,rfl,by lia,by rw[tA,I,n]; exact(Qq7 a).symm,by rw[K,H,n,l]; exact(Qq7 b).symm⟩)
 rw[show(sgD d).length=d.length by unfold sgD; rw[Qqz],Qzv]at G F;rw[<- G,<- F];have L2:(st++[Ya.lst O []]).length=(st++[Ya.lst O (a.map hiD)]).length:=by simp
 have E:(rkS st a b)[st.length]?=Y (Y1 O (a.map hiD)):=by unfold rkS; rw[Qzx]; exact get0 0
 have C:(rkS st a b)[(st++[Ya.lst O []]).length]?=Y (Y1 O (b.map hiD)):=by unfold rkS; rw[L2]; exact gl
 have f:(sgD d).length=d.length:=by unfold sgD; rw[Qqz]
 have Q:decide (lim<(a.map hiD).length+(b.map hiD).length)=false:=Z4 (by simp only[Qqz]; unfold lim; lia);exact qzz 0 [] 3 (λq=>_/\_/\_/\_/\q) [.s (.nx [Y (.lst (sgD d)),Y (.lst (ps.map cD)),Y (.tup [Z x,Z y,Z z]),Y (Y2 st.length),Y (Y2 (st++[Ya.lst O []]).length),u,v],rkS st a b),.r (Y1 O (a.map hiD)),.r (Y1 O (b.map hiD)),.b Y6] ⟨h1,E,C,Q,rfl⟩
def qhd(m)(st)(a:L (J×String)):callD fns (m+1) 38 [Yc (a.map hiD)] st=Y (oD (a.head?.map (·.1)),st):=by
 cases a with
 |nil=>exact qzz 0 [] 1 (λq=>q) [.k] rfl
 |cons p r=>
  have e:idxD st (Yc (hiD p::r.map hiD)) (Z 0)=Y (hiD p):=by
   show atI (hiD p::r.map hiD) 0=_;unfold atI ixN;rw[Z6 (by decide),Z6 (by simp)]
   rfl
  exact qzz 0 [] 1 (λq=>_/\q) [.k,.i (hiD p),.n] ⟨e,rfl⟩
section
variable {W H P:J}{dg:L (L J×D)}{T d:J}{jo:L (D×D)}{ro:L J}{rest:Y4}{cs:L Cl}{vs:L (J×D×L (J×J))}{Bq:Y0}
def out_ok(m)(a:(vs.map (·.1)).Nodup)(f:v∈vs)(e:v.1=p.1)(h:0<=p.2)(g:p.2<(v.2.2.length:J)):∃q:J×J,∀sz:Zt,callD fns (m+2) 32 [Y2 0,cD p] (FC sz T d (voD vs) jo cs ro rest)=Y (cD q,FC sz T d (voD vs) jo cs ro rest):=by
 have hi:p.2.toNat<v.2.2.length:=by lia
 refine⟨v.2.2[p.2.toNat],λsz=>?_⟩;have c:=qjj m (T:=T) (d:=d) (jo:=jo) (cs:=cs) (ro:=ro) (rest:=rest) a f (sz:=sz);rw[e]at c;have b:idxD (FC sz T d (voD vs) jo cs ro rest) (Y9 (v.2.2.map cD)) (Z p.2)=Y (cD v.2.2[p.2.toNat]):=by
  show atI (v.2.2.map cD) p.2=_;unfold atI ixN;rw[Z6 h,Z6 (by rw[Qqz]; exact g)];simp[Qqc hi]
 exact qzz 8 [59] 2 (λq=>_/\_/\q) [.n,.c (Y9 [v.2.1,Y9 (v.2.2.map cD)],FC sz T d (voD vs) jo cs ro rest),.n,.n,.i (cD v.2.2[p.2.toNat])] ⟨c,b,rfl⟩
def qg7(m)(b:(vs.map (·.1)).Nodup)(l:CoI vs a)(n:a.length<lim):∃ps:L (J×J),ps.length=a.length/\∀sz:Zt,callD fns (m+3) 33 [Y2 0,Yc (a.map cD)] (FC sz T d (voD vs) jo cs ro rest)=Y (Y2 (FC sz T d (voD vs) jo cs ro rest).length,FC sz T d (voD vs) jo cs ro rest++[Y1 O (ps.map cD)]):=by
 obtain⟨f,hf⟩:=Classical.axiomOfChoice (r:=λ(p q:J×J)=>p∈a->∀sz:Zt,callD fns (m+2) 32 [Y2 0,cD p] (FC sz T d (voD vs) jo cs ro rest)=Y (cD q,FC sz T d (voD vs) jo cs ro rest)) λp=>by
  by_cases h:p∈a
  ·obtain⟨v,j,e,h1,h2⟩:=l p h;obtain⟨q,k⟩:=out_ok m b j e h1 h2;exact⟨q,λ_=>k⟩
  ·exact⟨p,λz=>absurd z h⟩
 refine⟨a.map f,Qqz ..,λsz=>?_⟩;have h:=qqr (c:=callD fns (m+2)) (τ:=[Y (Y2 0),Y (Yc (a.map cD))]) (st:=FC sz T d (voD vs) jo cs ro rest) (i:=1) (elt:=.call 32 [Yd 1,Yd 0]) (sr:=[B,Y 0]) a cD (λp=>cD (f p)) rfl rfl n rfl λp g=>qzc 0 [32] 2 (λq=>_/\q) [.c (cD (f p),FC sz T d (voD vs) jo cs ro rest)] ⟨hf p g sz,rfl⟩;have e:a.map (λp=>cD (f p))=(a.map f).map cD:=by rw[Qq6]; rfl
 rw[e]at h;exact qzz 8 [] 3 (λq=>_/\q) [.c (Y2 (FC sz T d (voD vs) jo cs ro rest).length,FC sz T d (voD vs) jo cs ro rest++[Y1 O ((a.map f).map cD)])] ⟨h,rfl⟩
def qgz(m)(I:Inv Bq rest cs)(u:∀n∈ro,∃c∈cs,c.nm=n)(Q:ro.length<1000)(k:(vs.map (·.1)).Pairwise (· < ·))(t:vs.length<60)(V:VsOk vs)(Jq:JoI vs jo)(v:ing W H P x y z=O):
  ∃o:Y3 Cl,(∀c,o=Y c->c∈cs)/\∀f:L D,callD fns (m+6) 39 [Y2 0,Y9 [Z x,Z y,Z z]] (FC ⟨szD W H P,dg,f⟩ T d (voD vs) jo cs ro rest)=Y (oD (o.map (·.nm)),FC ⟨szD W H P,dg,f⟩ T d (voD vs) jo cs ro rest):=by
 have s:(vs.map (·.1)).Nodup:=k.imp λh=>by lia
 obtain⟨ex,K,c1,c2,c3,c4⟩:=qoq m (dg:=dg) (T:=T) (d:=d) (cs:=cs) (ro:=ro) (rest:=rest) k t V Jq v;obtain⟨ps,p1,p2⟩:=qg7 (m+1) (T:=T) (d:=d) (jo:=jo) (cs:=cs) (ro:=ro) (rest:=rest) s c3 (by unfold lim; lia);obtain⟨w,X,g2,l⟩:=sg_ok m (T:=T) (d:=d) (fo:=voD vs) (jo:=jo) I u Q;obtain⟨a,b,r,A⟩:=qc6 (m+1) (ps:=ps) X (by lia) (by unfold lim; lia) x y z;have g:∀f:L D,callD fns (m+6) 39 [Y2 0,Y9 [Z x,Z y,Z z]] (FC ⟨szD W H P,dg,f⟩ T d (voD vs) jo cs ro rest)=Y (oD ((a++b).head?.map (·.1)),FC ⟨szD W H P,dg,f⟩ T d (voD vs) jo cs ro rest):=λf=>by
  have c1:=c1 f;have p2:=p2 ⟨szD W H P,dg,f⟩;have l:=l ⟨szD W H P,dg,f⟩;generalize hS:FC ⟨szD W H P,dg,f⟩ T d (voD vs) jo cs ro rest=S at c1 p2 l;have r:=r S;have G:=qec (st:=S) c2 (qzb λ_ _=>rfl);have F:=qzw (st:=S) (ds:=ps.map cD) (qzb λ_ _=>rfl);have E:=qzw (st:=S) (nl_sg w);have R:callD fns (m+5) 37 [Y2 0,Y9 [Z x,Z y,Z z]] S=Y (Y2 (rkS S a b).length,rkS S a b++[Y1 O (a.map hiD++b.map hiD)]):=
   qzz 0 [30,33,35,36] 5 (λq=>_/\_/\_/\_/\_/\_/\_/\q) [.c (Y2 (S.length+1),S++ex),.l (K.map cD),.c (Y2 S.length,S++[Y1 O (ps.map cD)]),.l (ps.map cD),.c (Y2 S.length,S++[Y1 O (sgD w)]),.l (sgD w),.c (Y2 (rkS S a b).length,rkS S a b++[Y1 O (a.map hiD++b.map hiD)])] ⟨c1,G,p2,F,l,E,r,rfl⟩
  have C:gcD S (Y2 (rkS S a b).length,rkS S a b++[Y1 O (a.map hiD++b.map hiD)])=(Yc ((a++b).map hiD),S):=by
   have:=qec (st:=S) (ex:=[Y1 O (a.map hiD),Y1 O (b.map hiD),Y1 O ((a++b).map hiD)]) (i:=2) rfl (nl_h (a++b));rw[Qql]at this ⊢;have e:(rkS S a b).length=S.length+2:=by simp
   rw[e];unfold rkS;rw[Qzx,Qzx];exact this
  have hf:=qhd (m+4) S (a++b);exact qzz 0 [37,38] 6 (λq=>_/\_/\_/\q) [.c (Y2 (rkS S a b).length,rkS S a b++[Y1 O (a.map hiD++b.map hiD)]),.l ((a++b).map hiD),.c (oD ((a++b).head?.map (·.1)),S)] ⟨R,C,hf,rfl⟩
 cases j:(a++b).head? with
 |none=>rw[j]at g; exact⟨B,(by intro _ z; cases z),g⟩
 |some p=>
  rw[j]at g;obtain⟨c,U,e⟩:=A p (List.mem_of_head? j);refine⟨Y c,λx N=>by cases N; exact U,λf=>?_⟩;rw[g];show Y (D.int p.1,_)=Y (D.int c.nm,_);rw[e]
def qg6(m)(I:Inv Bq rest cs)(f:∀n∈ro,∃c∈cs,c.nm=n)(h:ro.length<1000)(b:(vs.map (·.1)).Pairwise (· < ·))(e:vs.length<60)(k:VsOk vs)(Jq:JoI vs jo)(g:ing W H P x y z=O):
  ∃o:Y3 J,(∀n,o=Y n->∃c∈cs,n=c.o)/\∀a:L D,callD fns (m+7) 40 [Y2 0,Y9 [Z x,Z y,Z z]] (FC ⟨szD W H P,dg,a⟩ T d (voD vs) jo cs ro rest)=Y (oD o,FC ⟨szD W H P,dg,a⟩ T d (voD vs) jo cs ro rest):=by
 obtain⟨o,h1,h2⟩:=qgz m (dg:=dg) (T:=T) (d:=d) I f h b e k Jq g;refine⟨o.map (·.o),λn hn=>?_,λa=>?_⟩
 ·obtain⟨c,j,rfl⟩:=Qqb.mp hn;exact⟨c,h1 c j,rfl⟩
 have h2:=h2 a
 cases o with
 |none=>exact qzz 8 [39] 7 (λq=>_/\_/\_/\q) [.c (.non,FC ⟨szD W H P,dg,a⟩ T d (voD vs) jo cs ro rest),.g,.b O] ⟨h2,gS .non (FC ⟨szD W H P,dg,a⟩ T d (voD vs) jo cs ro rest) rfl,(show isNon .non=O from rfl),rfl⟩
 |some c=>
  have i:=qjb (sz:=⟨szD W H P,dg,a⟩) (T:=T) (d:=d) (fo:=voD vs) (jo:=jo) (ro:=ro) (m+4) I (h1 c rfl);exact qzz 8 [39,61] 7 (λq=>_/\_/\_/\_/\q) [.c (Z c.nm,FC ⟨szD W H P,dg,a⟩ T d (voD vs) jo cs ro rest),.g,.b Y6,.c (Y9 [Z c.o,rD c.g,Z c.la,oD c.v,oD c.gv],FC ⟨szD W H P,dg,a⟩ T d (voD vs) jo cs ro rest)] ⟨h2,gS (Z c.nm) (FC ⟨szD W H P,dg,a⟩ T d (voD vs) jo cs ro rest) rfl,(show isNon (Z c.nm)=Y6 from rfl),i,rfl⟩
end
def vo_mem(h:(dget (voD vs) (Z b)).isSome):b∈vs.map (·.1):=by
 obtain⟨x,a⟩:=Qz1.mp h;unfold dget at a;obtain⟨p,hp,_⟩:=Qqb.mp a;have e:=Qxs hp;obtain⟨v,c,rfl⟩:=Qqv.mp (Qzt hp);have e:=e;cases beq_iff_eq.mp e;exact Qqv.mpr ⟨v,c,rfl⟩
def JoI.put(Jq:JoI vs jo)(h:b<a)(c:b∈vs.map (·.1)):JoI vs (dput jo (Z a) (Y9 [Z b,Z f])):=λp hp=>by
 unfold dput at hp
 split at hp
 ·obtain⟨q,g,rfl⟩:=Qqv.mp hp;obtain⟨d,j,i,rfl,h1,h2⟩:=Jq q g
  by_cases e:eqT (Z d) (Z a)=O
  ·rw[Z6 e];have e:=e;cases beq_iff_eq.mp e;exact⟨_,b,f,rfl,h,c⟩
  ·rw[Z5 e];exact⟨d,j,i,rfl,h1,h2⟩
 ·rcases Qqn.mp hp with hp|hp
  ·exact Jq p hp
  ·cases Qqa.mp hp;exact⟨a,b,f,rfl,h,c⟩
def JoI.app(Jq:JoI vs jo)(v):JoI (vs++[v]) jo:=λp hp=>by
 obtain⟨a,b,f,e,h1,h2⟩:=Jq p hp;exact⟨a,b,f,e,h1,by rw[Qql]; exact Qze _ h2⟩
def qf9(kvs)(k)(v):(tput kvs k v).length<=kvs.length+1:=by
 unfold tput
 split
 ·rw[Qqz]; lia
 ·rw[Qqh]; exact Qqk _
section
variable {W H P:J}{dg:L (L J×D)}{T d:J}{jo:L (D×D)}{ro:L J}{rest:Y4}{cs:L Cl}{vs:L (J×D×L (J×J))}{Bq:Y0}
def DgM(d o:J)(M:J×J×J->L En):Prop:=(∀u,M u=[])\/∃(ow:Y3 J) (gt:J×J->Y3 J),∀u,M u=owE d o ow (10*u.2.2)++owE d o (gt (u.1,u.2.1)) u.2.2
def dig_ok(m)(I:Inv Bq rest cs)(e:∀n∈ro,∃c∈cs,c.nm=n)(E:ro.length<1000)(k:(vs.map (·.1)).Pairwise (· < ·))(l:vs.length<60)(N:VsOk vs)(Jq:JoI vs jo)(s:ing W H P x y z=O)(G:dg.length<900):
  ∃w f M,(∀(a:L D) (u:J×J×J),a.length<900->callD fns (m+8) 50 [Y2 0,Y9 [sO "dig",Z o,Z u.1,Z u.2.1,Z x,Z y,Z z,Z u.2.2]] (FC ⟨szD W H P,dg,a⟩ T d (voD vs) jo cs ro rest)=Y (sO w,FC ⟨szD W H P,f,a++(M u).map eD⟩ T d (voD vs) jo cs ro rest))/\f.length<=dg.length+1/\DgM d o M:=by
 cases C:tget dg [x,y,z] with
 |some v=>exact⟨"dug",dg,λ_=>[],λa u _=>by rw[Qxy,Qq7]; exact qzz 8 [] 8 (λq=>_/\q) [.q (Y v)] ⟨C,rfl⟩,Qxw _,.inl λ_=>rfl⟩
 |none=>
  have K:decide (dg.length<lim)=true:=Z3 (by unfold lim; lia);obtain⟨b,S,A⟩:=qg6 m (dg:=tput dg [x,y,z] (.bl O)) (T:=T) (d:=d) I e E k l N Jq s;obtain⟨h,t⟩:=Classical.axiomOfChoice (r:=λ(p:J×J) (o:Y3 J)=>(∀n,o=Y n->∃c∈cs,n=c.o)/\∀sz:Zt,callD fns (m+7) 52 [Y2 0,cD p] (FC sz T d (voD vs) jo cs ro rest)=Y (oD o,FC sz T d (voD vs) jo cs ro rest)) λp=>qnr (T:=T) (d:=d) (fo:=voD vs) (jo:=jo) (m+1) I e E p;refine⟨"good",tput dg [x,y,z] (.bl O),λu=>owE d o b (10*u.2.2)++owE d o (h (u.1,u.2.1)) u.2.2,λa u F=>?_,qf9 _ _ _,.inr ⟨b,h,λ_=>rfl⟩⟩;obtain⟨j,i,n⟩:=u;dsimp only;have b2:=qdd (sz:=⟨szD W H P,tput dg [x,y,z] (.bl O),a⟩) (T:=T) (d:=d) (fo:=voD vs) (jo:=jo) (cs:=cs) (ro:=ro) (rest:=rest) (m+6) o b (10*n) (by show a.length<1000; lia);have R:=qyk d o b (10*n);have c2:=(t (j,i)).2 ⟨szD W H P,tput dg [x,y,z] (.bl O),a++(owE d o b (10*n)).map eD⟩;have Q:=qdd (sz:=⟨szD W H P,tput dg [x,y,z] (.bl O),a++(owE d o b (10*n)).map eD⟩) (T:=T) (d:=d) (fo:=voD vs) (jo:=jo) (cs:=cs) (ro:=ro) (rest:=rest) (m+6) o (h (j,i)) n (by rw[Qqh,Qqz]; lia);have A:=A a;generalize owE d o b (10*n)=m1 at *;generalize h (j,i)=g at *;generalize owE d o g n=m2 at *;rw[Qql,<- Qzx];exact qzz 8 [40,53,52] 8 (λq=>_/\_/\_/\_/\_/\_/\_/\_/\_/\q) [.q B,.b O,.c (oD b,FC ⟨szD W H P,tput dg [x,y,z] (.bl O),a⟩ T d (voD vs) jo cs ro rest),.g,.b O,.c (.non,FC ⟨szD W H P,tput dg [x,y,z] (.bl O),a++m1.map eD⟩ T d (voD vs) jo cs ro rest),.c (oD g,FC ⟨szD W H P,tput dg [x,y,z] (.bl O),a++m1.map eD⟩ T d (voD vs) jo cs ro rest),.g,.c (.non,FC ⟨szD W H P,tput dg [x,y,z] (.bl O),a++m1.map eD++m2.map eD⟩ T d (voD vs) jo cs ro rest)]
   ⟨C,K,A,gS (oD b) (FC ⟨szD W H P,tput dg [x,y,z] (.bl O),a⟩ T d (voD vs) jo cs ro rest) (by cases b<;>rfl),mul10 n,b2,c2,gS (oD g) (FC ⟨szD W H P,tput dg [x,y,z] (.bl O),a++m1.map eD⟩ T d (voD vs) jo cs ro rest) (by cases g<;>rfl),Q,rfl⟩
end
inductive DG (W H P:J):D->Prop
 |old {f:D}(h:DF W H P f):DG W H P f
 |dig {o mx my x y z n:J}(o1:1<=o) (o2:o<=40) (x1:0<=mx) (x2:mx<W) (y1:0<=my) (y2:my<H) (x3:0<=x) (x4:x<W) (y3:0<=y) (y4:y<H) (z1:0<=z) (z2:z<=P) (h1:1<=n) (h2:n<=1000000):DG W H P (.tup [sO "dig",.int o,.int mx,.int my,.int x,.int y,.int z,.int n])
 |pay {a b n:J}(a1:1<=a) (a2:a<=40) (b1:1<=b) (b2:b<=40) (ne:a≠b) (h1:1<=n) (h2:n<=1000000):DG W H P (.tup [sO "pay",.int a,.int b,.int n])
theorem DG.sound(h:DG W H P f)(m)(st):callD fns (m+6) 27 [szD W H P,f] st=Y (.bl O,st):=by
 cases h with
 |old h=>exact h.sound m st
 |dig j i x1 x2 y1 y2 g e d c b a h1 h2=>exact s_dig (m+3) st j i x1 x2 y1 y2 g e d c b a h1 h2
 |pay l k b1 b2 ne h1 h2=>exact s_pay (m+3) st l k b1 b2 ne h1 h2
noncomputable def alt(u:J×J×J):D->D
 |.tup [.str s,.int o,.int _,.int _,.int x,.int y,.int z,.int _]=>.tup [.str s,.int o,.int u.1,.int u.2.1,.int x,.int y,.int z,.int u.2.2]
 |f=>f
structure UOk (W H:J) (u:J×J×J):Prop where
 x1:0<=u.1
 x2:u.1<W
 y1:0<=u.2.1
 y2:u.2.1<H
 n1:1<=u.2.2
 n2:u.2.2<=1000000
theorem DF.alt(h:DF W H P f)(u):alt u f=f:=by
 cases h with
 |claim a=>cases a<;>rfl
 |_=>rfl
theorem DG.alt(h:DG W H P f)(a:UOk W H u):DG W H P (K39.alt u f):=by
 cases h with
 |old h=>rw[h.alt]; exact .old h
 |dig k j x1 x2 y1 y2 i g e d c b h1 h2=>exact .dig k j a.x1 a.x2 a.y1 a.y2 i g e d c b a.n1 a.n2
 |pay m l b1 b2 ne h1 h2=>exact .pay m l b1 b2 ne h1 h2
inductive Br (day:J):D->(J×J×J->L En)->Prop
 |no {f M} (h:∀u,M u=[]):Br day f M
 |dig {o mx my x y z n M} (h:DgM day o M):Br day (.tup [sO "dig",.int o,.int mx,.int my,.int x,.int y,.int z,.int n]) M
 |pay {a b n M} (h:∀u,M u=[(day,b,a,10*n)]):Br day (.tup [sO "pay",.int a,.int b,.int n]) M
def DgM.len(h:DgM d o M)(u):(M u).length<=2:=by
 rcases h with h|⟨ow,a,h⟩
 ·rw[h]; exact Qq8 _
 ·rw[h,Qqh];have:=qyk d o ow (10*u.2.2);have:=qyk d o (a (u.1,u.2.1)) u.2.2
  lia
theorem Br.len(h:Br a f M)(u):(M u).length<=2:=by
 cases h with
 |no h=>rw[h]; exact Qq8 _
 |dig h=>exact h.len u
 |pay h=>rw[h]; exact Qxw _
structure Ok (k:Y0) (d:J) (dg:L (L J×D)) (vs:L (J×D×L (J×J))) (jo:L (D×D)) (cs:L Cl) (ro:L J) (rest:Y4):Prop where
 I:Inv 0 rest cs
 R:RowI d cs ro
 cl:cs.length<=k
 rl:ro.length<=25*k
 dl:∀c∈cs,c.ds.length<=k
 vl:vs.length<=k
 vn:(vs.map (·.1)).Pairwise (· < ·)
 vd:∀v∈vs,v.1<=d
 V:VsOk vs
 jl:jo.length<=k
 Jq:JoI vs jo
 gl:dg.length<=k
section
variable {W H P:J}{T d day:J}{dg:L (L J×D)}{jo:L (D×D)}{ro:L J}{rest:Y4}{cs:L Cl}{k:Y0}{vs:L (J×D×L (J×J))}
def qhg(m)(h:Ok k d dg vs jo cs ro rest)(hk:k<25)(hf:DG W H P f)(h1:1<=day)(h2:day<=400)(hd:d<day):
  ∃w Q a4 a0 p j i M,Ok (k+1) day Q a4 a0 p j i/\Br day f M/\∀(es:L En) (u:J×J×J),UOk W H u->es.length<=2*k->callD fns (m+10) 45 [Y2 0,Z day,alt u f] (FC ⟨szD W H P,dg,es.map eD⟩ T d (voD vs) jo cs ro rest)=Y (sO w,FC ⟨szD W H P,Q,(es++M u).map eD⟩ T day (voD a4) a0 p j i):=by
 have hs:=λ(es:L En){u:J×J×J}(C:UOk W H u)=>(hf.alt C).sound (m+3) (FC ⟨szD W H P,dg,es.map eD⟩ T d (voD vs) jo cs ro rest);have ⟨I,R,cl,rl,dl,vl,vn,vd,V,jl,Jq,a9⟩:=h;have a5:(vs.map (·.1)).Nodup:=vn.imp Int.ne_of_lt;have E:∀{p j},Op day cs ro p j->RowI day p j/\p.length<=k+1/\j.length<=25*(k+1):=λ{p j} o=>by
  obtain⟨_,b,c⟩:=qic o;exact⟨op_row hd R o,by lia,by lia⟩
 have A:∀v∈vs,v.1<=day:=λv r=>Int.le_trans (vd v r) (Int.le_of_lt hd);have N:∀c∈cs,c.ds.length<=k+1:=λc s=>Qxg (dl c s);have F:=Qxg vl;have G:=Qxg jl;have K:=Qxg a9
 cases hf with
 |old hf=>
  have ha:=λu=>hf.alt u
  cases hf with
  |vein hP b5 a6 b4 a7 b3 s=>
   rename_i ss ps;obtain⟨i,e,I',t,l⟩:=qht (T:=T) (d:=day) (jo:=jo) (ro:=ro) (m+3) I (Y9 (ss.map Z)) ps vs (λv r=>Int.ne_of_lt (Int.lt_of_le_of_lt (vd v r) hd)) (by lia) (by lia) (by lia);obtain⟨X,U,S⟩:=E (.vein ps);refine⟨"good",dg,vs++[(day,Y9 (ss.map Z),ps)],jo,_,_,i,λ_=>[],⟨I',X,U,S,λc s=>?_,by simp; lia,?_,λv r=>?_,λv r=>?_,G,Jq.app _,K⟩,.no λ_=>rfl,λes u C _=>?_⟩
   ·obtain⟨x,hx,rfl⟩:=Qqv.mp s;rw[(qqz day ps x).2.2];exact N x hx
   ·rw[Qql,Qje];refine⟨vn,by simp,λa ha b hb=>?_⟩;obtain⟨v,r,rfl⟩:=Qqv.mp ha;simp only[Qqm,Qxy,Qqa]at hb;have:=vd v r
    lia
   ·rcases Qqn.mp r with r|r
    ·exact A v r
    ·cases Qqa.mp r; exact Int.le_refl _
   ·rcases Qqn.mp r with r|r
    ·exact V v r
    ·cases Qqa.mp r; exact⟨⟨ss,rfl,a6,by lia⟩,a7⟩
   ·rw[Qq7];exact qq2 (m+3) h1 h2 hd (hs es C) (e _)
  |join=>
   rename_i a b f _ _ _ _ _ _;obtain⟨w,a0,e,l,hj⟩:=qhu (T:=T) (d:=day) (fo:=voD vs) (cs:=cs) (ro:=ro) (rest:=rest) (jo:=jo) (m+7) a b f (by lia);obtain⟨X,U,S⟩:=E .same;refine⟨w,dg,vs,a0,cs,ro,rest,λ_=>[],⟨I,X,U,S,N,F,vn,A,V,by lia,?_,K⟩,.no λ_=>rfl,λes u C _=>?_⟩
   ·rcases hj with rfl|⟨h3,h4,rfl⟩
    ·exact Jq
    ·exact Jq.put h3 (vo_mem h4)
   ·rw[Qq7];exact qq2 (m+3) h1 h2 hd (hs es C) (e _)
  |stake g1 g2=>
   rename_i o g _ _ _ _ _ _;obtain⟨p,j,i,e,I',op,t,l,ds⟩:=qfl (T:=T) (d:=day) (jo:=jo) (ro:=ro) (m+3) I (Qq8 _) o ⟨g1,g2⟩ g vs a5 (by lia) (λv r=>(V v r).2) (by lia) (λx hx=>by have:=R.le x hx; lia);obtain⟨X,U,S⟩:=E op;refine⟨"good",dg,vs,jo,p,j,i,λ_=>[],⟨I',X,U,S,λc s=>?_,F,vn,A,V,G,Jq,K⟩,.no λ_=>rfl,λes u C _=>?_⟩
   ·rcases ds c s with s|s
    ·exact N c s
    ·lia
   ·rw[Qq7];exact qq2 (m+3) h1 h2 hd (hs es C) (e _)
  |claim s b0=>
   obtain⟨w,p,j,i,e,I',op,t,l,ds⟩:=qe7 (T:=T) (d:=day) (fo:=voD vs) (jo:=jo) (m+4) I (Qq8 _) d day hd (by lia) (λc s=>by have:=dl c s; lia) R s;obtain⟨X,U,S⟩:=E op;refine⟨w,dg,vs,jo,p,j,i,λ_=>[],⟨I',X,U,S,λc s=>?_,F,vn,A,V,G,Jq,K⟩,.no λ_=>rfl,λes u C _=>?_⟩
   ·obtain⟨x,_,l2,hx⟩:=ds c s;have:=dl x hx
    lia
   ·have hs:=hs es C;rw[ha]at hs ⊢;rw[Qq7];exact qq2 (m+3) h1 h2 hd hs (qfn (m+4) s (e _))
 |dig o1 o2 x1 x2 y1 y2 x3 x4 y3 y4 z1 z2 n1 n2=>
  rename_i o mx my x y z n;have a8:ing W H P x y z=true:=by
   unfold ing;rw[Z3 x3,Z3 x4,Z3 y3,Z3 y4,Z3 z1,Z3 z2]
   rfl
  obtain⟨X,U,S⟩:=E .same;obtain⟨w,Q,M,e,e1,e2⟩:=dig_ok m (T:=T) (d:=day) (dg:=dg) (o:=o) I R.in1 (by lia) vn (by lia) V Jq a8 (by lia);refine⟨w,Q,vs,jo,cs,ro,rest,M,⟨I,X,U,S,N,F,vn,A,V,G,Jq,by lia⟩,.dig e2,λes u C hl=>qq2 (m+3) h1 h2 hd (hs es C) ?_⟩;have e:=e (es.map eD) u (by rw[Qqz]; lia);rw[<- Qql]at e;exact qzz 8 [50] 9 (λq=>_/\q) [.c (sO w,FC ⟨szD W H P,Q,(es++M u).map eD⟩ T day (voD vs) jo cs ro rest)] ⟨e,rfl⟩
 |pay b1 b2 c1 c2 ne n1 n2=>
  rename_i a b n;obtain⟨X,U,S⟩:=E .same;refine⟨"good",dg,vs,jo,cs,ro,rest,λ_=>[(day,b,a,10*n)],⟨I,X,U,S,N,F,vn,A,V,G,Jq,K⟩,.pay λ_=>rfl,λes u C hl=>qq2 (m+3) h1 h2 hd (hs es C) ?_⟩;have e:=pay_ok (sz:=⟨szD W H P,dg,es.map eD⟩) (T:=T) (d:=day) (fo:=voD vs) (jo:=jo) (cs:=cs) (ro:=ro) (rest:=rest) (m+6) (n:=n) ne (by rw[Qqz]; lia);have e:callD fns (m+8) 51 [Y2 0,Y9 [sO "pay",Z a,Z b,Z n]] (FC ⟨szD W H P,dg,es.map eD⟩ T day (voD vs) jo cs ro rest)=Y (sO "good",FC ⟨szD W H P,dg,(es++[(day,b,a,10*n)]).map eD⟩ T day (voD vs) jo cs ro rest):=by rw[Qql]; exact e
  exact qzz 8 [51] 9 (λq=>_/\q) [.c (sO "good",FC ⟨szD W H P,dg,(es++[(day,b,a,10*n)]).map eD⟩ T day (voD vs) jo cs ro rest)] ⟨e,rfl⟩
end
section
variable {ns:L J}(hn:ns.length<=63){W H P:J}(w1:1<=W)(w2:W<=24)(h1:1<=H)(h2:H<=24)(p0:0<=P)(p1:P<=12)
include hn w1 h1 p0
theorem qnq(m)(st)(k):∃f,callD fns (m+3) 79 [scr ns,Z k,szD W H P] st=Y (f,st)/\DG W H P f:=by
 obtain⟨g,u,e,x1,x2,d,y1,y2⟩:=qyq hn m st k 1 (W:=W) (H:=H) (by decide) (by decide) (by lia) (by lia);obtain⟨q,s,D,C,i,A,y,h⟩:=qyq hn m st k 5 (W:=W) (H:=H) (by decide) (by decide) (by lia) (by lia);obtain⟨z,p,c,x⟩:=dr hn (m+1) st k 9 (many:=P+1) (by decide) (by decide) (by lia);obtain⟨a,v,F,E⟩:=dr hn (m+1) st k 11 (many:=3) (by decide) (by decide) (by decide);have ⟨w,hw,b1,b2⟩:∃w:J,idxD st (Yc [Z 9,Z 300,Z 1000000]) (Z a)=Y (Z w)/\0<w/\w<=1000000:=by
  have:a=0\/a=1\/a=2:=by lia
  rcases this with rfl|rfl|rfl
  ·exact⟨9,rfl,by decide,by decide⟩
  ·exact⟨300,rfl,by decide,by decide⟩
  ·exact⟨1000000,rfl,by decide,by decide⟩
 obtain⟨n,b,n1,n2⟩:=dr hn (m+1) st k 10 (by decide) (by decide) b1;obtain⟨o,t,l,j⟩:=qvm hn m st k 12 (by decide) (by decide);exact⟨_,qzz 0 [70,66,73] 3 (λq=>_/\_/\_/\_/\_/\_/\_/\_/\q) [.n,.n,.c (rD g,st),.n,.n,.c (rD q,st),.n,.c (Z z,st),.l [Z 9,Z 300,Z 1000000],.c (Z a,st),.i (Z w),.c (Z n,st),.c (Z o,st)] (r:=(Y9 [sO "dig",Z o,Z g.1,Z g.2.1,Z q.2.2.1,Z q.2.2.2,Z z,Z (1+n)],st)) ⟨u,s,p,qzw (st:=st) (ds:=[Z 9,Z 300,Z 1000000]) rfl,v,hw,b,t,rfl⟩,.dig l j e (by lia) d (by lia) (by lia) i (by lia) h c (by lia) (by lia) (by lia)⟩
omit w1 h1 p0 in
theorem qm4(m)(st)(k):∃f,callD fns (m+3) 80 [scr ns,Z k] st=Y (f,st)/\DG W H P f:=by
 obtain⟨a,i,l,j⟩:=qvm hn m st k 1 (by decide) (by decide);obtain⟨b,h,b1,b2⟩:=qvm hn m st k 3 (by decide) (by decide);obtain⟨u,d,p,o⟩:=dr hn (m+1) st k 6 (many:=2) (by decide) (by decide) (by decide);have ⟨w,hw,c1,c2⟩:∃w:J,idxD st (Yc [Z 9,Z 1000000]) (Z u)=Y (Z w)/\0<w/\w<=1000000:=by
  have:u=0\/u=1:=by lia
  rcases this with rfl|rfl
  ·exact⟨9,rfl,by decide,by decide⟩
  ·exact⟨1000000,rfl,by decide,by decide⟩
 obtain⟨n,c,n1,n2⟩:=dr hn (m+1) st k 5 (by decide) (by decide) c1;have g:=qzw (st:=st) (ds:=[Z 9,Z 1000000]) rfl
 by_cases e:b=a
 ·exact⟨_,qzz 0 [66,73] 3 (λq=>_/\_/\_/\_/\_/\_/\_/\_/\q) [.c (Z a,st),.c (Z b,st),.b O,.c (Z (a % 40),st),.l [Z 9,Z 1000000],.c (Z u,st),.i (Z w),.c (Z n,st)] (r:=(Y9 [sO "pay",Z a,Z (a % 40+1),Z (1+n)],st)) ⟨i,h,(show(b==a)=O by simpa using e),bMo st a (b:=40) (by decide),g,d,hw,c,rfl⟩,.pay l j (by lia) (by lia) (by lia) (by lia) (by lia)⟩
 ·exact⟨_,qzz 0 [66,73] 3 (λq=>_/\_/\_/\_/\_/\_/\_/\q) [.c (Z a,st),.c (Z b,st),.b Y6,.l [Z 9,Z 1000000],.c (Z u,st),.i (Z w),.c (Z n,st)] (r:=(Y9 [sO "pay",Z a,Z b,Z (1+n)],st)) ⟨i,h,(show(b==a)=Y6 by simpa using e),g,d,hw,c,rfl⟩,.pay l j b1 b2 (λz=>e z.symm) (by lia) (by lia)⟩
noncomputable abbrev dgB:L M.S:=[.set (.var 7) (.call 66 [.var 0,.bin .Add (.var 1) (.bcall .len [.var 4]),.lit (.int 60),.lit (.int 5)]),.ite (.and (.cmp .Gt (.bcall .len [.var 4]) (.lit (.int 2))) (.cmp .Lt (.var 7) (.lit (.int 2)))) [.set (.var 6) (.call 79 [.var 0,.bin .Add (.bin .Add (.var 1) (.lit (.int 1))) (.bcall .len [.var 4]),.var 2])] [],.ite (.and (.cmp .Gt (.bcall .len [.var 4]) (.lit (.int 2))) (.and (.cmp .Eq (.var 7) (.lit (.int 2))) (.cmp .NotEq (.idx (.var 6) (.lit (.int 0))) (.lit (sO "vein"))))) [.set (.var 6) (.call 80 [.var 0,.bin .Add (.bin .Add (.var 1) (.lit (.int 1))) (.bcall .len [.var 4])])] [],.expr (.meth (.var 4) .append [.tup [.var 5,.var 6]])]
noncomputable abbrev dgT(ns:L J)(k W H P many:J)(st:Y4)(a b c:Y3 D):Sl:=[Y (scr ns),Y (.int k),Y (szD W H P),Y (.int many),Y (.loc st.length),a,b,c]
omit w1 h1 p0 in
theorem qn5(m)(st)(k many)(dl)(y:dl.length<100)(r:1<=W)(t:1<=H)(p0:0<=P)(x)(j:DF W H P f)(c):
  ∃d v,DG W H P d/\(RL (callD fns (m+3))).ex (dgT ns k W H P many st (Y (Z x)) (Y f) c) (st++[Y1 O (dl.map pD)]) dgB=Y (.nx (dgT ns k W H P many st (Y (Z x)) (Y d) (Y (Z v))),st++[Y1 O ((dl++[(x,d)]).map pD)]):=by
 have a:=gl (st:=st) (c:=Y1 O (dl.map pD));have b:decide ((dl.map pD).length<lim)=true:=Z3 (by rw[Qqz]; unfold lim; lia);obtain⟨v,i,w,u⟩:=dr hn (m+2) (st++[Y1 O (dl.map pD)]) (k+((dl.map pD).length:J)) 60 (many:=5) (by decide) (by decide) (by decide);have e:∀d:D,st++[Y1 O ((dl++[(x,d)]).map pD)]=(st++[Ya.lst O (dl.map pD)]).set st.length (Y1 O (dl.map pD++[pD (x,d)])):=λd=>by rw[sl,Qql]; rfl
 by_cases t1:2<((dl.map pD).length:J)
 ·by_cases t2:v<2
  ·obtain⟨d,g,p⟩:=qnq hn r t p0 m (st++[Y1 O (dl.map pD)]) (k+1+((dl.map pD).length:J));refine⟨d,v,p,?_⟩;rw[e];exact qzy 0 [66,79,80] 3 (λq=>_/\_/\_/\_/\_/\_/\_/\_/\_/\_/\_/\_/\_/\q) [.r (Y1 O (dl.map pD)),.c (Z v,st++[Y1 O (dl.map pD)]),.r (Y1 O (dl.map pD)),.b O,.b O,.r (Y1 O (dl.map pD)),.c (d,st++[Y1 O (dl.map pD)]),.r (Y1 O (dl.map pD)),.b O,.b Y6,.r (Y1 O (dl.map pD)),.r (Y1 O (dl.map pD)),.b O] ⟨a,i,a,Z3 t1,Z3 t2,a,g,a,Z3 t1,(show(v==2)=Y6 by simp; lia),a,a,b,rfl⟩
  ·by_cases l:v=2
   ·obtain⟨d,g,p⟩:=qm4 hn (W:=W) (H:=H) (P:=P) m (st++[Y1 O (dl.map pD)]) (k+1+((dl.map pD).length:J));have n:wIs f ["vein"]=Y6->(RL (callD fns (m+3))).ex (dgT ns k W H P many st (Y (Z x)) (Y f) c) (st++[Y1 O (dl.map pD)]) dgB=Y (.nx (dgT ns k W H P many st (Y (Z x)) (Y d) (Y (Z v))),st++[Y1 O ((dl++[(x,d)]).map pD)]):=λs=>by
     rw[e]
     cases j with
     |vein=>cases s
     |claim h _=>
      cases h<;>exact qzy 0 [66,79,80] 3 (λq=>_/\_/\_/\_/\_/\_/\_/\_/\_/\_/\_/\_/\_/\q) [.r (Y1 O (dl.map pD)),.c (Z v,st++[Y1 O (dl.map pD)]),.r (Y1 O (dl.map pD)),.b O,.b Y6,.r (Y1 O (dl.map pD)),.b O,.b O,.r (Y1 O (dl.map pD)),.c (d,st++[Y1 O (dl.map pD)]),.r (Y1 O (dl.map pD)),.r (Y1 O (dl.map pD)),.b O] ⟨a,i,a,Z3 t1,Z4 t2,a,Z3 t1,(show(v==2)=O by simpa using l),a,g,a,a,b,rfl⟩
     |_=>exact qzy 0 [66,79,80] 3 (λq=>_/\_/\_/\_/\_/\_/\_/\_/\_/\_/\_/\_/\_/\q) [.r (Y1 O (dl.map pD)),.c (Z v,st++[Y1 O (dl.map pD)]),.r (Y1 O (dl.map pD)),.b O,.b Y6,.r (Y1 O (dl.map pD)),.b O,.b O,.r (Y1 O (dl.map pD)),.c (d,st++[Y1 O (dl.map pD)]),.r (Y1 O (dl.map pD)),.r (Y1 O (dl.map pD)),.b O] ⟨a,i,a,Z3 t1,Z4 t2,a,Z3 t1,(show(v==2)=O by simpa using l),a,g,a,a,b,rfl⟩
    cases o:wIs f ["vein"] with
    |false=>exact⟨d,v,p,n o⟩
    |true=>
     refine⟨f,v,.old j,?_⟩;rw[e]
     cases j with
     |vein=>exact qzy 0 [66,79,80] 3 (λq=>_/\_/\_/\_/\_/\_/\_/\_/\_/\_/\_/\q) [.r (Y1 O (dl.map pD)),.c (Z v,st++[Y1 O (dl.map pD)]),.r (Y1 O (dl.map pD)),.b O,.b Y6,.r (Y1 O (dl.map pD)),.b O,.b O,.r (Y1 O (dl.map pD)),.r (Y1 O (dl.map pD)),.b O] ⟨a,i,a,Z3 t1,Z4 t2,a,Z3 t1,(show(v==2)=O by simpa using l),a,a,b,rfl⟩
     |claim h _=>cases h<;>cases o
     |_=>cases o
   ·refine⟨f,v,.old j,?_⟩;rw[e];exact qzy 0 [66,79,80] 3 (λq=>_/\_/\_/\_/\_/\_/\_/\_/\_/\_/\_/\q) [.r (Y1 O (dl.map pD)),.c (Z v,st++[Y1 O (dl.map pD)]),.r (Y1 O (dl.map pD)),.b O,.b Y6,.r (Y1 O (dl.map pD)),.b O,.b Y6,.r (Y1 O (dl.map pD)),.r (Y1 O (dl.map pD)),.b O] ⟨a,i,a,Z3 t1,Z4 t2,a,Z3 t1,(show(v==2)=Y6 by simpa using l),a,a,b,rfl⟩
 ·refine⟨f,v,.old j,?_⟩;rw[e];exact qzy 0 [66,79,80] 3 (λq=>_/\_/\_/\_/\_/\_/\_/\_/\_/\q) [.r (Y1 O (dl.map pD)),.c (Z v,st++[Y1 O (dl.map pD)]),.r (Y1 O (dl.map pD)),.b Y6,.r (Y1 O (dl.map pD)),.b Y6,.r (Y1 O (dl.map pD)),.r (Y1 O (dl.map pD)),.b O] ⟨a,i,a,Z4 t1,a,Z4 t1,a,a,b,rfl⟩
end
section
theorem DF.noLoc(h:DF W H P f):M.noLoc f=true:=by
 cases h with
 |vein=>
  rename_i a ps _ _ _ _ _ _ _;show(O&&(M.noLoc (Y9 (a.map Z))&&(M.noLoc (Y9 (ps.map cD))&&O)))=O;rw[qjo,qxc,nlI]
  rfl
 |claim h _=>cases h<;>rfl
 |_=>rfl
theorem DG.noLoc(h:DG W H P f):M.noLoc f=true:=by
 cases h with
 |old h=>exact h.noLoc
 |_=>rfl
def qgo{pl:L (J×D)}(h:∀p∈pl,DG W H P p.2):noLocs (pl.map pD)=true:=by
 induction pl with
 |nil=>rfl
 |cons p r a=>
  show((O&&(M.noLoc p.2&&O))&&noLocs (r.map pD))=O;rw[(h p (Qq5 ..)).noLoc,a λq b=>h q (Qqt _ b)]
  rfl
end
section
variable {ns:L J}(hn:ns.length<=63){W H P:J}(w1:1<=W)(w2:W<=24)(h1:1<=H)(h2:H<=24)(p0:0<=P)(p1:P<=12)
include hn w1 w2 h1 h2 p0 p1
theorem dug_ok(m)(st)(k)(y:0<=k)(w:k<1000)(u:1<=many)(s:many<=24):∃pl:L (J×D),callD fns (m+6) 82 [scr ns,Z k,szD W H P,Z many] st=Y (Y2 st.length,st++[Y1 O (pl.map pD)])/\(pl.length:J)=many/\(∀p∈pl,DG W H P p.2/\1<=p.1/\p.1<=360)/\(pl.map (·.1)).Pairwise (· < ·):=by
 obtain⟨pl,G,K,o,F⟩:=qmj hn w1 w2 h1 h2 p0 p1 m (st++[Y1 O []]) k y w u s;have l:(RL (callD fns (m+5))).ev (dgT ns k W H P many st B B B) (st++[Y1 O []]) (.gc (.call 78 [.var 0,.var 1,.var 2,.var 3]))=Y (.lst (pl.map pD),st++[Y1 O []]):=
  qzc 0 [78] 5 (λq=>_/\_/\q) [.c (Y2 (st++[Ya.lst O []]).length,st++[Y1 O []]++[Y1 O (pl.map pD)]),.l (pl.map pD)] ⟨G,qzw (st:=st++[Y1 O []]) (qgo λp hp=>.old (o p hp).1),rfl⟩
 obtain⟨d,st',e,I,a,b,c,dl,rfl,rfl,g,n⟩:=qx2 (st:=st++[Y1 O []]) (it:=.gc (.call 78 [.var 0,.var 1,.var 2,.var 3])) (t:=.tup [5,6])
  (λi d st'=>i<=pl.length/\∃(a b c:Y3 D) (dl:L (J×D)),d=dgT ns k W H P many st a b c/\st'=st++[Y1 O (dl.map pD)]/\dl.map (·.1)=(pl.take i).map (·.1)/\∀p∈dl,DG W H P p.2)
  (by show((RL (callD fns (m+5))).ev _ _ _).bind _=_; rw[l]; rfl) (qzs rfl) (λi d st' _=>qqs rfl i) ⟨Qq8 _,B,B,B,[],rfl,rfl,rfl,Qqp _⟩ (λi d st' x r h=>by
   obtain⟨hi,a,b,c,dl,rfl,rfl,g,n⟩:=h;rw[Qqw]at r;obtain⟨p,hp,rfl⟩:=Qqb.mp r;have j:=(Qqj.mp hp).1;have E:dl.length<=i:=by
    have:=congrArg List.length g;rw[Qqz,Qqz,Qzz]at this
    lia
   obtain⟨C,v,A,z⟩:=qn5 hn (m+2) st k many dl (by lia) w1 h1 p0 p.1 (o p (Qqf hp)).1 c
   exact⟨_,_,z,j,_,_,_,dl++[(p.1,C)],rfl,rfl,by rw[Qxk,hp,Qql,Qql,g]; rfl,λq f=>by
    rcases Qqn.mp f with f|f
    ·exact n q f
    ·cases Qqa.mp f; exact A⟩)
 rw[Qqz,Qzv]at g;refine⟨dl,qzz 0 [] 6 (λq=>_/\q) [.s (.nx (dgT ns k W H P many st a b c),st++[Y1 O (dl.map pD)])] ⟨e,rfl⟩,?_,λp hp=>⟨n p hp,?_⟩,by rw[g]; exact F⟩
 ·have:=congrArg List.length g;rw[Qqz,Qqz]at this
  lia
 ·have:p.1∈dl.map (·.1):=Qqv.mpr ⟨p,hp,rfl⟩;rw[g]at this;obtain⟨q,f,e⟩:=Qqv.mp this;rw[<- e];exact(o q f).2
end
section
variable {W H P T:J}(w1:1<=W)(w2:W<=24)(h1:1<=H)(h2:H<=24)(p0:0<=P)(p1:P<=12)(t1:1<=T)(t2:T<=400)
include w1 w2 h1 h2 p0 p1 t1 t2
theorem qnn(m):callD fns (m+3) 44 [Y2 0,Z W,Z H,Z P,Z T] [.obj 642 []]=Y (.non,FC ⟨szD W H P,[],([]:L En).map eD⟩ T 0 (voD []) [] [] [] []):=
 qzz 9 [] 3 (λq=>_/\_/\_/\_/\_/\_/\_/\_/\q) [.b O,.b O,.b O,.b O,.b O,.b O,.b O,.b O] ⟨Z3 w1,Z3 w2,Z3 h1,Z3 h2,Z3 p0,Z3 p1,Z3 t1,Z3 t2,rfl⟩
end
def ok0:Ok 0 0 [] [] [] [] [] []:=
 ⟨⟨Qqp _,Qqp _,.nil,Qqp _,.nil⟩,⟨Qqp _,Qqp _,Qqp _,Qqp _⟩,Qqk _,Qq8 _,Qqp _,Qqk _,.nil,Qqp _,Qqp _,Qqk _,Qqp _,Qqk _⟩
structure Stt where
 w:String
 M:J×J×J->L En
 d:J
 dg:L (L J×D)
 vs:L (J×D×L (J×J))
 jo:L (D×D)
 cs:L Cl
 ro:L J
 rest:Y4
noncomputable abbrev Stt.C(s:Stt)(S:D)(T:J)(es:L En):Y4:=FC ⟨S,s.dg,es.map eD⟩ T s.d (voD s.vs) s.jo s.cs s.ro s.rest
abbrev Stt.ok(s:Stt)(k:Y0):Prop:=Ok k s.d s.dg s.vs s.jo s.cs s.ro s.rest
noncomputable def st0:Stt:=⟨"",λ_=>[],0,[],[],[],[],[],[]⟩
section
variable {W H P T:J}
def qhe(m:Y0){pl:L (J×D)}(G:pl.length<=24)(j:∀p∈pl,DG W H P p.2/\1<=p.1/\p.1<=360)(t:(pl.map (·.1)).Pairwise (· < ·)):
  ∃F:Y0->Stt,F 0=st0/\(∀k,k<=pl.length->(F k).ok k/\∀p∈pl.drop k,(F k).d<p.1)/\∀k,k<pl.length->∀p,pl[k]?=Y p->Br p.1 p.2 (F (k+1)).M/\∀(es:L En) (u:J×J×J),UOk W H u->es.length<=2*k->callD fns (m+10) 45 [Y2 0,Z p.1,alt u p.2] ((F k).C (szD W H P) T es)=Y (sO (F (k+1)).w,(F (k+1)).C (szD W H P) T (es++(F (k+1)).M u)):=
 chain (S:=Stt) (s0:=st0) (I:=λk s=>s.ok k/\∀p∈pl.drop k,s.d<p.1) (R:=λk s s'=>∀p,pl[k]?=Y p->Br p.1 p.2 s'.M/\∀(es:L En) (u:J×J×J),UOk W H u->es.length<=2*k->callD fns (m+10) 45 [Y2 0,Z p.1,alt u p.2] (s.C (szD W H P) T es)=Y (sO s'.w,s'.C (szD W H P) T (es++s'.M u))) ⟨ok0,λp a=>by have:=(j p (List.mem_of_mem_drop a)).2; show 0<p.1; lia⟩ pl.length λk s l ⟨y,x⟩=>by
  obtain⟨p,a⟩:∃p,pl[k]?=Y p:=⟨_,Qqc l⟩
  have g:=(Qqj.mp a).2;have dr:pl.drop k=p::pl.drop (k+1):=by rw[Qxt l,g]
  obtain⟨r,o,E⟩:=j p (Qqf a);obtain⟨w,h,c,e,i,d,b,M,C,A,z⟩:=qhg (T:=T) m y (by lia) r o (by lia) (x p (by rw[dr]; exact .head _));refine⟨⟨w,M,p.1,h,c,e,i,d,b⟩,⟨C,λq v=>?_⟩,λp2 f=>by cases a.symm.trans f; exact⟨A,z⟩⟩;have n:=t.sublist ((List.drop_sublist k pl).map _);rw[dr,Qqm,Qxj]at n;exact n.1 q.1 (Qqv.mpr ⟨q,v,rfl⟩)
end
theorem qaf{ds:L D}(X:Y0->D)(Q:Y0->Sl->Prop)(S:Y0->Y4)(b:∀k,it.at (S k) k=Y ds[k]?)(g:ds.length<lim)(c:∀k d τ,ds[k]?=Y d->Q k τ->∃a,f τ (S k) d=Y (Y (X k),a,S (k+1))/\Q (k+1) a):
  ∀(n k:Y0) (τ:Sl),k+n=ds.length->Q k τ->loopC it f (n+1) k ((List.range k).map X) τ (S k)=Y ((List.range ds.length).map X,S ds.length)
 |0,k,τ,e,q=>by
  have e:k=ds.length:=e;unfold loopC;rw[b,Qzc (by lia)];simp only[oBs,Qqz,Qxc];rw[Z5 (by lia),e]
 |n+1,k,τ,e,q=>by
  unfold loopC;rw[b,Qqc (by lia)];obtain⟨a,h1,h2⟩:=c k _ τ (Qqc (by lia)) q;simp only[oBs,Qqz,Qxc,h1];rw[Z5 (by lia)];have:=qaf X Q S b g c n (k+1) a (by lia) h2;rw[List.range_succ,Qql]at this;exact this
def qn9{ds:L D}(X:Y0->D)(Q:Y0->Sl->Prop)(S:Y0->Y4)(j:S 0=st)(f:src (RL c) τ st it=Y (s,st))(b:∀k,s.at (S k) k=Y ds[k]?)(e:s.size st=ds.length)(h:ds.length<lim)(g:Q 0 (inner sr τ))(i:∀k d τ,ds[k]?=Y d->Q k τ->∃a,turnC (RL c) t test elt τ (S k) d=Y (Y (X k),a,S (k+1))/\Q (k+1) a):
  stepEv (RL c) τ st (.comp t it test elt sr)=Y (Y2 (S ds.length).length,S ds.length++[Y1 O ((List.range ds.length).map X)]):=by
 show((src (RL c) τ st it).bind λp=>(loopC p.1 (turnC (RL c) t test elt) (p.1.size p.2+1) 0 [] (inner sr τ) p.2).map λq=>alloc q.2 (Y1 O q.1))=_;rw[f];simp only[oBs,e];have:=qaf X Q S b h i ds.length 0 (inner sr τ) (by lia) g;rw[j]at this;rw[show loopC s (turnC (RL c) t test elt) (ds.length+1) 0 [] (inner sr τ) st=_ from this]
 rfl
def qi8(h:setT t d τ=Y a)(b:(RL c).ev a st elt=Y (x,st')):turnC (RL c) t B elt τ st d=Y (Y x,a,st'):=by
 unfold turnC;rw[h];simp only[oBs,b,oMs]
noncomputable def ent(F:Y0->Stt)(u:Y0->J×J×J):Y0->L En
 |0=>[]
 |k+1=>ent F u k++(F (k+1)).M (u k)
section
variable {W H P T:J}{pl pu:L (J×D)}{F:Y0->Stt}{u:Y0->J×J×J}
theorem qvd(a:∀k,k<pl.length->∀p,pl[k]?=Y p->Br p.1 p.2 (F (k+1)).M):∀k,k<=pl.length->(ent F u k).length<=2*k
 |0,_=>Qqk _
 |k+1,h=>by
  have:=qvd a k (Qx4 h);have:=(a k h _ (Qqc h)).len (u k);unfold ent;rw[Qqh]
  lia
def qft(m)(v:pl.length<=24)(r:F 0=st0)(l:∀k,k<pl.length->∀p,pl[k]?=Y p->Br p.1 p.2 (F (k+1)).M/\∀(es:L En) (u:J×J×J),UOk W H u->es.length<=2*k->callD fns (m+10) 45 [Y2 0,Z p.1,alt u p.2] ((F k).C (szD W H P) T es)=Y (sO (F (k+1)).w,(F (k+1)).C (szD W H P) T (es++(F (k+1)).M u)))(n:∀k,UOk W H (u k))(i:∀k,pu[k]?=pl[k]?.map λp=>(p.1,alt (u k) p.2))(f:pu.length=pl.length):
  stepEv (RL (callD fns (m+10))) [Y (szD W H P),Y (Z T),Y (.lst (pu.map pD)),Y (Y2 0),B,B] (st0.C (szD W H P) T []) (.comp (.tup [0,1]) (.var 2) B (.mcall 642 45 "enter" (.var 2) [.var 0,.var 1]) [B,B,Y 3])=Y (Y2 ((F pl.length).C (szD W H P) T (ent F u pl.length)).length,(F pl.length).C (szD W H P) T (ent F u pl.length)++[Y1 O ((List.range pl.length).map λk=>sO (F (k+1)).w)]):=by
 have g:(pu.map pD).length=pl.length:=by rw[Qqz,f]
 have h:=qn9 (c:=callD fns (m+10)) (τ:=[Y (szD W H P),Y (Z T),Y (.lst (pu.map pD)),Y (Y2 0),B,B]) (st:=st0.C (szD W H P) T []) (t:=.tup [0,1]) (it:=.var 2) (elt:=.mcall 642 45 "enter" (.var 2) [.var 0,.var 1]) (test:=B) (sr:=[B,B,Y 3]) (s:=.lst (.lst (pu.map pD))) (ds:=pu.map pD) (λk=>sO (F (k+1)).w) (λ_ τ=>∃a b,τ=[a,b,Y (Y2 0)]) (λk=>(F k).C (szD W H P) T (ent F u k)) (by rw[r]; rfl) (by show((RL (callD fns (m+10))).ev _ _ _).bind _=_; rw[qqm _ _ _ _ (.lst (pu.map pD),st0.C (szD W H P) T []) rfl]; rfl) (λk=>qqs rfl k) (qzs rfl) (by rw[g]; unfold lim; lia) ⟨B,B,rfl⟩ λk d τ hd o=>by
  obtain⟨a,b,rfl⟩:=o;rw[Qqw,i,Option.map_map]at hd;obtain⟨p,hp,rfl⟩:=Qqb.mp hd;have j:=(Qqj.mp hp).1;have e:=(l k j p hp).2 (ent F u k) (u k) (n k) (qvd (λk h p hp=>(l k h p hp).1) k (Qxu j));exact⟨[Y (Z p.1),Y (alt (u k) p.2),Y (Y2 0)],qi8 rfl (qzc 8 [45] 10 (λq=>_/\q) [.c (sO (F (k+1)).w,(F (k+1)).C (szD W H P) T (ent F u (k+1)))] ⟨e,rfl⟩),_,_,rfl⟩
 rw[g]at h;exact h
end
theorem qqa:∀{a}{τ}{st},exs (stepEx (RL c)) a τ st=Y (.nx d,e)->exs (stepEx (RL c)) b d e=Y x->exs (stepEx (RL c)) (a++b) τ st=Y x
 |[],_,_,h1,h2=>by cases h1; exact h2
 |s::a,τ,st,h1,h2=>by
  show exs (stepEx (RL c)) (s::(a++b)) τ st=Y x;unfold exs at h1 ⊢
  cases hs:stepEx (RL c) τ st s with
  |none=>rw[hs]at h1; cases h1
  |some p=>
   rw[hs]at h1;obtain⟨o,s'⟩:=p
   cases o with
   |nx f=>exact qqa h1 h2
   |_=>cases h1
noncomputable def clD(c:Cl):D:=.tup [.int c.o,rD c.g,.int c.la,oD c.v,oD c.gv]
noncomputable def veD(v:J×D×L (J×J)):D:=.tup [v.2.1,.tup (v.2.2.map cD)]
noncomputable def joD(jo:L (D×D))(v:J×D×L (J×J)):D:=(dget jo (.int v.1)).getD .non
section
variable {W H P T d:J}{dg:L (L J×D)}{es:L En}{jo:L (D×D)}{ro:L J}{rest:Y4}{cs:L Cl}{vs:L (J×D×L (J×J))}{Bq:Y0}
noncomputable abbrev lkT(vs:L (J×D×L (J×J)))(cs:L Cl)(rest:Y4):Sl:=[Y (.loc 0),Y (.lst (vs.map λv=>.int v.1)),Y (.lst (cs.map λc=>.int c.nm)),Y (.loc (rest.length+8))]
def look_a(m):exs (stepEx (RL (callD fns (m+4)))) [.set (.var 1) (.gc (.mcall 642 57 "veins" (.var 0) [])),.set (.var 2) (.gc (.mcall 642 58 "claims" (.var 0) [])),.set (.var 3) (.lst [.mcall 642 54 "today" (.var 0) [],.mcall 642 55 "size" (.var 0) [],.mcall 642 56 "term" (.var 0) [],.var 1,.var 2])] [Y (Y2 0),B,B,B] (FC ⟨szD W H P,dg,es.map eD⟩ T d (voD vs) jo cs ro rest)=Y (.nx (lkT vs cs rest),FC ⟨szD W H P,dg,es.map eD⟩ T d (voD vs) jo cs ro (rest++[Y1 O [Z d,szD W H P,Z T,.lst (vs.map λv=>Z v.1),.lst (cs.map λc=>Z c.nm)]])):=by
 have a:keysOf (voD vs)=vs.map λv=>D.int v.1:=by unfold keysOf voD; rw[Qq6]; rfl
 have b:keysOf (qzf cs)=cs.map λc=>D.int c.nm:=by unfold keysOf qzf; rw[Qq6]; rfl
 have f:=qzw (st:=FC ⟨szD W H P,dg,es.map eD⟩ T d (voD vs) jo cs ro rest) (ds:=keysOf (voD vs)) (by rw[a]; exact qzb λ_ _=>rfl);have e:=qzw (st:=FC ⟨szD W H P,dg,es.map eD⟩ T d (voD vs) jo cs ro rest) (ds:=keysOf (qzf cs)) (by rw[b]; exact qzb λ_ _=>rfl);unfold lkT;rw[<- a,<- b];exact qqj 8 [] 4 (λq=>_/\_/\q) [.l (keysOf (voD vs)),.l (keysOf (qzf cs))] ⟨f,e,rfl⟩
def qwk(m)(a xs)(b:a.length<100)(nl:noLocs xs=O)(h:stepEv (RL (callD fns (m+4))) (lkT vs cs rest) (FC ⟨szD W H P,dg,es.map eD⟩ T d (voD vs) jo cs ro (rest++[Y1 O a])) (.comp t it q elt sr)=Y (Y2 (FC ⟨szD W H P,dg,es.map eD⟩ T d (voD vs) jo cs ro (rest++[Y1 O a])).length,FC ⟨szD W H P,dg,es.map eD⟩ T d (voD vs) jo cs ro (rest++[Y1 O a])++[Y1 O xs])):
  exs (stepEx (RL (callD fns (m+4)))) [.expr (.meth (Yd 3) .append [.gc (.comp t it q elt sr)])] (lkT vs cs rest) (FC ⟨szD W H P,dg,es.map eD⟩ T d (voD vs) jo cs ro (rest++[Y1 O a]))=Y (.nx (lkT vs cs rest),FC ⟨szD W H P,dg,es.map eD⟩ T d (voD vs) jo cs ro (rest++[Y1 O (a++[Yc xs])])):=by
 have g:=gl (st:=rest) (c:=Y1 O a);rw[<- sl (st:=rest) (c:=Y1 O a) (c':=Y1 O (a++[D.lst xs]))];exact qqj 8 [] 4 (λq=>_/\_/\_/\_/\_/\q) [.r (Y1 O a),.c (Y2 (FC ⟨szD W H P,dg,es.map eD⟩ T d (voD vs) jo cs ro (rest++[Y1 O a])).length,FC ⟨szD W H P,dg,es.map eD⟩ T d (voD vs) jo cs ro (rest++[Y1 O a])++[Y1 O xs]),.l xs,.r (Y1 O a),.b O] ⟨g,h,qzw (st:=FC ⟨szD W H P,dg,es.map eD⟩ T d (voD vs) jo cs ro (rest++[Y1 O a])) nl,g,Z3 (p:=a.length<lim) (by unfold lim; lia),rfl⟩
def qqo{α:Type}{f:α->D}{l:L α}(h:∀a∈l,noLoc (f a)=O):noLocs (l.map f)=true:=qzb h
def look_b(m)(I:Inv Bq rest cs)(h:(vs.map (·.1)).Nodup)(r:vs.length<1000)(n:cs.length<1000)(o:VsOk vs)(p:JoI vs jo)(a)(s:a.length<50):exs (stepEx (RL (callD fns (m+4)))) ([.expr (.meth (Yd 3) .append [.gc (.comp (.var 0) (Yd 1) B (.mcall 642 59 "vein" (Yd 1) [Yd 0]) [B,Y 0])])]++([.expr (.meth (Yd 3) .append [.gc (.comp (.var 0) (Yd 1) B (.mcall 642 60 "joined" (Yd 1) [Yd 0]) [B,Y 0])])]++[.expr (.meth (Yd 3) .append [.gc (.comp (.var 0) (Yd 2) B (.mcall 642 61 "claim" (Yd 1) [Yd 0]) [B,Y 0])])])) (lkT vs cs rest) (FC ⟨szD W H P,dg,es.map eD⟩ T d (voD vs) jo cs ro (rest++[Y1 O a]))=Y (.nx (lkT vs cs rest),FC ⟨szD W H P,dg,es.map eD⟩ T d (voD vs) jo cs ro (rest++[Y1 O (a++[Yc (vs.map veD)]++[Yc (vs.map (joD jo))]++[Yc (cs.map clD)])])):=by
 refine qqa (qwk m a (vs.map veD) (by lia) (qqo λv g=>?_) (qqr (i:=1) vs (λv=>Z v.1) veD rfl rfl (by unfold lim; lia) rfl λv g=>qzc 8 [59] 4 (λq=>_/\q) [.c (veD v,FC ⟨szD W H P,dg,es.map eD⟩ T d (voD vs) jo cs ro (rest++[Y1 O a]))] ⟨qjj (m+3) (T:=T) (d:=d) (jo:=jo) (cs:=cs) (ro:=ro) (rest:=rest++[Y1 O a]) h g (sz:=⟨szD W H P,dg,es.map eD⟩),rfl⟩)) ?_
 ·obtain⟨k,e,_⟩:=(o v g).1;unfold veD;rw[e];show(noLoc (Y9 (k.map Z))&&(noLoc (Y9 (v.2.2.map cD))&&O))=O;rw[qjo,qxc,nlI]
  rfl
 refine qqa (qwk m _ (vs.map (joD jo)) (by rw[Qqh]; show _+1<_; lia) (qqo λv g=>?_) (qqr (i:=1) vs (λv=>Z v.1) (joD jo) rfl rfl (by unfold lim; lia) rfl λv g=>qzc 8 [60] 4 (λq=>_/\q) [.c (joD jo v,FC ⟨szD W H P,dg,es.map eD⟩ T d (voD vs) jo cs ro (rest++[Y1 O (a++[Yc (vs.map veD)])]))] ⟨qvv (m+3) (T:=T) (d:=d) (jo:=jo) (cs:=cs) (ro:=ro) (rest:=rest++[Y1 O (a++[Yc (vs.map veD)])]) h g (sz:=⟨szD W H P,dg,es.map eD⟩),rfl⟩)) ?_
 ·unfold joD
  cases l:dget jo (Z v.1) with
  |none=>rfl
  |some x=>
   obtain⟨b,f,rfl,_⟩:=qap p l
   rfl
 exact qwk m _ (cs.map clD) (by rw[Qqh,Qqh]; show _+1+1<_; lia) (qqo λc j=>by unfold clD; cases c.v<;>cases c.gv<;>rfl) (qqr (i:=2) cs (λc=>Z c.nm) clD rfl rfl (by unfold lim; lia) rfl λc j=>qzc 8 [61] 4 (λq=>_/\q) [.c (clD c,FC ⟨szD W H P,dg,es.map eD⟩ T d (voD vs) jo cs ro (rest++[Y1 O (a++[Yc (vs.map veD)]++[Yc (vs.map (joD jo))])]))] ⟨qjb (sz:=⟨szD W H P,dg,es.map eD⟩) (T:=T) (d:=d) (fo:=voD vs) (jo:=jo) (ro:=ro) (rest:=rest++[Y1 O (a++[Yc (vs.map veD)]++[Yc (vs.map (joD jo))])]) (m+2) (I.more _) j,rfl⟩)
end
section
variable {W H P T d:J}{dg:L (L J×D)}{es:L En}{jo:L (D×D)}{ro:L J}{rest:Y4}{cs:L Cl}{vs:L (J×D×L (J×J))}{Bq:Y0}
def qee(m)(I:Inv Bq rest cs)(e:c∈cs):callD fns (m+2) 62 [Y2 0,Z c.nm] (FC ⟨szD W H P,dg,es.map eD⟩ T d (voD vs) jo cs ro rest)=Y (sO (stW c d),FC ⟨szD W H P,dg,es.map eD⟩ T d (voD vs) jo cs ro rest):=by
 have b:=I.get e;obtain⟨f,a⟩:=I.at_ c e;have hs:=qqq (sz:=⟨szD W H P,dg,es.map eD⟩) (T:=T) (d:=d) (fo:=voD vs) (jo:=jo) (bo:=qzf cs) (ro:=rowD ro) m c d a;exact qzz 8 [9] 2 (λq=>_/\_/\_/\_/\q) [.q (Y (Y2 (c.j+9))),.q (Y (Y2 (c.j+9))),.r c.cell,.c (sO (stW c d),FC ⟨szD W H P,dg,es.map eD⟩ T d (voD vs) jo cs ro rest)] ⟨b,b,a,hs,rfl⟩
def qed(m)(I:Inv Bq rest cs)(f:c∈cs):callD fns (m+2) 63 [Y2 0,Z c.nm] (FC ⟨szD W H P,dg,es.map eD⟩ T d (voD vs) jo cs ro rest)=Y (Y2 (FC ⟨szD W H P,dg,es.map eD⟩ T d (voD vs) jo cs ro rest).length,FC ⟨szD W H P,dg,es.map eD⟩ T d (voD vs) jo cs ro rest++[Y1 O (c.ds.map Z)]):=by
 have e:=I.get f;obtain⟨a,b⟩:=I.at_ c f;exact qzz 8 [] 2 (λq=>_/\_/\_/\_/\q) [.q (Y (Y2 (c.j+9))),.q (Y (Y2 (c.j+9))),.r c.cell,.r c.dl] ⟨e,e,b,a,rfl⟩
noncomputable def yrD(c:Cl):D:=.lst (c.ds.map .int)
def look_c(m)(I:Inv Bq rest cs)(e:cs.length<1000)(a)(f:a.length<50):exs (stepEx (RL (callD fns (m+4)))) ([.expr (.meth (Yd 3) .append [.gc (.comp (.var 0) (Yd 2) B (.gc (.mcall 642 62 "state" (Yd 1) [Yd 0])) [B,Y 0])])]++[.expr (.meth (Yd 3) .append [.gc (.comp (.var 0) (Yd 2) B (.gc (.mcall 642 63 "years" (Yd 1) [Yd 0])) [B,Y 0])])]) (lkT vs cs rest) (FC ⟨szD W H P,dg,es.map eD⟩ T d (voD vs) jo cs ro (rest++[Y1 O a]))=Y (.nx (lkT vs cs rest),FC ⟨szD W H P,dg,es.map eD⟩ T d (voD vs) jo cs ro (rest++[Y1 O (a++[Yc (cs.map λc=>sO (stW c d))]++[Yc (cs.map yrD)])])):=by
 refine qqa (qwk m a (cs.map λc=>sO (stW c d)) (by lia) (qqo λc b=>rfl) (qqr (i:=2) cs (λc=>Z c.nm) (λc=>sO (stW c d)) rfl rfl (by unfold lim; lia) rfl λc b=>qzc 8 [62] 4 (λq=>_/\_/\q) [.c (sO (stW c d),FC ⟨szD W H P,dg,es.map eD⟩ T d (voD vs) jo cs ro (rest++[Y1 O a])),.g] ⟨qee (W:=W) (H:=H) (P:=P) (T:=T) (d:=d) (dg:=dg) (es:=es) (jo:=jo) (ro:=ro) (vs:=vs) (rest:=rest++[Y1 O a]) (m+2) (I.more _) b,gS (sO (stW c d)) (FC ⟨szD W H P,dg,es.map eD⟩ T d (voD vs) jo cs ro (rest++[Y1 O a])) rfl,rfl⟩)) ?_;exact qwk m _ (cs.map yrD) (by rw[Qqh]; show _+1<_; lia) (qqo λc b=>nlI c.ds) (qqr (i:=2) cs (λc=>Z c.nm) yrD rfl rfl (by unfold lim; lia) rfl λc b=>qzc 8 [63] 4 (λq=>_/\_/\q) [.c (Y2 (FC ⟨szD W H P,dg,es.map eD⟩ T d (voD vs) jo cs ro (rest++[Y1 O (a++[Yc (cs.map λc=>sO (stW c d))])])).length,FC ⟨szD W H P,dg,es.map eD⟩ T d (voD vs) jo cs ro (rest++[Y1 O (a++[Yc (cs.map λc=>sO (stW c d))])])++[Y1 O (c.ds.map Z)]),.l (c.ds.map Z)] ⟨qed (W:=W) (H:=H) (P:=P) (T:=T) (d:=d) (dg:=dg) (es:=es) (jo:=jo) (ro:=ro) (vs:=vs) (rest:=rest++[Y1 O (a++[Yc (cs.map λc=>sO (stW c d))])]) (m+2) (I.more _) b,qzw (st:=FC ⟨szD W H P,dg,es.map eD⟩ T d (voD vs) jo cs ro (rest++[Y1 O (a++[Yc (cs.map λc=>sO (stW c d))])])) (nlI c.ds),rfl⟩)
def look_d(m)(I:Inv Bq rest cs)(b:∀n∈ro,∃c∈cs,c.nm=n)(e:ro.length<1000)(a)(j:a.length<50):exs (stepEx (RL (callD fns (m+4)))) [.ret (.bin .Add (.var 3) (.gc (.lst [.gc (.mcall 642 64 "standing" (.var 0) []),.gc (.mcall 642 65 "entries" (.var 0) [])])))] (lkT vs cs rest) (FC ⟨szD W H P,dg,es.map eD⟩ T d (voD vs) jo cs ro (rest++[Y1 O a]))=Y (.rt (Y2 (FC ⟨szD W H P,dg,es.map eD⟩ T d (voD vs) jo cs ro (rest++[Y1 O a])).length),FC ⟨szD W H P,dg,es.map eD⟩ T d (voD vs) jo cs ro (rest++[Y1 O a])++[Y1 O (a++[.lst (rowD (ro.filter (stB cs d))),.lst (es.map eD)])]):=by
 have hs:=qy7 (sz:=⟨szD W H P,dg,es.map eD⟩) (T:=T) (d:=d) (fo:=voD vs) (jo:=jo) (rest:=rest++[Y1 O a]) (m+1) (I.more _) b e;have n1:noLocs (rowD (ro.filter (stB cs d)))=true:=qzb λ_ _=>rfl;have n2:noLocs (es.map eD)=true:=qzb λ_ _=>rfl;have g:=gl (st:=rest) (c:=Y1 O a);have i:=qzw (st:=FC ⟨szD W H P,dg,es.map eD⟩ T d (voD vs) jo cs ro (rest++[Y1 O a])) (ds:=rowD (ro.filter (stB cs d))) n1;have h:=qzw (st:=FC ⟨szD W H P,dg,es.map eD⟩ T d (voD vs) jo cs ro (rest++[Y1 O a])) (ds:=es.map eD) n2;have f:=qzw (st:=FC ⟨szD W H P,dg,es.map eD⟩ T d (voD vs) jo cs ro (rest++[Y1 O a])) (ds:=[.lst (rowD (ro.filter (stB cs d))),.lst (es.map eD)]) (by show(noLocs (rowD (ro.filter (stB cs d)))&&(noLocs (es.map eD)&&O))=O; rw[n1,n2]; rfl);exact qqj 8 [64] 4 (λq=>_/\_/\_/\_/\_/\_/\q) [.c (Y2 (FC ⟨szD W H P,dg,es.map eD⟩ T d (voD vs) jo cs ro (rest++[Y1 O a])).length,FC ⟨szD W H P,dg,es.map eD⟩ T d (voD vs) jo cs ro (rest++[Y1 O a])++[Y1 O (rowD (ro.filter (stB cs d)))]),.l (rowD (ro.filter (stB cs d))),.l (es.map eD),.l [.lst (rowD (ro.filter (stB cs d))),.lst (es.map eD)],.r (Y1 O a),.b Y6] ⟨hs,i,h,f,g,Z4 (p:=lim<a.length+2) (by unfold lim; lia),rfl⟩
noncomputable def lkL(W H P T d:J)(vs:L (J×D×L (J×J)))(jo:L (D×D))(cs:L Cl)(ro:L J):L D:=[.int d,szD W H P,.int T,.lst (vs.map λv=>.int v.1),.lst (cs.map λc=>.int c.nm),.lst (vs.map veD),.lst (vs.map (joD jo)),.lst (cs.map clD),.lst (cs.map λc=>sO (stW c d)),.lst (cs.map yrD),.lst (rowD (ro.filter (stB cs d)))]
noncomputable abbrev lkB:L M.S:=[.set (.var 1) (.gc (.mcall 642 57 "veins" (.var 0) [])),.set (.var 2) (.gc (.mcall 642 58 "claims" (.var 0) [])),.set (.var 3) (.lst [.mcall 642 54 "today" (.var 0) [],.mcall 642 55 "size" (.var 0) [],.mcall 642 56 "term" (.var 0) [],.var 1,.var 2])]++(([.expr (.meth (.var 3) .append [.gc (.comp (.var 0) (.var 1) B (.mcall 642 59 "vein" (.var 1) [.var 0]) [B,Y 0])])]++([.expr (.meth (.var 3) .append [.gc (.comp (.var 0) (.var 1) B (.mcall 642 60 "joined" (.var 1) [.var 0]) [B,Y 0])])]++[.expr (.meth (.var 3) .append [.gc (.comp (.var 0) (.var 2) B (.mcall 642 61 "claim" (.var 1) [.var 0]) [B,Y 0])])]))++(([.expr (.meth (.var 3) .append [.gc (.comp (.var 0) (.var 2) B (.gc (.mcall 642 62 "state" (.var 1) [.var 0])) [B,Y 0])])]++[.expr (.meth (.var 3) .append [.gc (.comp (.var 0) (.var 2) B (.gc (.mcall 642 63 "years" (.var 1) [.var 0])) [B,Y 0])])])++[.ret (.bin .Add (.var 3) (.gc (.lst [.gc (.mcall 642 64 "standing" (.var 0) []),.gc (.mcall 642 65 "entries" (.var 0) [])])))]))
def qws(a:fns[f]?=Y F)(b:ds.length=F.np)(h:exs (stepEx (RL (callD fns m))) F.body (ds.map Y++List.replicate (F.nl - ds.length) B) st=Y (.rt v,st')):callD fns (m+1) f ds st=Y (v,st'):=by
 show stepCall fns (RL (callD fns m)) f ds st=_;unfold stepCall;rw[a];dsimp only;rw[Z6 b,ql3 _ _ _ _ _ h]
 rfl
def qm7:fns[81]?=Y ⟨1,4,lkB⟩:=by kernel_rfl
def qm6(m)(I:Inv Bq rest cs)(e:∀n∈ro,∃c∈cs,c.nm=n)(f:ro.length<1000)(b:(vs.map (·.1)).Nodup)(g:vs.length<1000)(a:cs.length<1000)(i:VsOk vs)(j:JoI vs jo):∃x:Ya,callD fns (m+5) 81 [Y2 0] (FC ⟨szD W H P,dg,es.map eD⟩ T d (voD vs) jo cs ro rest)=Y (Y2 ((FC ⟨szD W H P,dg,es.map eD⟩ T d (voD vs) jo cs ro rest).length+1),FC ⟨szD W H P,dg,es.map eD⟩ T d (voD vs) jo cs ro rest++[x,Y1 O (lkL W H P T d vs jo cs ro++[.lst (es.map eD)])]):=by
 refine⟨Y1 O ([Z d,szD W H P,Z T,.lst (vs.map λv=>Z v.1),.lst (cs.map λc=>Z c.nm)]++[.lst (vs.map veD)]++[.lst (vs.map (joD jo))]++[.lst (cs.map clD)]++[.lst (cs.map λc=>sO (stW c d))]++[.lst (cs.map yrD)]),qws qm7 rfl (qqa (look_a m) (qqa (look_b m I b g a i j _ (by show 5<50; decide)) (qqa (look_c m I a _ (by show 8<50; decide)) ?_)))⟩;have h:=look_d (W:=W) (H:=H) (P:=P) (T:=T) (d:=d) (dg:=dg) (es:=es) (jo:=jo) (vs:=vs) m I e f ([Z d,szD W H P,Z T,.lst (vs.map λv=>Z v.1),.lst (cs.map λc=>Z c.nm)]++[.lst (vs.map veD)]++[.lst (vs.map (joD jo))]++[.lst (cs.map clD)]++[.lst (cs.map λc=>sO (stW c d))]++[.lst (cs.map yrD)]) (by show 10<50; decide);rw[show(FC ⟨szD W H P,dg,es.map eD⟩ T d (voD vs) jo cs ro (rest++[Y1 O ([Z d,szD W H P,Z T,.lst (vs.map λv=>Z v.1),.lst (cs.map λc=>Z c.nm)]++[.lst (vs.map veD)]++[.lst (vs.map (joD jo))]++[.lst (cs.map clD)]++[.lst (cs.map λc=>sO (stW c d))]++[.lst (cs.map yrD)])])).length=(FC ⟨szD W H P,dg,es.map eD⟩ T d (voD vs) jo cs ro rest).length+1 by rw[qwf,qwf,Qqh]; rfl,show ∀c y:Ya,FC ⟨szD W H P,dg,es.map eD⟩ T d (voD vs) jo cs ro (rest++[c])++[y]=FC ⟨szD W H P,dg,es.map eD⟩ T d (voD vs) jo cs ro rest++[c,y] from λc y=>by rw[show FC ⟨szD W H P,dg,es.map eD⟩ T d (voD vs) jo cs ro (rest++[c])=FC ⟨szD W H P,dg,es.map eD⟩ T d (voD vs) jo cs ro rest++[c] from rfl,Qzx]; rfl]at h;exact h
end
def qxt(c:noLocs a=O)(e:noLocs b=O):noLocs (a++b)=true:=by
 induction a with
 |nil=>exact e
 |cons x r d=>
  have c:(noLoc x&&noLocs r)=true:=c;rw[Qqs]at c;show(noLoc x&&noLocs (r++b))=O;rw[c.1,d c.2]
  rfl
section
variable {W H P T d:J}{dg:L (L J×D)}{es:L En}{jo:L (D×D)}{ro:L J}{rest:Y4}{cs:L Cl}{vs:L (J×D×L (J×J))}{Bq:Y0}
def nl_lk(o:VsOk vs)(p:JoI vs jo):noLocs (lkL W H P T d vs jo cs ro)=true:=by
 have n1:noLocs (vs.map veD)=true:=qqo λv a=>by
  obtain⟨g,e,_⟩:=(o v a).1;unfold veD;rw[e];show(noLoc (Y9 (g.map Z))&&(noLoc (Y9 (v.2.2.map cD))&&O))=O;rw[qjo,qxc,nlI]
  rfl
 have n2:noLocs (vs.map (joD jo))=true:=qqo λv a=>by
  unfold joD
  cases n:dget jo (Z v.1) with
  |none=>rfl
  |some x=>
   obtain⟨b,f,rfl,_⟩:=qap p n
   rfl
 have m:noLocs (cs.map clD)=true:=qqo λc q=>by unfold clD; cases c.v<;>cases c.gv<;>rfl
 have l:noLocs (cs.map λc=>sO (stW c d))=true:=qqo λ_ _=>rfl;have k:noLocs (cs.map yrD)=true:=qqo λc _=>nlI c.ds;have j:noLocs (rowD (ro.filter (stB cs d)))=true:=qzb λ_ _=>rfl;have i:noLocs (vs.map λv=>D.int v.1)=true:=qqo λ_ _=>rfl;have h:noLocs (cs.map λc=>D.int c.nm)=true:=qqo λ_ _=>rfl;show(O&&(O&&(O&&(noLocs (vs.map λv=>D.int v.1)&&(noLocs (cs.map λc=>D.int c.nm)&&(noLocs (vs.map veD)&&(noLocs (vs.map (joD jo))&&(noLocs (cs.map clD)&&(noLocs (cs.map λc=>sO (stW c d))&&(noLocs (cs.map yrD)&&(noLocs (rowD (ro.filter (stB cs d)))&&O)))))))))))=O;rw[n1,n2,m,l,k,j,i,h]
 rfl
noncomputable abbrev woB:L M.S:=[.set (.var 3) (.new 642 44 [.idx (.var 0) (.lit (.int 0)),.idx (.var 0) (.lit (.int 1)),.idx (.var 0) (.lit (.int 2)),.var 1])]++([.set (.var 4) (.comp (.tup [0,1]) (.var 2) B (.mcall 642 45 "enter" (.var 2) [.var 0,.var 1]) [B,B,Y 3])]++([.set (.var 5) (.gc (.call 81 [.var 3]))]++[.ret (.lst [.gc (.bin .Add (.var 4) (.sli (.var 5) B (Y (.lit (.int 11))))),.idx (.var 5) (.lit (.int 11))])]))
def wo_fn:fns[85]?=Y ⟨3,6,woB⟩:=by kernel_rfl
def qb9(m)(r:1<=T)(p:T<=400)(o:1<=W)(l:W<=24)(G:1<=H)(F:H<=24)(p0:0<=P)(u:P<=12)(b:noLocs ws=O)(y:ws.length<1000)(I:Inv Bq rest cs)(f:∀n∈ro,∃c∈cs,c.nm=n)(g:ro.length<1000)(e:(vs.map (·.1)).Nodup)(z:vs.length<1000)(h:cs.length<1000)(j:VsOk vs)(k:JoI vs jo)(C:stepEv (RL (callD fns (m+10))) [Y (szD W H P),Y (Z T),Y (.lst a),Y (Y2 0),B,B] (st0.C (szD W H P) T []) (.comp (.tup [0,1]) (.var 2) B (.mcall 642 45 "enter" (.var 2) [.var 0,.var 1]) [B,B,Y 3])=Y (Y2 (FC ⟨szD W H P,dg,es.map eD⟩ T d (voD vs) jo cs ro rest).length,FC ⟨szD W H P,dg,es.map eD⟩ T d (voD vs) jo cs ro rest++[Y1 O ws])):
  callD fns (m+11) 85 [szD W H P,Z T,.lst a] []=Y (Y2 (FC ⟨szD W H P,dg,es.map eD⟩ T d (voD vs) jo cs ro (rest++[Y1 O ws])).length,FC ⟨szD W H P,dg,es.map eD⟩ T d (voD vs) jo cs ro (rest++[Y1 O ws])++[Y1 O [.lst (ws++lkL W H P T d vs jo cs ro),.lst (es.map eD)]]):=by
 obtain⟨x,A⟩:=qm6 (W:=W) (H:=H) (P:=P) (T:=T) (d:=d) (dg:=dg) (es:=es) (rest:=rest++[Y1 O ws]) (m+5) (I.more _) f g e z h j k;have hi:=qnn o l G F p0 u r p (m+7);have nl:=nl_lk (W:=W) (H:=H) (P:=P) (T:=T) (d:=d) (cs:=cs) (ro:=ro) j k;have n2:noLocs (es.map eD)=true:=qzb λ_ _=>rfl;have v:noLocs (lkL W H P T d vs jo cs ro++[.lst (es.map eD)])=true:=qxt nl (by show(noLocs (es.map eD)&&O)=O; rw[n2]; rfl);have N:=qec (st:=FC ⟨szD W H P,dg,es.map eD⟩ T d (voD vs) jo cs ro (rest++[Y1 O ws])) (ex:=[x,Y1 O (lkL W H P T d vs jo cs ro++[.lst (es.map eD)])]) (i:=1) rfl v;have t:(rest++[Ya.lst O ws]++[Y1 O (lkL W H P T d vs jo cs ro)])[rest.length]?=Y (Y1 O ws):=by rw[Qq0 (by simp)]; exact gl
 have s:=gl (st:=rest++[Ya.lst O ws]) (c:=Y1 O (lkL W H P T d vs jo cs ro));have E:decide (lim<ws.length+(lkL W H P T d vs jo cs ro).length)=false:=Z4 (by show ¬ lim<ws.length+11; unfold lim; lia);have K:gcD (FC ⟨szD W H P,dg,es.map eD⟩ T d (voD vs) jo cs ro (rest++[Ya.lst O ws])) (Y2 ((FC ⟨szD W H P,dg,es.map eD⟩ T d (voD vs) jo cs ro (rest++[Ya.lst O ws]))++[Ya.lst O (lkL W H P T d vs jo cs ro)]).length,(FC ⟨szD W H P,dg,es.map eD⟩ T d (voD vs) jo cs ro (rest++[Ya.lst O ws]))++[Ya.lst O (lkL W H P T d vs jo cs ro)]++[Ya.lst O (ws++lkL W H P T d vs jo cs ro)])=(.lst (ws++lkL W H P T d vs jo cs ro),FC ⟨szD W H P,dg,es.map eD⟩ T d (voD vs) jo cs ro (rest++[Ya.lst O ws])):=by
  rw[Qqh,Qzx];exact qec (st:=(FC ⟨szD W H P,dg,es.map eD⟩ T d (voD vs) jo cs ro (rest++[Ya.lst O ws]))) (ex:=[Ya.lst O (lkL W H P T d vs jo cs ro),Ya.lst O (ws++lkL W H P T d vs jo cs ro)]) (i:=1) rfl (qxt b nl)
 have U:exs (stepEx (RL (callD fns (m+10)))) [.set (.var 3) (.new 642 44 [.idx (.var 0) (.lit (Z 0)),.idx (.var 0) (.lit (Z 1)),.idx (.var 0) (.lit (Z 2)),.var 1])] [Y (szD W H P),Y (Z T),Y (.lst a),B,B,B] []=Y (.nx [Y (szD W H P),Y (Z T),Y (.lst a),Y (Y2 0),B,B],st0.C (szD W H P) T []):=
  qqj 8 [44] 10 (λq=>_/\q) [.c (.non,st0.C (szD W H P) T [])] ⟨hi,rfl⟩
 have S:exs (stepEx (RL (callD fns (m+10)))) [.set (.var 4) (.comp (.tup [0,1]) (.var 2) B (.mcall 642 45 "enter" (.var 2) [.var 0,.var 1]) [B,B,Y 3])] [Y (szD W H P),Y (Z T),Y (.lst a),Y (Y2 0),B,B] (st0.C (szD W H P) T [])=Y (.nx [Y (szD W H P),Y (Z T),Y (.lst a),Y (Y2 0),Y (Y2 (rest.length+8)),B],FC ⟨szD W H P,dg,es.map eD⟩ T d (voD vs) jo cs ro (rest++[Y1 O ws])):=
  qqj 8 [] 10 (λq=>_/\q) [.c (Y2 (FC ⟨szD W H P,dg,es.map eD⟩ T d (voD vs) jo cs ro rest).length,FC ⟨szD W H P,dg,es.map eD⟩ T d (voD vs) jo cs ro rest++[Y1 O ws])] ⟨C,rfl⟩
 have R:exs (stepEx (RL (callD fns (m+10)))) [.set (.var 5) (.gc (.call 81 [.var 3]))] [Y (szD W H P),Y (Z T),Y (.lst a),Y (Y2 0),Y (Y2 (rest.length+8)),B] (FC ⟨szD W H P,dg,es.map eD⟩ T d (voD vs) jo cs ro (rest++[Y1 O ws]))=Y (.nx [Y (szD W H P),Y (Z T),Y (.lst a),Y (Y2 0),Y (Y2 (rest.length+8)),Y (.lst (lkL W H P T d vs jo cs ro++[.lst (es.map eD)]))],FC ⟨szD W H P,dg,es.map eD⟩ T d (voD vs) jo cs ro (rest++[Y1 O ws])):=
  qqj 8 [81] 10 (λq=>_/\_/\q) [.c (Y2 ((FC ⟨szD W H P,dg,es.map eD⟩ T d (voD vs) jo cs ro (rest++[Y1 O ws])).length+1),FC ⟨szD W H P,dg,es.map eD⟩ T d (voD vs) jo cs ro (rest++[Y1 O ws])++[x,Y1 O (lkL W H P T d vs jo cs ro++[.lst (es.map eD)])]),.l (lkL W H P T d vs jo cs ro++[.lst (es.map eD)])] ⟨A,N,rfl⟩
 have w:idxD (FC ⟨szD W H P,dg,es.map eD⟩ T d (voD vs) jo cs ro (rest++[Y1 O ws])) (.lst (lkL W H P T d vs jo cs ro++[.lst (es.map eD)])) (Z 11)=Y (.lst (es.map eD)):=rfl;have Q:exs (stepEx (RL (callD fns (m+10)))) [.ret (.lst [.gc (.bin .Add (.var 4) (.sli (.var 5) B (Y (.lit (Z 11))))),.idx (.var 5) (.lit (Z 11))])] [Y (szD W H P),Y (Z T),Y (.lst a),Y (Y2 0),Y (Y2 (rest.length+8)),Y (.lst (lkL W H P T d vs jo cs ro++[.lst (es.map eD)]))] (FC ⟨szD W H P,dg,es.map eD⟩ T d (voD vs) jo cs ro (rest++[Y1 O ws]))=Y (.rt (Y2 (FC ⟨szD W H P,dg,es.map eD⟩ T d (voD vs) jo cs ro (rest++[Y1 O ws])).length),FC ⟨szD W H P,dg,es.map eD⟩ T d (voD vs) jo cs ro (rest++[Y1 O ws])++[Y1 O [.lst (ws++lkL W H P T d vs jo cs ro),.lst (es.map eD)]]):=
  qqj 8 [] 10 (λq=>_/\_/\_/\_/\_/\q) [.r (Y1 O ws),.r (Y1 O (lkL W H P T d vs jo cs ro)),.b Y6,.l (ws++lkL W H P T d vs jo cs ro),.i (.lst (es.map eD))] ⟨t,s,E,K,w,rfl⟩
 exact qws wo_fn rfl (qqa U (qqa S (qqa R Q)))
end
def qfs{T:J}(m)(s:1<=T)(r:T<=400)(q:1<=W)(o:W<=24)(C:1<=H)(A:H<=24)(p0:0<=P)(t:P<=12){pl:L (J×D)}(i:pl.length<=24)(e:∀p∈pl,DG W H P p.2/\1<=p.1/\p.1<=360)(x:(pl.map (·.1)).Pairwise (· < ·)):
  ∃(F:Y0->Stt),(∀k,k<pl.length->∀p,pl[k]?=Y p->Br p.1 p.2 (F (k+1)).M)/\(F pl.length).ok pl.length/\∀(u:Y0->J×J×J) (b:L (J×D)),(∀k,UOk W H (u k))->(∀k,b[k]?=pl[k]?.map λp=>(p.1,alt (u k) p.2))->b.length=pl.length->∃n st',callD fns (m+11) 85 [szD W H P,Z T,Yc (b.map pD)] []=Y (Y2 n,st')/\gcD [] (Y2 n,st')=(Yc [Yc (((List.range pl.length).map λk=>sO (F (k+1)).w)++lkL W H P T (F pl.length).d (F pl.length).vs (F pl.length).jo (F pl.length).cs (F pl.length).ro),Yc ((ent F u pl.length).map eD)],[]):=by
 obtain⟨F,E,j,l⟩:=qhe (W:=W) (H:=H) (P:=P) (T:=T) m i e x;have ⟨I,R,cl,rl,dl,vl,vn,vd,V,jl,Jq,G⟩:=(j pl.length (Qqk _)).1;refine⟨F,λk y p e=>(l k y p e).1,(j pl.length (Qqk _)).1,λu b w c a=>?_⟩;have z:=qft m i E l w c a;have f:noLocs ((List.range pl.length).map λk=>sO (F (k+1)).w)=true:=qqo λ_ _=>rfl;have h:=qb9 m s r q o C A p0 t f (by simp; lia) I R.in1 (by lia) (vn.imp Int.ne_of_lt) (by lia) (by lia) V Jq z;refine⟨_,_,h,?_⟩;have n2:noLocs ((ent F u pl.length).map eD)=true:=qzb λ_ _=>rfl;have v:=qxt f (nl_lk (W:=W) (H:=H) (P:=P) (T:=T) (d:=(F pl.length).d) (cs:=(F pl.length).cs) (ro:=(F pl.length).ro) V Jq);have g:=qec (st:=[]) (ex:=FC ⟨szD W H P,(F pl.length).dg,(ent F u pl.length).map eD⟩ T (F pl.length).d (voD (F pl.length).vs) (F pl.length).jo (F pl.length).cs (F pl.length).ro ((F pl.length).rest++[Y1 O ((List.range pl.length).map λk=>sO (F (k+1)).w)])++[Y1 O [Yc (((List.range pl.length).map λk=>sO (F (k+1)).w)++lkL W H P T (F pl.length).d (F pl.length).vs (F pl.length).jo (F pl.length).cs (F pl.length).ro),Yc ((ent F u pl.length).map eD)]]) gl (by show(noLocs _&&(noLocs _&&O))=O; rw[v,n2]; rfl);rw[Qja,Qxn]at g;exact g
def same_int(m)(st)(i):callD fns (m+1) 67 [Z i,Z i] st=Y (.bl O,st):=
 qzz 0 [] 1 (λq=>_/\q) [.b O] ⟨(show(i==i)=O from beq_self_eq_true i),rfl⟩
def same_str(m)(st)(s):callD fns (m+1) 67 [.str s,.str s] st=Y (.bl O,st):=
 qjc 0 [] 1 (.bl (s==s),st) (λq=>q) [] (by rw[beq_self_eq_true])
def qga(m)(st):callD fns (m+1) 67 [.non,.non] st=Y (.bl O,st):=
 qzz 0 [] 1 (λq=>q) [] rfl
def qy9(m)(st)(hd:d=.tup ds\/d=.lst ds)(v:ds.length<1000)(p:∀x∈ds,callD fns (m+1) 67 [x,x] st=Y (.bl O,st)):callD fns (m+2) 67 [d,d] st=Y (.bl O,st):=by
 have o:bfun st .all [.lst ((ds.map λ_=>O).map .bl)]=Y (.bl O,st):=by
  show(asBools _).map _=_;rw[asB];exact congrArg (λb=>Y (D.bl b,st)) (by simp)
 have k:=qzw (st:=st) (nlB (ds.map λ_=>O));have j:∀(S:Y4) (i:Y0) (x:D),ds[i]?=Y x->idxD S d (Z (i:J))=Y x:=λS i x f=>by
  have hi:=(Qqj.mp f).1;have h2:(i:J)<ds.length:=by lia
  have e:atI ds (i:J)=Y x:=by
   unfold atI ixN;rw[Z6 (by lia),Z6 h2];exact f
  rcases hd with rfl|rfl<;>exact e
 have r:∀S:Y4,bfun S .len [d]=Y (Z ds.length,S):=λS=>by rcases hd with rfl|rfl<;>rfl
 have n:stepEv (RL (callD fns (m+1))) [Y d,Y d,B] st (.comp (.var 0) (.rng1 (.bcall .len [.var 1])) B (.gc (.call 67 [.idx (.var 2) (.var 0),.idx (.var 1) (.var 0)])) [B,Y 1,Y 0])=Y (Y2 st.length,st++[Y1 O ((ds.map λ_=>O).map .bl)]):=by
  have h:=qzt (c:=callD fns (m+1)) (τ:=[Y d,Y d,B]) (st:=st) (t:=.var 0) (it:=.rng1 (.bcall .len [.var 1])) (elt:=.gc (.call 67 [.idx (.var 2) (.var 0),.idx (.var 1) (.var 0)])) (test:=B) (sr:=[B,Y 1,Y 0]) (s:=.rng 0 ds.length) (ds:=(List.range ds.length).map λi:Y0=>D.int (0+(i:J))) (λ_=>Y (.bl O)) (λτ=>∃a,τ=[a,Y d,Y d]) (by
   have el:(RL (callD fns (m+1))).ev [Y d,Y d,B] st (.bcall .len [.var 1])=Y (Z ds.length,st):=by
    rcases hd with rfl|rfl<;>exact qzc 0 [] 1 (λq=>q) [] rfl
   show((RL (callD fns (m+1))).ev _ _ (.bcall .len [.var 1])).bind _=_;rw[el];show(if big (ds.length:J)=O then B else Y (Src.rng 0 (ds.length:J).toNat,st))=_;rw[Z5 (by unfold big; simp; lia)]
   rfl) (λi=>qw5 0 _ i) (by simp[Src.size]) (by simp; unfold lim; lia) ⟨B,rfl⟩ λτ x f g=>by
   obtain⟨a,rfl⟩:=g;obtain⟨i,hi,rfl⟩:=Qqv.mp f;have hi:=Qz9.mp hi;have f:=Qqc hi;have u:(0:J)+(i:J)=i:=by lia
   rw[u];refine⟨[Y (Z i),Y d,Y d],qxr rfl ?_,_,rfl⟩;exact qzc 0 [67] 1 (λq=>_/\_/\_/\_/\q) [.i ds[i],.i ds[i],.c (.bl O,st),.g] ⟨j st i _ f,j st i _ f,p _ (Qxh hi),gS (.bl O) st rfl,rfl⟩
  have e:((List.range ds.length).map λi:Y0=>D.int (0+(i:J))).filterMap (λ_=>Y (D.bl O))=(ds.map λ_=>O).map .bl:=by
   rw[Qzg,Qq6];refine(congrFun Qxv _).trans ?_;rw[List.map_const',Qxc];exact(List.map_const' (l:=ds) (b:=D.bl O)).symm
  rw[e]at h;exact h
 rcases hd with rfl|rfl
 ·exact qzz 0 [] 2 (λq=>_/\_/\_/\_/\q) [.b Y6,.c (Y2 st.length,st++[Y1 O ((ds.map λ_=>O).map .bl)]),.l ((ds.map λ_=>O).map .bl),.c (.bl O,st)] ⟨(show(!((ds.length:J)==ds.length))=Y6 by simp),n,k,o,rfl⟩
 ·exact qzz 0 [] 2 (λq=>_/\_/\_/\_/\q) [.b Y6,.c (Y2 st.length,st++[Y1 O ((ds.map λ_=>O).map .bl)]),.l ((ds.map λ_=>O).map .bl),.c (.bl O,st)] ⟨(show(!((ds.length:J)==ds.length))=Y6 by simp),n,k,o,rfl⟩
inductive Dq:Y0->D->Prop
 |non {k}:Dq k .non
 |int {k i}:Dq k (.int i)
 |str {k s}:Dq k (.str s)
 |tup {k ds} (h:∀d∈ds,Dq k d) (hl:ds.length<1000):Dq (k+1) (.tup ds)
 |lst {k ds} (h:∀d∈ds,Dq k d) (hl:ds.length<1000):Dq (k+1) (.lst ds)
def qyz(h:Dq k d):∀(m:Y0) (st:Y4),callD fns (m+k+1) 67 [d,d] st=Y (.bl O,st):=by
 induction h with
 |non=>exact λm st=>qga _ st
 |int=>exact λm st=>same_int _ st _
 |str=>exact λm st=>same_str _ st _
 |@tup k ds h hl a=>exact λm st=>qy9 (m+k) st (.inl rfl) hl λx b=>a x b m st
 |@lst k ds h hl a=>exact λm st=>qy9 (m+k) st (.inr rfl) hl λx b=>a x b m st
def Dq.up(h:Dq k d):∀{a},k<=a->Dq a d:=by
 induction h with
 |non=>exact λ_=>.non
 |int=>exact λ_=>.int
 |str=>exact λ_=>.str
 |tup h hl b=>
  intro a c;obtain⟨j,rfl⟩:∃j,a=j+1:=⟨a - 1,by lia⟩
  exact .tup (λd hd=>b d hd (by lia)) hl
 |lst h hl b=>
  intro a c;obtain⟨j,rfl⟩:∃j,a=j+1:=⟨a - 1,by lia⟩
  exact .lst (λd hd=>b d hd (by lia)) hl
def qqg{α:Type}{f:α->D}{l:L α}(h:∀a∈l,Dq k (f a)):∀d∈l.map f,Dq k d:=λd hd=>by
 obtain⟨a,b,rfl⟩:=Qqv.mp hd;exact h a b
def qeu(l:L J)(k):∀d∈l.map D.int,Dq k d:=qqg λ_ _=>.int
section
variable {W H P T d:J}{jo:L (D×D)}{ro:L J}{cs:L Cl}{vs:L (J×D×L (J×J))}
def dq_oD(o)(k):Dq k (oD o):=by cases o<;>constructor
def dq_cD(p):Dq 1 (cD p):=.tup (λd hd=>by
 rcases Qqy.mp hd with rfl|hd
 ·exact .int
 ·cases Qqa.mp hd; exact .int) (by show 2<1000; decide)
def lk_dq(g:cs.length<1000)(j:vs.length<1000)(r:ro.length<1000)(m:∀c∈cs,c.ds.length<1000)(t:VsOk vs)(u:JoI vs jo):∀x∈lkL W H P T d vs jo cs ro,Dq 4 x:=by
 have o:∀{a b c:D}{k:Y0},Dq k a->Dq k b->Dq k c->Dq (k+1) (.tup [a,b,c]):=λh1 h2 o=>.tup (λd hd=>by
  simp only[Qqy,Qq2,or_false]at hd
  rcases hd with rfl|rfl|rfl<;>assumption) (by show 3<1000; decide)
 intro x h;unfold lkL at h;simp only[Qqy,Qq2,or_false]at h;rcases h with rfl|rfl|rfl|rfl|rfl|rfl|rfl|rfl|rfl|rfl|rfl
 ·exact .int
 ·exact(o (k:=0) .int .int .int).up (by decide)
 ·exact .int
 ·exact .lst (qqg λ_ _=>.int) (by rw[Qqz]; exact j)
 ·exact .lst (qqg λ_ _=>.int) (by rw[Qqz]; exact g)
 ·refine .lst (qqg λv i=>?_) (by rw[Qqz]; exact j);obtain⟨⟨q,e,_,l⟩,w⟩:=t v i;unfold veD;rw[e];refine .tup (λd hd=>?_) (by show 2<1000; decide);simp only[Qqy,Qq2,or_false]at hd;rcases hd with rfl|rfl
  ·exact .tup (qeu q _) (by rw[Qqz]; exact l)
  ·exact .tup (qqg λp _=>dq_cD p) (by rw[Qqz]; lia)
 ·refine .lst (qqg λv _=>?_) (by rw[Qqz]; exact j);unfold joD
  cases s:dget jo (.int v.1) with
  |none=>exact .non
  |some y=>
   obtain⟨b,f,rfl,_⟩:=qap u s;exact(dq_cD (b,f)).up (by decide)
 ·refine .lst (qqg λc _=>?_) (by rw[Qqz]; exact g);unfold clD;refine .tup (λd hd=>?_) (by show 5<1000; decide);simp only[Qqy,Qq2,or_false]at hd;rcases hd with rfl|rfl|rfl|rfl|rfl
  ·exact .int
  ·exact .tup (λd hd=>by
    simp only[Qqy,Qq2,or_false]at hd
    rcases hd with rfl|rfl|rfl|rfl<;>exact .int) (by show 4<1000; decide)
  ·exact .int
  ·exact dq_oD _ _
  ·exact dq_oD _ _
 ·exact .lst (qqg λ_ _=>.str) (by rw[Qqz]; exact g)
 ·exact .lst (qqg λc n=>.lst (qeu c.ds _) (by rw[Qqz]; exact m c n)) (by rw[Qqz]; exact g)
 ·refine .lst (qqg λ_ _=>.int) ?_;rw[Qqz];exact Qx0 (Qzu ..) r
end
noncomputable def ownU:D->J×J×J
 |.tup [.str _,.int _,.int mx,.int my,.int _,.int _,.int _,.int n]=>(mx,my,n)
 |_=>(0,0,1)
def qow(h:DG W H P f):alt (ownU f) f=f:=by
 cases h with
 |old h=>exact h.alt _
 |_=>rfl
def DF.own(h:DF W H P f):ownU f=(0,0,1):=by
 cases h with
 |claim a=>cases a<;>rfl
 |_=>rfl
theorem DG.own(w:1<=W)(i:1<=H)(h:DG W H P f):UOk W H (ownU f):=by
 cases h with
 |old h=>rw[h.own]; exact⟨Int.le_refl 0,by show 0<W; lia,Int.le_refl 0,by show 0<H; lia,Int.le_refl 1,by show(1:J)<=1000000; decide⟩
 |dig k j x1 x2 y1 y2 g e d c b a h1 h2=>exact⟨x1,x2,y1,y2,h1,h2⟩
 |pay=>exact⟨Int.le_refl 0,by show 0<W; lia,Int.le_refl 0,by show 0<H; lia,Int.le_refl 1,by show(1:J)<=1000000; decide⟩
def DG.head(h:DG W H P f):(∃o c b x y z n:J,f=Y9 [sO "dig",Z o,Z c,Z b,Z x,Z y,Z z,Z n])\/∃(s:String) (r:L D),f=Y9 (sO s::r)/\((Str.ofString s) == "dig")=Y6/\∀u,K39.alt u f=f:=by
 cases h with
 |old h=>
  have a:=h.alt
  cases h with
  |vein=>exact .inr ⟨_,_,rfl,by decide +kernel,a⟩
  |join=>exact .inr ⟨_,_,rfl,by decide +kernel,a⟩
  |stake=>exact .inr ⟨_,_,rfl,by decide +kernel,a⟩
  |claim d=>cases d<;>exact .inr ⟨_,_,rfl,by decide +kernel,a⟩
 |dig=>exact .inl ⟨_,_,_,_,_,_,_,rfl⟩
 |pay=>exact .inr ⟨_,_,rfl,by decide +kernel,λ_=>rfl⟩
noncomputable abbrev wB:L M.S:=[.ite (.cmp .Eq (.idx (.var 4) (.lit (.int 0))) (.lit (sO "dig"))) [.set (.var 4) (.bin .Add (.sli (.var 4) B (Y (.lit (.int 7)))) (.tup [.bin .Add (.lit (.int 1)) (.call 66 [.var 0,.var 3,.lit (.int 64),.bin .Pow (.lit (.int 10)) (.lit (.int 6))])]))] [],.expr (.meth (.var 2) .append [.tup [.var 3,.var 4]])]
def wT_dig(m)(g:xs.length<100)(f:∀m st,callD fns (m+1) 66 [scr ns,Z c,Z 64,Z 1000000] st=Y (Z v,st)):
  (RL (callD fns (m+1))).ex [Y (scr ns),Y q,Y (Y2 0),Y (Z c),Y (Y9 [sO "dig",Z o,Z e,Z d,Z x,Z y,Z z,Z n])] [Y1 O xs] wB=Y (.nx [Y (scr ns),Y q,Y (Y2 0),Y (Z c),Y (Y9 [sO "dig",Z o,Z e,Z d,Z x,Z y,Z z,Z (1+v)])],[Y1 O (xs++[pD (c,Y9 [sO "dig",Z o,Z e,Z d,Z x,Z y,Z z,Z (1+v)])])]):=
 qzy 1 [66] 1 (λq=>_/\_/\q) [.c (Z v,[Y1 O xs]),.b O] ⟨f m [Y1 O xs],Z3 (p:=xs.length<lim) (by unfold lim; lia),rfl⟩
def wT_no(m)(g:xs.length<100)(h:DG W H P f)(hd:∀o d c x y z n:J,f≠Y9 [sO "dig",Z o,Z d,Z c,Z x,Z y,Z z,Z n]):
  (RL (callD fns (m+1))).ex [Y (scr ns),Y q,Y (Y2 0),Y (Z a),Y f] [Y1 O xs] wB=Y (.nx [Y (scr ns),Y q,Y (Y2 0),Y (Z a),Y f],[Y1 O (xs++[pD (a,f)])]):=by
 have b:decide (xs.length<lim)=true:=Z3 (by unfold lim; lia)
 cases h with
 |old h=>
  cases h with
  |vein=>exact qzy 1 [66] 1 (λq=>_/\q) [.b O] ⟨b,rfl⟩
  |join=>exact qzy 1 [66] 1 (λq=>_/\q) [.b O] ⟨b,rfl⟩
  |stake=>exact qzy 1 [66] 1 (λq=>_/\q) [.b O] ⟨b,rfl⟩
  |claim e=>cases e<;>exact qzy 1 [66] 1 (λq=>_/\q) [.b O] ⟨b,rfl⟩
 |dig=>exact absurd rfl (hd _ _ _ _ _ _ _)
 |pay=>exact qzy 1 [66] 1 (λq=>_/\q) [.b O] ⟨b,rfl⟩
noncomputable def hdS:D->Y5
 |.tup (.str s::_)=>s
 |_=>Str.ofString ""
def qb8(m:Y0){ns:L J}(G:ns.length<=63){W H P:J}{pl:L (J×D)}(K:pl.length<=24)(F:∀p∈pl,DG W H P p.2):∃g:J->J,(∀k,1<=g k/\g k<=1000000)/\callD fns (m+2) 84 [scr ns,.lst (pl.map pD)] []=Y (Y2 0,[Y1 O ((pl.map λp=>(p.1,alt ((ownU p.2).1,(ownU p.2).2.1,g p.1) p.2)).map pD)]):=by
 obtain⟨g,w⟩:=Classical.axiomOfChoice (r:=λ(k v:J)=>(∀m st,callD fns (m+1) 66 [scr ns,Z k,Z 64,Z 1000000] st=Y (Z v,st))/\0<=v/\v<1000000) λk=>dr0 G k 64 (by decide) (by decide) (by decide);refine⟨λk=>1+g k,λk=>by have:=(w k).2; lia,?_⟩;obtain⟨d,st',e,a,b,rfl,rfl⟩:=qwg (c:=callD fns (m+1)) (i:=1) (t:=.tup [3,4]) (body:=wB)
  (λk d st'=>∃a b,d=[Y (scr ns),Y (.lst (pl.map pD)),Y (Y2 0),a,b]/\st'=[Y1 O (((pl.take k).map λp=>(p.1,alt ((ownU p.2).1,(ownU p.2).2.1,1+g p.1) p.2)).map pD)])
  (τ:=[Y (scr ns),Y (.lst (pl.map pD)),Y (Y2 0),B,B]) (st:=[Y1 O []]) rfl ⟨B,B,rfl,rfl⟩ (λk d st' _=>rfl) (λk d st' x u h=>by
   obtain⟨a,b,rfl,rfl⟩:=h;rw[Qqw]at u;obtain⟨p,l,rfl⟩:=Qqb.mp u;have N:=(Qqj.mp l).1;have tk:pl.take (k+1)=pl.take k++[p]:=by rw[Qxk,l]; rfl
   have j:(((pl.take k).map λp=>(p.1,alt ((ownU p.2).1,(ownU p.2).2.1,1+g p.1) p.2)).map pD).length<100:=by rw[Qqz,Qqz,Qzz]; lia
   have hf:=F p (Qqf l);refine⟨_,_,?_,Y (Z p.1),Y (alt ((ownU p.2).1,(ownU p.2).2.1,1+g p.1) p.2),rfl,rfl⟩;rw[tk,Qql,Qql];obtain⟨day,f⟩:=p;rcases hf.head with⟨o,E,C,x,y,z,n,rfl⟩|⟨s,r,e,hs,I⟩
   ·exact wT_dig m j (w day).1
   ·show _=Y (Out.nx [_,_,_,_,Y (alt _ f)],[Ya.lst O (_++[pD (day,alt _ f)])]);rw[I];exact wT_no m j hf λo E C x y z n A=>by
     have h1:Str.ofString "dig" = Str.ofString s:=congrArg hdS (A.symm.trans e);rw[<- h1,beq_self_eq_true]at hs
     cases hs)
 rw[Qqz,Qzv]at e;exact qzz 1 [] 2 (λq=>_/\q) [.s (.nx [Y (scr ns),Y (.lst (pl.map pD)),Y (Y2 0),a,b],[Y1 O ((pl.map λp=>(p.1,alt ((ownU p.2).1,(ownU p.2).2.1,1+g p.1) p.2)).map pD)])] ⟨e,rfl⟩
noncomputable abbrev mB:L M.S:=[.ite (.cmp .Eq (.idx (.var 5) (.lit (.int 0))) (.lit (sO "dig"))) [.set (.var 6) (.tup [.call 66 [.var 0,.var 4,.lit (.int 62),.idx (.var 1) (.lit (.int 0))],.call 66 [.var 0,.var 4,.lit (.int 63),.idx (.var 1) (.lit (.int 1))]]),.set (.var 5) (.bin .Add (.bin .Add (.sli (.var 5) B (Y (.lit (.int 2)))) (.var 6)) (.sli (.var 5) (Y (.lit (.int 4))) B))] [],.expr (.meth (.var 3) .append [.tup [.var 4,.var 5]])]
def mT_dig(m)(g:xs.length<100)(f:∀m st,callD fns (m+1) 66 [scr ns,Z a,Z 62,Z W] st=Y (Z v,st))(e:∀m st,callD fns (m+1) 66 [scr ns,Z a,Z 63,Z H] st=Y (Z w,st)):
  (RL (callD fns (m+1))).ex [Y (scr ns),Y (szD W H P),Y q,Y (Y2 0),Y (Z a),Y (Y9 [sO "dig",Z o,Z d,Z b,Z x,Z y,Z z,Z n]),c] [Y1 O xs] mB=Y (.nx [Y (scr ns),Y (szD W H P),Y q,Y (Y2 0),Y (Z a),Y (Y9 [sO "dig",Z o,Z v,Z w,Z x,Z y,Z z,Z n]),Y (Y9 [Z v,Z w])],[Y1 O (xs++[pD (a,Y9 [sO "dig",Z o,Z v,Z w,Z x,Z y,Z z,Z n])])]):=
 qzy 1 [66] 1 (λq=>_/\_/\_/\q) [.c (Z v,[Y1 O xs]),.c (Z w,[Y1 O xs]),.b O] ⟨f m [Y1 O xs],e m [Y1 O xs],Z3 (p:=xs.length<lim) (by unfold lim; lia),rfl⟩
def mT_no(m)(i:xs.length<100)(h:DG W H P f)(hd:∀o e d x y z n:J,f≠Y9 [sO "dig",Z o,Z e,Z d,Z x,Z y,Z z,Z n]):
  (RL (callD fns (m+1))).ex [Y (scr ns),Y sz,Y q,Y (Y2 0),Y (Z a),Y f,c] [Y1 O xs] mB=Y (.nx [Y (scr ns),Y sz,Y q,Y (Y2 0),Y (Z a),Y f,c],[Y1 O (xs++[pD (a,f)])]):=by
 have b:decide (xs.length<lim)=true:=Z3 (by unfold lim; lia)
 cases h with
 |old h=>
  cases h with
  |vein=>exact qzy 1 [66] 1 (λq=>_/\q) [.b O] ⟨b,rfl⟩
  |join=>exact qzy 1 [66] 1 (λq=>_/\q) [.b O] ⟨b,rfl⟩
  |stake=>exact qzy 1 [66] 1 (λq=>_/\q) [.b O] ⟨b,rfl⟩
  |claim g=>cases g<;>exact qzy 1 [66] 1 (λq=>_/\q) [.b O] ⟨b,rfl⟩
 |dig=>exact absurd rfl (hd _ _ _ _ _ _ _)
 |pay=>exact qzy 1 [66] 1 (λq=>_/\q) [.b O] ⟨b,rfl⟩
def qdl(m)(E:ns.length<=63)(R:1<=W)(F:1<=H){pl:L (J×D)}(S:pl.length<=24)(N:∀p∈pl,DG W H P p.2):∃g d:J->J,(∀k,0<=g k/\g k<W)/\(∀k,0<=d k/\d k<H)/\callD fns (m+2) 83 [scr ns,szD W H P,.lst (pl.map pD)] []=Y (Y2 0,[Y1 O ((pl.map λp=>(p.1,alt (g p.1,d p.1,(ownU p.2).2.2) p.2)).map pD)]):=by
 obtain⟨g,A⟩:=Classical.axiomOfChoice (r:=λ(k v:J)=>(∀m st,callD fns (m+1) 66 [scr ns,Z k,Z 62,Z W] st=Y (Z v,st))/\0<=v/\v<W) λk=>dr0 E k 62 (by decide) (by decide) (by lia);obtain⟨d,w⟩:=Classical.axiomOfChoice (r:=λ(k v:J)=>(∀m st,callD fns (m+1) 66 [scr ns,Z k,Z 63,Z H] st=Y (Z v,st))/\0<=v/\v<H) λk=>dr0 E k 63 (by decide) (by decide) (by lia);refine⟨g,d,λk=>(A k).2,λk=>(w k).2,?_⟩;obtain⟨j,st',e,a,b,c,rfl,rfl⟩:=qwg (c:=callD fns (m+1)) (i:=2) (t:=.tup [4,5]) (body:=mB)
  (λk j st'=>∃a b c,j=[Y (scr ns),Y (szD W H P),Y (.lst (pl.map pD)),Y (Y2 0),a,b,c]/\st'=[Y1 O (((pl.take k).map λp=>(p.1,alt (g p.1,d p.1,(ownU p.2).2.2) p.2)).map pD)])
  (τ:=[Y (scr ns),Y (szD W H P),Y (.lst (pl.map pD)),Y (Y2 0),B,B,B]) (st:=[Y1 O []]) rfl ⟨B,B,B,rfl,rfl⟩ (λk j st' _=>rfl) (λk j st' x C h=>by
   obtain⟨a,b,c,rfl,rfl⟩:=h;rw[Qqw]at C;obtain⟨p,u,rfl⟩:=Qqb.mp C;have T:=(Qqj.mp u).1;have tk:pl.take (k+1)=pl.take k++[p]:=by rw[Qxk,u]; rfl
   have l:(((pl.take k).map λp=>(p.1,alt (g p.1,d p.1,(ownU p.2).2.2) p.2)).map pD).length<100:=by rw[Qqz,Qqz,Qzz]; lia
   have hf:=N p (Qqf u);rw[tk,Qql,Qql];obtain⟨day,f⟩:=p;rcases hf.head with⟨o,K,I,x,y,z,n,rfl⟩|⟨s,r,e,hs,Q⟩
   ·exact⟨_,_,mT_dig m l (A day).1 (w day).1,_,_,_,rfl,rfl⟩
   ·refine⟨_,_,mT_no m l hf λo K I x y z n G=>?_,Y (Z day),Y f,c,rfl,by show _=[Ya.lst O (_++[pD (day,alt (g day,d day,(ownU f).2.2) f)])]; rw[show alt (g day,d day,(ownU f).2.2) f=f from Q _]⟩;have F:Str.ofString "dig" = Str.ofString s:=congrArg hdS (G.symm.trans e);rw[<- F,beq_self_eq_true]at hs
    cases hs)
 rw[Qqz,Qzv]at e;exact qzz 1 [] 2 (λq=>_/\q) [.s (.nx [Y (scr ns),Y (szD W H P),Y (.lst (pl.map pD)),Y (Y2 0),a,b,c],[Y1 O ((pl.map λp=>(p.1,alt (g p.1,d p.1,(ownU p.2).2.2) p.2)).map pD)])] ⟨e,rfl⟩
def qia(h:∀e:En,e.1=d->e.2.2.2=t->keep e=Y6):(owE d a c t).filter keep=[]:=by
 unfold owE
 split
 ·split
  ·rfl
  ·rw[List.filter_cons_of_neg (by rw[h _ rfl rfl]; exact Qqu)]
   rfl
 ·rfl
theorem qer{pl:L (J×D)}(d:∀k,k<pl.length->∀p,pl[k]?=Y p->Br p.1 p.2 (F (k+1)).M)(a:∀k,(u k).2.2=(u' k).2.2)(c:∀k p,pl[k]?=Y p->∀o i g x y z n:J,p.2=Y9 [sO "dig",Z o,Z i,Z g,Z x,Z y,Z z,Z n]->∀e:En,e.1=p.1->e.2.2.2=(u k).2.2->keep e=Y6):∀k,k<=pl.length->(ent F u k).filter keep=(ent F u' k).filter keep
 |0,_=>rfl
 |k+1,h=>by
  unfold ent;rw[Qz2,Qz2,qer d a c k (Qx4 h)]
  congr 1
  have hp:=Qqc h;generalize pl[k]=p at hp;obtain⟨day,f⟩:=p;have b:=d k h _ hp;dsimp only at b;generalize j:(F (k+1)).M=M at b ⊢
  cases b with
  |no h=>rw[h,h]
  |pay h=>rw[h,h]
  |dig h=>
   rcases h with h|⟨ow,l,h⟩
   ·rw[h,h]
   ·rw[h,h,Qz2,Qz2,qia (c k _ hp _ _ _ _ _ _ _ rfl),qia (t:=(u' k).2.2) (by rw[<- a]; exact c k _ hp _ _ _ _ _ _ _ rfl),a]
noncomputable def scE(ol nw:J->J)(e:En):En:=(e.1,e.2.1,e.2.2.1,e.2.2.2 / ol e.1*nw e.1)
def qiy(h:t / ol d*nw d=t'):(owE d a c t).map (scE ol nw)=owE d a c t':=by
 unfold owE
 split
 ·split
  ·rfl
  ·rw[<- h]; rfl
 ·rfl
theorem qi0{pl:L (J×D)}(i:∀k,k<pl.length->∀p,pl[k]?=Y p->Br p.1 p.2 (F (k+1)).M)(d:∀k,(u k).1=(u' k).1/\(u k).2.1=(u' k).2.1)(g:∀(k:Y0) (p:J×D),pl[k]?=Y p->∀o l j x y z n:J,p.2=Y9 [sO "dig",Z o,Z l,Z j,Z x,Z y,Z z,Z n]->1<=(u k).2.2/\ol p.1=(u k).2.2/\nw p.1=(u' k).2.2)(e:∀(k:Y0) (p:J×D),pl[k]?=Y p->∀a b n:J,p.2=Y9 [sO "pay",Z a,Z b,Z n]->1<=n/\ol p.1=n/\nw p.1=n):∀k,k<=pl.length->(ent F u k).map (scE ol nw)=ent F u' k
 |0,_=>rfl
 |k+1,h=>by
  unfold ent;rw[Qql,qi0 i d g e k (Qx4 h)]
  congr 1
  have hp:=Qqc h;generalize pl[k]=p at hp;obtain⟨day,f⟩:=p;have b:=i k h _ hp;dsimp only at b;generalize m:(F (k+1)).M=M at b ⊢
  cases b with
  |no h=>rw[h,h]; rfl
  |pay h=>
   obtain⟨h1,h2,c⟩:=e k _ hp _ _ _ rfl;rw[h,h];show [scE ol nw _]=_;unfold scE;dsimp only at h2 c ⊢;rw[h2,c,Int.mul_ediv_cancel _ (by lia)]
  |dig h=>
   rcases h with h|⟨ow,q,h⟩
   ·rw[h,h]; rfl
   ·obtain⟨h1,h2,c⟩:=g k _ hp _ _ _ _ _ _ _ rfl;dsimp only at h2 c;rw[h,h,Qql,(d k).1,(d k).2,qiy (t':=10*(u' k).2.2) (by rw[h2,c,Int.mul_ediv_cancel _ (by lia)]),qiy (t':=(u' k).2.2) (by rw[h2,c,Int.ediv_self (by lia),Int.one_mul])]
noncomputable abbrev isDg(f:D):Bool:=hdS f==Str.ofString "dig"
noncomputable def oreW(pl:L (J×D)):L (J×J):=pl.filterMap λp=>if isDg p.2 then Y (p.1,10*(ownU p.2).2.2) else B
noncomputable def qxu(pl:L (J×D))(e:En):Bool:=decide ((e.1,e.2.2.2)∈oreW pl)
noncomputable def gOr:D->Y3 D
 |.tup [.int d,f]=>if isDg f then Y (.tup [.int d,.int (10*(ownU f).2.2)]) else B
 |_=>B
noncomputable def gKe(pl:L (J×D)):D->Y3 D
 |.tup [.int a,.int b,.int c,.int n]=>if qxu pl (a,b,c,n) then Y (.tup [.int a,.int b,.int c,.int n]) else B
 |_=>B
def in_cD(S)(ps:L (J×J))(a b):inD S (Y9 [Z a,Z b]) (Yc (ps.map cD))=Y (decide ((a,b)∈ps)):=by
 show(if flat 9 (Y9 [Z a,Z b])&&flats 9 (ps.map cD) then Y ((ps.map cD).any λy=>eqT y (Y9 [Z a,Z b])) else B)=_;rw[show D.tup [Z a,Z b]=cD (a,b) from rfl,qis,any_c]
 rfl
section
variable {W H P:J}{pl:L (J×D)}(hl:pl.length<=24)(hp:∀p∈pl,DG W H P p.2)
include hp in
theorem ore1(m:Y0){τ:Sl}(g:τ[0]?=Y (Y (.lst (pl.map pD))))(C:pl.length<=24):stepEv (RL (callD fns m)) τ [] (.comp (.tup [0,1]) (.var 0) (Y (.cmp .Eq (.idx (.var 1) (.lit (Z 0))) (.lit (sO "dig")))) (.tup [.var 0,.bin .Mult (.lit (Z 10)) (.idx (.var 1) (.lit (Z 7)))]) [B,B])=Y (Y2 0,[Y1 O ((oreW pl).map cD)]):=by
 have h:=qzt (c:=callD fns m) (τ:=τ) (st:=[]) (t:=.tup [0,1]) (it:=.var 0) (test:=Y (.cmp .Eq (.idx (.var 1) (.lit (Z 0))) (.lit (sO "dig")))) (elt:=.tup [.var 0,.bin .Mult (.lit (Z 10)) (.idx (.var 1) (.lit (Z 7)))]) (sr:=[B,B]) (s:=.lst (.lst (pl.map pD))) (ds:=pl.map pD) gOr (λτ=>∃a b,τ=[a,b])
  (by
   have e:(RL (callD fns m)).ev τ [] (.var 0)=Y (.lst (pl.map pD),[]):=qqm _ _ _ _ _ (by show(match τ[0]? with|some (Y d)=>Y (d,_)|_=>B)=_; rw[g]);show((RL (callD fns m)).ev _ _ (.var 0)).bind _=_;rw[e]
   rfl) (λi=>rfl) rfl (by rw[Qqz]; unfold lim; lia) ⟨B,B,rfl⟩ λτ x l g=>by
  obtain⟨a,b,rfl⟩:=g;obtain⟨⟨day,f⟩,j,rfl⟩:=Qqv.mp l;refine⟨[Y (Z day),Y f],turn_if (b:=isDg f) (x:=.tup [Z day,Z (10*(ownU f).2.2)]) rfl ?_ ?_,_,_,rfl⟩
  ·cases hp _ j with
   |old h=>
    cases h with
    |claim u=>cases u<;>exact qzh (k:=m) 0 [] 0 (λq=>q) [] rfl
    |_=>exact qzh (k:=m) 0 [] 0 (λq=>q) [] rfl
   |_=>exact qzh (k:=m) 0 [] 0 (λq=>q) [] rfl
  ·intro v;rcases (hp _ j).head with⟨o,A,w,x,y,z,n,rfl⟩|⟨s,r,rfl,hs,E⟩
   ·exact qzc (k:=m) 0 [] 0 (λq=>_/\q) [.b O] ⟨(show mulOk 10 n=O from rfl),rfl⟩
   ·exact absurd (hs.symm.trans v) Qqu
 have e:(pl.map pD).filterMap gOr=(oreW pl).map cD:=by
  unfold oreW;rw[Qzg,List.map_filterMap]
  congr 1
  funext p
  show(if isDg p.2 then _ else _)=Option.map cD (if isDg p.2 then _ else _);cases isDg p.2<;>rfl
 rw[e]at h;exact h
include hl hp in
theorem qib(m:Y0){es:L En}(r:es.length<1000):callD fns (m+1) 86 [.lst (pl.map pD),.lst (es.map eD)] []=Y (Y2 0,[Y1 O ((es.filter (qxu pl)).map eD)]):=by
 have c1:=ore1 hp m (τ:=[Y (.lst (pl.map pD)),Y (.lst (es.map eD)),B]) rfl hl;have j:=qzw (st:=[]) (ds:=(oreW pl).map cD) (qzb λ_ _=>rfl);have h:=qzt (c:=callD fns m) (τ:=[Y (.lst (pl.map pD)),Y (.lst (es.map eD)),Y (.lst ((oreW pl).map cD))]) (st:=[]) (t:=.var 0) (it:=.var 1) (test:=Y (.cmp .In (.tup [.idx (.var 0) (.lit (Z 0)),.idx (.var 0) (.lit (Z 3))]) (.var 1))) (elt:=.var 0) (sr:=[B,Y 2]) (s:=.lst (.lst (es.map eD))) (ds:=es.map eD) (gKe pl) (λτ=>∃a,τ=[a,Y (.lst ((oreW pl).map cD))])
  (by
   have e:(RL (callD fns m)).ev [Y (.lst (pl.map pD)),Y (.lst (es.map eD)),Y (.lst ((oreW pl).map cD))] [] (.var 1)=Y (.lst (es.map eD),[]):=qqm _ _ _ _ _ rfl;show((RL (callD fns m)).ev _ _ (.var 1)).bind _=_;rw[e]
   rfl) (λi=>rfl) rfl (by rw[Qqz]; unfold lim; lia) ⟨B,rfl⟩ λτ x g f=>by
  obtain⟨a,rfl⟩:=f;obtain⟨⟨d,o,w,n⟩,l,rfl⟩:=Qqv.mp g;exact⟨[Y (eD (d,o,w,n)),Y (.lst ((oreW pl).map cD))],turn_if (b:=qxu pl (d,o,w,n)) (x:=eD (d,o,w,n)) rfl (qzh (k:=m) 0 [] 0 (λq=>_/\q) [.b (qxu pl (d,o,w,n))] ⟨in_cD [] (oreW pl) d n,rfl⟩) λ_=>qqm _ _ _ _ _ rfl,_,rfl⟩
 have e:(es.map eD).filterMap (gKe pl)=(es.filter (qxu pl)).map eD:=by
  rw[Qzg,<- List.filterMap_eq_filter,List.map_filterMap]
  congr 1
  funext e
  show(if qxu pl e then Y (eD e) else B)=Option.map eD (if qxu pl e then Y e else B);cases qxu pl e<;>rfl
 rw[e]at h;exact qzz 0 [] 1 (λq=>_/\_/\_/\q) [.c (Y2 0,[Y1 O ((oreW pl).map cD)]),.l ((oreW pl).map cD),.c (Y2 0,[Y1 O ((es.filter (qxu pl)).map eD)])] ⟨c1,j,h,rfl⟩
end
noncomputable def qjt:D->D
 |.tup ds=>(atI ds (-1)).getD .non
 |_=>.non
noncomputable abbrev lsD(p:J×D):D:=.tup [.int p.1,qjt p.2]
def qnj(h:DG W H P f)(m)(a)(st):(RL (callD fns m)).ev [Y (Z a),Y f] st (.tup [.var 0,.idx (.var 1) (.neg (.lit (Z 1)))])=Y (lsD (a,f),st):=by
 cases h with
 |old h=>
  cases h with
  |claim b=>cases b<;>exact qzc (k:=m) 0 [] 0 (λq=>q) [] rfl
  |_=>exact qzc (k:=m) 0 [] 0 (λq=>q) [] rfl
 |_=>exact qzc (k:=m) 0 [] 0 (λq=>q) [] rfl
noncomputable def gLs:D->Y3 D
 |.tup [.int d,f]=>Y (.tup [.int d,qjt f])
 |_=>B
noncomputable def gFs:D->Y3 D
 |.tup [d,f]=>Y d
 |_=>B
def src_l(a:τ[i]?=Y (Y (.lst ds))):src (RL (callD fns m)) τ st (.var i)=Y (.lst (.lst ds),st):=by
 have e:(RL (callD fns m)).ev τ st (.var i)=Y (.lst ds,st):=qqm _ _ _ _ _ (by show(match τ[i]? with|some (Y d)=>Y (d,_)|_=>B)=_; rw[a]);show((RL (callD fns m)).ev _ _ (.var i)).bind _=_;rw[e]
 rfl
def qan{pl:L (J×D)}(l:pl.length<=24)(k:∀p∈pl,DG W H P p.2)(m)(d:τ[i]?=Y (Y (.lst (pl.map pD)))):stepEv (RL (callD fns m)) τ st (.comp (.tup [0,1]) (.var i) B (.tup [.var 0,.idx (.var 1) (.neg (.lit (Z 1)))]) [B,B])=Y (Y2 st.length,st++[Y1 O (pl.map lsD)]):=by
 have h:=qzt (c:=callD fns m) (τ:=τ) (st:=st) (t:=.tup [0,1]) (it:=.var i) (test:=B) (elt:=.tup [.var 0,.idx (.var 1) (.neg (.lit (Z 1)))]) (sr:=[B,B]) (s:=.lst (.lst (pl.map pD))) (ds:=pl.map pD) gLs (λτ=>∃a b,τ=[a,b])
  (src_l d) (λi=>rfl) rfl (by rw[Qqz]; unfold lim; lia) ⟨B,B,rfl⟩ λτ x g d=>by
  obtain⟨a,b,rfl⟩:=d;obtain⟨⟨day,f⟩,j,rfl⟩:=Qqv.mp g;exact⟨[Y (Z day),Y f],qxr rfl (qnj (k _ j) m day st),_,_,rfl⟩
 have e:(pl.map pD).filterMap gLs=pl.map lsD:=by
  rw[Qzg];exact congrFun Qxv _
 rw[e]at h;exact h
def qn7{pl:L (J×D)}(k:pl.length<=24)(m)(d:τ[i]?=Y (Y (.lst (pl.map lsD)))):stepEv (RL (callD fns m)) τ st (.comp (.tup [0,1]) (.var i) B (.var 0) [B,B])=Y (Y2 st.length,st++[Y1 O (pl.map λp=>Z p.1)]):=by
 have h:=qzt (c:=callD fns m) (τ:=τ) (st:=st) (t:=.tup [0,1]) (it:=.var i) (test:=B) (elt:=.var 0) (sr:=[B,B]) (s:=.lst (.lst (pl.map lsD))) (ds:=pl.map lsD) gFs (λτ=>∃a b,τ=[a,b])
  (src_l d) (λi=>rfl) rfl (by rw[Qqz]; unfold lim; lia) ⟨B,B,rfl⟩ λτ x g d=>by
  obtain⟨a,b,rfl⟩:=d;obtain⟨⟨day,f⟩,j,rfl⟩:=Qqv.mp g;exact⟨[Y (Z day),Y (qjt f)],qxr rfl (qqm _ _ _ _ _ rfl),_,_,rfl⟩
 have e:(pl.map lsD).filterMap gFs=pl.map λp=>Z p.1:=by
  rw[Qzg];exact congrFun Qxv _
 rw[e]at h;exact h
def idx_ok{pl:L (J×D)}(b:(pl.map (·.1)).Pairwise (· < ·))(a:pl[k]?=Y p):(pl.map λp=>D.int p.1).findIdx? (λy=>eqT y (Z p.1))=Y k:=by
 induction pl generalizing k with
 |nil=>cases a
 |cons q r c=>
  rw[Qqm,Qxj]at b;rw[Qqm,Qjn];show(if (q.1==p.1)=O then _ else _)=_
  cases k with
  |zero=>cases a; rw[Z6 (beq_self_eq_true _)]
  |succ k=>
   have a:r[k]?=Y p:=a;have:=b.1 p.1 (Qqv.mpr ⟨p,Qqf a,rfl⟩);rw[Z5 (by simp; lia),c b.2 a]
   rfl
def DG.nlast(h:DG W H P f):M.noLoc (qjt f)=true:=by
 cases h with
 |old h=>
  cases h with
  |vein=>exact qjo _
  |claim a=>cases a<;>rfl
  |_=>rfl
 |_=>rfl
def nl_ls{pl:L (J×D)}(a:∀p∈pl,DG W H P p.2):noLocs (pl.map lsD)=true:=qqo λp h=>by
 show(O&&(noLoc (qjt p.2)&&O))=O;rw[(a p h).nlast]
 rfl
noncomputable abbrev scB:L M.S:=[.set (.var 7) (.meth (.gc (.comp (.tup [0,1]) (.var 3) B (.var 0) [B,B])) .index [.idx (.var 6) (.lit (.int 0))]),.expr (.meth (.var 5) .append [.bin .Add (.sli (.var 6) B (Y (.lit (.int 3)))) (.tup [.bin .Mult (.bin .FloorDiv (.idx (.var 6) (.lit (.int 3))) (.idx (.idx (.var 3) (.var 7)) (.lit (.int 1)))) (.idx (.idx (.var 4) (.var 7)) (.lit (.int 1)))])])]
def ix_l{α:Type}{f:α->D}(S){l:L α}{k:Y0}{a:α}(h:l[k]?=Y a):idxD S (Yc (l.map f)) (Z (k:J))=Y (f a):=by
 have b:=(Qqj.mp h).1;show atI (l.map f) (k:J)=_;unfold atI ixN;rw[Z6 (by lia),Z6 (by rw[Qqz]; lia)];show(l.map f)[((k:J)).toNat]?=_;rw[Int.toNat_natCast,Qqw,h]
 rfl
def flat_d(pl:L (J×D)):flats 9 (pl.map λp=>D.int p.1)=true:=by
 unfold flats;rw[List.all_map];exact Qzj.mpr λ_ _=>rfl
section
variable {pl pl':L (J×D)}(hl:pl.length<=24)(hs:(pl.map (·.1)).Pairwise (· < ·))
noncomputable abbrev scT(pl pl':L (J×D))(es:L En)(a b:Y3 D):Sl:=[Y (.lst (pl.map pD)),Y (.lst (pl'.map pD)),Y (.lst (es.map eD)),Y (.lst (pl.map lsD)),Y (.lst (pl'.map lsD)),Y (.loc 0),a,b]
include hl hs in
theorem qlu(m:Y0){es:L En}{e:En}{b:Y3 D}{xs:L D}(z:xs.length<1000){k:Y0}{p c:J×D}{n a:J}(g:pl[k]?=Y p)(f:pl'[k]?=Y c)(s:p.1=e.1)(r:qjt p.2=Z n)(d:qjt c.2=Z a)(n1:1<=n)(n2:n<=1000000)(x:1<=a)(w:a<=1000000):
  (RL (callD fns m)).ex (scT pl pl' es (Y (eD e)) b) [Y1 O xs] scB=Y (.nx (scT pl pl' es (Y (eD e)) (Y (Z k))),[Y1 O (xs++[eD (e.1,e.2.1,e.2.2.1,e.2.2.2 / n*a)])]):=by
 have c1:=qn7 hl m (τ:=scT pl pl' es (Y (eD e)) b) (st:=[Y1 O xs]) (i:=3) rfl;have t:=qzw (st:=[Y1 O xs]) (ds:=pl.map λp=>D.int p.1) (qqo λ_ _=>rfl);have u:(if flat 9 (Z e.1)&&flats 9 (pl.map λp=>D.int p.1) then((pl.map λp=>D.int p.1).findIdx? λy=>eqT y (Z e.1)).map λ(j:Y0)=>(D.int (j:J),([Y1 O xs]:Y4)) else B)=Y (Z (k:J),[Y1 O xs]):=by
  rw[flat_d,<- s,idx_ok hs g]
  rfl
 have o:idxD [Y1 O xs] (Yc (pl.map lsD)) (Z (k:J))=Y (Y9 [Z p.1,Z n]):=by rw[ix_l _ g,lsD,r]
 have l:idxD [Y1 O xs] (Yc (pl'.map lsD)) (Z (k:J))=Y (Y9 [Z c.1,Z a]):=by rw[ix_l _ f,lsD,d]
 have v:binop [Y1 O xs] .FloorDiv (Z e.2.2.2) (Z n)=Y (Z (e.2.2.2 / n),[Y1 O xs]):=bDi _ _ (by lia) (by lia);have h:mulOk (e.2.2.2 / n) a=true:=qqw (by lia) (by lia);exact qzy (k:=m) 1 [] 0 (λq=>_/\_/\_/\_/\_/\_/\_/\_/\q) [.c (Y2 1,[Y1 O xs]++[Y1 O (pl.map λp=>D.int p.1)]),.l (pl.map λp=>D.int p.1),.c (Z (k:J),[Y1 O xs]),.n,.i (Y9 [Z p.1,Z n]),.c (Z (e.2.2.2 / n),[Y1 O xs]),.i (Y9 [Z c.1,Z a]),.b O,.b O] ⟨c1,t,u,o,v,l,h,Z3 (p:=xs.length<lim) (by unfold lim; lia),rfl⟩
include hl hs in
theorem qc1{W H P:J}(r:∀p∈pl,DG W H P p.2)(l:pl'.length<=24)(f:∀p∈pl',DG W H P p.2)(m:Y0){es:L En}(F:es.length<1000){ol nw:J->J}
  (s:∀e∈es,∃(k:Y0) (p g:J×D),pl[k]?=Y p/\pl'[k]?=Y g/\p.1=e.1/\qjt p.2=Z (ol e.1)/\qjt g.2=Z (nw e.1)/\1<=ol e.1/\ol e.1<=1000000/\1<=nw e.1/\nw e.1<=1000000) :
  callD fns (m+1) 87 [.lst (pl.map pD),.lst (pl'.map pD),.lst (es.map eD)] []=Y (Y2 0,[Y1 O ((es.map (scE ol nw)).map eD)]):=by
 have c1:=qan hl r m (τ:=[Y (.lst (pl.map pD)),Y (.lst (pl'.map pD)),Y (.lst (es.map eD)),B,B,B,B,B]) (st:=[]) (i:=0) rfl;have c2:=qan l f m (τ:=[Y (.lst (pl.map pD)),Y (.lst (pl'.map pD)),Y (.lst (es.map eD)),Y (.lst (pl.map lsD)),B,B,B,B]) (st:=[]) (i:=1) rfl;obtain⟨d,st',e,a,b,rfl,rfl⟩:=qwg (c:=callD fns m) (i:=2) (t:=.var 6) (body:=scB) (ds:=es.map eD)
  (λk d st'=>∃a b,d=scT pl pl' es a b/\st'=[Y1 O (((es.take k).map (scE ol nw)).map eD)])
  (τ:=scT pl pl' es B B) (st:=[Y1 O []]) rfl ⟨B,B,rfl,rfl⟩ (λk d st' _=>rfl) (λk d st' x o h=>by
   obtain⟨a,b,rfl,rfl⟩:=h;rw[Qqw]at o;obtain⟨e,n,rfl⟩:=Qqb.mp o;have E:=(Qqj.mp n).1;have tk:es.take (k+1)=es.take k++[e]:=by rw[Qxk,n]; rfl
   obtain⟨j,p,g,h1,h2,C,A,z,y,w,v,u⟩:=s e (Qqf n);refine⟨_,_,qlu hl hs m (by rw[Qqz,Qqz,Qzz]; lia) h1 h2 C A z y w v u,_,_,rfl,?_⟩;rw[tk,Qql,Qql]
   rfl)
 rw[Qqz,Qzv]at e;exact qzz 1 [] 1 (λq=>_/\_/\_/\_/\_/\q) [.c (Y2 0,[Y1 O (pl.map lsD)]),.l (pl.map lsD),.c (Y2 0,[Y1 O (pl'.map lsD)]),.l (pl'.map lsD),.s (.nx (scT pl pl' es a b),[Y1 O ((es.map (scE ol nw)).map eD)])] ⟨c1,qzw (st:=[]) (nl_ls r),c2,qzw (st:=[]) (nl_ls f),e,rfl⟩
end
def qmm(h:e∈owE d a c t):e.1=d:=by
 unfold owE at h
 split at h
 ·split at h
  ·cases h
  ·cases Qqa.mp h; rfl
 ·cases h
theorem qes{pl:L (J×D)}(d:∀k,k<pl.length->∀p,pl[k]?=Y p->Br p.1 p.2 (F (k+1)).M):∀k,k<=pl.length->∀e∈ent F u k,∃(j:Y0) (p:J×D),pl[j]?=Y p/\p.1=e.1/\((∃o i g x y z n:J,p.2=Y9 [sO "dig",Z o,Z i,Z g,Z x,Z y,Z z,Z n])\/∃a b n:J,p.2=Y9 [sO "pay",Z a,Z b,Z n])
 |0,_,e,c=>by cases c
 |k+1,h,e,c=>by
  unfold ent at c;rcases Qqn.mp c with c|c
  ·exact qes d k (Qx4 h) e c
  ·have hp:=Qqc h;generalize pl[k]=p at hp;obtain⟨day,f⟩:=p;have b:=d k h _ hp;dsimp only at b;generalize l:(F (k+1)).M=M at b c
   cases b with
   |no h=>rw[h]at c; cases c
   |pay h=>rw[h]at c; cases Qqa.mp c; exact⟨k,_,hp,rfl,.inr ⟨_,_,_,rfl⟩⟩
   |dig h=>
    rcases h with h|⟨ow,m,h⟩
    ·rw[h]at c; cases c
    ·rw[h]at c;refine⟨k,_,hp,?_,.inl ⟨_,_,_,_,_,_,_,rfl⟩⟩;rcases Qqn.mp c with c|c<;>exact(qmm c).symm
noncomputable def lN(f:D):Int:=match qjt f with
 |.int n=>n
 |_=>1
noncomputable def qg8(l:L (J×D))(d:J):Int:=((l.find? λp=>p.1==d).map λp=>lN p.2).getD 1
def qe1{l:L (J×D)}(b:(l.map (·.1)).Pairwise (· < ·))(d:p∈l)(c:q∈l)(e:q.1=p.1):q=p:=by
 induction l with
 |nil=>cases d
 |cons a r f=>
  rw[Qqm,Qxj]at b;have lt:∀x∈r,a.1<x.1:=λx g=>b.1 _ (Qqv.mpr ⟨x,g,rfl⟩);rcases Qqy.mp d with rfl|h1
  ·rcases Qqy.mp c with rfl|h2
   ·rfl
   ·have:=lt _ h2; lia
  ·rcases Qqy.mp c with rfl|h2
   ·have:=lt _ h1; lia
   ·exact f b.2 h1 h2
def qqu(b:(l.map (·.1)).Pairwise (· < ·))(a:p∈l):qg8 l p.1=lN p.2:=by
 unfold qg8
 cases hf:l.find? (λq=>q.1==p.1) with
 |none=>exact absurd (beq_self_eq_true p.1) (Qjm.mp hf p a)
 |some q=>
  have:=qe1 b a (Qzt hf) (by simpa using Qxs hf);rw[this]
  rfl
def qny(i:∀p∈pl,DG W H P p.2)(w:1<=W)(d:1<=H)(f:(pl.map (·.1)).Pairwise (· < ·))(h:p∈pl)(k:e.1=p.1)(j:e.2.2.2=(ownU p.2).2.2):qxu pl e=false:=by
 unfold qxu;refine Z4 λb=>?_;unfold oreW at b;obtain⟨q,g,a⟩:=Qxq.mp b
 split at a
 ·have c:=Option.some.inj a;have n:q.1=e.1:=congrArg (·.1) c;have m:10*(ownU q.2).2.2=e.2.2.2:=congrArg (·.2) c;have l:=qe1 f h g (n.trans k);rw[l,j]at m;have:=((i p h).own w d).n1
  lia
 ·cases a
def dq_e(es:L En):∀d∈es.map eD,Dq 1 d:=qqg λe _=>.tup (λd hd=>by
 simp only[Qqy,Qq2,or_false]at hd
 rcases hd with rfl|rfl|rfl|rfl<;>exact .int) (by show 4<1000; decide)
noncomputable def uOf(pl:L (J×D))(g:J×D->J×J×J)(k:Y0):J×J×Int:=(pl[k]?.map g).getD (0,0,1)
def qy0(h:pl[k]?=Y p):uOf pl g k=g p:=by unfold uOf; rw[h]; rfl
def qcx(w:1<=W)(b:1<=H)(h:∀p∈pl,UOk W H (g p))(k):UOk W H (uOf pl g k):=by
 unfold uOf
 cases a:pl[k]? with
 |none=>exact⟨Int.le_refl 0,by show 0<W; lia,Int.le_refl 0,by show 0<H; lia,Int.le_refl 1,by show(1:J)<=1000000; decide⟩
 |some p=>exact h p (Qqf a)
noncomputable abbrev alP(g:J×D->J×J×J)(p:J×D):J×D:=(p.1,alt (g p) p.2)
def qw6(pl)(g:J×D->J×J×J)(k):(pl.map (alP g))[k]?=pl[k]?.map λp=>(p.1,alt (uOf pl g k) p.2):=by
 rw[Qqw]
 cases a:pl[k]? with
 |none=>rfl
 |some p=>show Y (p.1,alt (g p) p.2)=Y (p.1,alt (uOf pl g k) p.2); rw[qy0 a]
noncomputable def payOk:D->Prop
 |.tup [.str _,.int _,.int _,.int n]=>1<=n/\n<=1000000
 |_=>True
theorem DG.payOk(c:P<=12)(h:DG W H P f):K39.payOk f:=by
 cases h with
 |old h=>
  cases h with
  |join h1 h2 g e b d=>exact⟨b,by lia⟩
  |claim a=>cases a<;>exact trivial
  |_=>exact trivial
 |pay j i b1 b2 ne h1 h2=>exact⟨h1,h2⟩
 |dig=>exact trivial
def qd0(w:1<=W)(e:1<=H)(g:P<=12)(h:DG W H P f)(i:(∃o d c x y z n:J,f=Y9 [sO "dig",Z o,Z d,Z c,Z x,Z y,Z z,Z n])\/∃a b n:J,f=Y9 [sO "pay",Z a,Z b,Z n]):qjt f=Z (lN f)/\1<=lN f/\lN f<=1000000:=by
 rcases i with⟨o,d,c,x,y,z,n,rfl⟩|⟨a,b,n,rfl⟩
 ·have:=h.own w e;exact⟨rfl,this.n1,this.n2⟩
 ·exact⟨rfl,h.payOk g⟩
def qh0(u)(e:(∃o d c x y z n:J,f=Y9 [sO "dig",Z o,Z d,Z c,Z x,Z y,Z z,Z n])\/∃a b n:J,f=Y9 [sO "pay",Z a,Z b,Z n]):(∃o d c x y z n:J,alt u f=Y9 [sO "dig",Z o,Z d,Z c,Z x,Z y,Z z,Z n])\/∃a b n:J,alt u f=Y9 [sO "pay",Z a,Z b,Z n]:=by
 rcases e with⟨o,d,c,x,y,z,n,rfl⟩|⟨a,b,n,rfl⟩
 ·exact .inl ⟨_,_,_,_,_,_,_,rfl⟩
 ·exact .inr ⟨_,_,_,rfl⟩
noncomputable abbrev oS(p:J×D):J×J×Int:=ownU p.2
noncomputable abbrev oM(gx gy:J->J)(p:J×D):J×J×Int:=(gx p.1,gy p.1,(ownU p.2).2.2)
noncomputable abbrev oW(g:J->J)(p:J×D):J×J×Int:=((ownU p.2).1,(ownU p.2).2.1,g p.1)
def qh1(pl:L (J×D))(g:J×D->J×J×J):(pl.map (alP g)).map (·.1)=pl.map (·.1):=by rw[Qq6]; rfl
def qoy{pl:L (J×D)}(a:∀p∈pl,DG W H P p.2):pl.map (alP oS)=pl:=by
 refine(Qzr λp h=>?_).trans (Qx6 pl);show(p.1,alt (ownU p.2) p.2)=p;rw[qow (a p h)]
def all_dq{T:J}{S:Stt}(h:S.ok n)(i:n<=24){ws:L String}(g:ws.length<=24):Dq 5 (.lst (ws.map sO++lkL W H P T S.d S.vs S.jo S.cs S.ro)):=by
 have ⟨I,R,cl,rl,dl,vl,vn,vd,V,jl,Jq,f⟩:=h;have a:=lk_dq (W:=W) (H:=H) (P:=P) (T:=T) (d:=S.d) (ro:=S.ro) (cs:=S.cs) (vs:=S.vs) (jo:=S.jo) (by lia) (by lia) (by lia) (λc e=>by have:=dl c e; lia) V Jq;exact .lst (λx b=>(Qqn.mp b).elim (qqg (λ_ _=>.str) x) (a x)) (by rw[Qqh,Qqz]; show ws.length+11<1000; lia)
section
variable {W H P:J}(w1:1<=W)(h1:1<=H)(p1:P<=12){pl:L (J×D)}(hl:pl.length<=24)(hp:∀p∈pl,DG W H P p.2)(hpw:(pl.map (·.1)).Pairwise (· < ·)){F:Y0->Stt}(hB:∀k,k<pl.length->∀p,pl[k]?=Y p->Br p.1 p.2 (F (k+1)).M)
include w1 h1 hp hpw hB in
theorem ore_eq(f d:J->J):(ent F (uOf pl (oM f d)) pl.length).filter (qxu pl)=(ent F (uOf pl oS) pl.length).filter (qxu pl):=
 qer hB (λk=>by unfold uOf; cases pl[k]?<;>rfl) (λk p a o h g x y z n _ e c b=>qny hp w1 h1 hpw (Qqf a) c (by rw[b,qy0 a])) pl.length (Qqk _)
variable {g:J->J}(hpW:∀p∈pl.map (alP (oW g)),DG W H P p.2)
include w1 h1 p1 hl hp hpw hB hpW in
theorem sc_eq(m:Y0):callD fns (m+1) 87 [Yc (pl.map pD),Yc ((pl.map (alP (oW g))).map pD),Yc ((ent F (uOf pl oS) pl.length).map eD)] []=Y (Y2 0,[Y1 O ((ent F (uOf pl (oW g)) pl.length).map eD)]):=by
 have v:((pl.map (alP (oW g))).map (·.1)).Pairwise (· < ·):=by rw[qh1]; exact hpw
 have E:(ent F (uOf pl oS) pl.length).length<=2*pl.length:=qvd hB _ (Qqk _)
 have q:=qi0 (u:=uOf pl oS) (u':=uOf pl (oW g)) (ol:=qg8 pl) (nw:=qg8 (pl.map (alP (oW g)))) hB (λk=>by unfold uOf; cases pl[k]?<;>exact⟨rfl,rfl⟩) (λk p f o C A x y z n hf=>by
   have c:=Qqf f;rw[qy0 f,qy0 f,qqu hpw c];refine⟨((hp p c).own w1 h1).n1,by show lN p.2=(ownU p.2).2.2; rw[hf]; rfl,(qqu v (p:=alP (oW g) p) (Qqv.mpr ⟨p,c,rfl⟩)).trans ?_⟩;show lN (alt (oW g p) p.2)=g p.1;rw[hf]; rfl) (λk p f a b n hf=>by
   have c:=Qqf f;have h:=(hp p c).payOk p1;rw[hf]at h;refine⟨h.1,by rw[qqu hpw c,hf]; rfl,(qqu v (p:=alP (oW g) p) (Qqv.mpr ⟨p,c,rfl⟩)).trans ?_⟩;show lN (alt (oW g p) p.2)=n
   rw[hf]; rfl) pl.length (Qqk _)
 rw[<- q];exact qc1 hl hpw hp (by rw[Qqz]; exact hl) hpW m (by lia) λe w=>by
  obtain⟨j,p,r,h,hf⟩:=qes hB pl.length (Qqk _) e w;have c:=Qqf r;have d:alP (oW g) p∈pl.map (alP (oW g)):=Qqv.mpr ⟨p,c,rfl⟩;have l:=qd0 w1 h1 p1 (hp p c) hf;have i:=qd0 w1 h1 p1 (hpW _ d) (qh0 _ hf);have t:=qqu hpw c;have s:=qqu v d;rw[<- h];exact⟨j,p,alP (oW g) p,r,by rw[Qqw,r]; rfl,rfl,by rw[t]; exact l.1,by rw[show p.1=(alP (oW g) p).1 from rfl,s]; exact i.1,by rw[t]; exact l.2.1,by rw[t]; exact l.2.2,by rw[show p.1=(alP (oW g) p).1 from rfl,s]; exact i.2.1,by rw[show p.1=(alP (oW g) p).1 from rfl,s]; exact i.2.2⟩
end
def qnx(m){T:J}(hsz:callD fns (m+11) 68 [scr ns,Z 0] []=Y (sz,[]))(j:callD fns (m+11) 69 [scr ns,Z 0] []=Y (Z T,[]))(w:callD fns (m+11) 66 [scr ns,Z 0,Z 20,Z 21] []=Y (Z v,[]))(k:callD fns (m+11) 82 [scr ns,Z 1,sz,Z (4+v)] []=Y (Y2 0,[Y1 O pl]))(C:noLocs pl=O)(I:callD fns (m+11) 85 [sz,Z T,Yc pl] []=Y (Y2 n1,h))(b1:gcD [] (Y2 n1,h)=(Yc [A,Yc e],[]))(z:callD fns (m+11) 83 [scr ns,sz,Yc pl] []=Y (Y2 0,[Y1 O d]))(E:noLocs d=O)(H:callD fns (m+11) 85 [sz,Z T,Yc d] []=Y (Y2 n2,g))(b2:gcD [] (Y2 n2,g)=(Yc [A,Yc l],[]))(y:callD fns (m+11) 84 [scr ns,Yc pl] []=Y (Y2 0,[Y1 O c]))(gW:noLocs c=O)(G:callD fns (m+11) 85 [sz,Z T,Yc c] []=Y (Y2 i,f))(b3:gcD [] (Y2 i,f)=(Yc [A,Yc b],[]))(n:callD fns (m+11) 67 [A,A] []=Y (.bl O,[]))(t:callD fns (m+11) 86 [Yc pl,Yc l] []=Y (Y2 0,[Y1 O a]))(u:callD fns (m+11) 86 [Yc pl,Yc e] []=Y (Y2 0,[Y1 O a]))(o:noLocs a=O)(p:callD fns (m+11) 67 [Yc a,Yc a] []=Y (.bl O,[]))(x:callD fns (m+11) 87 [Yc pl,Yc c,Yc e] []=Y (Y2 0,[Y1 O b]))(F:noLocs b=O)(s:callD fns (m+11) 67 [Yc b,Yc b] []=Y (.bl O,[])):
  callD fns (m+12) 88 [scr ns] []=Y (.bl O,[]):=
 qzz 0 [68,69,66,82,85,83,84,67,86,87] 12 (λq=>_/\_/\_/\_/\_/\_/\_/\_/\_/\_/\_/\_/\_/\_/\_/\_/\_/\_/\_/\_/\_/\_/\_/\_/\_/\_/\_/\_/\q)
  [.c (sz,[]),.c (Z T,[]),.c (Z v,[]),.c (Y2 0,[Y1 O pl]),.l pl,.c (Y2 n1,h),.l [A,Yc e],
   .c (Y2 0,[Y1 O d]),.l d,.c (Y2 n2,g),.l [A,Yc l],
   .c (Y2 0,[Y1 O c]),.l c,.c (Y2 i,f),.l [A,Yc b],
   .c (.bl O,[]),.g,.c (.bl O,[]),.g,
   .c (Y2 0,[Y1 O a]),.l a,.c (Y2 0,[Y1 O a]),.l a,.c (.bl O,[]),.g,
   .c (Y2 0,[Y1 O b]),.l b,.c (.bl O,[])] (r:=(.bl O,[]))
  ⟨hsz,j,w,k,qzw (st:=[]) C,I,b1,z,qzw (st:=[]) E,H,b2,y,qzw (st:=[]) gW,G,b3,n,gS (.bl O) [] rfl,n,gS (.bl O) [] rfl,t,qzw (st:=[]) o,u,qzw (st:=[]) o,p,gS (.bl O) [] rfl,x,qzw (st:=[]) F,s,rfl⟩
def law_ok(m)(ns)(b:ns.length<=63):∃st',callD fns (m+12) 88 [scr ns] []=Y (.bl O,st'):=by
 obtain⟨W,H,P,r,w1,w2,h1,h2,p0,p1⟩:=qlo b (m+9) [] 0;obtain⟨T,o,t1,t2⟩:=qld b (m+9) [] 0;obtain⟨v,D,R,Q⟩:=dr b (m+10) [] 0 20 (many:=21) (by decide) (by decide) (by decide);obtain⟨pl,s,A,f,hpw⟩:=dug_ok b w1 w2 h1 h2 p0 p1 (m+5) [] 1 (many:=4+v) (by decide) (by decide) (by lia) (by lia);have hl:pl.length<=24:=by lia
 have hp:∀p∈pl,DG W H P p.2:=λp h=>(f p h).1;obtain⟨F,hB,hok,w⟩:=qfs m t1 t2 w1 w2 h1 h2 p0 p1 hl f hpw;obtain⟨j,i,z,y,G⟩:=qdl (m+9) b w1 h1 hl hp;obtain⟨g,C,E⟩:=qb8 (m+9) b hl hp;have a:∀p∈pl,UOk W H (oS p):=λp h=>(hp p h).own w1 h1;have d:∀p∈pl,UOk W H (oM j i p):=λp h=>⟨(z p.1).1,(z p.1).2,(y p.1).1,(y p.1).2,(a p h).n1,(a p h).n2⟩
 have c:∀p∈pl,UOk W H (oW g p):=λp h=>⟨(a p h).x1,(a p h).x2,(a p h).y1,(a p h).y2,(C p.1).1,(C p.1).2⟩
 have t:∀p∈pl.map (alP (oM j i)),DG W H P p.2:=λp h=>by
  obtain⟨q,e,rfl⟩:=Qqv.mp h;exact(hp q e).alt (d q e)
 have hpW:∀p∈pl.map (alP (oW g)),DG W H P p.2:=λp h=>by
  obtain⟨q,e,rfl⟩:=Qqv.mp h;exact(hp q e).alt (c q e)
 obtain⟨n1,V,N,b1⟩:=w (uOf pl oS) pl (qcx w1 h1 a) (λk=>by have:=qw6 pl oS k; rwa [qoy hp]at this) rfl;obtain⟨n2,U,K,b2⟩:=w (uOf pl (oM j i)) (pl.map (alP (oM j i))) (qcx w1 h1 d) (qw6 pl _) (Qqz ..);obtain⟨X,S,I,b3⟩:=w (uOf pl (oW g)) (pl.map (alP (oW g))) (qcx w1 h1 c) (qw6 pl _) (Qqz ..);have l:=all_dq (W:=W) (H:=H) (P:=P) (T:=T) hok hl (ws:=(List.range pl.length).map λk=>(F (k+1)).w) (by rw[Qqz,Qxc]; exact hl);rw[Qq6]at l;have n:∀u,(ent F u pl.length).length<1000:=λu=>by have:=qvd (u:=u) hB pl.length (Qqk _); lia
 have x:=qib hl hp (m+10) (n (uOf pl (oM j i)));rw[ore_eq w1 h1 hp hpw hB]at x;exact⟨_,qnx m r o D s (qgo hp) N b1 G (qgo t) K b2 E (qgo hpW) I b3 (qyz l (m+5) []) x (qib hl hp (m+10) (n (uOf pl oS))) (qqo λ_ _=>rfl) (qyz (.lst (dq_e _) (by rw[Qqz]; exact Qx0 (Qzu ..) (n _))) (m+8) []) (sc_eq w1 h1 p1 hl hp hpw hB hpW (m+10)) (qqo λ_ _=>rfl) (qyz (.lst (dq_e _) (by rw[Qqz]; exact n _)) (m+8) [])⟩
end K39
end
namespace K39
open PySem PySem.Spec PyProof.Rows L2 MS
open M (D Ya Y4 Sl E S T Src Fn Out R)
def ar0{P:L Y8->Prop}(h:P []):∀us:L Y8,us.length=0->P us:=λus e=>by
 cases us with
 |nil=>exact h
 |cons a r=>cases e
def arS{P:L Y8->Prop}(h:∀a,∀us:L Y8,us.length=n->P (a::us)):∀us:L Y8,us.length=n+1->P us:=λus e=>by
 cases us with
 |nil=>cases e
 |cons a r=>exact h a r (Nat.succ.inj e)
def bs:∀r∈tab,Bd r:=by
 repeat' first|exact Qqp _|refine Qjf.mpr ⟨?_,?_⟩
 all_goals first|exact λ_ _ _ _ _ _=>arS λ_=>ar0 rfl|exact λ_ _ _ _ _ _=>arS λ_=>arS λ_=>ar0 rfl|exact λ_ _ _ _ _ _=>arS λ_=>arS λ_=>arS λ_=>ar0 rfl|exact λ_ _ _ _ _ _=>arS λ_=>arS λ_=>arS λ_=>arS λ_=>ar0 rfl|exact λ_ _ _ _ _ _=>arS λ_=>arS λ_=>arS λ_=>arS λ_=>arS λ_=>ar0 rfl
end K39
open PySem PySem.W PyProof.Rows
set_option maxRecDepth 100000 in
set_option maxHeartbeats 0 in
theorem PySem.Challenge.cw_dipright_k39_whole_wherever_the_gallery_holds : PySem.Challenge.rw_dipright_k39_whole_wherever_the_gallery.Holds := by
 w_on; o_law
 refine holds_open (XP:=XL (K39.vw PZW) []) (YP:=InK K39.KF) K39.left (InK.of (λ_=>by kernel_rfl)) InK.keeps (λs e=>xl_of s (Bool.and_eq_true_iff.mp e).1) XL.keeps (by rfl) (by rfl) (by rfl) (λs e=>recFacts_of (Bool.and_eq_true_iff.mp e).2) (by rfl) (by assumption) (by decide +kernel) ⟨rfl,rfl,rfl,rfl,rfl,by decide +kernel⟩ ?hw ?hc
 (case hw=>w_witness2)
 refine MS.walk_law (l:=RZW) (K:=K39.KH) (k:=2*20) (x:="_law_script") rfl rfl ⟨rfl,by decide,by decide⟩ (λw h Yq=>Yq) ?F
 case F=>
  intro w mg fa h KX G hmg
  k_fill
  refine MS.law_mk (t:=K39.tab) (glo:=K39.glo) (i:=88) (n:=19) KX G hmg rfl rfl rfl K39.bs (by decide +kernel) (K39.law_ok 8) ?_ ?_ ?_ ?_ ?_ ?_
  all_goals repeat' first|exact Qqp _|refine Qjf.mpr ⟨?_,?_⟩|apply MS.RwK.fn|apply MS.RwK.me|apply MS.ClK.mk|apply MS.GlK.mk|apply MS.GdK.mk|exact MS.vNil|exact MS.eNil|apply MS.vCons|apply MS.eCons|apply MS.vTup
  all_goals try dsimp only
  all_goals first|exact MS.vInt|exact MS.vStr|k_is|rfl

