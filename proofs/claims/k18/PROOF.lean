import PyProof.Rows.All
import Wide.All
import OpenK.AllK
import Wide.FinOn
import Lean
import PyProof.TableCode
import PyProof.EqAt
import PyProof.EqKinds
import PyProof.TupleCall
import PyProof.NeKinds
import PyProof.ZipIter
import PyProof.StrLoop
import PyProof.StrWalks
import PyProof.StrCalls
import PyProof.StrCalls2
import PyProof.StrLawsIn
import PyProof.SliceStr2
import PyProof.StrBlock
import PyProof.Rows.StrFirst
import KE.KIntText
import PyProof.StrLawsChain
import PyProof.StrLawsTight
import PyProof.CallStr
import PyProof.Rows.FStr
import PySem.SetTable
import PyProof.TupleKey
import PyProof.SetKind
import PyProof.IsRules
import PyProof.Rows.SetFrom
import PyProof.WalksMore
import PyProof.TupleIter
import KE.KSortTup
import KE.KTryMore
import PySem.Challenge.RW_dipright_k18_claims_parted
set_option Elab.async false
set_option backward.eqns.nonrecursive false
set_option genInjectivity false
set_option genSizeOf false
set_option bootstrap.genMatcherCode false
set_option linter.all false
set_option maxRecDepth 100000
set_option maxHeartbeats 4000000
open _root_ renaming List->L,Int->B,Nat->Y0,Option->Y3,Bool->Yb
open Bool renaming true->Z,false->Y6
open Option renaming some->Y,none->J
open PySem renaming Value->Y8,Addr->Y7,Str->Y5
open PySem renaming wpAny_bind->Qq,Shared->Qz,Expr->Qx,wpAny_pure->Qj,World->Qk,Around->Qv,SetTable->Qw,eval->Qy,bootBuiltins->Qa,wpAny_truthy_bool->Qb,compareOp->Qd,wpAny_mono->Qe,wpAny_field->Qf,NameKind->Qg,sysModules->Qh,wpAny_seqItems->Qi,wpAny_callSpecial?_slot->Ql,wpAny_newObj_type->Qm,wpAny_holding->Qn,FuncData->Qo,Params->Qp,wpAny_call_entry->Qr,wpAny_setField_rec->Qs,assignEach->Qt,call_meets->Qu,treeTable->Q0,sizeLine_eq->Q1,DictEntry->Q2,binaryOp->Q3,holding->Q4,importedModules->Q5,tupleKind_room_in1->Q6,wpAny_setState_of->Q7,codeAny_mono->Q8,attributeBase->Q9,getItem->Zq,sliceBounds->Zz,wpAny_passesOwn->Zx,wpAny_loadPart'->Zj,codeAny_builtin->Zk,wpAny_Call_Name_kw->Zv,codeAny->Zw,Builtin->Zy,wpAny_pyIter_list->Za,ofAClassStatement->Zb,behindInMarks->Zc,Operator->Ze,standAt->Zg,letOwnedTupleGo->Zh,wpAny_rule->Zi,Keyword->Zl,callerA->Zn,getMethod->Zo,wpAny_onRaise->Zp,setSearchFrom->Zr
open PySem.W renaming boot_heap->Qc,behindTheImports->Zd
open PyProof.Rows renaming AllBare->Zf,IntsAre->Zm
section
universe u
theorem Zs[Decidable p](h:p):decide p=true:=decide_eq_true h
theorem Zu[Decidable p](h:¬p):decide p=false:=decide_eq_false h
theorem Z1{h:Decidable c}(n:¬c){t e:α}:ite c t e=e:=if_neg n
theorem Z2{h:Decidable c}(n:c){t e:α}:ite c t e=t:=if_pos n
end
open PySem.Challenge renaming pw_dipright_k18_claims_parted->PZW,rw_dipright_k18_claims_parted->RZW
open PySem.W renaming Frag->Qqq,keepIn->Qzg,nsIn->Qxt,mg_of->Qx3,methodCall_KW->Qx7,plainGet_of->Qjy,callWith_K->Qjc,cellsFrom_some->Qj4
open PySem.Heap renaming get?_push_of_some->Qqz,lt_size->Qqe,get?_push_size->Qqn,size_push->Qxq,get?_update_other->Qxe,get?_update_self->Qxg
open List renaming length_map->Qqx,getElem?_eq_some_iff->Qqj,mem_map->Qqk,size_toArray->Qqw,mem_cons->Qqy,getElem?_set_ne->Qqa,getElem?_map->Qqb,mem_singleton->Qqc,map_append->Qqd,map_map->Qqf,length_append->Qqg,mem_append_right->Qqh,length_cons->Qql,mem_of_getElem?->Qqm,getElem?_eq_getElem->Qqo,map_cons->Qqp,getElem?_append_left->Qqr,mem_append->Qqs,forall_mem_nil->Qqt,mem_cons_of_mem->Qqu,getElem?_set_self->Qq2,mem_append_left->Qq5,append_assoc->Qq7,not_mem_nil->Qq8,mem_cons_self->Qq9,length_set->Qzq,take_succ_eq_append_getElem->Qzx,all_eq_true->Qzj,lookup_cons->Qzk,find?_cons->Qzv,nodup_cons->Qzy,length_take->Qza,map_congr_left->Qzb,length_filter_le->Qzc,getElem?_append_right->Qzd,append_nil->Qze,replicate_succ->Qzi,getElem?_eq_none_iff->Qzl,take_length->Qzo,all_cons->Qzp,mem_range->Qzr,length_eq_zero_iff->Qzs,mem_filter->Qzt,getElem_of_mem->Qz0,getElem?_eq_none->Qz2,take_append_drop->Qz3,flatten_cons->Qz6,any_cons->Qz8,take_append_of_le_length->Qz9,filter_append->Qxx,nodup_append->Qxk,mem_of_find?_eq_some->Qxv,filterMap_cons->Qxw,filterMap_map->Qxy,pairwise_cons->Qxb,map_singleton->Qxc,take_of_length_le->Qxf,length_singleton->Qxh,filterMap_eq_map->Qxi,getElem_mem->Qxl,length_pos_iff->Qxm,mem_filterMap->Qxo,map_nil->Qxp,getElem?_take->Qxr,foldl_append->Qx0,length_range->Qx1,length_drop->Qx4,any_eq_true->Qx5,filter_cons->Qx6,length_replicate->Qx8,foldl_cons->Qjq,getElem_toArray->Qjz,filter_map->Qjk,map_const'->Qjv,getLast?_eq_some_getLast->Qjw,getElem?_range->Qja,map_id->Qjb,set_cons_zero->Qjd,find?_eq_none->Qje,any_eq_false->Qjf,ext_getElem?->Qjl,pairwise_iff_getElem->Qjm,drop_eq_getElem_cons->Qjn,length_filterMap_le->Qjs,getElem?_replicate->Qjt,getElem?_cons_succ->Qju,pairwise_singleton->Qj0,of_mem_zip->Qj1,length_nil->Qj2,take_zero->Qj7,mapM_cons->Qj8
open Nat renaming le_refl->Qqv,lt_of_lt_of_le->Qq3,ne_of_lt->Qq4,le_trans->Qzm,lt_succ_self->Qzn,lt_or_ge->Qz1,zero_le->Qz4,lt_irrefl->Qz7,lt_of_le_of_lt->Qxz,le_of_lt_succ->Qxj,le_succ->Qxd,ne_of_gt->Qxn,succ_pos->Qxs,lt_succ_of_lt->Qxu,le_of_lt->Qx9,zero_add->Qjx,mod_lt->Qjj,lt_trichotomy->Qji,zero_lt_succ->Qjo,le_add_right->Qjr
open Option renaming map_eq_some_iff->Qqi,isSome_iff_exists->Qz5,isSome_map->Qjg
open Bool renaming and_eq_true->Qq0,false_ne_true->Qzz,false_eq_true->Qzw,or_eq_true->Qxa,and_true->Qx2,eq_iff_iff->Qj3,not_true->Qj9
open Array renaming getElem?_toList->Qq1,getElem?_eq_getElem->Qq6,getElem?_eq_some_iff->Qzf,length_toList->Qzh,getD_eq_getD_getElem?->Qzu,size_append->Qjh,getElem?_replicate->Qjp,getElem?_extract->Qj5,getElem?_eq_none->Qj6
section
universe u v
theorem oBs(a)(f:α->Y3 b):(Y a).bind f=f a:=rfl
theorem oMs(a)(f:α->b):(Y a).map f=Y (f a):=rfl
end
namespace L2
open PySem PySem.Spec PyProof.Rows
noncomputable def qqi(s:Stmt):Arguments:=match s with
 |.FunctionDef _ a _ _ _ _ _ _ _ _=>a
 |_=>{ posonlyargs:=[],args:=[],vararg:=J,kwonlyargs:=[],kw_defaults:=[],kwarg:=J,defaults:=[] }
noncomputable def qzu(s:Stmt):L Stmt:=match s with
 |.FunctionDef _ _ b _ _ _ _ _ _ _=>b
 |_=>[]
noncomputable def qza(s:Stmt):Scope:=match s with
 |.FunctionDef _ _ _ _ _ _ sc _ _ _=>sc
 |_=>{ kind:=.function,names:=[],isGenerator:=Y6,isCoroutine:=Y6 }
end L2
namespace K18
open PySem PySem.Spec PyProof.Rows
noncomputable def top(i:Y0):Stmt:=PZW.main.body.getD i (.Pass ⟨0,0,0,0⟩)
noncomputable def cb(s:Stmt)(j:Y0):Stmt:=match s with
 |.ClassDef _ _ _ b _ _ _ _ _ _ _=>b.getD j (.Pass ⟨0,0,0,0⟩)
 |_=>s
end K18
namespace HD
open PySem PySem.W PySem.Calls PyProof.Rows
noncomputable def lf:Life:=PySem.Life.mk [] [] [] 0 [] [] Bool.false #[] [] 0 Bool.false Bool.false Bool.false 0 [2000,10,10] Bool.false 0 Bool.true [] [] 0 Bool.false
noncomputable def sM:Y5:=⟨#[60,109,111,100,117,108,101,62]⟩
noncomputable def sF:Y5:=⟨#[47,99,108,97,105,109,47,99,117,116,46,112,121]⟩
noncomputable def sN:Y5:=⟨#[95,95,109,97,105,110,95,95]⟩
noncomputable def bt(l:L Obj):BT:=(l.foldl (λ(p:BT×Y0) o=>(p.1.ins p.2 o,p.2+1)) (.nil,0)).1
noncomputable def Ta(P:Qp):BT:=bt ((Qc P).objs.toList++[Obj.mk (.type "tuple") J (.seq #[]) #[],Obj.mk .none J (.fields #[]) #[],
 Obj.mk (.type "code") J (.fields #[.str sM 182,.str sM 183,.str sF 184,.int 1 0,.int 0 0,.int 0 0,.int 0 0,.int 0 0,.ref 11,.bool Y6,.int 181 0,.ref 12,.none,.none,.none,.none,.int 185 0,.int 1 0,.str sF 186]) #[],
 Obj.mk (.type "frame") J .plain #[Y (.ref 13),Y (.ref 3),Y (.ref 3),J,Y (.str sN 164),J,Y (.ref 0)]])
noncomputable def Sa(w:Qk)(os:OsState):SharedT:=⟨Ta w.params,15,lf,#[],⟨0,0,0,0⟩,187,os⟩
noncomputable abbrev an:Y3 Y8:=Y (.ref 6)
noncomputable abbrev p0:Pos:=⟨0,0,0,0⟩
noncomputable def ev(p:Program):Env:={ scope:=p.main.scope,locals:=mainNs,globals:=mainNs,cells:=[],code:=.ref 13,frame:=Y 14 }
noncomputable def cE(p:Program):Code:=.body (Zd p) (ev p)
noncomputable def Lk(p q:Program)(loose:L Y5)(Xt:Program->Qz->Yb)(ads:L Y7)(w:Qk)(s:Qz):=(staticsOk (Q5 p.main.body) (Qc w.params) s.heap&&namesBound p s.heap&&gensDone s&&laidKept (Qc w.params) s.heap,openSeen q loose (Q5 p.main.body) (Xt q) Z s,ads.map s.heap.get?)
theorem fin_of:topRun Q0 p w 11 an 2 s (restOf [] env c q [topFrame p0])=Y s:=by
 cases s
 rfl
noncomputable abbrev Fs(p:Program)(w:Qk)(s:Qz):Bool:=staticsOk (Q5 p.main.body) (Qc w.params) s.heap&&namesBound p s.heap&&gensDone s&&laidKept (Qc w.params) s.heap
theorem qnv{os:OsState}(z:((Qc w.params).isNs mainGlobals&&(Array.mk []:Array GenState).size==0,(Qc w.params).objs.size,(Qc w.params).nsMap mainGlobals "__annotations__")=(Z,11,an))(r:topRun Q0 p w 11 an N ⟨Qc w.params,#[],boot_drawn,boot_toks,os⟩ (topStub p)=Y s)(l:Fs p w s=Z):topFrom Q0 p w N ⟨Qc w.params,#[],boot_drawn,boot_toks,os⟩=Y s:=by
 have c:=congrArg (·.1) z;have b:=congrArg (·.2.1) z;have a:=congrArg (·.2.2) z;dsimp only at c b a;simp only[topFrom,c,b,a,r,oBs];show(match Fs p w s with|true=>Y s|false=>J)=_;rw[l]
noncomputable def Rn(p:Program)(n:Y0)(w:Qk)(os:OsState):=segRunT Q0 p w 11 an 1 n (Sa w os) (piecesOf (Zd p) (ev p) (cE p) p0 [topFrame p0])
noncomputable def LA(p q:Program)(ads:L Y7)(w:Qk)(s:Qz):=(staticsOk (Q5 p.main.body) (Qc w.params) s.heap&&namesBound p s.heap&&gensDone s&&laidKept (Qc w.params) s.heap,seen ((recsOf q).map (·.name)) (ownsOf q) [] { s with gens:=#[] },ads.map s.heap.get?)
noncomputable def LB(p q:Program)(loose:L Y5)(Xt:Program->Qz->Yb)(s:Qz):Bool:=s.heap.keysOk (looseW q loose) ((recsOf q).map (·.name)) ((litsOf q).map (·.1)) ((clssOf q (looseW q loose)).map (·.name))&&s.heap.accountedOkI (Q5 p.main.body)&&s.heap.isNs mainGlobals&&s.heap.isNs builtinsNs&&tablesOk q s.heap&&Xt q s&&s.gens.size==0
noncomputable def LD(q:Program)(loose:L Y5)(s:Qz):=(s.heap.bltView,tabsOk q s,pinSeenD q (drecsOf q) s,clsSeenW q loose s)
noncomputable def LG(q:Program)(loose:L Y5)(s:Qz):=(wideSeen q s,plainSeenD q loose s)
theorem lo3{K:Qp->Frag}(l:∀w:Qk,Option.map (λs:Qz=>(s.heap,s.gens,s.drawn,s.toks)) (fencedOpening Q0 p w N)=Y (Qc w.params,#[],boot_drawn,boot_toks))(z:∀w:Qk,((Qc w.params).isNs mainGlobals&&(Array.mk []:Array GenState).size==0,(Qc w.params).objs.size,(Qc w.params).nsMap mainGlobals "__annotations__")=(Z,11,an))(pre:∀w:Qk,(λos=>topGo Q0 p w 11 an 12 ⟨Qc w.params,#[],boot_drawn,boot_toks,os⟩ (topStub p))=λos=>Y ((Sa w os).abs,⟨denote Q0 (cE p),cE p,p0,[topFrame p0]⟩))(blk:∀w:Qk,(λos=>segRun Q0 p w 11 an 1 1 (Sa w os).abs (blockOf (Zd p) (ev p) (cE p) p0 [topFrame p0]))=λos=>Y (Flow.next,(Sa w os).abs,cE p,p0))(F:∀w:Qk,(λos=>(Rn p n w os).map λr=>(r.1,r.2.2.1,r.2.2.2,LA p q ads w r.2.1.abs))=λ_=>Y (Flow.next,cE p,p1,Z,expectedOf q,(K w.params).map λp=>Y p.2))(gB:∀w:Qk,(λos=>(Rn p n w os).map λr=>LB p q loose Xt r.2.1.abs)=λ_=>Y Z)(E:∀w:Qk,(λos=>(Rn p n w os).map λr=>plainSeenE q (looseW q loose) r.2.1.abs)=λ_=>Y (plainGoodE q (looseW q loose)))(D:∀w:Qk,(λos=>(Rn p n w os).map λr=>LD q loose r.2.1.abs)=λ_=>Y (bltViewBooted,Z,pinGoodD (drecsOf q),clsGoodW q loose))(C:∀w:Qk,(λos=>(Rn p n w os).map λr=>LG q loose r.2.1.abs)=λ_=>Y (wideGood q,plainGoodD q loose))(le:Nat.ble (12+(1+(n+2))) N=Z):LeftO p q loose (Xt q) (λs=>ads.map s.heap.get?) (λw=>(K w.params).map λp=>Y p.2) N:=by
 intro w
 rcases Qqi.mp (l w) with⟨S,Q,i⟩
 rcases S with⟨H,g,d,t,os⟩
 have h1:H=Qc w.params:=congrArg (·.1) i;have h2:g=#[]:=congrArg (·.2.1) i;have A:d=boot_drawn:=congrArg (·.2.2.1) i;have y:t=boot_toks:=congrArg (·.2.2.2) i;subst h1 h2 A y
 rcases Qqi.mp (congrFun (F w) os) with⟨⟨f,j,c,k⟩,run,same⟩
 have h:∀{α:Type}{g:Flow×SharedT×Code×Pos->α}{v:α},(Rn p n w os).map g=Y v->g (f,j,c,k)=v:=λe=>by rw[run]at e; exact Option.some.inj e
 have P:f=Flow.next:=congrArg (·.1) same;have I:c=cE p:=congrArg (·.2.1) same;have G:k=p1:=congrArg (·.2.2.1) same;have u:Fs p w j.abs=true:=congrArg (·.2.2.2.1) same;have x:=congrArg (·.2.2.2.2.1) same;have m:=congrArg (·.2.2.2.2.2) same;have b:=h (congrFun (gB w) os);have c0:=h (congrFun (E w) os);have d:=h (congrFun (D w) os);have e:=h (congrFun (C w) os);have o:openSeen q loose (Q5 p.main.body) (Xt q) Z j.abs=openGood q loose:=Prod.ext x (Prod.ext (congrArg (·.1) d) (Prod.ext b (Prod.ext (congrArg (·.2.1) d) (Prod.ext (congrArg (·.2.2.1) d) (Prod.ext c0 (Prod.ext (congrArg (·.2) e) (Prod.ext (congrArg (·.1) e) (congrArg (·.2.2.2) d))))))));subst P I G;have a:=piece_app (rest:=[]) (segRun_of run) fin_of;rw[Qze]at a;have all:=go_top (congrFun (pre w) os) (piece_block (congrFun (blk w) os) a);have more:=topRun_mono (N - (12+(1+(n+2)))) _ _ _ _ all;rw[Nat.add_sub_cancel' (Nat.le_of_ble_eq_true le)]at more;simp only[openEnds,Q,oBs,qnv (z w) more u,oMs];exact congrArg Y (Prod.ext o m)
end HD
namespace K18
open PySem L2
noncomputable def c0:L Y5:=["_law_enter","_law_model_here","_law_day","_law_fact_here","day","join","_law_enter_join","vein","stake","_law_enter_claim","veins","_law_name"]
noncomputable def c1:L Y5:=["sorted","claims","_law_vest","term","_law_vein_here","good","_law_due","_law_veins","_law_names","_law_due_here","size","append"]
noncomputable def c2:L Y5:=[".0","joins","get","tuple","_law_state","_law_standing","book","fast","_law_look","_law_field","_law_look_here","today"]
noncomputable def c3:L Y5:=["joined","claim","state","years","standing","entries","_law_pieces","_law_rect_here","_law_side","_law_line","_law_near","list"]
noncomputable def c4:L Y5:=["_law_far","_law_parting","_law_ahead","_law_years","_law_row","enter","_law_same","_law_at","index","_law_new","stands","insert"]
noncomputable def c5:L Y5:=["_law_parts_fact","_law_script","_law_k","_law_size_here","_law_plan","_law_fact","part","len","_law_draw","max","_law_who","law"]
noncomputable def c6:L Y5:=["_law_size","_law_term_here","_law_term","Field","_law_model","range","_law_claim","given","fallen","unvested","int","_law_outs_here"]
noncomputable def c7:L Y5:=["any","_law_in","_law_cell","row","_law_enter_part","_law_old","nocut","noclaim","ended","work","sell","give"]
noncomputable def c8:L Y5:=["novein","order","_law_pick","_law_j","_law_vein","_law_steps","_law_outs","_law_claim_fact","_law_way","_law_who_here","min","_law_floor"]
noncomputable def c9:L Y5:=["_law_rect","dug","_law_wide","_law_tall","_law_deep","_law_sizes","_law_rest","_law_x","_law_y","_law_count","_law_first","_law_stride"]
noncomputable def c10:L Y5:=["_law_found","_law_place","check_district","wide","tall","deep","fits","LENGTHS","DEPTHS","TERMS","BadNumber","not the numbers of a district"]
noncomputable def c11:L Y5:=["check_day","DAYS","not a day","__init__","self","extent","year","found","joints","staked","Claims","debts"]
noncomputable def c12:L Y5:=["fact","sound","BadFact","not sound for this district","Late","the field's day isn't earlier","answer","enter_vein","enter_join","enter_stake","dig","enter_dig"]
noncomputable def c13:L Y5:=["pay","enter_pay","change","vest_all","other","outcrops","extend","who","spot","worth","owe","owner"]
noncomputable def c14:L Y5:=["COIN","gatekeeper","mouth","over","debtor","creditor","tenths","pass_to","_wall","names","name","NoVein"]
noncomputable def c15:L Y5:=["no vein is known by that day","named","ground","last","vested","days","twin","__name__","law_dipright_k18_claims_parted","_law_many","_law_turn","_law_step"]
noncomputable def c16:L Y5:=["_law_one","_law_two","isinstance","_law_like","all","bool","str","field","cell","standing_grounds","inside","dipright.field"]
noncomputable def c17:L Y5:=["ground_of","ranked","grounds","heads","first","behind","has_one","dip","covers","heirs","columns_at","first_claim"]
noncomputable def c18:L Y5:=["ranks","title","dipright.reach","outcrop","pair","pairs","dipright.title","sound_vein","ASKS","all_fit","numbers_agree","dipright.veins"]
noncomputable def c19:L Y5:=["MOVES","climbed","steps","x","y","step","reversed","in_ground","met_columns","met","joint","column"]
noncomputable def c20:L Y5:=["enumerate","OutOfGround","not a spot of the district","asked","values","known","bounds","value","kind","zip","is_cell","thing"]
noncomputable def c21:L Y5:=["good_steps","good_outcrops","MOST_COLUMNS","set","STEPS","COINS","below","folk","side","line","floor","coins"]
noncomputable def c22:L Y5:=["FOLK","SIDES","LINES","bound","NoClaim","no claim is known by that day","Claim","through","vest","whole","pieces","parted"]
noncomputable def c23:L Y5:=["piece","dipright.facts","dipright.years","counted","kept","dipright.claims","RIGHT","LOW","rect","LEFT","TOP","some"]
noncomputable def c24:L Y5:=["can_part","ahead","DiprightError","dipright.ground","k","dipright.errors","ValueError","/claim/cut.py","__doc__","__package__","__loader__","__spec__"]
noncomputable def c25:L Y5:=["__annotations__","__builtins__","__file__","__cached__","__main__","__module__","__firstlineno__","__static_attributes__","__weakref__","Claim.__init__","Claim.piece","Claim.twin"]
noncomputable def c26:L Y5:=["Claim.state","__dict__","Claims.__init__","Claims.names","Claims.named","Claims.standing","Claims.stake","Claims.vest","Claims.vest_all","Claims.change","Claims.part","Claims.twin"]
noncomputable def c27:L Y5:=["Field.__init__","Field.enter","Field.answer","Field.enter_vein","Field.enter_join","Field.enter_stake","Field.enter_dig","Field.enter_pay","Field.gatekeeper","Field.owe","Field.pass_to","Field.today"]
noncomputable def c28:L Y5:=["Field.size","Field.term","Field.veins","Field.claims","Field.vein","Field.joined","Field.claim","Field.state","Field.years","Field.standing","Field.entries","Field.twin"]
noncomputable def Al:L (L Y5):=[c0,c1,c2,c3,c4,c5,c6,c7,c8,c9,c10,c11,c12,c13,c14,c15,c16,c17,c18,c19,c20,c21,c22,c23,c24,c25,c26,c27,c28]
noncomputable def Af(i j:Y0):Y5:=(Al.getD i []).getD j ⟨#[]⟩
noncomputable def b0:String:="dict"
noncomputable def b1:String:="__main__.__loader__#opaque"
noncomputable def b2:String:="tuple"
noncomputable def b3:String:="code"
noncomputable def b4:String:="function"
noncomputable def b5:String:="ValueError"
noncomputable def b6:String:="ValueError.__new__"
noncomputable def b7:String:="type"
noncomputable def b8:String:="Exception"
noncomputable def b9:String:="BaseException"
noncomputable def b10:String:="object"
noncomputable def b11:String:="ExceptionGroup.__weakref__"
noncomputable def b12:String:="getset_descriptor"
noncomputable def b13:String:="object.__new__"
noncomputable def b14:String:="function.__dict__"
noncomputable def b15:String:="function.__dict__#set"
lay_quick Af b0 b1 b2 b3 b4 b5 b6 b7 b8 b9 b10 b11 b12 b13 b14 b15
def Hy(a:Y0->Y0->Y5)(i:Y0)(p:Prop):Y0->L Y5->Prop
 |_,[]=>p
 |j,x::r=>x=a i j->Hy a i p (j+1) r
def Hz(a:Y0->Y0->Y5)(p:Prop):Y0->L (L Y5)->Prop
 |_,[]=>p
 |i,c::r=>Hy a i (Hz a p (i+1) r) 0 c
noncomputable def G(a:Y0->Y0->Y5):Program:=by
 refine'(?f:(x:Program)->Hz a (PZW=x) 0 Al->Program) _ ?h
 (case f=>exact λx _=>x)
 (case h=>(repeat intro _); show PZW=_; delta PZW; conv=>lhs; simp only[*,Nat.reduceAdd])
noncomputable abbrev fnD(x y:Y5)(s:Stmt):=FuncData.mk x y (qqi s) (.stmts (qzu s)) (qza s)
noncomputable abbrev kh:=PyData.keyHash
noncomputable abbrev de(P:Qp)(x:Y5)(k:Y0)(v:Y8):=DictEntry.mk (kh P x) (.str x k) v
noncomputable abbrev oq(u:String)(x:Array Y8):=Obj.mk (.type u) Option.none (.seq x) #[]
noncomputable abbrev zA(u:String)(a:Y0->Y0->Y5)(i j v w k:Y0)(ln n:B)(r p:Y0):=Obj.mk (.type u) Option.none (.fields #[.str (a i j) k,.str (a v w) (k+1),.str (a 24 7) (k+2),.int ln 0,.int n 0,.int 0 0,.int 0 0,.int 3 0,.ref r,.bool Bool.true,.int 181 0,.ref (r+1),.none,.ref (r+2),.ref (r+3),.ref (r+4),.int (.ofNat p) 0,.int ln 0,.str (a 24 7) (p+1)]) #[]
noncomputable abbrev zB(u:String)(a:Y0->Y0->Y5)(i j v w k:Y0)(ln n:B)(r p:Y0):=Obj.mk (.type u) Option.none (.fields #[.str (a i j) k,.str (a v w) (k+1),.str (a 24 7) (k+2),.int ln 0,.int n 0,.int 0 0,.int 0 0,.int 3 0,.ref r,.bool Bool.true,.int 181 0,.ref (r+1),.none,.none,.none,.ref (r+2),.int (.ofNat p) 0,.int ln 0,.str (a 24 7) (p+1)]) #[]
noncomputable abbrev zA2(u:String)(a:Y0->Y0->Y5)(i j:Y0):=zA u a i j i j
noncomputable abbrev zB2(u:String)(a:Y0->Y0->Y5)(i j:Y0):=zB u a i j i j
noncomputable abbrev zM(u:String)(a:Y0->Y0->Y5)(i j v w:Y0)(s:Stmt)(x y k r:Y0):=Obj.mk (.type u) Option.none (.func (fnD (a i j) (a v w) s 3 [] .none .none .none (.str (a x y) k) Option.none (.ref r) .none 0)) #[]
noncomputable abbrev zF(u:String)(a:Y0->Y0->Y5)(i j:Y0):=zM u a i j i j
noncomputable abbrev zR(P:Qp)(a:Y0->Y0->Y5)(i j k r:Y0):=de P (a i j) k (.ref r)
noncomputable def KG(tp:Y0->Stmt)(a:Y0->Y0->Y5)(u0 u1 u2 u3 u4 u5 u6 u7 u8 u9 u10 u11 u12 u13 u14 u15:String)(P:Qp):Qqq:=(nat_lit 3,Obj.mk (.type u0) Option.none (.dict #[de P (a 15 7) 165 (.str (a 15 8) 1082),de P (a 24 8) 166 .none,de P (a 24 9) 167 .none,de P (a 24 10) 168 (.builtin u1),de P (a 24 11) 169 .none,zR P a 25 0 170 6,zR P a 25 1 171 4,de P (a 25 2) 173 (.str (a 24 7) 172),de P (a 25 3) 174 .none,zR P a 14 8 193 21,zR P a 24 2 213 31,zR P a 10 10 229 44,zR P a 12 2 245 56,zR P a 12 4 261 68,zR P a 14 11 277 80,zR P a 22 4 293 92,zR P a 20 1 309 104,de P (a 23 9) 313 (.int 0 312),de P (a 23 10) 315 (.int 1 314),de P (a 23 6) 317 (.int 2 316),de P (a 23 7) 319 (.int 3 318),zR P a 16 10 327 113,zR P a 17 6 333 118,zR P a 24 0 342 125,zR P a 22 11 353 132,zR P a 19 7 361 139,zR P a 23 3 373 146,zR P a 22 7 381 153,zR P a 22 6 445 191,zR P a 11 10 558 273,zR P a 11 1 563 278,zR P a 22 0 566 279,zR P a 22 1 569 280,zR P a 22 2 572 281,zR P a 21 4 575 282,zR P a 21 5 578 283,de P (a 21 2) 580 (.int 16 579),zR P a 18 8 623 284,zR P a 20 6 630 299,zR P a 10 6 638 306,zR P a 18 9 644 311,zR P a 20 10 652 318,zR P a 21 0 660 325,zR P a 21 1 666 330,zR P a 18 7 674 337,zR P a 18 10 681 344,zR P a 12 1 689 351,zR P a 19 0 704 357,zR P a 19 1 716 364,zR P a 19 8 722 369,zR P a 17 10 728 374,zR P a 17 0 738 381,zR P a 18 3 746 388,zR P a 13 5 752 393,zR P a 17 8 760 400,zR P a 16 9 768 405,zR P a 17 1 781 412,zR P a 17 9 790 419,zR P a 17 11 797 426,zR P a 18 1 805 433,zR P a 13 11 814 440,zR P a 14 3 824 447,zR P a 10 7 829 448,zR P a 10 8 832 449,zR P a 10 9 835 450,de P (a 14 0) 837 (.int 10 836),zR P a 10 2 847 457,zR P a 11 0 854 464,zR P a 6 3 1081 642,zR P a 5 8 1099 653,zR P a 4 6 1105 658,zR P a 6 0 1117 665,zR P a 6 2 1126 672,zR P a 9 0 1139 679,zR P a 8 5 1145 684,zR P a 8 6 1161 691,zR P a 5 10 1170 698,zR P a 8 2 1180 705,zR P a 8 4 1189 712,zR P a 8 7 1204 719,zR P a 5 5 1210 724,zR P a 7 1 1218 731,zR P a 6 4 1227 738,zR P a 2 4 1236 745,zR P a 1 2 1242 750,zR P a 2 5 1248 755,zR P a 7 4 1260 762,zR P a 0 9 1269 769,zR P a 0 6 1277 776,zR P a 0 0 1288 783,zR P a 1 6 1294 788,zR P a 2 8 1300 793,zR P a 3 6 1311 800,zR P a 4 1 1317 805,zR P a 5 0 1323 810,zR P a 5 11 1338 817] 96) #[]) ::
(nat_lit 112,zA2 u3 a 16 10 320 24 2 107 325) ::
(nat_lit 113,zF u4 a 16 10 (tp 14) 24 3 310 112) ::
(nat_lit 117,zB2 u3 a 17 6 328 26 2 114 331) ::
(nat_lit 118,zF u4 a 17 6 (tp 15) 24 3 310 117) ::
(nat_lit 124,zA2 u3 a 24 0 334 28 3 119 340) ::
(nat_lit 125,zF u4 a 24 0 (tp 16) 24 3 310 124) ::
(nat_lit 131,zA2 u3 a 22 11 343 30 3 126 351) ::
(nat_lit 132,zF u4 a 22 11 (tp 17) 24 3 310 131) ::
(nat_lit 145,zA2 u3 a 23 3 364 43 2 140 371) ::
(nat_lit 146,zF u4 a 23 3 (tp 20) 23 2 362 145) ::
(nat_lit 152,zA2 u3 a 22 7 374 49 2 147 379) ::
(nat_lit 153,zF u4 a 22 7 (tp 21) 23 2 362 152) ::
(nat_lit 166,zA u3 a 11 3 25 9 396 54 5 161 404) ::
(nat_lit 167,zM u4 a 11 3 25 9 (cb (tp 23) 0) 23 5 382 166) ::
(nat_lit 173,zA u3 a 23 0 25 10 407 62 3 168 414) ::
(nat_lit 174,zM u4 a 23 0 25 10 (cb (tp 23) 1) 23 5 382 173) ::
(nat_lit 187,zA u3 a 3 2 26 0 424 70 2 182 429) ::
(nat_lit 188,zM u4 a 3 2 26 0 (cb (tp 23) 3) 23 5 382 187) ::
(nat_lit 190,Obj.mk (.type u0) Option.none (.dict #[de P (a 25 5) 391 (.str (a 23 5) 382),de P (a 25 6) 395 (.int 52 394),zR P a 11 3 406 167,zR P a 23 0 416 174,zR P a 15 6 423 181,zR P a 3 2 431 188,zR P a 25 7 438 189,zR P a 26 1 440 192,zR P a 25 8 442 193,de P (a 24 8) 443 .none] 4) #[]) ::
(nat_lit 191,Obj.mk (.type u7) Option.none (.cls (ClassData.mk (a 22 6) [.type u10] [.ref 191,.type u10] 190 (a 22 6) Bool.true [] [] Bool.false Option.none Bool.false)) #[Option.none,Option.none,Option.some (.str (a 22 6) 384),Option.some (.str (a 22 6) 392),Option.some (.builtin u13),Option.some (.bool Bool.true)]) ::
(nat_lit 208,zA u3 a 11 3 26 2 458 80 2 203 463) ::
(nat_lit 209,zM u4 a 11 3 26 2 (cb (tp 24) 0) 23 5 382 208) ::
(nat_lit 215,zA u3 a 14 9 26 3 466 85 1 210 470) ::
(nat_lit 216,zM u4 a 14 9 26 3 (cb (tp 24) 1) 23 5 382 215) ::
(nat_lit 222,zA u3 a 15 1 26 4 473 88 2 217 478) ::
(nat_lit 223,zM u4 a 15 1 26 4 (cb (tp 24) 2) 23 5 382 222) ::
(nat_lit 227,zB u3 a 3 4 26 5 481 93 2 224 484) ::
(nat_lit 228,zM u4 a 3 4 26 5 (cb (tp 24) 3) 23 5 382 227) ::
(nat_lit 234,zA u3 a 0 8 26 6 487 96 5 229 495) ::
(nat_lit 235,zM u4 a 0 8 26 6 (cb (tp 24) 4) 23 5 382 234) ::
(nat_lit 241,zA u3 a 22 8 26 7 498 100 4 236 506) ::
(nat_lit 242,zM u4 a 22 8 26 7 (cb (tp 24) 5) 23 5 382 241) ::
(nat_lit 248,zA u3 a 13 3 26 8 509 106 3 243 516) ::
(nat_lit 249,zM u4 a 13 3 26 8 (cb (tp 24) 6) 23 5 382 248) ::
(nat_lit 255,zA u3 a 13 2 26 9 519 110 3 250 527) ::
(nat_lit 256,zM u4 a 13 2 26 9 (cb (tp 24) 7) 23 5 382 255) ::
(nat_lit 262,zA u3 a 5 6 26 10 530 128 3 257 538) ::
(nat_lit 263,zM u4 a 5 6 26 10 (cb (tp 24) 8) 23 5 382 262) ::
(nat_lit 272,Obj.mk (.type u0) Option.none (.dict #[de P (a 25 5) 453 (.str (a 23 5) 382),de P (a 25 6) 457 (.int 78 456),zR P a 11 3 465 209,zR P a 14 9 472 216,zR P a 15 1 480 223,zR P a 3 4 486 228,zR P a 0 8 497 235,zR P a 22 8 508 242,zR P a 13 3 518 249,zR P a 13 2 529 256,zR P a 5 6 540 263,zR P a 15 6 547 270,zR P a 25 7 551 271,zR P a 26 1 553 274,zR P a 25 8 555 275,de P (a 24 8) 556 .none] 4) #[]) ::
(nat_lit 273,Obj.mk (.type u7) Option.none (.cls (ClassData.mk (a 11 10) [.type u10] [.ref 273,.type u10] 272 (a 11 10) Bool.true [] [] Bool.false Option.none Bool.false)) #[Option.none,Option.none,Option.some (.str (a 11 10) 446),Option.some (.str (a 11 10) 454),Option.some (.builtin u13),Option.some (.bool Bool.true)]) ::
(nat_lit 278,oq u2 #[.int 1 561,.int 400 562]) ::
(nat_lit 279,oq u2 #[.int 1 564,.int 40 565]) ::
(nat_lit 280,oq u2 #[.int 0 567,.int 1 568]) ::
(nat_lit 281,oq u2 #[.int 1 570,.int 23 571]) ::
(nat_lit 282,oq u2 #[.int 0 573,.int 4 574]) ::
(nat_lit 283,oq u2 #[.int 1 576,.int 1000000 577]) ::
(nat_lit 284,Obj.mk (.type u0) Option.none (.dict #[zR P a 0 5 581 285,zR P a 0 8 585 286,zR P a 7 9 591 287,zR P a 7 10 593 288,zR P a 5 6 596 289,zR P a 7 11 601 290,zR P a 12 10 603 291,zR P a 13 0 611 292] 8) #[]) ::
(nat_lit 285,oq u2 #[.str (a 0 4) 582,.str (a 0 4) 583,.str (a 21 6) 584]) ::
(nat_lit 286,oq u2 #[.str (a 21 7) 586,.str (a 19 3) 587,.str (a 19 4) 588,.str (a 19 3) 589,.str (a 19 4) 590]) ::
(nat_lit 287,oq u2 #[.str (a 0 4) 592]) ::
(nat_lit 288,oq u2 #[.str (a 0 4) 594,.str (a 21 7) 595]) ::
(nat_lit 289,oq u2 #[.str (a 0 4) 597,.str (a 21 8) 598,.str (a 21 9) 599,.str (a 21 7) 600]) ::
(nat_lit 290,oq u2 #[.str (a 0 4) 602]) ::
(nat_lit 291,oq u2 #[.str (a 21 7) 604,.str (a 19 3) 605,.str (a 19 4) 606,.str (a 19 3) 607,.str (a 19 4) 608,.str (a 21 10) 609,.str (a 21 11) 610]) ::
(nat_lit 292,oq u2 #[.str (a 21 7) 612,.str (a 21 7) 613,.str (a 21 11) 614]) ::
(nat_lit 298,zA2 u3 a 20 6 624 150 1 293 628) ::
(nat_lit 299,zF u4 a 20 6 (tp 34) 23 1 559 298) ::
(nat_lit 305,zA2 u3 a 10 6 631 152 2 300 636) ::
(nat_lit 306,zF u4 a 10 6 (tp 35) 23 1 559 305) ::
(nat_lit 310,zB2 u3 a 18 9 639 156 3 307 642) ::
(nat_lit 311,zF u4 a 18 9 (tp 36) 23 1 559 310) ::
(nat_lit 317,zA2 u3 a 20 10 645 161 2 312 650) ::
(nat_lit 318,zF u4 a 20 10 (tp 37) 23 1 559 317) ::
(nat_lit 324,zA2 u3 a 21 0 653 163 2 319 658) ::
(nat_lit 325,zF u4 a 21 0 (tp 38) 23 1 559 324) ::
(nat_lit 329,zB2 u3 a 21 1 661 165 2 326 664) ::
(nat_lit 330,zF u4 a 21 1 (tp 39) 23 1 559 329) ::
(nat_lit 336,zA2 u3 a 18 7 667 171 2 331 672) ::
(nat_lit 337,zF u4 a 18 7 (tp 40) 23 1 559 336) ::
(nat_lit 343,zA2 u3 a 18 10 675 173 1 338 679) ::
(nat_lit 344,zF u4 a 18 10 (tp 41) 23 1 559 343) ::
(nat_lit 350,zA2 u3 a 12 1 682 179 2 345 687) ::
(nat_lit 351,zF u4 a 12 1 (tp 42) 23 1 559 350) ::
(nat_lit 448,oq u2 #[.int 1 827,.int 24 828]) ::
(nat_lit 449,oq u2 #[.int 0 830,.int 12 831]) ::
(nat_lit 450,oq u2 #[.int 1 833,.int 400 834]) ::
(nat_lit 456,zA2 u3 a 10 2 838 253 4 451 845) ::
(nat_lit 457,zF u4 a 10 2 (tp 66) 16 11 825 456) ::
(nat_lit 463,zA2 u3 a 11 0 848 256 1 458 852) ::
(nat_lit 464,zF u4 a 11 0 (tp 67) 16 11 825 463) ::
(nat_lit 477,zA u3 a 11 3 27 0 867 261 5 472 875) ::
(nat_lit 478,zM u4 a 11 3 27 0 (cb (tp 68) 0) 16 11 825 477) ::
(nat_lit 484,zA u3 a 4 5 27 1 878 272 3 479 884) ::
(nat_lit 485,zM u4 a 4 5 27 1 (cb (tp 68) 1) 16 11 825 484) ::
(nat_lit 491,zA u3 a 12 6 27 2 887 281 2 486 892) ::
(nat_lit 492,zM u4 a 12 6 27 2 (cb (tp 68) 2) 16 11 825 491) ::
(nat_lit 498,zA u3 a 12 7 27 3 895 294 2 493 900) ::
(nat_lit 499,zM u4 a 12 7 27 3 (cb (tp 68) 3) 16 11 825 498) ::
(nat_lit 505,zA u3 a 12 8 27 4 903 299 2 500 910) ::
(nat_lit 506,zM u4 a 12 8 27 4 (cb (tp 68) 4) 16 11 825 505) ::
(nat_lit 512,zA u3 a 12 9 27 5 913 311 2 507 920) ::
(nat_lit 513,zM u4 a 12 9 27 5 (cb (tp 68) 5) 16 11 825 512) ::
(nat_lit 554,zA u3 a 2 11 27 11 969 344 1 549 973) ::
(nat_lit 555,zM u4 a 2 11 27 11 (cb (tp 68) 11) 16 11 825 554) ::
(nat_lit 561,zA u3 a 1 10 28 0 976 347 1 556 980) ::
(nat_lit 562,zM u4 a 1 10 28 0 (cb (tp 68) 12) 16 11 825 561) ::
(nat_lit 568,zA u3 a 1 3 28 1 983 350 1 563 987) ::
(nat_lit 569,zM u4 a 1 3 28 1 (cb (tp 68) 13) 16 11 825 568) ::
(nat_lit 575,zA u3 a 0 10 28 2 990 353 1 570 994) ::
(nat_lit 576,zM u4 a 0 10 28 2 (cb (tp 68) 14) 16 11 825 575) ::
(nat_lit 582,zA u3 a 1 1 28 3 997 356 1 577 1001) ::
(nat_lit 583,zM u4 a 1 1 28 3 (cb (tp 68) 15) 16 11 825 582) ::
(nat_lit 589,zA u3 a 0 7 28 4 1004 359 2 584 1009) ::
(nat_lit 590,zM u4 a 0 7 28 4 (cb (tp 68) 16) 16 11 825 589) ::
(nat_lit 596,zA u3 a 3 0 28 5 1012 364 2 591 1017) ::
(nat_lit 597,zM u4 a 3 0 28 5 (cb (tp 68) 17) 16 11 825 596) ::
(nat_lit 603,zA u3 a 3 1 28 6 1020 369 2 598 1026) ::
(nat_lit 604,zM u4 a 3 1 28 6 (cb (tp 68) 18) 16 11 825 603) ::
(nat_lit 610,zA u3 a 3 2 28 7 1029 373 2 605 1034) ::
(nat_lit 611,zM u4 a 3 2 28 7 (cb (tp 68) 19) 16 11 825 610) ::
(nat_lit 617,zA u3 a 3 3 28 8 1037 376 2 612 1042) ::
(nat_lit 618,zM u4 a 3 3 28 8 (cb (tp 68) 20) 16 11 825 617) ::
(nat_lit 624,zA u3 a 3 4 28 9 1045 379 1 619 1049) ::
(nat_lit 625,zM u4 a 3 4 28 9 (cb (tp 68) 21) 16 11 825 624) ::
(nat_lit 631,zA u3 a 3 5 28 10 1052 382 1 626 1056) ::
(nat_lit 632,zM u4 a 3 5 28 10 (cb (tp 68) 22) 16 11 825 631) ::
(nat_lit 641,Obj.mk (.type u0) Option.none (.dict #[de P (a 25 5) 862 (.str (a 16 11) 825),de P (a 25 6) 866 (.int 259 865),zR P a 11 3 877 478,zR P a 4 5 886 485,zR P a 12 6 894 492,zR P a 12 7 902 499,zR P a 12 8 912 506,zR P a 12 9 922 513,zR P a 12 11 933 520,zR P a 13 1 941 527,zR P a 14 1 950 534,zR P a 13 10 960 541,zR P a 14 7 968 548,zR P a 2 11 975 555,zR P a 1 10 982 562,zR P a 1 3 989 569,zR P a 0 10 996 576,zR P a 1 1 1003 583,zR P a 0 7 1011 590,zR P a 3 0 1019 597,zR P a 3 1 1028 604,zR P a 3 2 1036 611,zR P a 3 3 1044 618,zR P a 3 4 1051 625,zR P a 3 5 1058 632,zR P a 15 6 1065 639,zR P a 25 7 1074 640,zR P a 26 1 1076 643,zR P a 25 8 1078 644,de P (a 24 8) 1079 .none] 4) #[]) ::
(nat_lit 642,Obj.mk (.type u7) Option.none (.cls (ClassData.mk (a 6 3) [.type u10] [.ref 642,.type u10] 641 (a 6 3) Bool.true [] [] Bool.false Option.none Bool.false)) #[Option.none,Option.none,Option.some (.str (a 6 3) 855),Option.some (.str (a 6 3) 863),Option.some (.builtin u13),Option.some (.bool Bool.true)]) ::
(nat_lit 652,zA2 u3 a 5 8 1084 388 4 647 1097) ::
(nat_lit 653,zF u4 a 5 8 (tp 70) 15 8 1082 652) ::
(nat_lit 657,zB2 u3 a 4 6 1100 403 2 654 1103) ::
(nat_lit 658,zF u4 a 4 6 (tp 71) 15 8 1082 657) ::
(nat_lit 664,zA2 u3 a 6 0 1106 412 2 659 1115) ::
(nat_lit 665,zF u4 a 6 0 (tp 72) 15 8 1082 664) ::
(nat_lit 671,zA2 u3 a 6 2 1118 419 2 666 1124) ::
(nat_lit 672,zF u4 a 6 2 (tp 73) 15 8 1082 671) ::
(nat_lit 678,zA2 u3 a 9 0 1127 422 5 673 1137) ::
(nat_lit 679,zF u4 a 9 0 (tp 74) 15 8 1082 678) ::
(nat_lit 683,zB2 u3 a 8 5 1140 426 4 680 1143) ::
(nat_lit 684,zF u4 a 8 5 (tp 75) 15 8 1082 683) ::
(nat_lit 690,zA2 u3 a 8 6 1146 428 4 685 1159) ::
(nat_lit 691,zF u4 a 8 6 (tp 76) 15 8 1082 690) ::
(nat_lit 697,zA2 u3 a 5 10 1162 438 3 692 1168) ::
(nat_lit 698,zF u4 a 5 10 (tp 77) 15 8 1082 697) ::
(nat_lit 704,zA2 u3 a 8 2 1171 440 4 699 1178) ::
(nat_lit 705,zF u4 a 8 2 (tp 78) 15 8 1082 704) ::
(nat_lit 711,zA2 u3 a 8 4 1181 444 3 706 1187) ::
(nat_lit 712,zF u4 a 8 4 (tp 79) 15 8 1082 711) ::
(nat_lit 718,zA2 u3 a 8 7 1190 446 5 713 1202) ::
(nat_lit 719,zF u4 a 8 7 (tp 80) 15 8 1082 718) ::
(nat_lit 723,zB2 u3 a 5 5 1205 454 4 720 1208) ::
(nat_lit 724,zF u4 a 5 5 (tp 81) 15 8 1082 723) ::
(nat_lit 730,zA2 u3 a 7 1 1211 466 2 725 1216) ::
(nat_lit 731,zF u4 a 7 1 (tp 82) 15 8 1082 730) ::
(nat_lit 737,zA2 u3 a 6 4 1219 468 2 732 1225) ::
(nat_lit 738,zF u4 a 6 4 (tp 83) 15 8 1082 737) ::
(nat_lit 744,zA2 u3 a 2 4 1228 474 2 739 1234) ::
(nat_lit 745,zF u4 a 2 4 (tp 84) 15 8 1082 744) ::
(nat_lit 749,zB2 u3 a 1 2 1237 481 3 746 1240) ::
(nat_lit 750,zF u4 a 1 2 (tp 85) 15 8 1082 749) ::
(nat_lit 754,zB2 u3 a 2 5 1243 486 1 751 1246) ::
(nat_lit 755,zF u4 a 2 5 (tp 86) 15 8 1082 754) ::
(nat_lit 761,zA2 u3 a 7 4 1249 488 2 756 1258) ::
(nat_lit 762,zF u4 a 7 4 (tp 87) 15 8 1082 761) ::
(nat_lit 768,zA2 u3 a 0 9 1261 502 2 763 1267) ::
(nat_lit 769,zF u4 a 0 9 (tp 88) 15 8 1082 768) ::
(nat_lit 775,zA2 u3 a 0 6 1270 518 2 770 1275) ::
(nat_lit 776,zF u4 a 0 6 (tp 89) 15 8 1082 775) ::
(nat_lit 782,zA2 u3 a 0 0 1278 527 3 777 1286) ::
(nat_lit 783,zF u4 a 0 0 (tp 90) 15 8 1082 782) ::
(nat_lit 787,zB2 u3 a 1 6 1289 542 1 784 1292) ::
(nat_lit 788,zF u4 a 1 6 (tp 91) 15 8 1082 787) ::
(nat_lit 792,zB2 u3 a 2 8 1295 552 1 789 1298) ::
(nat_lit 793,zF u4 a 2 8 (tp 92) 15 8 1082 792) ::
(nat_lit 799,zA2 u3 a 3 6 1301 562 3 794 1309) ::
(nat_lit 800,zF u4 a 3 6 (tp 93) 15 8 1082 799) ::
(nat_lit 804,zB2 u3 a 4 1 1312 568 3 801 1315) ::
(nat_lit 805,zF u4 a 4 1 (tp 94) 15 8 1082 804) ::
(nat_lit 809,zB2 u3 a 5 0 1318 587 4 806 1321) ::
(nat_lit 810,zF u4 a 5 0 (tp 95) 15 8 1082 809) ::
(nat_lit 816,zA2 u3 a 5 11 1324 595 1 811 1336) ::
(nat_lit 817,zF u4 a 5 11 (tp 96) 15 8 1082 816)::[]
noncomputable def KF:Qp->Qqq:=KG top Af b0 b1 b2 b3 b4 b5 b6 b7 b8 b9 b10 b11 b12 b13 b14 b15
noncomputable def KH(P:Qp):Qqq:=by refine'(?f:(x:Qqq)->KF P=x->Qqq) _ ?h; (case f=>exact λx _=>x); (case h=>conv=>lhs; whnf)
end K18
namespace PySem.W.Fast
open PySem K18
noncomputable def tw7423967309988569268:Program:=G tw4675450943074194884
theorem te7423967309988569268:PZW=tw7423967309988569268:=Eq.trans (b:=G Af) (by kernel_rfl) (congrArg G te4675450943074194884)
noncomputable def qzt(i:Y0):Stmt:=tw7423967309988569268.main.body.getD i (.Pass ⟨0,0,0,0⟩)
theorem qqn:top=qzt:=funext λi=>congrArg (λp:Program=>p.main.body.getD i (.Pass ⟨0,0,0,0⟩)) te7423967309988569268
noncomputable def qqp:Qp->Frag:=KG qzt tw4675450943074194884 tw16852970287598970920 tw13973152457900945531 tw11740836218279423376 tw8337689038740268980 tw11035279455267573770 tw4497734096285560523 tw4960308995327621894 tw7074594322076590159 tw10813392889432999387 tw7505543201888652182 tw16857130095176314670 tw15059011053551478282 tw2967825167745128867 tw1867398391673545796 tw13233640078148448942 tw16466645837833144233
theorem te4939981492008304348:KF=qqp:=congr (congr (congr (congr (congr (congr (congr (congr (congr (congr (congr (congr (congr (congr (congr (congr (congr (congrArg KG qqn) te4675450943074194884) te16852970287598970920) te13973152457900945531) te11740836218279423376) te8337689038740268980) te11035279455267573770) te4497734096285560523) te4960308995327621894) te7074594322076590159) te10813392889432999387) te7505543201888652182) te16857130095176314670) te15059011053551478282) te2967825167745128867) te1867398391673545796) te13233640078148448942) te16466645837833144233
end PySem.W.Fast
namespace K18
open PySem PySem.W PySem.Calls PyProof.Rows HD
noncomputable abbrev ads:L Y7:=[3,112,113,117,118,124,125,131,132,145,146,152,153,166,167,173,174,187,188,190,191,208,209,215,216,222,223,227,228,234,235,241,242,248,249,255,256,262,263,272,273,278,279,280,281,282,283,284,285,286,287,288,289,290,291,292,298,299,305,306,310,311,317,318,324,325,329,330,336,337,343,344,350,351,448,449,450,456,457,463,464,477,478,484,485,491,492,498,499,505,506,512,513,554,555,561,562,568,569,575,576,582,583,589,590,596,597,603,604,610,611,617,618,624,625,631,632,641,642,652,653,657,658,664,665,671,672,678,679,683,684,690,691,697,698,704,705,711,712,718,719,723,724,730,731,737,738,744,745,749,750,754,755,761,762,768,769,775,776,782,783,787,788,792,793,799,800,804,805,809,810,816,817]
noncomputable abbrev loose:L Y5:=["ASKS"]
noncomputable def vw(p:Program):Program:=view p [0,2,3,4,5,6,7,8,10,11,12,13,14,15,16,17,18,20,21,23,24,26,27,28,29,30,31,32,33,34,35,36,37,38,39,40,41,42,44,45,46,47,49,50,51,52,54,55,56,57,58,59,60,62,63,64,65,66,67,68,70,71,72,73,74,75,76,77,78,79,80,81,82,83,84,85,86,87,88,89,90,91,92,93,94,95,96]
noncomputable def Xt(q:Program)(s:Qz):Bool:=xlAt q [] s&&recOk (RowW.records (OpenRow.toRowW (OpenLaw.row RZW))) s
theorem pre:∀w:Qk,(λos=>topGo Q0 PZW w 11 an 12 ⟨Qc w.params,#[],boot_drawn,boot_toks,os⟩ (topStub PZW))=λos=>Y ((Sa w os).abs,⟨denote Q0 (cE PZW),cE PZW,p0,[topFrame p0]⟩):=by
 rw[Fast.te15667345088766844465,Fast.te14364793385576792824,Fast.te11892475500146522536,Fast.te7423967309988569268];exact λw=>by kernel_rfl
theorem blk:∀w:Qk,(λos=>segRun Q0 PZW w 11 an 1 1 (Sa w os).abs (blockOf (Zd PZW) (ev PZW) (cE PZW) p0 [topFrame p0]))=λos=>Y (Flow.next,(Sa w os).abs,cE PZW,p0):=by
 rw[Fast.te14374325043358763698,Fast.te14364793385576792824,Fast.te7423967309988569268];exact λw=>by kernel_rfl
noncomputable def GA(w:Qk):Prop:=(λos=>(Rn PZW 5549 w os).map λr=>(r.1,r.2.2.1,r.2.2.2,LA PZW (vw PZW) ads w r.2.1.abs))=λ_=>Y (Flow.next,cE PZW,⟨595,0,611,70⟩,Z,expectedOf (vw PZW),(KF w.params).map λp=>Y p.2)
theorem gAf:∀w:Qk,GA (w.withFollow "special-get-raises" Y6):=by
 unfold GA Rn LA;rw[Fast.te10110043849684766642,Fast.te14364793385576792824,Fast.te5923862056798008813,Fast.te7423967309988569268,Fast.te4939981492008304348];exact λw=>by kernel_rfl
theorem gAt:∀w:Qk,GA (w.withFollow "special-get-raises" Z):=by
 unfold GA Rn LA;rw[Fast.te10110043849684766642,Fast.te14364793385576792824,Fast.te5923862056798008813,Fast.te7423967309988569268,Fast.te4939981492008304348];exact λw=>by kernel_rfl
noncomputable def GB(w:Qk):Prop:=(λos=>(Rn PZW 5549 w os).map λr=>LB PZW (vw PZW) loose Xt r.2.1.abs)=λ_=>Y Z
theorem gBf:∀w:Qk,GB (w.withFollow "special-get-raises" Y6):=by
 unfold GB Rn LB;rw[Fast.te10110043849684766642,Fast.te14364793385576792824,Fast.te5923862056798008813,Fast.te7423967309988569268];exact λw=>by kernel_rfl
theorem gBt:∀w:Qk,GB (w.withFollow "special-get-raises" Z):=by
 unfold GB Rn LB;rw[Fast.te10110043849684766642,Fast.te14364793385576792824,Fast.te5923862056798008813,Fast.te7423967309988569268];exact λw=>by kernel_rfl
noncomputable def GC(w:Qk):Prop:=(λos=>(Rn PZW 5549 w os).map λr=>plainSeenE (vw PZW) (looseW (vw PZW) loose) r.2.1.abs)=λ_=>Y (plainGoodE (vw PZW) (looseW (vw PZW) loose))
theorem gCf:∀w:Qk,GC (w.withFollow "special-get-raises" Y6):=by
 unfold GC Rn ;rw[Fast.te10110043849684766642,Fast.te14364793385576792824,Fast.te7423967309988569268];exact λw=>by kernel_rfl
theorem gCt:∀w:Qk,GC (w.withFollow "special-get-raises" Z):=by
 unfold GC Rn ;rw[Fast.te10110043849684766642,Fast.te14364793385576792824,Fast.te7423967309988569268];exact λw=>by kernel_rfl
noncomputable def GD(w:Qk):Prop:=(λos=>(Rn PZW 5549 w os).map λr=>LD (vw PZW) loose r.2.1.abs)=λ_=>Y (bltViewBooted,Z,pinGoodD (drecsOf (vw PZW)),clsGoodW (vw PZW) loose)
theorem gDf:∀w:Qk,GD (w.withFollow "special-get-raises" Y6):=by
 unfold GD Rn LD;rw[Fast.te10110043849684766642,Fast.te14364793385576792824,Fast.te7423967309988569268];exact λw=>by kernel_rfl
theorem gDt:∀w:Qk,GD (w.withFollow "special-get-raises" Z):=by
 unfold GD Rn LD;rw[Fast.te10110043849684766642,Fast.te14364793385576792824,Fast.te7423967309988569268];exact λw=>by kernel_rfl
noncomputable def GE(w:Qk):Prop:=(λos=>(Rn PZW 5549 w os).map λr=>LG (vw PZW) loose r.2.1.abs)=λ_=>Y (wideGood (vw PZW),plainGoodD (vw PZW) loose)
theorem gEf:∀w:Qk,GE (w.withFollow "special-get-raises" Y6):=by
 unfold GE Rn LG;rw[Fast.te10110043849684766642,Fast.te14364793385576792824,Fast.te7423967309988569268];exact λw=>by kernel_rfl
theorem gEt:∀w:Qk,GE (w.withFollow "special-get-raises" Z):=by
 unfold GE Rn LG;rw[Fast.te10110043849684766642,Fast.te14364793385576792824,Fast.te7423967309988569268];exact λw=>by kernel_rfl
theorem left:LeftO PZW (vw PZW) loose (Xt (vw PZW)) (λs=>ads.map s.heap.get?) (λw=>(KF w.params).map λp=>Y p.2) 11222:=
 lo3 (boot_open (by kernel_rfl) (by decide) (λs=>by kernel_rfl)) (λw=>by kernel_rfl) pre blk (byRow2 "special-get-raises" gAf gAt) (byRow2 "special-get-raises" gBf gBt) (byRow2 "special-get-raises" gCf gCt) (byRow2 "special-get-raises" gDf gDt) (byRow2 "special-get-raises" gEf gEt) (by decide)
end K18
section
namespace L2
open PySem PySem.Spec PyProof.Rows
abbrev Key:=Sum B Y5
noncomputable def qb7:Key->Y8->Yb
 |.inl k,v=>Value.isInt k v
 |.inr x,v=>Value.isStrOf x v
noncomputable def keyH(w:Qk):Key->B
 |.inl k=>hashInt k
 |.inr x=>hashStr w x
def qzh:∀{k}{v},qb7 k v=Z->(∃i t,k=Sum.inl i/\v=Value.int i t)\/(∃x t,k=Sum.inr x/\v=Value.str x t)
 |.inl i,v,h=>by
  obtain⟨t,e⟩:=Value.isInt_shape h;exact .inl ⟨i,t,rfl,e⟩
 |.inr x,v,h=>by
  obtain⟨t,e⟩:=Value.isStrOf_shape h;exact .inr ⟨x,t,rfl,e⟩
def qd7(i)(t):qb7 (.inl i) (.int i t)=true:=by simp[qb7,Value.isInt]
def qd6(x)(t):qb7 (.inr x) (.str x t)=true:=by simp[qb7,Value.isStrOf]
def key_ll(a b):decide ((Sum.inl a:Key)=Sum.inl b)=(a==b):=by
 by_cases e:a=b
 ·subst e; simp
 ·have h:¬ (Sum.inl a:Key)=Sum.inl b:=λq=>e (Sum.inl.inj q);rw[Zu h];exact(beq_eq_false_iff_ne.mpr e).symm
def key_rr(a b):decide ((Sum.inr a:Key)=Sum.inr b)=decide (a=b):=by
 by_cases e:a=b
 ·subst e; simp
 ·have h:¬ (Sum.inr a:Key)=Sum.inr b:=λq=>e (Sum.inr.inj q);rw[Zu h,Zu e]
def key_lr(a)(b):decide ((Sum.inl a:Key)=Sum.inr b)=false:=Zu (λq=>nomatch q)
def key_rl(a)(b):decide ((Sum.inr a:Key)=Sum.inl b)=false:=Zu (λq=>nomatch q)
noncomputable def mixKind(prog:Program)(w:Qk):PySem.KeyKind prog w Key where
 is:=qb7
 hash:=keyH w
 inj:=λv a b ha hb=>by
  rcases qzh ha with⟨i,t,rfl,rfl⟩|⟨x,t,rfl,rfl⟩
  ·rcases qzh hb with⟨j,u,rfl,e⟩|⟨y,u,rfl,e⟩
   ·injection e with e1 _; rw[e1]
   ·exact nomatch e
  ·rcases qzh hb with⟨j,u,rfl,e⟩|⟨y,u,rfl,e⟩
   ·exact nomatch e
   ·injection e with e1 _; rw[e1]
 byValue:=λk v h=>by
  rcases qzh h with⟨i,t,rfl,rfl⟩|⟨x,t,rfl,rfl⟩<;>rfl
 pyHash:=λhv h=>by
  rcases qzh hv with⟨i,t,rfl,rfl⟩|⟨x,t,rfl,rfl⟩
  ·exact wpAny_pyHash_int h
  ·exact wpAny_pyHash_str h
 eqBool:=λhu hv h=>by
  rcases qzh hu with⟨i,t,rfl,rfl⟩|⟨x,t,rfl,rfl⟩
  ·rcases qzh hv with⟨j,u,rfl,rfl⟩|⟨y,u,rfl,rfl⟩
   ·rw[key_ll]at h; exact wpAny_eqBool_int h
   ·rw[key_lr]at h; exact SeqAt.EqAt.int_str i t y u _ _ _ _ h
  ·rcases qzh hv with⟨j,u,rfl,rfl⟩|⟨y,u,rfl,rfl⟩
   ·rw[key_rl]at h; exact SeqAt.EqAt.str_int x t j u _ _ _ _ h
   ·rw[key_rr]at h; exact wpAny_eqBool_str h
 «strs»:=λk x t v h=>by
  rcases qzh h with⟨i,u,rfl,e⟩|⟨y,u,rfl,e⟩
  ·exact nomatch e
  ·injection e with e1 _;subst e1;cases v<;>rfl
def qyh(prog)(w)(i)(t):(mixKind prog w).is (.inl i) (.int i t)=true:=qd7 i t
def qq8(prog)(w)(x)(t):(mixKind prog w).is (.inr x) (.str x t)=true:=qd6 x t
inductive V where
 |non|bl (b:Yb)|int (i:B)|str (x:Y5)|byt (b:Array UInt8)|flt (b:UInt64)|ref (a:Y7)|ty (n:String)
 deriving DecidableEq
noncomputable def RelV:V->Y8->Prop
 |.non,u=>u=Value.none
 |.bl b,u=>u=Value.bool b
 |.int i,u=>∃t,u=Value.int i t
 |.str x,u=>∃t,u=Value.str x t
 |.byt b,u=>∃t,u=Value.bytes b t
 |.flt b,u=>∃t,u=Value.float b t
 |.ref a,u=>u=Value.ref a
 |.ty n,u=>u=Value.type n
abbrev Vals:L V->L Y8->Prop:=Paired RelV
theorem Vals.length(r:Vals xs us):xs.length=us.length:=Paired.length r
theorem Vals.get:∀{xs:L V}{us:L Y8}{i:Y0}{x:V},Vals xs us->xs[i]?=Y x->∃u,us[i]?=Y u/\RelV x u
 |_,_,_,_,.nil,e=>by simp at e
 |_,_,0,_,.cons r _,e=>by simp at e; subst e; exact⟨_,rfl,r⟩
 |_,_,i+1,x,.cons _ t,e=>by
  obtain⟨u,h1,h2⟩:=Vals.get t (by simpa using e);exact⟨u,by simpa using h1,h2⟩
theorem Vals.set(r:RelV x u):∀{xs:L V}{us:L Y8}(i:Y0),Vals xs us->Vals (xs.set i x) (us.set i u)
 |_,_,_,.nil=>.nil
 |_,_,0,.cons _ t=>.cons r t
 |_,_,i+1,.cons q t=>.cons q (Vals.set r i t)
theorem Vals.append:∀{xs ys}{us ws},Vals xs us->Vals ys ws->Vals (xs++ys) (us++ws)
 |_,_,_,_,.nil,s=>s
 |_,_,_,_,.cons r t,s=>.cons r (Vals.append t s)
theorem Vals.take:∀{xs:L V}{us:L Y8}(n:Y0),Vals xs us->Vals (xs.take n) (us.take n)
 |_,_,0,_=>.nil
 |_,_,_+1,.nil=>.nil
 |_,_,n+1,.cons r t=>.cons r (Vals.take n t)
theorem Vals.drop:∀{xs:L V}{us:L Y8}(n:Y0),Vals xs us->Vals (xs.drop n) (us.drop n)
 |_,_,0,r=>r
 |_,_,_+1,.nil=>.nil
 |_,_,n+1,.cons _ t=>Vals.drop n t
noncomputable def RelO:Y3 V->Y3 Y8->Prop
 |some v,Y u=>RelV v u
 |none,J=>True
 |_,_=>False
def KV{κ:Type}:L (κ×V)->L (κ×Y8)->Prop:=Paired λ(p:κ×V) (q:κ×Y8)=>p.1=q.1/\RelV p.2 q.2
noncomputable def kV:Key->V
 |.inl i=>.int i
 |.inr x=>.str x
inductive HO where
 /-- a list -/
 |lst (xs:L V)
 /-- a tuple (never changes) -/
 |tup (xs:L V)
 /-- a dict whose keys are ints and texts; one whose keys are tuples of ints and texts (the empty one is both) -/
 |dK (kvs:L (Key×V))|dT (kvs:L (L Key×V))
 /-- a set of ints: its members,its size -/
 |set (S:B->Yb) (n:Y0)
 /-- an instance of the class at C,its dict at dx,its attributes -/
 |ins (C dx:Y7) (fs:L (Y5×V))
 /-- the dict of the instance at x -/
 |own (x:Y7)
 /-- the dict of an exception -/
 |xd (fs:L (Y5×V))
 /-- a bound method,f of x -/
 |met (f x:Y7)
 /-- a range object lo,lo+1,.. below hi -/
 |rng (lo hi:B)
 /-- a thing that is known to the object (the script; a dict while a loop walks it): read,never written while it is so -/
 |frz (o:Obj) (u:HO)
 /-- a code object's table -/
 |tbl (ps:Array Y8)
 /-- any other thing,by what is Z of its one object (a def of one's own: SetO a S n:=HO.ext λh=>..) -/
 |ext (φ:Heap->Prop)
abbrev Hp:=Y7->Y3 HO
noncomputable def upd(H:Hp)(a:Y7)(o:HO):Hp:=λb=>if b=a then Y o else H b
def qzy:upd H a o a=Y o:=by unfold upd; rw[Z2 rfl]
def qzx(h:b≠a):upd H a o b=H b:=by unfold upd; rw[Z1 h]
def qzs{H:Hp}(h:H a=Y o)(h':H b=Y u)(d:o≠u):a≠b:=by
 intro e; subst e; rw[h]at h'; exact d (Option.some.inj h')
def qzi{H:Hp}(h:H a=Y o)(h':H b=J):a≠b:=by
 intro e; subst e; rw[h]at h'; cases h'
section
variable (P:Program)(w:Qk)
noncomputable def ObjOk(H:Hp)(h:Heap)(a:Y7):HO->Prop
 |.lst xs=>xs.length<=sizeLine/\∃(its:L Y8) (n:Y0),Vals xs its/\h.get? a=Y { cls:=.type "list",data:=.seq its.toArray n }
 |.tup xs=>xs.length<=sizeLine/\∃its:L Y8,Vals xs its/\IsTup h a its.toArray
 |.dK kvs=>kvs.length<=sizeLine/\(a==Qh)=Y6/\∃vs,KV kvs vs/\h.DictOf (mixKind P w) a vs
 |.dT kvs=>kvs.length<=sizeLine/\(a==Qh)=Y6/\∃xs:L (L Key×Y7×Y8),
   Paired (λ(p:L Key×V) (q:L Key×Y7×Y8)=>p.1=q.1/\H q.2.1=Y (.tup (p.1.map kV))/\RelV p.2 q.2.2) kvs xs/\
   ∃o es ep,h.get? a=Y o/\o.ExactDict/\o.data=.dict es ep/\es.toList=xs.map (entryOfKey (tupleKind (mixKind P w)))/\(xs.map (·.1)).Nodup
 |.set S n=>h.SetOf (intKind P w) a S n
 |.ins C dx fs=>H dx=Y (.own a)/\fs.length<=1000/\dx≠a/\h.get? a=Y (PySem.W.instObj C dx)/\
   ∃mA,h.Ns1 dx mA/\(∀f,RelO (fs.lookup f) (mA f))/\PySem.Within mA (fs.map (·.1))
 |.own _=>∃o,h.get? a=Y o
 |.xd fs=>∃mA,h.Ns1 a mA/\∀f,RelO (fs.lookup f) (mA f)
 |.rng lo hi=>∃t u v,h.get? a=Y { cls:=.type "range",data:=.fields #[.int lo t,.int hi u,.int 1 v] }
 |.frz o u=>h.get? a=Y o/\ObjOk H h a u
 |.tbl ps=>h.get? a=Y { cls:=.none,data:=.fields ps }
 |.met f x=>h.get? a=Y (PySem.W.methodObj (.ref f) (.ref x))
 |.ext φ=>φ h/\(∃o,h.get? a=Y o)/\∀h1 h2:Heap,φ h1->(∀o,h1.get? a=Y o->h2.get? a=Y o)->φ h2
def HOk(H:Hp)(h:Heap):Prop:=∀a o,H a=Y o->ObjOk P w H h a o
end
section
theorem ObjOk.lt(x:ObjOk P w H h a o):a<h.objs.size:=by
 cases o with
 |lst xs=>obtain⟨_,_,_,_,e⟩:=x; exact Qqe e
 |tup xs=>obtain⟨_,_,_,p⟩:=x; exact p.lt
 |dK kvs=>obtain⟨_,_,_,_,o,_,_,e,_⟩:=x; exact Qqe e
 |dT kvs=>obtain⟨_,_,_,_,o,_,_,e,_⟩:=x; exact Qqe e
 |set S n=>obtain⟨o,_,_,_,e,_⟩:=x; exact Qqe e
 |ins C dx fs=>obtain⟨_,_,_,e,_⟩:=x; exact Qqe e
 |own y=>obtain⟨_,e⟩:=x; exact Qqe e
 |xd fs=>obtain⟨_,⟨_,_,_,e,_⟩,_⟩:=x; exact Qqe e
 |rng lo hi=>obtain⟨_,_,_,e⟩:=x; exact Qqe e
 |frz ob u=>obtain⟨e,_⟩:=x; exact Qqe e
 |tbl ps=>exact Qqe (x)
 |met f y=>exact Qqe (x)
 |ext b=>obtain⟨_,⟨_,e⟩,_⟩:=x; exact Qqe e
theorem Paired.mapP:∀{l₁}{c},Paired F l₁ c->(∀a b,F a b->G a b)->Paired G l₁ c
 |_,_,.nil,_=>.nil
 |_,_,.cons r t,f=>.cons (f _ _ r) (Paired.mapP t f)
def ObjOk.stay(x:ObjOk P w H h a o)(k:∀b u,(b=a\/H b=Y (.own a))->h.get? b=Y u->h'.get? b=Y u)
  (s:∀b,H b=Y (.own a)->H' b=Y (.own a)) (m:∀b xs,H b=Y (.tup xs)->H' b=Y (.tup xs)):ObjOk P w H' h' a o:=by
 induction o with
 |lst xs=>obtain⟨z,i,n,r,e⟩:=x; exact⟨z,i,n,r,k _ _ (.inl rfl) e⟩
 |tup xs=>obtain⟨z,i,r,ob,e,c⟩:=x; exact⟨z,i,r,ob,k _ _ (.inl rfl) e,c⟩
 |dK kvs=>obtain⟨z,y,vs,r,ob,es,g,e,c⟩:=x; exact⟨z,y,vs,r,ob,es,g,k _ _ (.inl rfl) e,c⟩
 |dT kvs=>
  obtain⟨z,y,xs,r,ob,es,g,e,c⟩:=x;exact⟨z,y,xs,Paired.mapP r λp q z=>⟨z.1,m _ _ z.2.1,z.2.2⟩,ob,es,g,k _ _ (.inl rfl) e,c⟩
 |set S n=>obtain⟨ob,es,g,t,e,c⟩:=x; exact⟨ob,es,g,t,k _ _ (.inl rfl) e,c⟩
 |ins C dx fs=>
  obtain⟨d,z,ne,e,mA,⟨j,es,g,A,c⟩,r⟩:=x;exact⟨s _ d,z,ne,k _ _ (.inl rfl) e,mA,⟨j,es,g,k _ _ (.inr d) A,c⟩,r⟩
 |own y=>obtain⟨ob,e⟩:=x; exact⟨ob,k _ _ (.inl rfl) e⟩
 |xd fs=>obtain⟨mA,⟨j,es,g,e,c⟩,r⟩:=x; exact⟨mA,⟨j,es,g,k _ _ (.inl rfl) e,c⟩,r⟩
 |rng lo hi=>obtain⟨t,u,v,e⟩:=x; exact⟨t,u,v,k _ _ (.inl rfl) e⟩
 |frz ob u l=>obtain⟨e,q⟩:=x; exact⟨k _ _ (.inl rfl) e,l q⟩
 |tbl ps=>
  have e:=x;exact k a _ (.inl rfl) e
 |met f y=>
  have e:=x;exact k a _ (.inl rfl) e
 |ext D=>obtain⟨p,⟨o,e⟩,st⟩:=x; exact⟨st _ _ p λo q=>k _ _ (.inl rfl) q,⟨o,k _ _ (.inl rfl) e⟩,st⟩
theorem HOk.lt(x:HOk P w H h)(e:H a=Y o):a<h.objs.size:=(x a o e).lt
def HOk.fresh(x:HOk P w H h)(e:h.objs.size<=a):H a=none:=by
 cases q:H a with
 |none=>rfl
 |some u=>exact absurd (Qq3 (x.lt q) e) (Qz7 _)
def HOk.kept(x:HOk P w H h)(k:∀b u,h.get? b=Y u->h'.get? b=Y u):HOk P w H h':=λa o e=>
 (x a o e).stay (λb u _ q=>k b u q) (λ_ q=>q) λ_ _ q=>q
def HOk.laid(x:HOk P w H h)(k:∀b u,h.get? b=Y u->h'.get? b=Y u)(d:h.objs.size<=a)(new:ObjOk P w (upd H a o) h' a o):HOk P w (upd H a o) h':=λb u e=>by
 have hn:=x.fresh d
 by_cases hb:b=a
 ·subst hb; rw[qzy]at e; cases e; exact new
 ·rw[qzx hb]at e;exact(x b u e).stay (λc v _ q=>k c v q) (λc q=>by rw[qzx (qzi q hn)]; exact q) λc xs q=>by rw[qzx (qzi q hn)]; exact q
end
def Rd(H:Hp)(a:Y7)(u:HO):Prop:=H a=Y u\/∃o,H a=Y (.frz o u)
def Rd.ok(r:Rd H a u)(x:HOk P w H h):ObjOk P w H h a u:=by
 rcases r with r|⟨o,r⟩
 ·exact x a u r
 ·obtain⟨_,q⟩:=x a _ r;exact q
noncomputable def Mut:Y3 HO->Prop
 |some (.lst _)=>True
 |some (.dK _)=>True
 |some (.dT _)=>True
 |some (.set _ _)=>True
 |some (.ins _ _ _)=>True
 |some (.ext _)=>True
 |_=>False
section
def HOk.write(ok:HOk P w H h)(g:Mut (H x))(l:e=x\/H e=Y (.own x))(k:∀b u,b≠e->h.get? b=Y u->h'.get? b=Y u)(i:∃u,h'.get? e=Y u)
  (new:ObjOk P w (upd H x o') h' x o'):HOk P w (upd H x o') h':=λb u q=>by
 have d:∀c y,H c=Y (.own y)->c≠x:=λc y r z=>by subst z; rw[r]at g; exact g
 have f:∀c xs,H c=Y (.tup xs)->c≠x:=λc xs r z=>by subst z; rw[r]at g; exact g
 by_cases hb:b=x
 ·subst hb; rw[qzy]at q; cases q; exact new
 ·rw[qzx hb]at q
  by_cases a:b=e
  ·have j:H b=Y (.own x):=by
    rcases l with z|z
    ·exact absurd (a.trans z) hb
    ·rw[a]; exact z
   rw[q]at j; cases j;obtain⟨v,hv⟩:=i;exact⟨v,by rw[a]; exact hv⟩
  ·refine(ok b u q).stay (λc v hc r=>k c v ?_ r) (λc r=>by rw[qzx (d c b r)]; exact r) λc xs r=>by rw[qzx (f c xs r)]; exact r
   rcases hc with rfl|hc
   ·exact a
   ·rintro rfl;rcases l with z|z
    ·exact d c b hc z
    ·rw[hc]at z; cases z; exact hb rfl
end
structure Un (fs ex:L Y7) (H H':Hp) (h h':Heap):Prop where
 keep:∀b o,h.get? b=Y o->H b=J->b ∉ fs->b ∉ ex->h'.get? b=Y o
 slot:∀b o,h.get? b=Y o->H b=J->b∈fs->b ∉ ex->∃sl,h'.get? b=Y { o with slots:=sl }
 free:∀b o,h.get? b=Y o->H b=J->b ∉ ex->H' b=J
 there:∀b o,h.get? b=Y o->b ∉ ex->∃o',h'.get? b=Y o'
 tups:∀b xs,H b=Y (.tup xs)->H' b=Y (.tup xs)
 frzs:∀b o u,H b=Y (.frz o u)->H' b=Y (.frz o u)
 tbls:∀b ps,H b=Y (.tbl ps)->∃more,H' b=Y (.tbl (ps++more))
section
def Un.any(u:Un fs ex H H1 h h1)(q:h.get? b=Y ob)(n:H b=J)(c:b ∉ ex):∃sl,h1.get? b=Y { ob with slots:=sl }:=by
 by_cases hb:b∈fs
 ·exact u.slot b ob q n hb c
 ·exact⟨ob.slots,u.keep b ob q n hb c⟩
def Un.kept(k:∀b u,h.get? b=Y u->h'.get? b=Y u):Un fs ex H H h h':=
 ⟨λb ob q _ _ _=>k b ob q,λb ob q _ _ _=>⟨ob.slots,k b ob q⟩,λ_ _ _ n _=>n,λb ob q _=>⟨ob,k b ob q⟩,λ_ _ q=>q,λ_ _ _ q=>q,λ_ ps q=>⟨#[],by rw[q]; simp⟩⟩
def Un.refl:Un fs ex H H h h:=Un.kept λ_ _ q=>q
def Un.laid(k:∀b u,h.get? b=Y u->h'.get? b=Y u)(d:h.objs.size<=a)(c:H a=J):Un fs ex H (upd H a o) h h' where
 keep:=λb u q _ _ _=>k b u q
 slot:=λb u q _ _ _=>⟨u.slots,k b u q⟩
 free:=λb u q n _=>by rw[qzx (Qq4 (Qq3 (Qqe q) d))]; exact n
 there:=λb u q _=>⟨u,k b u q⟩
 tups:=λb xs q=>by rw[qzx (qzi q c)]; exact q
 frzs:=λb u xs q=>by rw[qzx (qzi q c)]; exact q
 tbls:=λb ps q=>⟨#[],by rw[qzx (qzi q c),q]; simp⟩
def Un.write(d:Mut (H x))(j:e=x\/H e=Y (.own x))(k:∀b u,b≠e->h.get? b=Y u->h'.get? b=Y u)(g:∃u,h'.get? e=Y u):Un fs ex H (upd H x o) h h':=by
 have i:∀b,H b=J->b≠x:=λb n z=>by subst z; rw[n]at d; exact d
 have hb:∀b,H b=J->b≠e:=λb n z=>by
  subst z;rcases j with r|r
  ·exact i b n r
  ·rw[n]at r; cases r
 have f:∀b u,H b=Y u->¬ Mut (Y u)->b≠x:=λb u q nm z=>by subst z; rw[q]at d; exact nm d
 refine⟨λb u q n _ _=>k b u (hb b n) q,λb u q n _ _=>⟨u.slots,k b u (hb b n) q⟩,λb u q n _=>by rw[qzx (i b n)]; exact n,λb u q _=>?_,
  λb xs q=>by rw[qzx (f b _ q λz=>z)]; exact q,λb u xs q=>by rw[qzx (f b _ q λz=>z)]; exact q,λb ps q=>⟨#[],by rw[qzx (f b _ q λz=>z),q]; simp⟩⟩
 by_cases c:b=e
 ·subst c; exact g
 ·exact⟨u,k b u c q⟩
end
noncomputable def trk(h:Heap)(H:Hp):L Y7:=(List.range h.objs.size).filter λa=>(H a).isSome
noncomputable def hidT(h:Heap)(H:Hp):Heap:=PySem.W.hideAll h (trk h H)
def qew(h)(H):(hidT h H).objs.size=h.objs.size:=PySem.W.hideAll_size _ _
def qg8(e:h.get? b=Y o)(n:H b=J):(hidT h H).get? b=Y o:=
 PySem.W.hideAll_get _ e λa=>by
  have q:=(Qzt.mp a).2;rw[n]at q; simp at q
def qma(e:(hidT h H).get? b=Y o):h.get? b=Y o/\H b=none:=by
 have a:=PySem.W.of_hideAll (trk h H) e;refine⟨a,?_⟩
 cases q:H b with
 |none=>rfl
 |some x=>
  have c:b∈trk h H:=Qzt.mpr ⟨Qzr.mpr (Qqe a),by simp[q]⟩;have z:(hidT h H).get? b=none:=PySem.W.hideAll_none (trk h H) c;rw[z]at e; cases e
structure Mod (K:Qqq) (mg:Y5->Y3 Y8) (base:Heap):Prop where
 kin:K.In base
 glob:base.Ns mainGlobals mg
 blt:∃mb,base.Ns builtinsNs mb/\∀x:Y5,x ≠ "__name__"->mb x=Qa x
 nolimit:base.NoLimit
structure Cx where
 prog:Program
 w:Qk
 K:Qqq
 mg:Y5->Y3 Y8
 base:Heap
 A:Qv
 N:L Y5
 s₀:Qz
 H₀:Hp
 env:Env
 outer:L Env
 stack:L Env
 ex:L Y7
 fn:Y5->Yb
 calm:Yb
 pn:L (Y7×Obj)
 xe:Y8->Qz->Prop
noncomputable def frs(l:L Env):L Y7:=l.filterMap (·.frame)
noncomputable abbrev Cx.fs(X:Cx):L Y7:=frs X.outer
def Vis(sc:Scope)(x:Y5):Prop:=sc.names.lookup x=Y .local\/sc.names.lookup x=Y .cell\/sc.names.lookup x=Y .free
def Loc(sc:Scope)(x:Y5):Prop:=sc.names.lookup x=Y .local\/sc.names.lookup x=Y .cell
def Look(env:Env)(h:Heap)(m:Y5->Y3 Y8)(x:Y5)(u:Y8):Prop:=
 (env.kindOf x=Y .local/\m x=Y u)\/((env.kindOf x=Y .cell\/env.kindOf x=Y .free)/\∃c,env.cells.lookup x=Y c/\h.IsCell c (Y u))
structure Cx.Ok (X:Cx):Prop where
 mod:Mod X.K X.mg X.base
 kind:X.env.scope.kind=.function
 glob:X.env.globals=mainGlobals
 blt:X.env.builtins=builtinsNs
 above:X.s₀.heap.objs.size<=X.env.locals
 inj:∀x y c,X.env.cells.lookup x=Y c->X.env.cells.lookup y=Y c->x=y
 has:∀x,(X.env.kindOf x=Y .cell\/X.env.kindOf x=Y .free)->∃c,X.env.cells.lookup x=Y c
 cab:∀x c,X.fn x=Z->X.env.cells.lookup x=Y c->X.s₀.heap.objs.size<=c
 hd:X.calm=Z->X.A.handled=J
 frames:X.A.frames=Y X.stack
 stk:X.stack=X.outer\/(X.stack=X.env::X.outer/\X.env.frame=Y X.env.locals)
 exf:∀b∈X.ex,b≠X.env.locals/\∀x c,X.env.cells.lookup x=Y c->c≠b
 bs:∀b o,X.base.get? b=Y o->X.s₀.heap.get? b=Y o/\X.H₀ b=J
 bsz:X.base.objs.size<=X.s₀.heap.objs.size
 noex:∀b o,X.base.get? b=Y o->b ∉ X.ex
 exfs:∀b∈X.ex,b ∉ X.fs
 funs:X.s₀.heap.FunFrames X.base X.outer
 frf:∀b∈X.fs,X.H₀ b=J
structure Inv (X:Cx) (pins:L (Y7×Obj)) (σ:L (Y3 V)) (H:Hp) (s:Qz):Prop where
 ok:X.Ok
 os:s.os=X.s₀.os
 bare:Zf s.gens
 base:Un X.fs X.ex X.H₀ H X.s₀.heap s.heap
 loc:∃m,s.heap.Ns X.env.locals m/\∀(i:Y0) (x:Y5) (v:V),X.N[i]?=Y x->σ[i]?=Y (Y v)->Vis X.env.scope x->∃u,RelV v u/\Look X.env s.heap m x u
 cell:∀x c,X.env.cells.lookup x=Y c->∃v,s.heap.IsCell c v
 free:H X.env.locals=J
 freeC:∀x c,X.env.cells.lookup x=Y c->H c=J
 pin:∀p∈X.pn++pins,s.heap.get? p.1=Y p.2/\H p.1=J/\p.1≠X.env.locals/\p.1 ∉ X.fs/\∀v,p.2.data≠.cell v
 hok:HOk X.prog X.w H s.heap
 len:σ.length=X.N.length
section
variable {X:Cx}
def Cx.Ok.nofr(ok:X.Ok)(e:X.base.get? b=Y o):b ∉ X.fs:=λhb=>by
 have:=(ok.funs.mem hb).1;rw[e]at this; cases this
theorem Inv.bs(I:Inv X pins σ H s):∀b o,X.base.get? b=Y o->s.heap.get? b=Y o/\H b=none:=λb o e=>
 ⟨I.base.keep b o (I.ok.bs b o e).1 (I.ok.bs b o e).2 (I.ok.nofr e) (I.ok.noex b o e),I.base.free b o (I.ok.bs b o e).1 (I.ok.bs b o e).2 (I.ok.noex b o e)⟩
def Inv.bk(I:Inv X pins σ H s):∀b o,X.base.get? b=Y o->s.heap.get? b=Y o:=λb o e=>(I.bs b o e).1
theorem Inv.mod(I:Inv X pins σ H s):Mod X.K X.mg X.base:=I.ok.mod
def Inv.kIn(I:Inv X pins σ H s):X.K.In s.heap:=I.ok.mod.kin.keeps I.bk
theorem Inv.lt(I:Inv X pins σ H s):X.env.locals<s.heap.objs.size:=let ⟨_,hn,_⟩:=I.loc; hn.lt
def Inv.sz(I:Inv X pins σ H s):X.s₀.heap.objs.size<=s.heap.objs.size:=Qzm I.ok.above (Qx9 I.lt)
def Inv.nofs(I:Inv X pins σ H s)(h:s.heap.objs.size<=a):a ∉ X.fs:=λhb=>by
 obtain⟨_,o,b,_⟩:=I.ok.funs.mem hb;exact absurd (Qq3 (Qqe b) (Qzm I.sz h)) (Qz7 _)
def Inv.cne(I:Inv X pins σ H s):∀x c,X.env.cells.lookup x=Y c->c≠X.env.locals:=λx c e z=>by
 obtain⟨v,o,d,hd⟩:=I.cell x c e;obtain⟨m,⟨o',es,f,a,b,_⟩,_⟩:=I.loc;rw[z,a]at d; cases d; rw[b]at hd; cases hd
theorem Inv.funs(I:Inv X pins σ H s):s.heap.FunFrames X.base X.outer:=by
 have all:∀(l:L Env),(∀b∈frs l,b∈X.fs)->X.s₀.heap.FunFrames X.base l->s.heap.FunFrames X.base l:=by
  intro l
  induction l with
  |nil=>intro _ _; trivial
  |cons env r d=>
   intro hs g;obtain⟨hk,⟨a,o,hf,hn,f,hd⟩,hr⟩:=g;have c:=hs a (by unfold frs; rw[Qxw,hf]; exact Qq9);obtain⟨sl,e⟩:=I.base.slot a o f (I.ok.frf a c) c λz=>I.ok.exfs a z c;exact⟨hk,⟨a,_,hf,hn,e,hd⟩,d (λb hb=>hs b (by unfold frs; rw[Qxw,hf]; exact Qqu _ hb)) hr⟩
 exact all X.outer (λ_ hb=>hb) I.ok.funs
theorem Inv.stack(I:Inv X pins σ H s):s.heap.FunFrames X.base X.stack:=by
 rcases I.ok.stk with e|⟨e,hf⟩
 ·rw[e]; exact I.funs
 ·rw[e];obtain⟨m,hn,_⟩:=I.loc;refine .cons (by rw[I.ok.kind]; decide) hf hn ?_ I.funs;exact Heap.get?_none_of_le (Qzm I.ok.bsz I.ok.above)
def Inv.stkSub(I:Inv X pins σ H s):∀b∈frs X.stack,b∈X.env.locals::X.fs:=λb hb=>by
 rcases I.ok.stk with e|⟨e,hf⟩
 ·rw[e]at hb; exact Qqu _ hb
 ·rw[e]at hb;unfold frs at hb;rw[Qxw,hf]at hb;exact hb
def Inv.stkFree(I:Inv X pins σ H s):∀b∈frs X.stack,H b=none:=λb hb=>by
 rcases Qqy.mp (I.stkSub b hb) with e|hb
 ·rw[e]; exact I.free
 ·obtain⟨_,o,a,_⟩:=I.ok.funs.mem hb;exact I.base.free b o a (I.ok.frf b hb) λz=>I.ok.exfs b z hb
def Inv.step{ch:L Y7}(I:Inv X pins σ H s)(g:∀b∈ch,(b∈X.ex\/X.s₀.heap.objs.size<=b)/\b≠X.env.locals/\(∀x c,X.env.cells.lookup x=Y c->c≠b)/\∀p∈X.pn++pins,p.1≠b)(keep:∀b o,b≠X.env.locals->b ∉ X.fs->b ∉ ch->s.heap.get? b=Y o->H b=J->h'.get? b=Y o)(slot:∀b o,b≠X.env.locals->b∈X.fs->b ∉ ch->s.heap.get? b=Y o->H b=J->∃sl,h'.get? b=Y { o with slots:=sl })(free:∀b o,b ∉ ch->s.heap.get? b=Y o->H b=J->H' b=J)(there:∀b o,b ∉ ch->s.heap.get? b=Y o->∃o',h'.get? b=Y o')(tups:∀b xs,H b=Y (.tup xs)->H' b=Y (.tup xs))(frzs:∀b o u,H b=Y (.frz o u)->H' b=Y (.frz o u))(tbls:∀b ps,H b=Y (.tbl ps)->∃more,H' b=Y (.tbl (ps++more)))(ns:∀m,s.heap.Ns X.env.locals m->h'.Ns X.env.locals m)(hok:HOk X.prog X.w H' h')(G:Zf g'):
  Inv X pins σ H' { s with heap:=h',gens:=g',drawn:=d',toks:=t' }:=by
 have y:∀b o,X.s₀.heap.get? b=Y o->b≠X.env.locals:=λb o e=>Qq4 (Qq3 (Qqe e) I.ok.above);have j:∀b o,X.s₀.heap.get? b=Y o->b ∉ X.ex->b ∉ ch:=λb o e a hb=>by
  rcases (g b hb).1 with z|z
  ·exact a z
  ·exact absurd (Qq3 (Qqe e) z) (Qz7 _)
 have h:∀x c,X.env.cells.lookup x=Y c->∀v,s.heap.IsCell c v->h'.IsCell c v:=λx c e v ⟨o,w,hd⟩=>by
  have f:=λz=>(g c z).2.2.1 x c e rfl
  by_cases hc:c∈X.fs
  ·obtain⟨sl,q⟩:=slot c o (I.cne x c e) hc f w (I.freeC x c e);exact⟨_,q,hd⟩
  ·exact⟨o,keep c o (I.cne x c e) hc f w (I.freeC x c e),hd⟩
 refine⟨I.ok,I.os,G,⟨λb o e n hb a=>?_,λb o e n hb a=>?_,λb o e n a=>?_,λb o e a=>?_,λb xs e=>tups b xs (I.base.tups b xs e),λb o xs e=>frzs b o xs (I.base.frzs b o xs e),λb ps e=>?_⟩,?_,λx c e=>?_,?_,λx c e=>?_,λp E=>?_,hok,I.len⟩
 ·exact keep b o (y b o e) hb (j b o e a) (I.base.keep b o e n hb a) (I.base.free b o e n a)
 ·obtain⟨sl,t⟩:=I.base.slot b o e n hb a;obtain⟨C,A⟩:=slot b _ (y b o e) hb (j b o e a) t (I.base.free b o e n a);exact⟨C,A⟩
 ·obtain⟨o',t⟩:=I.base.there b o e a;exact free b o' (j b o e a) t (I.base.free b o e n a)
 ·obtain⟨o',t⟩:=I.base.there b o e a;exact there b o' (j b o e a) t
 ·obtain⟨m1,t⟩:=I.base.tbls b ps e;obtain⟨m2,A⟩:=tbls b _ t;exact⟨m1++m2,by rw[A,Array.append_assoc]⟩
 ·obtain⟨m,hn,F⟩:=I.loc;refine⟨m,ns m hn,λi x v t A K=>?_⟩;obtain⟨u,r,l⟩:=F i x v t A K;refine⟨u,r,?_⟩;rcases l with l|⟨k,c,e,z⟩
  ·exact .inl l
  ·exact .inr ⟨k,c,e,h x c e _ z⟩
 ·obtain⟨v,z⟩:=I.cell x c e;exact⟨v,h x c e v z⟩
 ·obtain⟨m,⟨o,_,_,w,_⟩,_⟩:=I.loc;exact free _ o (λz=>(g _ z).2.1 rfl) w I.free
 ·obtain⟨v,o,w,hd⟩:=I.cell x c e;exact free c o (λz=>(g c z).2.2.1 x c e rfl) w (I.freeC x c e)
 ·obtain⟨e,n,ne,D,d⟩:=I.pin p E;have f:=λz=>(g p.1 z).2.2.2 p E rfl;exact⟨keep p.1 p.2 ne D f e n,free p.1 p.2 f e n,ne,D,d⟩
def Inv.un(I:Inv X pins σ H s)(u:Un X.fs [] H H' s.heap h')(hok:HOk X.prog X.w H' h'):Inv X pins σ H' { s with heap:=h',toks:=t' }:=by
 obtain⟨m,⟨o,es,i,f,r⟩,_⟩:=id I.loc;obtain⟨sl,h⟩:=u.any f I.free (by simp)
 exact I.step (ch:=[]) (λ_ z=>nomatch z) (λb o _ hb _ e n=>u.keep b o e n hb (by simp)) (λb o _ hb _ e n=>u.slot b o e n hb (by simp)) (λb o _ e n=>u.free b o e n (by simp)) (λb o _ e=>u.there b o e (by simp)) u.tups u.frzs u.tbls (λm' g=>by
  obtain⟨o',c,d,a,r'⟩:=g;rw[f]at a; cases a
  exact⟨_,c,d,h,r'⟩) hok I.bare
def Inv.call(I:Inv X pins σ H s)(u:Un (frs X.stack) ch H H' s.heap h')(hok:HOk X.prog X.w H' h')(k:Zf g')(d:∀b∈ch,(b∈X.ex\/X.s₀.heap.objs.size<=b)/\b≠X.env.locals/\(∀x c,X.env.cells.lookup x=Y c->c≠b)/\∀p∈X.pn++pins,p.1≠b):
  Inv X pins σ H' { s with heap:=h',gens:=g',drawn:=d',toks:=t' }:=by
 obtain⟨m,⟨o,es,l,i,r⟩,_⟩:=id I.loc;obtain⟨sl,f⟩:=u.any i I.free λz=>(d _ z).2.1 rfl
 exact I.step d (λb o f hb hc e n=>u.keep b o e n (λz=>(Qqy.mp (I.stkSub b z)).elim f hb) hc) (λb o _ _ hc e n=>u.any e n hc) (λb o hc e n=>u.free b o e n hc) (λb o hc e=>u.there b o e hc) u.tups u.frzs u.tbls (λm' j=>by
  obtain⟨o',g,h,a,r'⟩:=j;rw[i]at a; cases a
  exact⟨_,g,h,f,r'⟩) hok k
def Inv.turned(I:Inv X pins σ H s)(k:∀b o,b≠it->s.heap.get? b=Y o->h'.get? b=Y o)(g:H it=J)(d:it≠X.env.locals)(l:it∈X.ex\/X.s₀.heap.objs.size<=it)(j:∀x c,X.env.cells.lookup x=Y c->c≠it)(i:∀p∈X.pn++pins,p.1≠it):Inv X pins σ H { s with heap:=h',toks:=t' }:=by
 have a:∀b u,H b=Y u->b≠it:=λb u e z=>by rw[z,g]at e; cases e
 refine I.step (ch:=[it]) (λb hb=>?_) (λb o _ _ hc e _=>k b o (λz=>hc (by simp[z])) e) (λb o _ _ hc e _=>⟨o.slots,k b o (λz=>hc (by simp[z])) e⟩) (λ_ _ _ _ n=>n)
  (λb o hc e=>⟨o,k b o (λz=>hc (by simp[z])) e⟩) (λ_ _ e=>e) (λ_ _ _ e=>e) (λb ps e=>⟨#[],by rw[e]; simp⟩) (λm h=>?_) (λb u e=>?_) I.bare
 ·have e:b=it:=by simpa using hb
  subst e;exact⟨l,d,j,i⟩
 ·obtain⟨o,es,t,f,r⟩:=h;exact⟨o,es,t,k _ o (Ne.symm d) f,r⟩
 ·refine(I.hok b u e).stay (λc v hc q=>k c v ?_ q) (λ_ q=>q) λ_ _ q=>q;rcases hc with z|z
  ·rw[z]; exact a b u e
  ·exact a c _ z
def Inv.tok(I:Inv X pins σ H s)(t):Inv X pins σ H { s with toks:=t }:=I.un Un.refl I.hok
theorem Inv.kept(I:Inv X pins σ H s)(k:∀b u,s.heap.get? b=Y u->h'.get? b=Y u):Inv X pins σ H { s with heap:=h',toks:=t' }:=I.un (Un.kept k) (I.hok.kept k)
theorem Inv.laid(I:Inv X pins σ H s)(k:∀b u,s.heap.get? b=Y u->h'.get? b=Y u)(c:s.heap.objs.size<=a)(new:ObjOk X.prog X.w (upd H a o) h' a o):
  Inv X pins σ (upd H a o) { s with heap:=h',toks:=t' }:=I.un (Un.laid k c (I.hok.fresh c)) (I.hok.laid k c new)
theorem Inv.write(I:Inv X pins σ H s)(c:Mut (H x))(d:e=x\/H e=Y (.own x))(k:∀b u,b≠e->s.heap.get? b=Y u->h'.get? b=Y u)(a:∃u,h'.get? e=Y u)(new:ObjOk X.prog X.w (upd H x o) h' x o):Inv X pins σ (upd H x o) { s with heap:=h',toks:=t' }:=I.un (Un.write c d k a) (I.hok.write c d k a new)
def Inv.pins_of(I:Inv X pins σ H s)(h:∀p∈a,s.heap.get? p.1=Y p.2/\H p.1=J/\p.1≠X.env.locals/\p.1 ∉ X.fs/\∀v,p.2.data≠.cell v):Inv X a σ H s:=
 ⟨I.ok,I.os,I.bare,I.base,I.loc,I.cell,I.free,I.freeC,λp b=>(Qqs.mp b).elim (λz=>I.pin p (Qq5 _ z)) (h p),I.hok,I.len⟩
def qah{N:L Y5}(c:N.Nodup){i:Y0}(a:N[i]?=Y x)(b:N[j]?=Y x):i=j:=by
 obtain⟨h1,e⟩:=Qqj.mp a;obtain⟨h2,d⟩:=Qqj.mp b;exact(List.getElem_inj c).mp (e.trans d.symm)
def qvr(I:Inv X pins σ H s)(hN:X.N.Nodup)(hi:X.N[i]?=Y x)(g:Loc X.env.scope x)(r:RelV v u)(h:∀s',Inv X pins (σ.set i (Y v)) H s'->(∃a,Heap.SameBut a s.heap s'.heap/\(a=X.env.locals\/X.env.cells.lookup x=Y a))->Q () s')(hf:X.fn x=Z\/X.env.scope.names.lookup x=Y .local):wpAny M A (storeName X.env x u) Q E s:=by
 obtain⟨m,hn,hl⟩:=id I.loc;have G:(X.env.scope.kind==.class||(X.env.scope.kind==.module&&X.env.locals != X.env.globals))=false:=by rw[I.ok.kind]; rfl
 have w:i<σ.length:=by rw[I.len]; exact(Qqj.mp hi).1
 have cne:=I.cne;have tracked:∀{a:Y7}{h':Heap},(∃o,s.heap.get? a=Y o/\H a=J)->Heap.SameBut a s.heap h'->HOk X.prog X.w H h':=λ{a h'} ha hs b ob e=>by
  obtain⟨_,_,l⟩:=ha;refine(I.hok b ob e).stay (λc P hc q=>(hs.2 c ?_).trans q) (λ_ q=>q) λ_ _ q=>q;rintro rfl;rcases hc with rfl|hc
  ·rw[l]at e; cases e
  ·rw[l]at hc; cases hc
 rcases g with hk|hk
 ·refine wpAny_storeName_local hk hn (λh' a1 hs=>?_) G;obtain⟨oL,_,_,a0,_⟩:=id hn;refine h _ ⟨I.ok,I.os,I.bare,⟨λb o e n hb g=>?_,λb o e n hb g=>?_,I.base.free,λb o e g=>?_,I.base.tups,I.base.frzs,I.base.tbls⟩,⟨_,a1,λj y S f t e3=>?_⟩,λy c e=>?_,I.free,I.freeC,λp W=>?_,tracked ⟨oL,a0,I.free⟩ hs,by simpa using I.len⟩ ⟨_,hs,.inl rfl⟩
  ·exact(hs.2 b (Qq4 (Qq3 (Qqe e) I.ok.above))).trans (I.base.keep b o e n hb g)
  ·obtain⟨sl,f⟩:=I.base.slot b o e n hb g;exact⟨sl,(hs.2 b (Qq4 (Qq3 (Qqe e) I.ok.above))).trans f⟩
  ·obtain⟨o',f⟩:=I.base.there b o e g;exact⟨o',(hs.2 b (Qq4 (Qq3 (Qqe e) I.ok.above))).trans f⟩
  ·by_cases hj:j=i
   ·subst hj;rw[hi]at f; cases f;rw[Qq2 w]at t;cases t;exact⟨u,r,.inl ⟨hk,by simp⟩⟩
   ·rw[Qqa (Ne.symm hj)]at t;obtain⟨T,r',q⟩:=hl j y S f t e3;refine⟨T,r',?_⟩;rcases q with⟨k,e⟩|⟨k,c,e,z⟩
    ·refine .inl ⟨k,?_⟩;have:y≠x:=λe=>hj (qah hN f (e▸hi));simp[this,e]
    ·exact .inr ⟨k,c,e,z.sameBut hs (cne y c e)⟩
  ·obtain⟨P,z⟩:=I.cell y c e;exact⟨P,z.sameBut hs (cne y c e)⟩
  ·obtain⟨e,n,ne,U,d⟩:=I.pin p W;exact⟨(hs.2 p.1 ne).trans e,n,ne,U,d⟩
 ·have C:X.fn x=true:=by
   rcases hf with z|z
   ·exact z
   ·rw[z]at hk; cases hk
  obtain⟨c,hc⟩:=I.ok.has x (.inl hk);obtain⟨P,z⟩:=I.cell x c hc;refine wpAny_storeName_cell I.ok.kind hk hc z (λh' N hs=>?_);obtain⟨oc,F,D⟩:=id z;refine h { s with heap:=h' } ⟨I.ok,I.os,I.bare,⟨λb o e n hb g=>?_,λb o e n hb g=>?_,I.base.free,λb o e g=>?_,I.base.tups,I.base.frzs,I.base.tbls⟩,⟨m,hn.sameBut hs (Ne.symm (cne x c hc)),λj y S f t e3=>?_⟩,λy R e=>?_,I.free,I.freeC,λp W=>?_,tracked ⟨oc,F,I.freeC x c hc⟩ hs,by simpa using I.len⟩ ⟨c,hs,.inr hc⟩
  ·exact(hs.2 b (Qq4 (Qq3 (Qqe e) (I.ok.cab x c C hc)))).trans (I.base.keep b o e n hb g)
  ·obtain⟨sl,f⟩:=I.base.slot b o e n hb g;exact⟨sl,(hs.2 b (Qq4 (Qq3 (Qqe e) (I.ok.cab x c C hc)))).trans f⟩
  ·obtain⟨o',f⟩:=I.base.there b o e g;exact⟨o',(hs.2 b (Qq4 (Qq3 (Qqe e) (I.ok.cab x c C hc)))).trans f⟩
  ·by_cases hj:j=i
   ·subst hj;rw[hi]at f; cases f;rw[Qq2 w]at t;cases t;exact⟨u,r,.inr ⟨.inl hk,c,hc,N⟩⟩
   ·rw[Qqa (Ne.symm hj)]at t;obtain⟨T,r',q⟩:=hl j y S f t e3;refine⟨T,r',?_⟩;rcases q with q|⟨k,R,e,z'⟩
    ·exact .inl q
    ·refine .inr ⟨k,R,e,z'.sameBut hs ?_⟩;rintro rfl;exact hj (qah hN f (I.ok.inj _ _ _ e hc▸hi))
  ·by_cases K:R=c
   ·subst K; exact⟨_,N⟩
   ·obtain⟨w2,z2⟩:=I.cell y R e;exact⟨w2,z2.sameBut hs K⟩
  ·obtain⟨e,n,ne,U,d⟩:=I.pin p W;refine⟨(hs.2 p.1 ?_).trans e,n,ne,U,d⟩;intro q;rw[q,F]at e;have q':=Option.some.inj e;exact d P (by rw[<- q']; exact D)
def qax(I:Inv X pins σ H s)(b:X.N.Nodup)(hi:X.N[i]?=Y x)(a:Loc X.env.scope x)(r:RelV v u)(h:∀s',Inv X pins (σ.set i (Y v)) H s'->Q () s')(hf:X.fn x=Z\/X.env.scope.names.lookup x=Y .local):wpAny M A (storeName X.env x u) Q E s:=
 qvr I b hi a r (λs' c _=>h s' c) hf
def Inv.call'(I:Inv X pins σ H s)(f:s'.os=s.os)(u:Un (frs X.stack) ch H H' s.heap s'.heap)(hok:HOk X.prog X.w H' s'.heap)(g:Zf s'.gens)(a:∀b∈ch,(b∈X.ex\/X.s₀.heap.objs.size<=b)/\b≠X.env.locals/\(∀x c,X.env.cells.lookup x=Y c->c≠b)/\∀p∈X.pn++pins,p.1≠b):Inv X pins σ H' s':=by
 obtain⟨h',h,d',d,o'⟩:=s';have e:=f;subst e;exact I.call u hok g a
end
abbrev XK:=Y8->Y3 Y7->Hp->Prop
abbrev St:=L (Y3 V)
abbrev VK:=V->Hp->Prop
abbrev TE:=St->Hp->VK->Prop
abbrev TT:=St->Hp->(Yb->Hp->Prop)->Prop
abbrev TA:=St->Hp->(L V->Hp->Prop)->Prop
structure Ends where
 nx:St->Hp->Prop
 rt:VK
 bk:St->Hp->Prop:=λ_ _=>False
 ct:St->Hp->Prop:=λ_ _=>False
abbrev TS:=Ends->St->Hp->Prop
def EP(X:Cx)(pins:L (Y7×Obj))(σ:St)(Q:VK)(u:Y8)(s':Qz):Prop:=∃v H',Inv X pins σ H' s'/\RelV v u/\Q v H'
def TP(X:Cx)(pins:L (Y7×Obj))(σ:St)(Q:Yb->Hp->Prop)(b:Yb)(s':Qz):Prop:=∃H',Inv X pins σ H' s'/\Q b H'
def AP(X:Cx)(pins:L (Y7×Obj))(σ:St)(Q:L V->Hp->Prop)(us:L Y8)(s':Qz):Prop:=∃vs H',Inv X pins σ H' s'/\Vals vs us/\Q vs H'
def SP(X:Cx)(pins:L (Y7×Obj))(D:Ends)(f:Flow)(s':Qz):Prop:=
 match f with
 |.next=>∃σ' H',Inv X pins σ' H' s'/\D.nx σ' H'
 |.brk=>∃σ' H',Inv X pins σ' H' s'/\D.bk σ' H'
 |.cont=>∃σ' H',Inv X pins σ' H' s'/\D.ct σ' H'
 |.ret u=>∃v σ' H',Inv X pins σ' H' s'/\RelV v u/\D.rt v H'
def PE(X:Cx)(e:Qx)(t:TE):Prop:=
 ∀(pins:L (Y7×Obj)) (s:Qz) (σ:St) (H:Hp) (Q:VK),Inv X pins σ H s->t σ H Q->wpAny (model X.prog X.w) X.A (Qy e X.env) (EP X pins σ Q) X.xe s
def PT(X:Cx)(e:Qx)(t:TT):Prop:=
 ∀(pins:L (Y7×Obj)) (s:Qz) (σ:St) (H:Hp) (Q:Yb->Hp->Prop),Inv X pins σ H s->t σ H Q->wpAny (model X.prog X.w) X.A (isTrue e X.env (Qy e X.env)) (TP X pins σ Q) X.xe s
def PW(X:Cx)(e:Qx)(t:TT):Prop:=
 ∀(whole:Sem Y8) (pins:L (Y7×Obj)) (s:Qz) (σ:St) (H:Hp) (Q:Yb->Hp->Prop),Inv X pins σ H s->t σ H Q->wpAny (model X.prog X.w) X.A (isTrue e X.env whole) (TP X pins σ Q) X.xe s
def PW.pt(h:PW X e t):PT X e t:=h _
def PA(X:Cx)(es:L Qx)(t:TA):Prop:=
 ∀(pos:Pos) (pins:L (Y7×Obj)) (s:Qz) (σ:St) (H:Hp) (Q:L V->Hp->Prop),Inv X pins σ H s->t σ H Q->wpAny (model X.prog X.w) X.A (spliced (backTo pos (starEach es X.env))) (AP X pins σ Q) X.xe s
def PS(X:Cx)(st:Stmt)(t:TS):Prop:=
 ∀(pins:L (Y7×Obj)) (s:Qz) (σ:St) (H:Hp) (D:Ends),Inv X pins σ H s->t D σ H->wpAny (model X.prog X.w) X.A (exec st X.env) (SP X pins D) X.xe s
def PSs(X:Cx)(st:L Stmt)(t:TS):Prop:=
 ∀(pins:L (Y7×Obj)) (s:Qz) (σ:St) (H:Hp) (D:Ends),Inv X pins σ H s->t D σ H->wpAny (model X.prog X.w) X.A (execs st X.env) (SP X pins D) X.xe s
def thn{t:Sem α}{Q b:α->Qz->Prop}(h:wpAny M A t Q E s)(c:∀a s,Q a s->b a s):wpAny M A t b E s:=Qe h c λ_ _ x=>x
section
def bin(o:PE X a j)(hb:PE X b tb){R:V->V->Hp->Prop}(I:Inv X c d H s)(h:j d H λx H1=>tb d H1 λy H2=>R x y H2){Q:α->Qz->Prop}{f:Y8->Y8->Sem α}(hf:∀v u i x y H2,Inv X c d H2 i->RelV x v->RelV y u->R x y H2->wpAny (model X.prog X.w) X.A (f v u) Q X.xe i):
  wpAny (model X.prog X.w) X.A (Qy a X.env) (λv g=>wpAny (model X.prog X.w) X.A (Qy b X.env) (λu e=>wpAny (model X.prog X.w) X.A (f v u) Q X.xe e) X.xe g) X.xe s:=by
 refine thn (o c s d H _ I h) λv k ⟨x,H1,q,r1,n⟩=>?_;refine thn (hb c k d H1 _ q n) λu i ⟨y,H2,p,l,m⟩=>?_;exact hf v u i x y H2 p r1 l m
noncomputable def tVar(i:Y0):TE:=λσ H Q=>∃v,σ[i]?=Y (Y v)/\Q v H
noncomputable def tC(v:V):TE:=λ_ H Q=>Q v H
def pe_var(j:X.N[i]?=Y x)(hv:Vis X.env.scope x)(hd:(x==("__debug__" : Y5))=false:=by decide)(d:(x==("__classdict__" : Y5))=false:=by decide):PE X (.Name x pos) (tVar i):=by
 intro pins s σ H Q I h;obtain⟨v,e,h⟩:=h;obtain⟨m,hn,g⟩:=I.loc;obtain⟨u,r,l⟩:=g i x v j e hv;have b:EP X pins σ Q u s:=⟨v,H,I,r,h⟩
 rcases l with⟨hk,f⟩|⟨hk,c,hc,a⟩
 ·exact wpAny_Name (wpAny_loadName_local I.ok.kind hk hn f b) hd
 ·rcases hk with hk|hk
  ·exact wpAny_Name (wpAny_loadName_cell I.ok.kind hk hc a b) hd
  ·exact wpAny_Name (wpAny_loadName_free I.ok.kind hk hc a b d) hd
def pe_int{i j pos}:PE X (.Constant (.int i) j pos) (tC (.int i)):=λ_ _ _ H _ I h=>wpAny_Constant_int ⟨.int i,H,I.tok _,⟨_,rfl⟩,h⟩
def pe_bl{b j pos}:PE X (.Constant (.bool b) j pos) (tC (.bl b)):=λ_ _ _ H _ I h=>Constant_bool ⟨.bl b,H,I,rfl,h⟩
def pe_non{j pos}:PE X (.Constant .none j pos) (tC .non):=λ_ _ _ H _ I h=>Constant_none ⟨.non,H,I,rfl,h⟩
def pe_str{x j pos}:PE X (.Constant (.str x) j pos) (tC (.str x)):=λ_ _ _ H _ I h=>Calls.Constant_str ⟨.str x,H,I.tok _,⟨_,rfl⟩,h⟩
def Gl(X:Cx)(x:Y5):Prop:=X.env.kindOf x=Y .globalImplicit
def qym(I:Inv X a b H s)(d:Gl X x)(c:X.mg x=Y u)(h:Q u s)(hd:(x==("__debug__" : Y5))=false:=by decide):wpAny (model X.prog X.w) X.A (Qy (.Name x pos) X.env) Q E s:=
 Calls.Name_function_global I.ok.kind d (Calls.loadGlobal_global (by rw[I.ok.glob]; exact I.mod.glob.keeps I.bk) c h) hd
def qwe(I:Inv X a b H s)(e:Gl X x)(d:X.mg x=J)(hv:Qa x=Y u)(h:Q u s)(c:x ≠ "__name__":=by decide)(hd:(x==("__debug__" : Y5))=false:=by decide):wpAny (model X.prog X.w) X.A (Qy (.Name x pos) X.env) Q E s:=by
 obtain⟨f,h1,h2⟩:=I.mod.blt;exact Calls.Name_function_global I.ok.kind e (Calls.loadGlobal_builtin (by rw[I.ok.glob]; exact I.mod.glob.keeps I.bk) d (by rw[I.ok.blt]; exact h1.keeps I.bk) ((h2 x c).trans hv) h) hd
def qyf(b:Gl X x)(a:X.mg x=Y u)(r:RelV v u)(hd:(x==("__debug__" : Y5))=false:=by decide):PE X (.Name x pos) (tC v):=
 λ_ _ _ H _ I h=>qym I b a ⟨v,H,I,r,h⟩ hd
def qjs(c:Gl X x)(b:X.mg x=J)(hv:Qa x=Y u)(r:RelV v u)(a:x ≠ "__name__":=by decide)(hd:(x==("__debug__" : Y5))=false:=by decide):PE X (.Name x pos) (tC v):=
 λ_ _ _ H _ I h=>qwe I c b hv ⟨v,H,I,r,h⟩ a hd
def PC(X:Cx)(op:CmpOp)(a b:Qx)(t:TE):Prop:=
 ∀(pins:L (Y7×Obj)) (s:Qz) (σ:St) (H:Hp) (Q:VK),Inv X pins σ H s->t σ H Q->
  wpAny (model X.prog X.w) X.A (Qy a X.env) (λv s₁=>wpAny (model X.prog X.w) X.A (Qy b X.env) (λu s₂=>wpAny (model X.prog X.w) X.A (Qd op v u) (EP X pins σ Q) X.xe s₂) X.xe s₁) X.xe s
noncomputable def tB(t:TE):TT:=λσ H Q=>t σ H λx H1=>∃c,x=.bl c/\Q c H1
def qh8(h:PC X c a b t)(e:Zc c b=Y6):PE X (.Compare a [c] [b] pos) t:=λpins s σ H Q I d=>wpAny_Compare1 (h pins s σ H Q I d) e
def qh2(h:PC X e a b t)(f:Zc e b=Y6):PT X (.Compare a [e] [b] pos) (tB t):=by
 intro pins s σ H Q I i;refine wpAny_isTrue_Compare1 (thn (h pins s σ H _ I i) λv m f=>thn f λu l h2=>thn h2 λc k ⟨x,H1,j,r1,g⟩=>?_) f;obtain⟨d,rfl,q⟩:=g;cases r1;exact Qb ⟨H1,j,q⟩
noncomputable def tAnd(t u:TT):TT:=λσ H Q=>t σ H λc H1=>if c=Z then u σ H1 Q else Q Y6 H1
noncomputable def tOr(t u:TT):TT:=λσ H Q=>t σ H λc H1=>if c=Z then Q Z H1 else u σ H1 Q
noncomputable def tNot(t:TT):TT:=λσ H Q=>t σ H λc H1=>Q (!c) H1
def qlf(d:PT X a tA):PW X (.BoolOp .And [a] pos) tA:=by
 intro f pins s σ H Q I h;refine isTrue_and (thn (d pins s σ H Q I h) λc g e=>?_)
 cases c with
 |true=>exact isTrue_and_nil e
 |false=>exact e
def pw_or1(d:PT X a tA):PW X (.BoolOp .Or [a] pos) tA:=by
 intro f pins s σ H Q I h;refine isTrue_or (thn (d pins s σ H Q I h) λc g e=>?_)
 cases c with
 |false=>exact isTrue_or_nil e
 |true=>exact e
def pw_and(i:PT X a tA)(hb:PW X (.BoolOp .And (b::rest) pos) tB'):PW X (.BoolOp .And (a::b::rest) pos) (tAnd tA tB'):=by
 intro f pins s σ H Q I h;refine isTrue_and (thn (i pins s σ H _ I h) λc g ⟨H1,e,d⟩=>?_)
 cases c with
 |true=>exact hb f pins g σ H1 Q e d
 |false=>exact⟨H1,e,d⟩
def pw_or(i:PT X a tA)(hb:PW X (.BoolOp .Or (b::rest) pos) tB'):PW X (.BoolOp .Or (a::b::rest) pos) (tOr tA tB'):=by
 intro f pins s σ H Q I h;refine isTrue_or (thn (i pins s σ H _ I h) λc g ⟨H1,e,d⟩=>?_)
 cases c with
 |true=>exact⟨H1,e,d⟩
 |false=>exact hb f pins g σ H1 Q e d
def pt_not(d:PT X a tA):PT X (.UnaryOp .Not a pos) (tNot tA):=by
 intro pins s σ H Q I h;exact isTrue_not (d pins s σ H (λc H1=>Q (!c) H1) I h)
noncomputable def tAndV(ta tb:TE):TE:=λσ H Q=>ta σ H λx H1=>∃c,x=.bl c/\if c=Z then tb σ H1 Q else Q (.bl Y6) H1
noncomputable def tOrV(ta tb:TE):TE:=λσ H Q=>ta σ H λx H1=>∃c,x=.bl c/\if c=Z then Q (.bl Z) H1 else tb σ H1 Q
noncomputable def tNotV(ta:TE):TE:=λσ H Q=>ta σ H λx H1=>∃c,x=.bl c/\Q (.bl (!c)) H1
def qh7{op}(h:PE X a t):PE X (.BoolOp op [a] pos) t:=λpins s σ H Q I c=>BoolOp_one (h pins s σ H Q I c)
def pe_and(g:PE X a ta)(hb:PE X (.BoolOp .And (b::rest) pos) tb):PE X (.BoolOp .And (a::b::rest) pos) (tAndV ta tb):=by
 intro pins s σ H Q I h;refine BoolOp_and (thn (g pins s σ H _ I h) λv f ⟨x,H1,e,r1,d⟩=>?_);obtain⟨c,rfl,d⟩:=d;cases r1;refine Qb ?_
 cases c with
 |true=>exact hb pins f σ H1 Q e d
 |false=>exact⟨.bl Y6,H1,e,rfl,d⟩
def pe_or(g:PE X a ta)(hb:PE X (.BoolOp .Or (b::rest) pos) tb):PE X (.BoolOp .Or (a::b::rest) pos) (tOrV ta tb):=by
 intro pins s σ H Q I h;refine BoolOp_or (thn (g pins s σ H _ I h) λv f ⟨x,H1,e,r1,d⟩=>?_);obtain⟨c,rfl,d⟩:=d;cases r1;refine Qb ?_
 cases c with
 |false=>exact hb pins f σ H1 Q e d
 |true=>exact⟨.bl Z,H1,e,rfl,d⟩
def pe_not(e:PE X a ta):PE X (.UnaryOp .Not a pos) (tNotV ta):=by
 intro pins s σ H Q I h;refine UnaryOp_ (thn (e pins s σ H _ I h) λv g ⟨x,H1,f,r1,d⟩=>?_);obtain⟨c,rfl,d⟩:=d;cases r1;exact not_of (Qb ⟨.bl (!c),H1,f,rfl,d⟩)
end
def SqL(K:Qqq)(H:Hp)(a:Y7)(xs:L V):Prop:=
 Rd H a (.lst xs)\/
  ∃(o:Obj) (its:Array Y8) (n:Y0),K.lookup a=Y o/\o.cls=.type "list"/\o.dict=J/\o.data=.seq its n/\its.size<=sizeLine/\Vals xs its.toList
def SqT(K:Qqq)(H:Hp)(a:Y7)(xs:L V):Prop:=
 Rd H a (.tup xs)\/
  ∃(o:Obj) (its:Array Y8) (n:Y0),K.lookup a=Y o/\o.cls=.type "tuple"/\o.data=.seq its n/\its.size<=sizeLine/\Vals xs its.toList
noncomputable def absV:Y8->Y3 V
 |.none=>Y .non
 |.bool b=>Y (.bl b)
 |.int i _=>Y (.int i)
 |.str x _=>Y (.str x)
 |.bytes b _=>Y (.byt b)
 |.float b _=>Y (.flt b)
 |.ref a=>Y (.ref a)
 |.type n=>Y (.ty n)
 |_=>J
def RelV.abs(r:RelV x u):absV u=Y x:=by
 cases x with
 |non=>cases r; rfl
 |bl _=>cases r; rfl
 |int _=>obtain⟨t,rfl⟩:=r; rfl
 |str _=>obtain⟨t,rfl⟩:=r; rfl
 |byt _=>obtain⟨t,rfl⟩:=r; rfl
 |flt _=>obtain⟨t,rfl⟩:=r; rfl
 |ref _=>cases r; rfl
 |ty _=>cases r; rfl
theorem RelV.inj(r:RelV x u)(q:RelV y u):x=y:=Option.some.inj (r.abs.symm.trans q.abs)
theorem Vals.inj:∀{xs ys}{us},Vals xs us->Vals ys us->xs=ys
 |_,_,_,.nil,.nil=>rfl
 |_,_,_,.cons r t,.cons r' t'=>by rw[r.inj r',Vals.inj t t']
section
def SqL.of{K:Qqq}(h:H a=Y (.lst xs)):SqL K H a xs:=.inl (.inl h)
def SqT.of{K:Qqq}(h:H a=Y (.tup xs)):SqT K H a xs:=.inl (.inl h)
def Inv.list(I:Inv X pins σ H s)(h:SqL X.K H a xs):∃b:L Y8,Vals xs b/\PlainL s.heap a b.toArray/\xs.length<=sizeLine:=by
 rcases h with h|⟨o,b,n,hk,hc,hd,hs,hz,r⟩
 ·obtain⟨z,b,n,r,e⟩:=h.ok I.hok;exact⟨b,r,⟨_,n,e,rfl,rfl,rfl⟩,z⟩
 ·refine⟨b.toList,r,⟨o,n,I.kIn a o hk,hc,hd,by simpa using hs⟩,?_⟩;have e:=r.length;simp only[Qzh]at e;omega
def Inv.tuple(I:Inv X pins σ H s)(h:SqT X.K H a xs):∃b:L Y8,Vals xs b/\IsTup s.heap a b.toArray/\xs.length<=sizeLine:=by
 rcases h with h|⟨o,b,n,hk,hc,hs,hz,r⟩
 ·obtain⟨z,b,r,p⟩:=h.ok I.hok;exact⟨b,r,p,z⟩
 ·refine⟨b.toList,r,⟨o,I.kIn a o hk,hc,n,by simpa using hs⟩,?_⟩;have e:=r.length;simp only[Qzh]at e;omega
def Inv.list_inj(I:Inv X pins σ H s)(h:SqL X.K H a xs)(h':SqL X.K H a ys):xs=ys:=by
 obtain⟨b,r,⟨o,n,e,_,_,d⟩,_⟩:=I.list h;obtain⟨its',r',⟨o',g,c,_,_,d'⟩,_⟩:=I.list h';rw[e]at c; cases c;rw[d]at d';injection d' with f _;have:b=its':=by simpa using congrArg Array.toList f
 subst this;exact r.inj r'
def Inv.tuple_inj(I:Inv X pins σ H s)(h:SqT X.K H a xs)(h':SqT X.K H a ys):xs=ys:=by
 obtain⟨b,r,⟨o,e,_,n,d⟩,_⟩:=I.tuple h;obtain⟨its',r',⟨o',c,_,g,d'⟩,_⟩:=I.tuple h';rw[e]at c; cases c;rw[d]at d';injection d' with f _;have:b=its':=by simpa using congrArg Array.toList f
 subst this;exact r.inj r'
end
noncomputable abbrev Cx.wish(X:Cx)(E:Y8->Qz->Prop):Cx:={ X with xe:=E }
noncomputable abbrev Cx.nox(X:Cx):Cx:=X.wish λ_ _=>False
theorem Cx.Ok.wish{X:Cx}(ok:X.Ok)(E:Y8->Qz->Prop):(X.wish E).Ok:=
 ⟨ok.mod,ok.kind,ok.glob,ok.blt,ok.above,ok.inj,ok.has,ok.cab,ok.hd,ok.frames,ok.stk,ok.exf,ok.bs,ok.bsz,ok.noex,ok.exfs,ok.funs,ok.frf⟩
def Cx.Ok.unwish{X:Cx}(ok:(X.wish E).Ok):X.Ok:=
 ⟨ok.mod,ok.kind,ok.glob,ok.blt,ok.above,ok.inj,ok.has,ok.cab,ok.hd,ok.frames,ok.stk,ok.exf,ok.bs,ok.bsz,ok.noex,ok.exfs,ok.funs,ok.frf⟩
section
theorem Inv.wish(I:Inv X pins σ H s)(E:Y8->Qz->Prop):Inv (X.wish E) pins σ H s:=⟨I.ok.wish E,I.os,I.bare,I.base,I.loc,I.cell,I.free,I.freeC,I.pin,I.hok,I.len⟩
theorem Inv.unwish(I:Inv (X.wish E) pins σ H s):Inv X pins σ H s:=⟨I.ok.unwish,I.os,I.bare,I.base,I.loc,I.cell,I.free,I.freeC,I.pin,I.hok,I.len⟩
theorem SP.unwish(h:SP (X.wish E) pins D f s'):SP X pins D f s':=by
 cases f with
 |next=>obtain⟨a,H',I,q⟩:=h; exact⟨a,H',I.unwish,q⟩
 |brk=>obtain⟨a,H',I,q⟩:=h; exact⟨a,H',I.unwish,q⟩
 |cont=>obtain⟨a,H',I,q⟩:=h; exact⟨a,H',I.unwish,q⟩
 |ret u=>obtain⟨v,a,H',I,r,q⟩:=h; exact⟨v,a,H',I.unwish,r,q⟩
theorem PSs.nox{st:L Stmt}(h:PSs X.nox st t):PSs X st t:=λpins s σ H D I a=>
 Qe (h pins s σ H D (I.wish _) a) (λ_ _ q=>q.unwish) λ_ _ z=>False.elim z
end
section
variable {X:Cx}{st:Stmt}{rest:L Stmt}{t u:TS}
noncomputable def tNext:TS:=λD σ H=>D.nx σ H
noncomputable def tSeq(t u:TS):TS:=λD σ H=>t { D with nx:=u D } σ H
def pss_nil:PSs X [] tNext:=λ_ _ σ H _ I h=>wpAny_execs_nil ⟨σ,H,I,h⟩
def qad(d:PS X st t)(c:PSs X rest u):PSs X (st::rest) (tSeq t u):=by
 intro pins s σ H D I h;refine wpAny_execs_cons (thn (d pins s σ H { D with nx:=u D } I h) λf b q=>?_)
 cases f with
 |next=>
  obtain⟨a,H',g,q⟩:=q;exact c pins b a H' D g q
 |ret v=>exact q
 |brk=>exact q
 |cont=>exact q
def Inv.quiet(I:Inv X a b H s):interactive X.env=false:=by simp[interactive,I.ok.kind]
def ps_doc{x j pos pos'}:PS X (.Expr (.Constant (.str x) j pos) pos') tNext:=λ_ s σ H _ I h=>wpAny_Expr (Calls.Constant_str (show SP X _ _ .next { s with toks:=s.toks+1 } from⟨σ,H,I.tok _,h⟩)) I.quiet
noncomputable def tDrop(te:TE):TS:=λD σ H=>te σ H λ_ H1=>D.nx σ H1
def qll(b:PE X e te)(hs:swapsWith e J pos.line X.env=pure Y6):PS X (.Expr e pos) (tDrop te):=by
 intro pins s σ H D I h;exact wpAny_Expr_any (thn (b pins s σ H _ I h) λv d ⟨x,H1,c,r1,a⟩=>⟨σ,H1,c,a⟩) I.quiet hs
noncomputable def tRet(te:TE):TS:=λD σ H=>te σ H D.rt
def ps_ret(b:PE X e te):PS X (.Return (Y e) pos) (tRet te):=by
 intro pins s σ H D I h;exact wpAny_Return_some (thn (b pins s σ H _ I h) λv d ⟨x,H1,c,r1,a⟩=>⟨x,σ,H1,c,r1,a⟩)
noncomputable def tIfS(c:TT)(t u:TS):TS:=λD σ H=>c σ H λb H1=>if b=Z then t D σ H1 else u D σ H1
def ps_if(hc:PT X c f)(k:PSs X a t)(hb:PSs X b u):PS X (.If c a b pos) (tIfS f t u):=by
 intro pins s σ H D I h;refine wpAny_If (thn (hc pins s σ H _ I h) λd g ⟨H1,j,i⟩=>?_)
 cases d with
 |true=>exact k pins g σ H1 D j i
 |false=>exact hb pins g σ H1 D j i
end
abbrev TG:=V->St->Hp->(St->Hp->Prop)->Prop
abbrev TGs:=L V->St->Hp->(St->Hp->Prop)->Prop
def PG(X:Cx)(target:Qx)(t:TG):Prop:=
 ∀(pins:L (Y7×Obj)) (s:Qz) (σ:St) (H:Hp) (v:V) (u:Y8) (Q:St->Hp->Prop),Inv X pins σ H s->RelV v u->t v σ H Q->
  wpAny (model X.prog X.w) X.A (assign target X.env u) (λ_ s'=>∃σ' H',Inv X pins σ' H' s'/\Q σ' H') X.xe s
def PGs(X:Cx)(ts:L Qx)(t:TGs):Prop:=
 ∀(pins:L (Y7×Obj)) (s:Qz) (σ:St) (H:Hp) (vs:L V) (us:L Y8) (Q:St->Hp->Prop),Inv X pins σ H s->Vals vs us->t vs σ H Q->
  wpAny (model X.prog X.w) X.A (assignInOrder ((Qt ts X.env).map (·.2)) us) (λ_ s'=>∃σ' H',Inv X pins σ' H' s'/\Q σ' H') X.xe s
abbrev TSet:=V->V->V->Hp->(Hp->Prop)->Prop
def PSet(X:Cx)(t:TSet):Prop:=
 ∀(pins:L (Y7×Obj)) (s:Qz) (σ:St) (H:Hp) (o i v:V) (ov iv u:Y8) (Q:Hp->Prop),Inv X pins σ H s->RelV o ov->RelV i iv->RelV v u->t o i v H Q->
  wpAny (model X.prog X.w) X.A (setItem ov iv u) (λ_ s'=>∃H',Inv X pins σ H' s'/\Q H') X.xe s
section
noncomputable def qys(i:Y0):TG:=λv σ H Q=>Q (σ.set i (Y v)) H
def qdc(b:X.N.Nodup)(hi:X.N[i]?=Y x)(a:Loc X.env.scope x)(hf:X.fn x=Z\/X.env.scope.names.lookup x=Y .local):PG X (.Name x pos) (qys i):=by
 intro pins s σ H v u Q I r h;exact wpAny_assign_Name (qax I b hi a r (λs' c=>⟨_,H,c,h⟩) hf)
noncomputable def gNil:TGs:=λvs σ H Q=>vs=[]/\Q σ H
noncomputable def gCons(t:TG)(u:TGs):TGs:=λvs σ H Q=>∃v r,vs=v::r/\t v σ H λσ' H'=>u r σ' H' Q
def qls:PGs X [] gNil:=by
 intro pins s σ H vs a Q I r h;obtain⟨e,h⟩:=h;subst e;cases r;exact assignInOrder_nil ⟨σ,H,I,h⟩
def qgb(g:PG X e t)(f:PGs X es u)(hs:(Qt (e::es) X.env).map (·.2)=assign e X.env::(Qt es X.env).map (·.2):=by rfl):PGs X (e::es) (gCons t u):=by
 intro pins s σ H vs l Q I r h;obtain⟨v,k,i,h⟩:=h;subst i
 cases r with
 |cons r c=>
  rw[hs];refine assignInOrder_cons (thn (g pins s σ H _ _ _ I r h) λ_ b ⟨a,H1,j,d⟩=>?_);exact f pins b a H1 _ _ Q j c d
noncomputable def gTup(K:Qqq)(n:Y0)(t:TGs):TG:=λv σ H Q=>∃a xs,v=.ref a/\SqT K H a xs/\xs.length=n/\t xs σ H Q
def pg_tup(hc:X.calm=Z)(h:PGs X es t)(m:(Qt es X.env).length=n:=by rfl)(d:(Qt es X.env).findIdx? (·.1)=none:=by rfl):PG X (.Tuple es k pos) (gTup X.K n t):=by
 intro pins s σ H v u Q I r c;obtain⟨a,xs,q,l,p,c⟩:=c;subst q;cases r;obtain⟨g,f,j,hz⟩:=I.tuple l;refine assign_Tuple_tuple (I.ok.hd hc) j (by simp[m,<- p,f.length]) d λh' i=>?_;have w:=I.kept (t':=s.toks) λb o e=>i b o (Qq4 (Qqe e)) e;exact h pins _ σ H xs _ Q w (by simpa using f) c
noncomputable def gSub(to ti:TE)(t:TSet):TG:=λv σ H Q=>to σ H λo H1=>ti σ H1 λi H2=>t o i v H2 λH3=>Q σ H3
def pg_sub(m:PE X o c)(hi:PE X i d)(hs:PSet X t)(n:∀v,assign (.Subscript o i pos) X.env v=(do
   let a <- Q4 [v] (Qy o X.env)
   let b <- Q4 [v,a] (Qy i X.env)
   Zg pos
   Q4 [v,a,b] (setItem a b v)
   release [v,a,b] []):=by intro _; rfl):PG X (.Subscript o i pos) (gSub c d t):=by
 intro pins s σ H v u Q I r h;rw[n];refine Qq (Qn (thn (m pins s σ H _ I h) λa f ⟨x,H1,w,r1,l⟩=>?_));refine Qq (Qn (thn (hi pins f σ H1 _ w l) λb e ⟨y,H2,q,g,k⟩=>?_));refine Qq (wpAny_standAt (Qq (Qn (thn (hs pins e σ H2 x y v a b u _ q r1 g r k) λ_ A ⟨z,p,j⟩=>?_))));exact wpAny_release ⟨σ,z,p,j⟩
noncomputable def tAsg(te:TE)(g:TG):TS:=λD σ H=>te σ H λx H1=>g x σ H1 D.nx
def qh5(j:PE X e b)(i:PG X a g)(hs:swapsWithSole [a] e pos.line X.env=pure false:=by rfl)(f:swappedStores [a] e X.env=pure none:=by rfl)(k:(Qt [a] X.env).map (·.2)=[assign a X.env]:=by rfl):PS X (.Assign [a] e pos) (tAsg b g):=by
 intro pins s σ H D I h;refine wpAny_Assign_stores (thn (j pins s σ H _ I h) λv c ⟨x,H1,l,r1,d⟩=>?_) hs f;rw[k];exact thn (i pins c σ H1 x v _ l r1 d) λ_ m q=>q
def qh3(g:X.N.Nodup)(hi:X.N[i]?=Y x)(d:Loc X.env.scope x)(f:PE X e b)(hs:swapsWith e (Y (.Name x a)) pos.line X.env=pure false:=by rfl)(hf:X.fn x=Z\/X.env.scope.names.lookup x=Y .local):
  PS X (.Assign [.Name x a] e pos) (tAsg b (qys i)):=by
 intro pins s σ H D I h;refine wpAny_Assign_Name (thn (f pins s σ H _ I h) λv m ⟨y,H1,k,r1,c⟩=>?_) hs;exact qax k g hi d r1 (λl j=>⟨_,H1,j,c⟩) hf
end
section
end
structure It where
 go:Y0->Hp->Prop
 yld:Y0->Hp->V->Hp->Prop
 stop:Y0->Hp->Prop
def FpOk(X:Cx)(pins:L (Y7×Obj))(H:Hp)(b:Y7):Prop:=
 H b=J/\b≠X.env.locals/\b ∉ X.fs/\(b∈X.ex\/X.s₀.heap.objs.size<=b)/\(∀x c,X.env.cells.lookup x=Y c->c≠b)/\∀p∈X.pn++pins,p.1≠b
def Inv.fpOk(I:Inv X a d H s)(hb:s.heap.objs.size<=b)(g:H' b=J):FpOk X a H' b:=by
 refine⟨g,Qxn (Qq3 I.lt hb),I.nofs hb,.inr (Qzm I.sz hb),λx c e z=>?_,λp f z=>?_⟩
 ·obtain⟨v,q⟩:=I.cell x c e;exact absurd (Qq3 q.lt (by rw[z]; exact hb)) (Qz7 _)
 ·exact absurd (Qq3 (Qqe (I.pin p f).1) (by rw[z]; exact hb)) (Qz7 _)
structure Turn (P:Program) (w:Qk) (K:Qqq) (tg:Qx) (Jq:It) (fp:L Y7) (it:Y7) (tn:Y0->Heap->Prop):Prop where
 mem:it∈fp
 obj:∀i h,tn i h->∀b∈fp,∃o,h.get? b=Y o/\∀v,o.data≠.cell v
 keep:∀i h h',tn i h->(∀b∈fp,∀o,h.get? b=Y o->h'.get? b=Y o)->tn i h'
 item:∀(X:Cx),X.prog=P->X.w=w->X.K=K->X.calm=Z->∀(i:Y0) (pins:L (Y7×Obj)) (s:Qz) (σ:St) (H:Hp) (E:Y8->Qz->Prop),Inv X pins σ H s->(∀b∈fp,FpOk X pins H b)->tn i s.heap->Jq.go i H->
  wpAny (model P w) X.A (pyNext (.ref it)) (λr s1=>∃u,r=Y u/\
   wpAny (model P w) X.A (Zh tg (.ref it) u) (λ_ s2=>∃x H',Inv X pins σ H' s2/\RelV x u/\Jq.yld i H x H'/\tn (i+1) s2.heap/\∀b∈fp,H' b=J) E s1) E s
 done:∀(X:Cx),X.prog=P->X.w=w->X.K=K->X.calm=Z->∀(i:Y0) (pins:L (Y7×Obj)) (s:Qz) (σ:St) (H:Hp) (E:Y8->Qz->Prop),Inv X pins σ H s->(∀b∈fp,FpOk X pins H b)->tn i s.heap->Jq.stop i H->
  wpAny (model P w) X.A (pyNext (.ref it)) (λr s1=>r=J/\Inv X pins σ H s1) E s
 self:∀(A:Qv) (i:Y0) (s:Qz) (Q:Y8->Qz->Prop) (E:Y8->Qz->Prop),tn i s.heap->Q (.ref it) s->wpAny (model P w) A (pyIter (.ref it)) Q E s
abbrev TI:=St->Hp->(It->Hp->Prop)->Prop
def PIE(X:Cx)(pins:L (Y7×Obj))(σ:St)(tg:Qx)(R:It->Hp->Prop)(itv:Y8)(s2:Qz):Prop:=
 ∃(it:Y7) (fp:L Y7) (tn:Y0->Heap->Prop) (Jq:It) (H':Hp),itv=.ref it/\Inv X pins σ H' s2/\Turn X.prog X.w X.K tg Jq fp it tn/\tn 0 s2.heap/\(∀b∈fp,FpOk X pins H' b)/\R Jq H'
def PI(X:Cx)(tg iter:Qx)(wi:TI):Prop:=
 ∀(pins:L (Y7×Obj)) (s:Qz) (σ:St) (H:Hp) (R:It->Hp->Prop),Inv X pins σ H s->wi σ H R->
  wpAny (model X.prog X.w) X.A (Qy iter X.env) (λv s1=>wpAny (model X.prog X.w) X.A (pyIter v) (PIE X pins σ tg R) X.xe s1) X.xe s
def qhz(c:s.heap.get? it=Y o)(hc:o.cls=.type n)(hd:o.data=.fields vs)(d:["enumerate","zip","dict_itemiterator","dict_reverseitemiterator","odict_iterator","itertools.zip_longest","itertools.pairwise"].contains n=Y6)(a:Q () s):wpAny M A (Zh b (.ref it) u) Q E s:=by
 unfold Zh
 cases b<;>first
  |exact Qj a
  |(cases u<;>first
    |exact Qj a
    |(refine Qq (wpAny_load c ?_)
      rw[hc,hd];show wpAny M A (if (["enumerate","zip","dict_itemiterator","dict_reverseitemiterator","odict_iterator","itertools.zip_longest","itertools.pairwise"].contains n&&vs[0]?==Y (rawInt _))=Z then _ else _) Q E s;rw[Z1 (by intro h; rw[d,Bool.false_and]at h; cases h)]
      exact Qj a))
noncomputable def Itl(K:Qqq)(a:Y7):It:=
 ⟨λi H=>∃xs x,SqL K H a xs/\xs[i]?=Y x,λi H x H'=>H'=H/\∀xs,SqL K H a xs->xs[i]?=Y x,λi H=>∃xs,SqL K H a xs/\xs.length<=i⟩
noncomputable def Itt(K:Qqq)(a:Y7):It:=
 ⟨λi H=>∃xs x,SqT K H a xs/\xs[i]?=Y x,λi H x H'=>H'=H/\∀xs,SqT K H a xs->xs[i]?=Y x,λi H=>∃xs,SqT K H a xs/\xs.length<=i⟩
noncomputable def Itr(lo:B)(n:Y0):It:=⟨λi _=>i<n,λi H x H'=>H'=H/\x=.int (lo+i),λi _=>n<=i⟩
def qce{K:Qqq}(a it):Turn P w K D (Itl K a) [it] it (λi h=>h.IsListIter it a i) where
 mem:=by simp
 obj:=λi h st b hb=>by
  have e:b=it:=by simpa using hb
  subst e;obtain⟨o,e,c,d⟩:=st;exact⟨o,e,λv z=>by rw[d]at z; cases z⟩
 keep:=λi h h' st k=>st.at λo e=>k it (by simp) o e
 item:=by
  intro X n m q hc i pins s σ H E I hf st hg;subst n m q;obtain⟨xs,x,f,l⟩:=hg;obtain⟨j,g,p,hz⟩:=I.list f;obtain⟨u,Q,G⟩:=g.get l;obtain⟨C,A,R,y,t,r⟩:=hf it (by simp);refine wpAny_pyNext_list_item st p.isList (x:=u) (by simpa using Q) λh' st' F=>?_;have T:=I.turned (t':=s.toks) (λb o hb e=>(F.2 b hb).trans e) C A y t r;obtain⟨o,e,c,d⟩:=id st';exact⟨u,rfl,qhz e c d (by decide) ⟨x,H,T,G,⟨rfl,λys N=>by rw[I.list_inj N f]; exact l⟩,st',λb hb=>(hf b hb).1⟩⟩
 done:=by
  intro X n m q hc i pins s σ H E I hf st hg;subst n m q;obtain⟨xs,f,l⟩:=hg;obtain⟨j,g,p,hz⟩:=I.list f;obtain⟨C,A,R,y,t,r⟩:=hf it (by simp);have U:=g.length;exact wpAny_pyNext_list_end (I.ok.hd hc) st p.isList (by simp; omega) λh' S=>⟨rfl,I.turned (λb o hb e=>S b o hb e) C A y t r⟩
 self:=λ_ _ _ _ _ st h=>wpAny_pyIter_listiter st h
def qby{K:Qqq}(a it):Turn P w K D (Itt K a) [it] it (λi h=>h.IsTupleIter it a i) where
 mem:=by simp
 obj:=λi h st b hb=>by
  have e:b=it:=by simpa using hb
  subst e;obtain⟨o,e,c,d⟩:=st;exact⟨o,e,λv z=>by rw[d]at z; cases z⟩
 keep:=λi h h' st k=>st.at λo e=>k it (by simp) o e
 item:=by
  intro X n m q hc i pins s σ H E I hf st hg;subst n m q;obtain⟨xs,x,g,l⟩:=hg;obtain⟨f,j,p,hz⟩:=I.tuple g;obtain⟨u,Q,G⟩:=j.get l;obtain⟨C,A,R,y,t,r⟩:=hf it (by simp);refine wpAny_pyNext_tuple_item st (p) (x:=u) (by simpa using Q) λh' st' F=>?_;have T:=I.turned (t':=s.toks) (λb o hb e=>(F.2 b hb).trans e) C A y t r;obtain⟨o,e,c,d⟩:=id st';exact⟨u,rfl,qhz (s:={ s with heap:=h' }) e c d (by decide) ⟨x,H,T,G,⟨rfl,λys N=>by rw[I.tuple_inj N g]; exact l⟩,st',λb hb=>(hf b hb).1⟩⟩
 done:=by
  intro X n m q hc i pins s σ H E I hf st hg;subst n m q;obtain⟨xs,g,l⟩:=hg;obtain⟨f,j,p,hz⟩:=I.tuple g;obtain⟨C,A,R,y,t,r⟩:=hf it (by simp);have U:=j.length;exact wpAny_pyNext_tuple_end (I.ok.hd hc) st (p) (by simp; omega) λh' S=>⟨rfl,I.turned (λb o hb e=>S b o hb e) C A y t r⟩
 self:=λ_ _ _ _ _ st h=>wpAny_pyIter_tupleiter st h
def qba{K:Qqq}(it)(lo)(n):Turn P w K q (Itr lo n) [it] it (λi h=>IsRangeIter h it (lo+(i:Y0)*1) ((n:B) - (i:Y0)) 1) where
 mem:=by simp
 obj:=λi h st b hb=>by
  have e:b=it:=by simpa using hb
  subst e
  exact⟨_,st,λv z=>by
   have p:=z
   cases p⟩
 keep:=λi h h' st k=>k it (by simp) _ st
 item:=by
  intro X c a d hc i pins s σ H E I hf st hg;subst c a d;obtain⟨m,l,u,j,g,f⟩:=hf it (by simp);have W:=Walks.range (prog:=X.prog) (w:=X.w) (I.ok.hd hc) it lo 1 n;refine W.item i s _ _ hg st λv h' tk hv st' r=>?_;obtain⟨t,rfl⟩:=hv;have y:Inv X pins σ H { s with heap:=h',toks:=tk }:=I.turned (λb o hb e=>r b o (by simpa using hb) e) m l j g f;refine⟨_,rfl,qhz st' rfl rfl (by decide) ⟨.int (lo+i),H,y,⟨t,?_⟩,⟨rfl,rfl⟩,st',λb hb=>(hf b hb).1⟩⟩;rw[Int.mul_one]
 done:=by
  intro X c a d hc i pins s σ H E I hf st hg;subst c a d;obtain⟨m,l,u,j,g,f⟩:=hf it (by simp);exact wpAny_pyNext_range_end (I.ok.hd hc) st (by have:n<=i:=hg; omega) λh' x=>⟨rfl,I.turned (λb o hb e=>x b o hb e) m l j g f⟩
 self:=λ_ _ _ _ _ st h=>wpAny_pyIter_rangeiter st h
section
def qgx{lo:B}(I:Inv X a c H s)(j:-(2 ^ 62)<=lo)(i:lo<2 ^ 62)(h:-(2 ^ 62)<=hi)(g:hi<2 ^ 62)(q:R (Itr lo (hi - lo).toNat) H):wpAny (model X.prog X.w) X.A (pyIter (.ref s.heap.objs.size)) (PIE X a c tg R) E { s with heap:=s.heap.push { cls:=.type "range",data:=.fields #[.int lo t,.int hi u,.int 1 v] },toks:=d }:=by
 refine wpAny_pyIter_range (IsRange.new ..) (small_one j i h g) ?_;have f:Inv X a c H { s with heap:=s.heap.push { cls:=.type "range",data:=.fields #[.int lo t,.int hi u,.int 1 v] },toks:=d }:=I.kept λb o e=>Qqz _ e
 refine⟨(s.heap.push { cls:=.type "range",data:=.fields #[.int lo t,.int hi u,.int 1 v] }).objs.size,[(s.heap.push { cls:=.type "range",data:=.fields #[.int lo t,.int hi u,.int 1 v] }).objs.size],_,_,H,rfl,
  f.kept λb o e=>Qqz _ e,qba _ lo (hi - lo).toNat,?_,λb hb=>?_,q⟩
 ·have l:lo+((0:Y0):B)*1=lo:=by simp
  have k:(((hi - lo).toNat:Y0):B) - ((0:Y0):B)=Builtin.Range.rangeSize lo hi 1:=by rw[rangeSize_one]; split<;>omega
  rw[l,k];exact Qqn _ rfl
 ·have e:b=(s.heap.push { cls:=.type "range",data:=.fields #[.int lo t,.int hi u,.int 1 v] }).objs.size:=by simpa using hb
  subst e;exact f.fpOk (Qqv _) (f.hok.fresh (Qqv _))
noncomputable def iRng1(ta:TA):TI:=λσ H R=>ta σ H λvs H1=>∃j:B,vs=[.int j]/\-(2 ^ 62)<=j/\j<2 ^ 62/\R (Itr 0 j.toNat) H1
def qdb(i:Gl X "range")(g:X.mg "range" = J)(k:PA X [a] c)(hs:starEach [a] X.env=[(Y6,Qy a X.env)]:=by rfl):PI X tg (.Call (.Name "range" p) [a] [] pos) (iRng1 c):=by
 intro pins s σ H R I h;refine Call_ (qwe I i g boot_range (PyProof.Rows.callWith_type1 (thn (k pos pins s σ H _ I h) λm n ⟨vs,H1,l,r1,b⟩=>?_) hs rfl));obtain⟨j,e,b,f,q⟩:=b;subst e
 cases r1 with
 |cons r d=>
  cases d;obtain⟨t,rfl⟩:=r;exact call_range_1 (qgx l (by omega) (by omega) b f (by simpa using q))
noncomputable def tFor(wi:TI)(g:TG)(tb:TS):TS:=λD σ H=>wi σ H λJq H1=>∃W:Y0->Y0->St->Hp->Prop,(∃m,W 0 m σ H1)/\∀i m σ H,W i m σ H->
 (Jq.stop i H/\D.nx σ H)\/(Jq.go i H/\∃N:St->Hp->Prop,(∀σ' H',N σ' H'->∃m',m'<m/\W (i+1) m' σ' H')/\∀x H',Jq.yld i H x H'->g x σ H' λσ2 H2=>tb { D with nx:=N,ct:=N,bk:=D.nx } σ2 H2)
noncomputable def qv4(fp:L Y7)(h:Heap):L (Y7×Obj):=fp.filterMap λb=>(h.get? b).map λo=>(b,o)
def qq4(hb:b∈fp)(e:h.get? b=Y o):(b,o)∈qv4 fp h:=Qxo.mpr ⟨b,hb,by rw[e]; rfl⟩
def qdl(a:p∈qv4 fp h):p.1∈fp/\h.get? p.1=Y p.2:=by
 obtain⟨b,hb,e⟩:=Qxo.mp a
 cases q:h.get? b with
 |none=>rw[q]at e; cases e
 |some o=>
  rw[q]at e;have c:=Option.some.inj e;subst c;exact⟨hb,q⟩
def Inv.pinned(I:Inv X a c H s)(hf:∀b∈fp,FpOk X a H b)(h:∀b∈fp,∃o,s.heap.get? b=Y o/\∀v,o.data≠.cell v):Inv X (a++qv4 fp s.heap) c H s:=
 I.pins_of λp g=>(Qqs.mp g).elim (λz=>I.pin p (Qqh _ z)) λz=>by
  obtain⟨hb,e⟩:=qdl z;obtain⟨k,j,i,_⟩:=hf p.1 hb;obtain⟨o,f,d⟩:=h p.1 hb;rw[e]at f; cases f;exact⟨e,k,j,i,d⟩
def Inv.unpinned(I:Inv X (a++pl) b H s):Inv X a b H s:=I.pins_of λp c=>I.pin p (Qqh _ (Qq5 _ c))
def qh4(E:PassesOwn (model X.prog X.w) X.A X.env X.xe)(hc:X.calm=Z)(hi:PI X tg l U)(hg:PG X tg g)(hb:PSs X body tb)(hs:∀x,foldedSetIterable l X.env x=pure x):PS X (.For tg l body [] pos) (tFor U g tb):=by
 intro pins s σ H D I h;refine wpAny_For (thn (hi pins s σ H _ I h) λv s1 h1=>thn h1 λa0 s2 h2=>?_) hs;obtain⟨it,fp,V,Jq,H2,e,I2,T,P,f2,W,⟨m0,w0⟩,z⟩:=h2;subst e;have k:∀{H':Hp},(∀b∈fp,H' b=J)->∀b∈fp,FpOk X pins H' b:=λhn b hb=>⟨hn b hb,(f2 b hb).2⟩
 refine codeAny_forLoop_any (λn s'=>∃i j H',Inv X pins j H' s'/\V i s'.heap/\(∀b∈fp,H' b=J)/\W i n j H') ?_ m0 ⟨0,σ,H2,I2,P,λb hb=>(f2 b hb).1,w0⟩;rintro n s3 ⟨i,c,G,I3,A,F,w3⟩;rcases z i n c G w3 with⟨stop,qn⟩|⟨go,N,hN,step⟩
 ·refine Zx E (thn (T.done X rfl rfl rfl hc i pins s3 c G X.xe I3 (k F) A stop) λr s4 ⟨hr,I4⟩=>?_);subst hr;exact wpAny_execs_nil ⟨c,G,I4,qn⟩
 ·refine Zx E (thn (T.item X rfl rfl rfl hc i pins s3 c G X.xe I3 (k F) A go) λr s4 ⟨u,hr,h4⟩=>?_);subst hr;refine Zx E (thn h4 λ_ s5 ⟨x,H5,I5,r5,y5,y,R⟩=>?_);have S:=I5.pinned (k R) (T.obj _ _ y);refine Zx E (thn (hg _ s5 c H5 x u _ S r5 (step x H5 y5)) λ_ s6 ⟨K,H6,I6,q6⟩=>?_);refine Zx E (thn (hb _ s6 K H6 _ I6 q6) λf Q w=>?_);have p:∀{a:St}{t:Hp},Inv X (pins++qv4 fp s5.heap) a t Q->N a t->∃m,m<n/\∃i j H',Inv X pins j H' Q/\V i Q.heap/\(∀b∈fp,H' b=J)/\W i m j H':=λ{a t} q C=>by
   obtain⟨m',hm,w7⟩:=hN a t C;refine⟨m',hm,i+1,a,t,q.unpinned,T.keep _ _ _ y λb hb o e=>(q.pin (b,o) (Qqh _ (Qqh _ (qq4 hb e)))).1,λb hb=>?_,w7⟩;obtain⟨o,e,d⟩:=T.obj _ _ y b hb;exact(q.pin (b,o) (Qqh _ (Qqh _ (qq4 hb e)))).2.1
  cases f with
  |next=>obtain⟨a,t,q,C⟩:=w; exact p q C
  |cont=>obtain⟨a,t,q,C⟩:=w; exact p q C
  |brk=>obtain⟨a,t,q,w⟩:=w; exact⟨a,t,q.unpinned,w⟩
  |ret v=>obtain⟨x7,a,t,q,r7,w⟩:=w; exact⟨x7,a,t,q.unpinned,r7,w⟩
end
abbrev R2:=V->V->Hp->VK->Prop
def OpR(X:Cx)(f:Y8->Y8->Sem Y8)(r:R2):Prop:=
 ∀(pins:L (Y7×Obj)) (s:Qz) (σ:St) (H:Hp) (x y:V) (v u:Y8) (Q:VK),Inv X pins σ H s->RelV x v->RelV y u->r x y H Q->
  wpAny (model X.prog X.w) X.A (f v u) (EP X pins σ Q) X.xe s
def UnR(X:Cx)(f:Y8->Sem Y8)(r:V->Hp->VK->Prop):Prop:=
 ∀(pins:L (Y7×Obj)) (s:Qz) (σ:St) (H:Hp) (x:V) (v:Y8) (Q:VK),Inv X pins σ H s->RelV x v->r x H Q->
  wpAny (model X.prog X.w) X.A (f v) (EP X pins σ Q) X.xe s
def qqk(X:Cx)(f:Y8)(r:L V->Hp->VK->Prop):Prop:=
 ∀(pins:L (Y7×Obj)) (s:Qz) (σ:St) (H:Hp) (xs:L V) (us:L Y8) (Q:VK),Inv X pins σ H s->Vals xs us->r xs H Q->
  wpAny (model X.prog X.w) X.A (call f us) (EP X pins σ Q) X.xe s
def TruR(X:Cx)(r:V->Hp->(Yb->Hp->Prop)->Prop):Prop:=
 ∀(pins:L (Y7×Obj)) (s:Qz) (σ:St) (H:Hp) (x:V) (v:Y8) (Q:Yb->Hp->Prop),Inv X pins σ H s->RelV x v->r x H Q->
  wpAny (model X.prog X.w) X.A (truthy v) (TP X pins σ Q) X.xe s
noncomputable def tOp(r:R2)(ta tb:TE):TE:=λσ H Q=>ta σ H λx H1=>tb σ H1 λy H2=>r x y H2 Q
noncomputable def tUn(r:V->Hp->VK->Prop)(ta:TE):TE:=λσ H Q=>ta σ H λx H1=>r x H1 Q
noncomputable def rI(C:B->B->Prop)(g:B->B->V):R2:=λx y H Q=>∃i j,x=.int i/\y=.int j/\C i j/\Q (g i j) H
noncomputable def rI0(g:B->B->V):R2:=λx y H Q=>∃i j,x=.int i/\y=.int j/\Q (g i j) H
def rU(g:B->V):V->Hp->VK->Prop:=λx H Q=>∃i,x=.int i/\Q (g i) H
section
def binT(o:PE X a ta)(hb:PE X b tb){R:V->V->Hp->Prop}(I:Inv X d e H s)(h:ta e H λx H1=>tb e H1 λy H2=>R x y H2){f:Y8->Y8->Sem Y8}(hf:∀v u j x y H2,Inv X d e H2 j->RelV x v->RelV y u->R x y H2->wpAny (model X.prog X.w) X.A (f v u) Q X.xe j):
  wpAny (model X.prog X.w) X.A (Qy a X.env) (λv i=>wpAny (model X.prog X.w) X.A (Qy b X.env) (λu g=>wpAny (model X.prog X.w) X.A (f v u) Q X.xe g) X.xe i) X.xe s:=by
 refine thn (o d s e H _ I h) λv k ⟨x,H1,q,r1,n⟩=>?_;refine thn (hb d k e H1 _ q n) λu j ⟨y,H2,p,l,m⟩=>?_;exact hf v u j x y H2 p r1 l m
def pe_op(i:OpR X (Q3 d) r)(j:PE X a ta)(hb:PE X b tb):PE X (.BinOp a d b pos) (tOp r ta tb):=by
 intro pins s σ H Q I h;exact wpAny_BinOp (binT j hb I h λv u e x y H2 k g f q=>i pins e σ H2 x y v u Q k g f q)
def pe_un(g:UnR X (unaryOp d) r)(i:PE X a ta):PE X (.UnaryOp d a pos) (tUn r ta):=by
 intro pins s σ H Q I h;exact UnaryOp_ (thn (i pins s σ H _ I h) λv e ⟨x,H1,j,r1,f⟩=>g pins e σ H1 x v Q j r1 f)
def opI{g:B->B->B}(d:∀(i j:B) (t u:Tok) (s:Qz) (Q:Y8->Qz->Prop) (E:Y8->Qz->Prop),C i j->Q (.int (g i j) s.toks) { s with toks:=s.toks+1 }->wpAny (model X.prog X.w) X.A (f (.int i t) (.int j u)) Q E s):
  OpR X f (rI C λi j=>.int (g i j)):=by
 intro pins s σ H x y v u Q I l k h;obtain⟨i,j,rfl,rfl,hc,q⟩:=h;obtain⟨t,rfl⟩:=l;obtain⟨e,rfl⟩:=k;exact d i j t e s _ _ hc ⟨.int (g i j),H,I.tok _,⟨_,rfl⟩,q⟩
def opI0{g:B->B->B}(d:∀(i j:B) (t u:Tok) (s:Qz) (Q:Y8->Qz->Prop) (E:Y8->Qz->Prop),Q (.int (g i j) s.toks) { s with toks:=s.toks+1 }->wpAny (model X.prog X.w) X.A (f (.int i t) (.int j u)) Q E s):
  OpR X f (rI0 λi j=>.int (g i j)):=by
 intro pins s σ H x y v u Q I l k h;obtain⟨i,j,rfl,rfl,q⟩:=h;obtain⟨t,rfl⟩:=l;obtain⟨e,rfl⟩:=k;exact d i j t e s _ _ ⟨.int (g i j),H,I.tok _,⟨_,rfl⟩,q⟩
def opB0{g:B->B->Yb}(d:∀(i j:B) (t u:Tok) (s:Qz) (Q:Y8->Qz->Prop) (E:Y8->Qz->Prop),Q (.bool (g i j)) s->wpAny (model X.prog X.w) X.A (f (.int i t) (.int j u)) Q E s):
  OpR X f (rI0 λi j=>.bl (g i j)):=by
 intro pins s σ H x y v u Q I l k h;obtain⟨i,j,rfl,rfl,q⟩:=h;obtain⟨t,rfl⟩:=l;obtain⟨e,rfl⟩:=k;exact d i j t e s _ _ ⟨.bl (g i j),H,I,rfl,q⟩
def CPow(i j:B):Prop:=0<=j/\j<=1000000/\i.natAbs<2 ^ 64
def CMul(i j:B):Prop:=(-(2 ^ 64)<i/\i<2 ^ 64)\/(-(2 ^ 64)<j/\j<2 ^ 64)
def CMul.ok(h:CMul i j):IntMulOk i j:=by
 rcases h with⟨h1,h2⟩|⟨h1,h2⟩
 ·exact .of_left (intBits_le_64 h1 h2)
 ·exact .of_right (intBits_le_64 h1 h2)
def op_add:OpR X (Q3 .Add) (rI0 λi j=>.int (i+j)):=opI0 λ_ _ _ _ _ _ _ q=>add_int q
def op_sub:OpR X (Q3 .Sub) (rI0 λi j=>.int (i - j)):=opI0 λ_ _ _ _ _ _ _ q=>sub_int q
def op_mul:OpR X (Q3 .Mult) (rI CMul λi j=>.int (i*j)):=opI λ_ _ _ _ _ _ _ hc q=>mul_int q hc.ok
def op_mod:OpR X (Q3 .Mod) (rI (λ_ j=>0<j) λi j=>.int (i % j)):=opI λi j _ _ _ _ _ hc q=>by
 have h1:=hc;exact mod_int' (by omega) (by rw[Int.fmod_eq_emod_of_nonneg i (by omega)]; exact q)
def op_pow:OpR X (Q3 .Pow) (rI CPow λi j=>.int (i ^ j.toNat)):=opI λ_ _ _ _ _ _ _ hc q=>pow_int_small hc.1 hc.2.1 hc.2.2 q
def unI{g:B->B}(d:∀(i:B) (t:Tok) (s:Qz) (Q:Y8->Qz->Prop) (E:Y8->Qz->Prop),Q (.int (g i) s.toks) { s with toks:=s.toks+1 }->wpAny (model X.prog X.w) X.A (f (.int i t)) Q E s):
  UnR X f (rU λi=>.int (g i)):=by
 intro pins s σ H x v Q I e h;obtain⟨i,rfl,q⟩:=h;obtain⟨t,rfl⟩:=e;exact d i t s _ _ ⟨.int (g i),H,I.tok _,⟨_,rfl⟩,q⟩
def un_neg:UnR X (unaryOp .USub) (rU λi=>.int (-i)):=unI λ_ _ _ _ _ q=>neg_int q
end
section
def qib(I:Inv X d f H s)(q:Q (.bl k) H)(e:k=g):EP X d f Q (.bool g) s:=by
 subst e;exact⟨.bl k,H,I,rfl,q⟩
def op_lt:OpR X (Qd .Lt) (rI0 λi j=>.bl (decide (i<j))):=opB0 λ_ _ _ _ _ _ _ q=>lt_int q
def op_le:OpR X (Qd .LtE) (rI0 λi j=>.bl (decide (i<=j))):=opB0 λ_ _ _ _ _ _ _ q=>le_int q
def op_gt:OpR X (Qd .Gt) (rI0 λi j=>.bl (decide (j<i))):=opB0 λ_ _ _ _ _ _ _ q=>gt_int q
def op_ge:OpR X (Qd .GtE) (rI0 λi j=>.bl (decide (j<=i))):=opB0 λ_ _ _ _ _ _ _ q=>ge_int q
def op_isN:OpR X (Qd .Is) (λx y H Q=>y=.non/\Q (.bl (decide (x=.non))) H):=by
 intro pins s σ H x y v u Q I d e h;obtain⟨rfl,q⟩:=h;cases e;refine is_none_gen (qib I q ?_)
 cases x<;>first
  |(cases d; rfl)
  |(obtain⟨t,rfl⟩:=d; rfl)
def qmj:OpR X (Qd .IsNot) (λx y H Q=>y=.non/\Q (.bl (!decide (x=.non))) H):=by
 intro pins s σ H x y v u Q I d e h;obtain⟨rfl,q⟩:=h;cases e;refine isnot_none_gen (qib I q ?_)
 cases x<;>first
  |(cases d; rfl)
  |(obtain⟨t,rfl⟩:=d; rfl)
def ql7(i:OpR X (Qd d) r)(k:PE X a ta)(hb:PE X b tb)(j:Zc d b=Y6):PE X (.Compare a [d] [b] pos) (tOp r ta tb):=by
 intro pins s σ H Q I h;exact wpAny_Compare1 (binT k hb I h λv u e x y H2 l g f q=>i pins e σ H2 x y v u Q l g f q) j
noncomputable def tTest(t:TE):TT:=λσ H Q=>t σ H λx H'=>∃k,x=.bl k/\Q k H'
def qlg(o:OpR X (Qd d) r)(q:PE X a ta)(hb:PE X b tb)(p:Zc d b=Y6):PT X (.Compare a [d] [b] pos) (tTest (tOp r ta tb)):=by
 intro pins s σ H Q I h
 refine wpAny_isTrue_Compare1 (thn (q pins s σ H _ I h) λv g ⟨x,H1,A,r1,n⟩=>thn (hb pins g σ H1 _ A n) λu f ⟨y,H2,w,j,m⟩=>
  thn (o pins f σ H2 x y v u _ w r1 j m) λc D ⟨z,C,t,i,k,e,l⟩=>?_) p
 subst e;cases i;exact Qb ⟨C,t,l⟩
noncomputable def qhr(r r':R2)(ta tb tc:TE):TE:=λσ H Q=>ta σ H λx H1=>tb σ H1 λy H2=>r x y H2 λz H3=>∃k,z=.bl k/\
 (if k=Z then tc σ H3 λw' H4=>r' y w' H4 Q else Q (.bl Y6) H3)
def qgm(N:OpR X (Qd g) r)(i:OpR X (Qd f) l)(R:PE X a ta)(hb:PE X b tb)(hc:PE X c tc)(P:lastMarks [g,f] [b,c]=Y6):PE X (.Compare a [g,f] [b,c] pos) (qhr r l ta tb tc):=by
 intro pins s σ H Q I h
 refine Compare_chain (thn (R pins s σ H _ I h) λv C ⟨x,H1,U,r1,K⟩=>chain_link (thn (hb pins C σ H1 _ U K) λu A ⟨y,H2,T,j,G⟩=>
  thn (N pins A σ H2 x y v u _ T r1 j G) λd w ⟨z,o,n,E,k,e,m⟩=>?_)) P
 subst e;cases E;refine Qb ?_
 cases k with
 |false=>exact ite_ff ⟨.bl Y6,o,n,rfl,m⟩
 |true=>exact ite_tt (chain_last (thn (hc pins w σ o _ n m) λq t ⟨p,V,S,D,F⟩=>i pins t σ V y p u q Q S j D F))
def qgk(S:OpR X (Qd g) r)(i:OpR X (Qd f) l)(U:PE X a ta)(hb:PE X b tb)(hc:PE X c tc)(T:lastMarks [g,f] [b,c]=Y6):PT X (.Compare a [g,f] [b,c] pos) (tTest (qhr r l ta tb tc)):=by
 intro pins s σ H Q I h
 refine isTrue_chain (thn (U pins s σ H _ I h) λv C ⟨x,H1,I1,r1,P⟩=>test_link (thn (hb pins C σ H1 _ I1 P) λu A ⟨y,H2,I2,j,N⟩=>
  thn (S pins A σ H2 x y v u _ I2 r1 j N) λd w ⟨z,o,n,F,k,e,m⟩=>?_)) T
 subst e;cases F;refine Qb ?_
 cases k with
 |false=>
  obtain⟨k',W,R⟩:=m;cases W;exact ite_ff ⟨o,n,R⟩
 |true=>
  refine ite_tt (test_last (thn (hc pins w σ o _ n m) λq t ⟨p,H4,I4,E,K⟩=>thn (i pins t σ H4 y p u q _ I4 j E K) λd' s5 ⟨z2,H5,I5,D,k2,V,G⟩=>?_));subst V;cases D;exact Qb ⟨H5,I5,G⟩
def TruV(K:Qqq)(x:V)(H:Hp)(k:Yb):Prop:=
 match x with
 |.non=>k=Y6
 |.bl b=>k=b
 |.int i=>k=(i != 0)
 |.str y=>y.length<=sizeLine/\k=((y.length:B) != 0)
 |.byt y=>y.size<=sizeLine/\k=((y.size:B) != 0)
 |.ref p=>(∃xs,SqL K H p xs/\k = !xs.isEmpty)\/(∃xs,SqT K H p xs/\k = !xs.isEmpty)\/∃kvs,H p=Y (.dK kvs)/\k = !kvs.isEmpty
 |_=>False
def qb8{kvs:L (d×V)}{vs:L (d×Y8)}(r:KV kvs vs):(!vs.isEmpty) = !kvs.isEmpty:=by
 cases r<;>rfl
def qkt(r:Vals xs d):(!d.toArray.isEmpty) = !xs.isEmpty:=by
 cases r<;>simp
def qwd:(sizeLine:Y0)<2 ^ 63:=by rw[Q1]; decide
def tru_ok:TruR X (λx H Q=>∃k,TruV X.K x H k/\Q k H):=by
 intro pins s σ H x v Q I g h;obtain⟨k,e,q⟩:=h;have u:=qwd;have hs:=Q1
 cases x with
 |non=>
  cases g;have d:=e;subst d;exact truthy_none ⟨H,I,q⟩
 |bl b=>
  cases g;have d:=e;subst d;exact Qb ⟨H,I,q⟩
 |int i=>
  obtain⟨t,rfl⟩:=g;have d:=e;subst d;exact PySem.P.truthy_int ⟨H,I,q⟩
 |str y=>
  obtain⟨t,rfl⟩:=g;obtain⟨n,d⟩:y.length<=sizeLine/\k=((y.length:B) != 0):=e;subst d;exact PySem.P.truthy_str (by omega) ⟨H,I.tok _,q⟩
 |byt y=>
  obtain⟨t,rfl⟩:=g;obtain⟨n,d⟩:y.size<=sizeLine/\k=((y.size:B) != 0):=e;subst d;exact PySem.W.truthy_bytes (by omega) ⟨H,I.tok _,q⟩
 |ref p=>
  cases g;have d:=e;rcases d with⟨xs,j,d⟩|⟨xs,j,d⟩|⟨kvs,j,d⟩
  ·subst d;obtain⟨l,r,pl,hz⟩:=I.list j;have f:=r.length;exact wpAny_truthy_list pl.isList (by simp only[Qqw]; omega) ⟨H,I.tok _,by rw[qkt r]; exact q⟩
  ·subst d;obtain⟨l,r,pl,hz⟩:=I.tuple j;have f:=r.length;exact truthy_tuple pl (by simp only[Qqw]; omega) ⟨H,I.tok _,by rw[qkt r]; exact q⟩
  ·subst d;obtain⟨hz,o,vs,r,m⟩:kvs.length<=sizeLine/\(p==Qh)=Y6/\∃vs,KV kvs vs/\s.heap.DictOf (mixKind X.prog X.w) p vs:=I.hok p _ j;have f:=Paired.length r;exact wpAny_truthy_dict o m (by omega) ⟨H,I.tok _,by rw[qb8 r]; exact q⟩
 |_=>exact(e).elim
def qgj(i:PE X a ta)(g:∀d,isTrue a X.env d=(do let v <- d; Zg a.pos; Q4 [v] (truthy v))):
  PT X a (λσ H Q=>ta σ H λx H'=>∃k,TruV X.K x H' k/\Q k H'):=by
 intro pins s σ H Q I h;exact isTrue_plain (thn (i pins s σ H _ I h) λv e ⟨x,H1,j,r1,f⟩=>tru_ok pins e σ H1 x v Q j r1 f) (g _)
def vals1(r:Vals [x] us):∃u,us=[u]/\RelV x u:=by
 cases r with
 |cons r1 d=>cases d; exact⟨_,rfl,r1⟩
def vals2(r:Vals [x,y] us):∃u w',us=[u,w']/\RelV x u/\RelV y w':=by
 cases r with
 |cons r1 f=>
  cases f with
  |cons e d=>cases d; exact⟨_,_,rfl,r1,e⟩
def qe6(hc:X.calm=Z):qqk X (.builtin "max") (λxs H Q=>∃i j,xs=[.int i,.int j]/\Q (.int (if j > i then j else i)) H):=by
 intro pins s σ H xs e Q I r h;obtain⟨i,j,rfl,q⟩:=h;obtain⟨u,d,rfl,⟨t,rfl⟩,⟨f,rfl⟩⟩:=vals2 r;refine max_two_ints (I.ok.hd hc) λh' tk k=>⟨_,H,I.kept k,?_,q⟩
 by_cases hj:j > i
 ·rw[Z2 hj,Z2 hj]; exact⟨_,rfl⟩
 ·rw[Z1 hj,Z1 hj]; exact⟨_,rfl⟩
def qe4(hc:X.calm=Z):qqk X (.builtin "min") (λxs H Q=>∃i j,xs=[.int i,.int j]/\Q (.int (if j<i then j else i)) H):=by
 intro pins s σ H xs e Q I r h;obtain⟨i,j,rfl,q⟩:=h;obtain⟨u,d,rfl,⟨t,rfl⟩,⟨f,rfl⟩⟩:=vals2 r;refine min_two_ints (I.ok.hd hc) λh' tk k=>⟨_,H,I.kept k,?_,q⟩
 by_cases hj:j<i
 ·rw[Z2 hj,Z2 hj]; exact⟨_,rfl⟩
 ·rw[Z1 hj,Z1 hj]; exact⟨_,rfl⟩
def qw5:qqk X (.type "int") (λxs H Q=>(∃i,xs=[.int i]/\Q (.int i) H)\/∃k,xs=[.bl k]/\Q (.int (if k then 1 else 0)) H):=by
 intro pins s σ H xs d Q I r h;rcases h with⟨i,rfl,q⟩|⟨k,rfl,q⟩
 ·obtain⟨u,rfl,t,rfl⟩:=vals1 r;exact call_int_int ⟨.int i,H,I,⟨_,rfl⟩,q⟩
 ·obtain⟨u,rfl,r1⟩:=vals1 r;cases r1;exact call_int_bool ⟨.int (if k then 1 else 0),H,I.tok _,⟨_,rfl⟩,q⟩
end
structure ObjM (h:Heap) (x dx C:Y7) (mA:Y5->Y3 Y8):Prop where
 obj:h.get? x=Y (PySem.W.instObj C dx)
 ns:h.Ns1 dx mA
 ne:dx≠x
def qdt{h:Heap}(n:h.Ns1 f d):∃c,h.get? f=Y c/\∀name,PySem.W.lookIn name c=Y (d name):=by
 obtain⟨o,es,l,i,hd,hk,_,j⟩:=n;refine⟨o,i,λname=>?_⟩;have e:=j name;unfold nsFind findBy at e;rw[<- Array.find?_toList]at e;unfold PySem.W.lookIn;rw[hd];dsimp only
 split
 ·rename_i y q;rw[q]at e;exact congrArg Y e
 ·rename_i q;rw[q]at e;have a:es.toList.any (·.refKey)=false:=by
   rw[Qjf];intro y g;obtain⟨z,t,b⟩:=hk y (Array.mem_toList_iff.mp g);simp[DictEntry.refKey,b]
  have k:¬ es.toList.any (·.refKey)=true:=by rw[a]; exact Qzz
  rw[Z1 k];exact congrArg Y e
def ObjM.look(I:ObjM h x c C b):∃a,PySem.W.InstAt h x (PySem.W.instObj C c) C (Y a)/\∀name,PySem.W.lookIn name a=Y (b name):=
 let ⟨a,d,e⟩:=qdt I.ns
 ⟨a,⟨I.obj,rfl,rfl,d⟩,e⟩
section
variable {prog:Program}{w:Qk}{A:Qv}{E:Y8->Qz->Prop}{s:Qz}{K:Qqq}{x dx C f:Y7}{mA:Y5->Y3 Y8}{name:Y5}{v:Y8}
def qnk(X:K.In s.heap)(I:ObjM s.heap x dx C mA)(d:PySem.W.plainGet K C name=Z)(c:PySem.W.hasDictIn K C=Z)(e:PySem.W.findIn K (.ref C) name=Y J)(hv:mA name=Y v)(a:PySem.W.handedIn v=Z)(h:Q v { s with toks:=s.toks+1 }):
  wpAny (model prog w) A (getAttr (.ref x) name expr) Q E s:=by
 obtain⟨i,g,b⟩:=I.look;exact PySem.W.get_value X g (Qjy d).1 (PySem.W.findObj_own c e rfl (by rw[b,hv])) a h
def qhq(X:K.In s.heap)(I:ObjM s.heap x dx C mA)(a:PySem.W.plainGet K C name=Z)(hf:PySem.W.findIn K (.ref C) name=Y (Y (.ref f)))(c:PySem.W.isFn K (.ref f)=Z)(hv:mA name=J)(h:Q (.ref f,[.ref x]) s):
  wpAny (model prog w) A (Zo (.ref x) name pl) Q E s:=by
 obtain⟨b,e,d⟩:=I.look;exact PySem.W.method_fn X e (Qjy a).1 (Qjy a).2 hf (beq_iff_eq.mp c) (by show(PySem.W.lookIn name b).map (·.isSome)=Y Y6; rw[d,hv]; rfl) h
def qlb(X:K.In s.heap)(I:ObjM s.heap x dx C mA)(hs:PySem.W.findIn K (.ref C) "__setattr__" = Y (Y (.builtin "object.__setattr__")))(o:PySem.W.plainOver K C=Z)(n:PySem.W.takerIn K C name=Y J)(p:PySem.W.hasDictIn K C=Z)(m:PySem.Within mA ns)(hsz:ns.length<=sizeLine)(h:∀h',ObjM h' x dx C (λy=>if y=name then Y v else mA y)->Heap.SameBut dx s.heap h'->Q () { s with heap:=h',toks:=s.toks+2 }):
  wpAny (model prog w) A (setAttr (.ref x) name v) Q E s:=by
 obtain⟨u,k,z⟩:=I.look;refine PySem.W.set_plain X k hs (PySem.W.osa_open X k o n λb=>?_);obtain⟨D,hc,i⟩:=PySem.W.any_some p;have l:=I.obj;refine Qq (Qj (Qq (Qq (wpAny_loadPart l (Qq (PySem.W.Looks.here (PySem.W.looks_clsIn X hc) ?_))))));rw[i];refine Qj (Qq (Qj (Qq ?_)));refine wpAny_nsSet1 I.ns λh' d c=>?_;obtain⟨oD,q,t,e,g,j⟩:=d.count (PySem.Within.cons name v m);refine Qq (wpAny_lookBehind e (by rw[g]; exact pastItsLine_dict (Qzm j (by rw[Qql]; omega))) ?_);exact Qj (h _ ⟨(c.2 _ (Ne.symm I.ne)).trans I.obj,d,I.ne⟩ c)
def qg1(X:K.In s.heap)(b:PySem.W.makesIn K C=Z)(hi:PySem.W.findIn K (.ref C) "__init__" = Y (Y (.ref f)))(hf:PySem.W.typeIn K (.ref f)=Y (.type "function"))(h:Zw (model prog w) (A.under (.builtin "type.__call__" ⟨.ref C::vs,a⟩)) (.call (.ref f) ⟨.ref (s.heap.objs.size+1)::vs,a⟩) (PySem.W.InitBack (s.heap.objs.size+1) R)
   { s with heap:=(s.heap.push PySem.W.emptyDict).push (PySem.W.instObj C s.heap.objs.size) }):
  Zw (model prog w) A (.call (.ref C) ⟨vs,a⟩) R s:=by
 obtain⟨c,g,d,t,os⟩:=s;exact PySem.W.make_core (PySem.W.makes_of X b) (PySem.W.looks_findIn X hi) (λself=>PySem.W.bind_fn X self hf) (.inl rfl) h
end
noncomputable def putF(f:Y5)(v:V):L (Y5×V)->L (Y5×V)
 |[]=>[(f,v)]
 |(g,x)::r=>if g=f then(g,v)::r else(g,x)::putF f v r
theorem qj0(f g)(v):∀fs:L (Y5×V),(putF f v fs).lookup g=if g=f then Y v else fs.lookup g
 |[]=>by
  show List.lookup g [(f,v)]=_
  by_cases h:g=f
  ·have hb:=beq_iff_eq.mpr h;simp only[List.lookup,hb,Z2 h]
  ·have hb:=beq_eq_false_iff_ne.mpr h;simp only[List.lookup,hb,Z1 h]
 |(k,x)::r=>by
  have a:=qj0 f g v r;rw[show putF f v ((k,x)::r)=(if k=f then(k,v)::r else(k,x)::putF f v r) from rfl]
  by_cases hk:k=f
  ·rw[Z2 hk]
   by_cases h:g=k
   ·have hb:=beq_iff_eq.mpr h;simp only[List.lookup,hb,Z2 (h.trans hk)]
   ·have hb:=beq_eq_false_iff_ne.mpr h;simp only[List.lookup,hb,Z1 (λe:g=f=>h (e.trans hk.symm))]
  ·rw[Z1 hk]
   by_cases h:g=k
   ·have hb:=beq_iff_eq.mpr h;simp only[List.lookup,hb,Z1 (λe:g=f=>hk (h.symm.trans e))]
   ·have hb:=beq_eq_false_iff_ne.mpr h;simp only[List.lookup,hb];exact a
theorem qj3(f)(v):∀fs:L (Y5×V),f∈(putF f v fs).map (·.1)/\∀g,g∈fs.map (·.1)->g∈(putF f v fs).map (·.1)
 |[]=>⟨by simp[putF],λg h=>by simp at h⟩
 |(k,x)::r=>by
  obtain⟨b,a⟩:=qj3 f v r;rw[show putF f v ((k,x)::r)=(if k=f then(k,v)::r else(k,x)::putF f v r) from rfl]
  by_cases hk:k=f
  ·rw[Z2 hk];subst hk;exact⟨by simp,λg h=>by simpa using h⟩
  ·rw[Z1 hk];refine⟨?_,λg h=>?_⟩
   ·rw[Qqp];exact Qqu _ b
   ·rw[Qqp]at h ⊢;rcases Qqy.mp h with e|e
    ·exact Qqy.mpr (.inl e)
    ·exact Qqu _ (a g e)
theorem qj1(f)(v):∀fs:L (Y5×V),(putF f v fs).length<=fs.length+1
 |[]=>by simp[putF]
 |(k,x)::r=>by
  have a:=qj1 f v r;rw[show putF f v ((k,x)::r)=(if k=f then(k,v)::r else(k,x)::putF f v r) from rfl]
  by_cases hk:k=f
  ·rw[Z2 hk,Qql,Qql]; omega
  ·rw[Z1 hk,Qql,Qql]; omega
def RelO.some_of(r:RelO (Y v) o):∃u,o=Y u/\RelV v u:=by
 cases o with
 |none=>exact(r).elim
 |some u=>exact⟨u,rfl,r⟩
def RelO.none_of(r:RelO J o):o=none:=by
 cases o with
 |none=>rfl
 |some u=>exact(r).elim
def qey(r:RelV v u):PySem.W.handedIn u=true:=by
 cases v with
 |non=>cases (r); rfl
 |bl b=>cases (r); rfl
 |int i=>obtain⟨t,e⟩:=(r); cases e; rfl
 |str x=>obtain⟨t,e⟩:=(r); cases e; rfl
 |byt b=>obtain⟨t,e⟩:=(r); cases e; rfl
 |flt b=>obtain⟨t,e⟩:=(r); cases e; rfl
 |ref a=>cases (r); rfl
 |ty n=>cases (r); rfl
section
def qqa(hok:HOk P w H h)(e:H a=Y (.ins C dx fs)):∃mA,ObjM h a dx C mA/\(∀f,RelO (fs.lookup f) (mA f))/\PySem.Within mA (fs.map (·.1))/\fs.length<=1000/\H dx=Y (.own a):=by
 obtain⟨d,z,ne,ob,mA,n,r,q⟩:=(hok a _ e)
 exact⟨mA,⟨ob,n,ne⟩,r,q,z,d⟩
end
structure Cls (K:Qqq) (C:Y7):Prop where
 pg:PySem.W.plainGet K C Str.empty=Z
 hd:PySem.W.hasDictIn K C=Z
 po:PySem.W.plainOver K C=Z
 sa:PySem.W.findIn K (.ref C) "__setattr__" = Y (Y (.builtin "object.__setattr__"))
def Cls.get{K:Qqq}(c:Cls K C)(f):PySem.W.plainGet K C f=true:=c.pg
def NoAttr(K:Qqq)(C:Y7)(f:Y5):Prop:=PySem.W.findIn K (.ref C) f=Y J
def NoAttr.taker{K:Qqq}(n:NoAttr K C f):PySem.W.takerIn K C f=Y none:=by
 unfold PySem.W.takerIn;rw[show PySem.W.findIn K (.ref C) f=Y J from n]
 rfl
structure Meth (K:Qqq) (C:Y7) (m:Y5) (f:Y7):Prop where
 at_:PySem.W.findIn K (.ref C) m=Y (Y (.ref f))
 fn:PySem.W.isFn K (.ref f)=Z
 kp:Qzg K (.ref f)=Z
section
def qb9(I:Inv X pins σ H s)(e:H a=Y (.ins C dx fs))(c:Cls X.K C)(n:NoAttr X.K C f)(l:fs.lookup f=Y v)(h:∀u s',Inv X pins σ H s'->RelV v u->Q u s'):wpAny (model X.prog X.w) A (getAttr (.ref a) f b) Q E s:=by
 obtain⟨mA,i,r,_,_,_⟩:=qqa I.hok e;obtain⟨u,g,d⟩:=RelO.some_of (by rw[<- l]; exact r f);exact qnk I.kIn i (c.get f) c.hd n g (qey d) (h u _ (I.tok _) d)
def qx0(I:Inv X pins σ H s)(e:H a=Y (.ins C dx fs))(c:Cls X.K C)(k:Meth X.K C m g)(l:fs.lookup m=J)(h:Q (.ref g,[.ref a]) s):wpAny (model X.prog X.w) A (Zo (.ref a) m pl) Q E s:=by
 obtain⟨mA,b,r,_,_,_⟩:=qqa I.hok e;have hn:=RelO.none_of (by rw[<- l]; exact r m);exact qhq I.kIn b (c.get m) k.at_ k.fn hn h
def qbh(I:Inv X pins σ H s)(e:H a=Y (.ins C dx fs))(c:Cls X.K C)(n:NoAttr X.K C f)(t:fs.length<1000)(m:RelV y u)(h:∀s',Inv X pins σ (upd H a (.ins C dx (putF f y fs))) s'->Q () s'):wpAny (model X.prog X.w) A (setAttr (.ref a) f u) Q E s:=by
 obtain⟨mA,d,r,j,_,k⟩:=qqa I.hok e;have hz:(fs.map (·.1)).length<=sizeLine:=by rw[Qqx,Q1]; omega
 refine qlb I.kIn d c.sa c.po n.taker c.hd j hz λh' i l=>h _ ?_;have hd:∃o,h'.get? dx=Y o:=let ⟨o,_,_,p,_⟩:=i.ns; ⟨o,p⟩;refine I.write (by rw[e]; exact True.intro) (.inr k) (λb q hb z=>(l.2 b hb).trans z) hd ?_;refine⟨by rw[qzx d.ne]; exact k,?_,d.ne,i.obj,_,i.ns,λg=>?_,λg hg=>?_⟩
 ·have:=qj1 f y fs; omega
 ·rw[qj0]
  by_cases q:g=f
  ·rw[Z2 q,Z2 q]; exact m
  ·rw[Z1 q,Z1 q]; exact r g
 ·by_cases q:g=f
  ·rw[q]; exact(qj3 f y fs).1
  ·refine(qj3 f y fs).2 g (j g λz=>hg ?_);show(if g=f then Y u else mA g)=J;rw[Z1 q]; exact z
def Inv.made(I:Inv X pins σ H s):Inv X pins σ (upd (upd H s.heap.objs.size (.own (s.heap.objs.size+1))) (s.heap.objs.size+1) (.ins C s.heap.objs.size []))
  { s with heap:=(s.heap.push PySem.W.emptyDict).push (PySem.W.instObj C s.heap.objs.size) }:=by
 have c:(s.heap.push PySem.W.emptyDict).get? s.heap.objs.size=Y PySem.W.emptyDict:=Qqn s.heap rfl;have i:((s.heap.push PySem.W.emptyDict).push (PySem.W.instObj C s.heap.objs.size)).get? (s.heap.objs.size+1)=Y (PySem.W.instObj C s.heap.objs.size):=by
  have:=Qqn (s.heap.push PySem.W.emptyDict) (o:=PySem.W.instObj C s.heap.objs.size) rfl;rwa [Qxq]at this
 have h:(s.heap.push PySem.W.emptyDict).Ns s.heap.objs.size (λ_=>J):=⟨PySem.W.emptyDict,#[],_,c,rfl,(λe g=>absurd g (by simp)),λ_=>rfl⟩
 have j:=I.laid (o:=.own (s.heap.objs.size+1)) (t':=s.toks) (λb u q=>Qqz _ q) (Qqv _) ⟨_,c⟩;refine j.laid (λb u q=>Qqz _ q) (Nat.le_of_eq (Qxq _ _)) ?_;have ne:s.heap.objs.size≠s.heap.objs.size+1:=Qq4 (Qzn _);refine⟨by rw[qzx ne,qzy],Qz4 _,ne,i,λ_=>J,(Heap.Ns1.of_empty h).at λo q=>Qqz _ q,λ_=>True.intro,λy d=>absurd rfl d⟩
def qnm(hb:Q9 e f env (Qy e env)=Qy e env)(h:wpAny (model prog w) A (Qy e env) (λo b=>wpAny (model prog w) A (getAttr o f Z) Q E b) E s):wpAny (model prog w) A (Qy (.Attribute e f pos) env) Q E s:=
 Attribute_any_ h (by rw[arm_eval_Attribute,hb])
end
noncomputable def tFld(K:Qqq)(ta:TE)(f:Y5):TE:=λσ H Q=>ta σ H λx H1=>∃a C dx fs v,x=.ref a/\H1 a=Y (.ins C dx fs)/\Cls K C/\NoAttr K C f/\fs.lookup f=Y v/\Q v H1
noncomputable def sFld(K:Qqq)(ta tv:TE)(f:Y5):TS:=λD σ H=>tv σ H λy H1=>ta σ H1 λx H2=>∃a C dx fs,x=.ref a/\H2 a=Y (.ins C dx fs)/\Cls K C/\NoAttr K C f/\fs.length<1000/\
 D.nx σ (upd H2 a (.ins C dx (putF f y fs)))
section
def pe_fld(g:PE X e ta)(hb:Q9 e f X.env (Qy e X.env)=Qy e X.env):PE X (.Attribute e f pos) (tFld X.K ta f):=by
 intro pins s σ H Q I h;refine qnm hb (thn (g pins s σ H _ I h) λu r ⟨x,H1,k,b,a,C,dx,fs,v,ex,i,c,n,l,q⟩=>?_);subst ex;obtain rfl:u=Value.ref a:=b;exact qb9 k i c n l λm p j d=>⟨v,H1,j,d,q⟩
def ps_fld(k:PE X o ta)(hv:PE X value tv)(hs:swapsWith value (Y (.Attribute o f pos')) pos.line X.env=pure Y6):PS X (.Assign [.Attribute o f pos'] value pos) (sFld X.K ta tv f):=by
 intro pins s σ H D I h;refine plainObj_wpAny_Assign_Attribute (thn (hv pins s σ H _ I h) λu b ⟨y,H1,t,d,q⟩=>thn (k pins b σ H1 _ t q) λj w ⟨x,H2,r,g,a,C,dx,fs,ex,m,c,n,l,i⟩=>?_) hs;subst ex;obtain rfl:j=Value.ref a:=g;exact qbh r m c n l d λv p=>⟨σ,_,p,i⟩
def qmd(y:PE X e p)(I:Inv X d j H s)(h:p j H λx H1=>∃a C dx fs g,x=.ref a/\H1 a=Y (.ins C dx fs)/\Cls X.K C/\Meth X.K C m g/\fs.lookup m=J/\
   ∀n,Inv X d j H1 n->wpAny (model X.prog X.w) X.A (callWith pos (.ref g) [.ref a] (backTo pos (starEach b X.env)) (backToKw pos (keywordEach [] X.env))) Q X.xe n)(w:Qy (.Call (.Attribute e m i) b [] pos) X.env=(do
   let r <- Qy e X.env
   Zg i.atName
   let (f,first) <- Q4 [r] (Zo r m pl)
   callWith pos f first (backTo pos (starEach b X.env)) (backToKw pos (keywordEach [] X.env)))):
  wpAny (model X.prog X.w) X.A (Qy (.Call (.Attribute e m i) b [] pos) X.env) Q X.xe s:=by
 refine Qx7 (thn (y d s j H _ I h) λu n ⟨x,H1,t,v,a,C,dx,fs,g,ex,z,c,k,l,q⟩=>?_) w;subst ex;obtain rfl:u=Value.ref a:=v;exact qx0 t z c k l (q n t)
end
section
end
structure Room (k:Y0) (A:Qv):Prop where
 hd:A.handled=J
 dp:A.depth+3*k+5<recursionLimit
 un:A.units+16*k+200<cLine
def Room.mono(r:Room k A)(h:j<=k):Room j A:=⟨r.hd,by have:=r.dp; omega,by have:=r.un; omega⟩
theorem Room.deeper(r:Room (k+1) A)(env):Room k (A.deeper env):=
 ⟨r.hd,by have:=r.dp; show A.depth+1+3*k+5<_; omega,by have:=r.un; show A.units+3+16*k+200<_; omega⟩
def qb6{A:Qv}:(A.under (.builtin "type.__call__" ⟨.ref C::us,a⟩)).depth=A.depth+1:=by
 first|rfl|simp[Around.under,Code.weight,Code.isCreation,Code.isGuard,Code.isCaller,Code.frames,Code.isFrame,guardIds]
def qb5{A:Qv}:(A.under (.builtin "type.__call__" ⟨.ref C::us,a⟩)).units=A.units+1:=by
 first|rfl|simp[Around.under,Code.cUnits,Code.frames,Code.isFrame]
def Room.make(r:Room (k+1) A)(C)(us)(a):Room k (A.under (.builtin "type.__call__" ⟨.ref C::us,a⟩)):=
 ⟨r.hd,by have:=r.dp; rw[qb6]; omega,by have:=r.un; rw[qb5]; omega⟩
theorem Room.depth(r:Room k A):A.depth<recursionLimit:=by have:=r.dp; omega
theorem Room.units(r:Room k A):A.units+64<cLine:=by have:=r.un; omega
noncomputable def tNil:TA:=λ_ H Q=>Q [] H
noncomputable def qlz(ta:TE)(tr:TA):TA:=λσ H Q=>ta σ H λx H1=>tr σ H1 λxs H2=>Q (x::xs) H2
section
def pa_nil:PA X [] tNil:=λ_ _ _ _ H Q I h=>Calls.spliced_nil ⟨[],H,I,.nil,h⟩
def qqs(f:PE X e te)(hr:PA X es t)(hs:starEach (e::es) X.env=(Y6,Qy e X.env)::starEach es X.env:=by rfl):PA X (e::es) (qlz te t):=by
 intro pos pins s σ H Q I h;rw[hs];refine Calls.spliced_cons (thn (f pins s σ H _ I h) λu a ⟨x,H1,i,r1,d⟩=>?_);exact thn (hr pos pins a σ H1 _ i d) λj k ⟨xs,H2,g,b,c⟩=>⟨x::xs,H2,g,.cons r1 b,c⟩
noncomputable def tTup(t:TA):TE:=λσ H Q=>t σ H λxs H1=>xs.length<=sizeLine/\∀p,H1 p=J->Q (.ref p) (upd H1 p (.tup xs))
noncomputable def tLst(t:TA):TE:=λσ H Q=>t σ H λxs H1=>xs.length<=sizeLine/\∀p,H1 p=J->Q (.ref p) (upd H1 p (.lst xs))
def qh6{d}(h:PA X es t):PE X (.Tuple es d pos) (tTup t):=by
 intro pins s σ H Q I g;refine wpAny_Tuple_spliced (thn (h pos pins s σ H _ I g) λf a ⟨xs,H1,c,r,z,q⟩=>⟨by rw[<- r.length]; exact z,?_⟩);have hf:=c.hok.fresh (Qqv _);refine⟨.ref a.heap.objs.size,upd H1 a.heap.objs.size (.tup xs),c.laid (λb u e=>Qqz _ e) (Qqv _) ?_,rfl,q _ hf⟩;exact⟨z,f,r,⟨_,Qqn _ rfl,rfl,_,rfl⟩⟩
def pe_lst(h:PA X es t):PE X (.List es pos) (tLst t):=by
 intro pins s σ H Q I f;refine wpAny_List_spliced (thn (h pos pins s σ H _ I f) λd a ⟨xs,H1,c,r,z,q⟩=>⟨by rw[<- r.length]; exact z,?_⟩);have hf:=c.hok.fresh (Qqv _);refine⟨.ref a.heap.objs.size,upd H1 a.heap.objs.size (.lst xs),c.laid (λb u e=>Qqz _ e) (Qqv _) ?_,rfl,q _ hf⟩;exact⟨z,d,0,r,Qqn _ rfl⟩
end
abbrev Sp:=L V->Hp->VK->XK->Prop
abbrev CXT:=L Env->Hp->Qz->XK->Y8->Qz->Prop
structure Env0 (P:Program) (w:Qk) (K:Qqq) (mg:Y5->Y3 Y8) (base:Heap) (A:Qv) (outer:L Env) (s:Qz) (H:Hp):Prop where
 frames:A.frames=Y outer
 mod:Mod K mg base
 bs:∀b o,base.get? b=Y o->s.heap.get? b=Y o/\H b=J
 bsz:base.objs.size<=s.heap.objs.size
 funs:s.heap.FunFrames base outer
 frf:∀b∈frs outer,H b=J
 hok:HOk P w H s.heap
 bare:Zf s.gens
def CE(outer:L Env)(P:Program)(w:Qk)(H:Hp)(s:Qz)(Q:VK)(u:Y8)(s':Qz):Prop:=
 ∃v H',s'.os=s.os/\Zf s'.gens/\Un (frs outer) [] H H' s.heap s'.heap/\HOk P w H' s'.heap/\RelV v u/\Q v H'
def CR(CX:CXT)(outer:L Env)(P:Program)(w:Qk)(H:Hp)(s:Qz)(Q:VK)(E:XK)(r:Result)(s':Qz):Prop:=
 match r with
 |.ok (.ret u)=>CE outer P w H s Q u s'
 |.ok _=>False
 |.error e=>CX outer H s E e s'
structure FnOk (P:Program) (w:Qk) (K:Qqq) (mg:Y5->Y3 Y8) (base:Heap) (CX:CXT) (k:Y0) (f:Y7) (fd:Qo) (ps:L Y5) (sp:Sp):Prop where
 len:∀vs H Q E,sp vs H Q E->vs.length=ps.length
 run:∀(A:Qv) (outer:L Env) (s:Qz) (H:Hp) (args:Args) (us:L Y8) (vs:L V) (Q:VK) (E:XK),Room k A->Env0 P w K mg base A outer s H->BindsTo s fd args (ps.zip us)->Vals vs us->sp vs H Q E->
  Zw (model P w) A (.call (.ref f) args) (CR CX outer P w H s Q E) s
def FnOk.imp{K:Qqq}(F:FnOk P w K mg base d k f c ps b)(h:∀vs H Q E,sp' vs H Q E->b vs H Q E):FnOk P w K mg base d k f c ps sp':=
 ⟨λvs H Q E q=>F.len vs H Q E (h _ _ _ _ q),λA outer s H a e vs Q E hr g hb hv hs=>F.run A outer s H a e vs Q E hr g hb hv (h _ _ _ _ hs)⟩
def Env0.make{K:Qqq}(e:Env0 P w K mg base A outer s H)(C)(us)(a):
  Env0 P w K mg base (A.under (.builtin "type.__call__" ⟨.ref C::us,a⟩)) outer s H:=⟨by first|exact e.frames|(simpa[Around.under,Code.envs,Code.isFrame,pushEnvs] using e.frames),e.mod,e.bs,e.bsz,e.funs,e.frf,e.hok,e.bare⟩
section
def Inv.env0(I:Inv X pins σ H s):Env0 X.prog X.w X.K X.mg X.base X.A X.stack s H:=
 ⟨I.ok.frames,I.ok.mod,I.bs,Qzm I.ok.bsz I.sz,I.stack,I.stkFree,I.hok,I.bare⟩
def Inv.after(I:Inv X pins σ H s)(h:CE X.stack X.prog X.w H s Q u s'):EP X pins σ Q u s':=by
 obtain⟨v,H',os,bare,un,hok,r,q⟩:=h;obtain⟨c,g,d,t,a⟩:=s';obtain rfl:a=s.os:=os;exact⟨v,H',I.call un hok bare (λb z=>absurd z (by simp)),r,q⟩
end
noncomputable def tCall(sp:Sp)(dvs:L V)(E:XK)(t:TA):TE:=λσ H Q=>t σ H λvs H1=>sp (vs++dvs) H1 Q E
noncomputable def qi8(C:Y7)(m:Y5)(sp:Sp)(dvs:L V)(E:XK)(ta:TE)(t:TA):TE:=λσ H Q=>ta σ H λx H1=>∃a dx fs,x=.ref a/\H1 a=Y (.ins C dx fs)/\fs.lookup m=J/\
 t σ H1 λvs H2=>sp (x::(vs++dvs)) H2 Q E
noncomputable def tMake(C:Y7)(sp:Sp)(dvs:L V)(E:XK)(t:TA):TE:=λσ H Q=>t σ H λvs H1=>∀x dx,H1 x=J->H1 dx=J->dx≠x->
 sp (.ref x::(vs++dvs)) (upd (upd H1 dx (.own x)) x (.ins C dx [])) (λv H2=>v=.non/\Q (.ref x) H2) E
def Binds(K:Qqq)(fd:Qo)(ps:L Y5)(ds:L Y8):Prop:=
 ∀(s:Qz) (us:L Y8),K.In s.heap->(us++ds).length=ps.length->BindsTo s fd ⟨us,[]⟩ (ps.zip (us++ds))
def Binds.all{K:Qqq}(h:∀a:L Y8,a.length=ps.length->bindArgs c ⟨a,[]⟩=pure (ps.zip a)):Binds K c ps []:=λs a _ b=>by
 rw[Qze]at b ⊢;exact .of_eq (h a b)
def qkv(CX:CXT)(X:Cx)(E:XK):Prop:=∀(pins:L (Y7×Obj)) (σ:St) (H:Hp) (s:Qz) (e:Y8) (s':Qz),Inv X pins σ H s->CX X.stack H s E e s'->X.xe e s'
section
def qdj(F:FnOk X.prog X.w X.K X.mg X.base CX k f fd ps sp)(hr:Room k X.A)(hb:Binds X.K fd ps ds)(hd:Vals dvs ds)(g:qkv CX X E)(I:Inv X a c H s)(r:Vals vs us)(h:sp (vs++dvs) H Q E):wpAny (model X.prog X.w) X.A (call (.ref f) us) (EP X a c Q) X.xe s:=by
 have d:=r.append hd;have i:(us++ds).length=ps.length:=by rw[<- d.length]; exact F.len _ _ _ _ h
 refine wpAny_call (Q8 (F.run X.A X.stack s H ⟨us,[]⟩ (us++ds) (vs++dvs) Q E hr I.env0 (hb s us I.kIn i) d h) λr s' b=>?_)
 cases r with
 |error e=>exact g a c H s e s' I b
 |ok j=>
  cases j with
  |ret u=>exact I.after b
  |next=>exact False.elim b
  |brk=>exact False.elim b
  |cont=>exact False.elim b
def ql8(F:FnOk X.prog X.w X.K X.mg X.base CX k f fd ps sp)(hr:Room k X.A)(i:Gl X x)(g:X.mg x=Y (.ref f))(hk:Qzg X.K (.ref f)=Z)(hb:Binds X.K fd ps ds)(hd:Vals dvs ds)(d:qkv CX X E)
  (l:PA X (e::es) t) (b:(x==("__debug__" : Y5))=false:=by decide) (j:starEach (e::es) X.env=(Y6,Qy e X.env)::starEach es X.env:=by rfl) (a:(backTo pos (starEach es X.env)).any (·.1)=false:=by rfl) :
  PE X (.Call (.Name x p) (e::es) [] pos) (tCall sp dvs E t):=by
 intro pins s σ H Q I h;refine Zv (qym I i g ?_ b);refine Qjc I.ok.mod.kin hk (thn (l pos pins s σ H _ I h) λn u ⟨vs,H1,c,r,q⟩=>⟨c.kIn,?_⟩) j a;exact qdj F hr hb hd d c r q
def ql0(G:PE X o ta)(c:Cls X.K C)(i:Meth X.K C m f)(F:FnOk X.prog X.w X.K X.mg X.base CX k f fd ps sp)(hr:Room k X.A)(hb:Binds X.K fd ps ds)(hd:Vals dvs ds)(A:qkv CX X E)(K:PA X (e::es) t)(b:starEach (e::es) X.env=(Y6,Qy e X.env)::starEach es X.env:=by rfl)(d:(backTo pos (starEach es X.env)).any (·.1)=false:=by rfl)(D:Qy (.Call (.Attribute o m apos) (e::es) [] pos) X.env=(do
   let g <- Qy o X.env
   Zg apos.atName
   let (f,first) <- Q4 [g] (Zo g m pl)
   callWith pos f first (backTo pos (starEach (e::es) X.env)) (backToKw pos (keywordEach [] X.env))):=by rfl):
  PE X (.Call (.Attribute o m apos) (e::es) [] pos) (qi8 C m sp dvs E ta t):=by
 intro pins s σ H Q I h;refine Qx7 (thn (G pins s σ H _ I h) λu w ⟨x,H1,n,y,a,dx,fs,ex,N,l,q⟩=>?_) D;subst ex;obtain rfl:u=Value.ref a:=y;refine qx0 n N c i l ?_;refine Qjc I.ok.mod.kin i.kp (thn (K pos pins w σ H1 _ n q) λv P ⟨vs,H2,j,r,z⟩=>⟨j.kIn,?_⟩) b d;exact qdj (vs:=.ref a::vs) F hr hb hd A j (.cons rfl r) z
def qgg(r:PE X o ta)(c:Cls X.K C)(g:Meth X.K C m f)(F:FnOk X.prog X.w X.K X.mg X.base CX k f fd ps sp)(hr:Room k X.A)(hb:Binds X.K fd ps ds)(hd:Vals dvs ds)(j:qkv CX X E)(n:Qy (.Call (.Attribute o m apos) [] [] pos) X.env=(do
   let d <- Qy o X.env
   Zg apos.atName
   let (f,first) <- Q4 [d] (Zo d m pl)
   callWith pos f first (backTo pos (starEach [] X.env)) (backToKw pos (keywordEach [] X.env))):=by rfl):
  PE X (.Call (.Attribute o m apos) [] [] pos) (qi8 C m sp dvs E ta tNil):=by
 intro pins s σ H Q I h;refine Qx7 (thn (r pins s σ H _ I h) λu w ⟨x,H1,b,i,a,dx,fs,ex,v,l,q⟩=>?_) n;subst ex;obtain rfl:u=Value.ref a:=i;refine qx0 b v c g l ?_;exact PySem.W.callWith_K0 b.kIn g.kp (qdj (vs:=[.ref a]) F hr hb hd j b (.cons rfl .nil) q)
structure Mk (K:Qqq) (C f:Y7):Prop where
 makes:PySem.W.makesIn K C=Z
 init:PySem.W.findIn K (.ref C) "__init__" = Y (Y (.ref f))
 fn:PySem.W.isFn K (.ref f)=Z
 kp:Qzg K (.ref C)=Z
def qf8(M:Mk X.K C f)(F:FnOk X.prog X.w X.K X.mg X.base CX k f fd ps sp)(hr:Room (k+1) X.A)(hb:Binds X.K fd ps ds)(hd:Vals dvs ds)(n:qkv CX X E)(I:Inv X a d H s)(r:Vals vs us)(h:∀x dx,H x=J->H dx=J->dx≠x->sp (.ref x::(vs++dvs)) (upd (upd H dx (.own x)) x (.ins C dx [])) (λv H2=>v=.non/\Q (.ref x) H2) E):
  wpAny (model X.prog X.w) X.A (call (.ref C) us) (EP X a d Q) X.xe s:=by
 have i:=h (s.heap.objs.size+1) s.heap.objs.size (I.hok.fresh (Qxd _)) (I.hok.fresh (Qqv _)) (Qq4 (Qzn _));have c:=Inv.made (C:=C) I;have g:Vals (V.ref (s.heap.objs.size+1)::(vs++dvs)) (Value.ref (s.heap.objs.size+1)::(us++ds)):=.cons rfl (r.append hd);have q:(Value.ref (s.heap.objs.size+1)::us++ds).length=ps.length:=by
  have e:=g.length;rw[F.len _ _ _ _ i]at e;exact e.symm
 refine wpAny_call (qg1 I.kIn M.makes M.init (beq_iff_eq.mp M.fn) (Q8 (F.run _ X.stack _ _ ⟨Value.ref (s.heap.objs.size+1)::us,[]⟩ (Value.ref (s.heap.objs.size+1)::(us++ds)) _ _ E (hr.make C us [])
  (c.env0.make C us []) (hb _ (Value.ref (s.heap.objs.size+1)::us) c.kIn q) g i) λr s' b=>?_))
 cases r with
 |error e=>exact n a d _ _ e s' c b
 |ok w=>
  cases w with
  |ret u=>
   obtain⟨v,H',y,j,ev,l⟩:=c.after b;subst ev;exact⟨j,⟨V.ref (s.heap.objs.size+1),H',y,rfl,l⟩⟩
  |next=>exact False.elim b
  |brk=>exact False.elim b
  |cont=>exact False.elim b
def ql1(M:Mk X.K C f)(F:FnOk X.prog X.w X.K X.mg X.base CX k f fd ps sp)(hr:Room (k+1) X.A)(i:Gl X x)(g:X.mg x=Y (.ref C))(hb:Binds X.K fd ps ds)(hd:Vals dvs ds)(d:qkv CX X E)
  (l:PA X (e::es) t) (b:(x==("__debug__" : Y5))=false:=by decide) (j:starEach (e::es) X.env=(Y6,Qy e X.env)::starEach es X.env:=by rfl) (a:(backTo pos (starEach es X.env)).any (·.1)=false:=by rfl) :
  PE X (.Call (.Name x p) (e::es) [] pos) (tMake C sp dvs E t):=by
 intro pins s σ H Q I h;refine Zv (qym I i g ?_ b);refine Qjc I.ok.mod.kin M.kp (thn (l pos pins s σ H _ I h) λn u ⟨vs,H1,c,r,q⟩=>⟨c.kIn,?_⟩) j a;exact qf8 M F hr hb hd d c r q
end
section
end
structure FnScope (N P:L Y5) (sc:Scope):Prop where
 kind:sc.kind=.function
 co:sc.isCoroutine=Y6
 gen:sc.isGenerator=Y6
 nd:N.Nodup
 pre:N.take P.length=P
 par:∀x∈P,sc.names.lookup x=Y .local\/sc.names.lookup x=Y .cell
 nofree:∀y∈sc.names,y.2≠.free
theorem qyz:∀{binds}{m},(∀v,(x,v) ∉ binds)->bindL a binds m x=m x
 |[],_,_=>rfl
 |(n,v)::r,m,h=>by
  unfold bindL;rw[qyz λw b=>h w (Qqu _ b)]
  split
  ·have:x≠n:=by rintro rfl; exact h v Qq9
   simp[this]
  ·rfl
theorem qyx:∀{binds}{m},(∀v,(x,v) ∉ binds)->bindC a binds m x=m x
 |[],_,_=>rfl
 |(n,v)::r,m,h=>by
  unfold bindC;rw[qyx λw b=>h w (Qqu _ b)]
  split
  ·rfl
  ·have:x≠n:=by rintro rfl; exact h v Qq9
   simp[this]
theorem qyq:∀{P:L Y5}{vs:L Y8}{i:Y0}{m:Y5->Y3 Y8},P.Nodup->P[i]?=Y x->vs[i]?=Y v->a x=Y .local->
  bindL a (P.zip vs) m x=Y v
 |[],_,_,_,_,h,_,_=>by simp at h
 |_::_,[],_,_,_,_,h,_=>by simp at h
 |p::P,w::vs,0,m,nd,h1,h2,hk=>by
  simp at h1 h2; subst h1; subst h2;show bindL a ((p,w)::P.zip vs) m p=_;unfold bindL;rw[qyz λv hv=>(Qzy.mp nd).1 (Qj1 hv).1,Z2 hk];simp
 |p::P,w::vs,i+1,m,nd,h1,h2,hk=>by
  unfold bindL;exact qyq (Qzy.mp nd).2 (by simpa using h1) (by simpa using h2) hk
theorem qyj:∀{P:L Y5}{vs:L Y8}{i:Y0}{m:Y5->Y3 Y8},P.Nodup->P[i]?=Y x->vs[i]?=Y v->a x≠Y .local->
  bindC a (P.zip vs) m x=Y v
 |[],_,_,_,_,h,_,_=>by simp at h
 |_::_,[],_,_,_,_,h,_=>by simp at h
 |p::P,w::vs,0,m,nd,h1,h2,hk=>by
  simp at h1 h2; subst h1; subst h2;show bindC a ((p,w)::P.zip vs) m p=_;unfold bindC;rw[qyx λv hv=>(Qzy.mp nd).1 (Qj1 hv).1,Z1 hk];simp
 |p::P,w::vs,i+1,m,nd,h1,h2,hk=>by
  unfold bindC;exact qyj (Qzy.mp nd).2 (by simpa using h1) (by simpa using h2) hk
noncomputable def start(N:L Y5)(vs:L V):St:=vs.map Y++List.replicate (N.length - vs.length) J
noncomputable def cxOf(CX:CXT)(P:Program)(w:Qk)(K:Qqq)(mg:Y5->Y3 Y8)(base:Heap)(N:L Y5)(qual:Y5)(scope:Scope)(f:Y7)(cd:Y8)(A:Qv)(outer:L Env)(s:Qz)(H:Hp)(E:XK):Cx where
 prog:=P
 w:=w
 K:=K
 mg:=mg
 base:=base
 A:=A.deeper (envOfC qual scope s.heap.objs.size f cd)
 N:=N
 s₀:=s
 H₀:=H
 env:=envOfC qual scope s.heap.objs.size f cd
 outer:=outer
 stack:=envOfC qual scope s.heap.objs.size f cd::outer
 ex:=[]
 calm:=Z
 fn:=λ_=>Z
 pn:=[]
 xe:=λe s'=>wpAny (model P w) (A.deeper (envOfC qual scope s.heap.objs.size f cd)) (leaving (envOfC qual scope s.heap.objs.size f cd) e) (λ_ s''=>CX outer H s E e s'') (λe' s''=>CX outer H s E e' s'') s'
def qbj{sc:Scope}(h:sc.names.lookup x=Y .cell):∃c,(cellsFrom n sc.names []).lookup x=Y c:=by
 have q:=Qj4 sc.names n [] (.inl h);exact Qz5.mp q
def qeq{K:Qqq}(S:FnScope N ps d)(hd:A.handled=J)(j:Env0 P w K mg base A outer s H)(R:vs.length=ps.length)(r:Vals vs us)(x:InCallC s s.heap.objs.size (bindL (envOfC g d s.heap.objs.size f C).kindOf (ps.zip us) λ_=>J) (cellsFrom (s.heap.objs.size+1) d.names []) (bindC (envOfC g d s.heap.objs.size f C).kindOf (ps.zip us) λ_=>J) s1):
  Inv (cxOf F P w K mg base N g d f C A outer s H E) [] (start N vs) H s1:=by
 have I:ps.length<=N.length:=by have:=congrArg List.length S.pre; rw[Qza]at this; omega
 obtain⟨h1,tk,rfl,hk⟩:=x.done;have l:∀b:Y7,b ∉ (cxOf F P w K mg base N g d f C A outer s H E).ex:=λb z=>absurd (show b∈([]:L Y7) from z) (by simp)
 refine⟨⟨j.mod,S.kind,rfl,rfl,Qqv _,λy z c h1 h2=>?_,λy m=>?_,λy c _ h=>?_,λ_=>hd,Around.frames_deeper j.frames,.inr ⟨rfl,rfl⟩,λb z=>absurd z (l b),j.bs,j.bsz,λb _ _=>l b,λb z=>absurd z (l b),j.funs,j.frf⟩,
  rfl,j.bare,Un.kept hk,⟨_,x.toInCall.ns,λi y v h1 h2 T=>?_⟩,λy c h=>⟨_,x.cell y c h⟩,j.hok.fresh (Qqv _),λy c h=>?_,λp t=>absurd (show p∈([]:L (Y7×Obj)) from t) (by simp),j.hok.kept hk,?_⟩
 ·exact name_of_addr x.apart (PySem.mem_of_lookup h1) (PySem.mem_of_lookup h2)
 ·have m:=m;rcases m with m|m
  ·exact qbj m
  ·exact absurd rfl (S.nofree _ (PySem.mem_of_lookup m))
 ·exact Qx9 (x.above y c (PySem.mem_of_lookup h))
 ·have hi:i<vs.length:=by
   unfold start at h2
   by_cases hi:i<vs.length
   ·exact hi
   ·rw[Qzd (by simpa using hi)]at h2;rw[Qjt]at h2
    split at h2<;>cases h2
  have Q:vs[i]?=Y v:=by
   unfold start at h2;rw[Qqr (by simpa using hi),Qqb]at h2
   cases e:vs[i]? with
   |none=>rw[e]at h2; cases h2
   |some a=>rw[e]at h2; cases h2; rfl
  obtain⟨u,D,G⟩:=r.get Q;have t:ps[i]?=Y y:=by
   rw[<- S.pre,List.getElem?_take_of_lt (by omega)]; exact h1
  have o:ps.Nodup:=by rw[<- S.pre]; exact S.nd.sublist (List.take_sublist _ _)
  refine⟨u,G,?_⟩;rcases S.par y (Qqm t) with k|k
  ·exact .inl ⟨k,qyq o t D k⟩
  ·obtain⟨c,e⟩:=qbj k;refine .inr ⟨.inl k,c,e,?_⟩;have q:=x.cell y c e;rw[qyj o t D (by show d.names.lookup y≠_; rw[k]; decide)]at q;exact q
 ·exact j.hok.fresh (Qx9 (x.above y c (PySem.mem_of_lookup h)))
 ·unfold start;show _=N.length;rw[Qqg,Qqx,Qx8];omega
def fn_of{K:Qqq}{kV:Y8}(lk:K.lookup f=Y ⟨oc,od,.func (PySem.W.fnOf name c g body a T kV doc R an d ct),F⟩)(G:PySem.W.codeIn K d c=Z)(S:FnScope N ps a)(len:∀vs H Q E,sp vs H Q E->vs.length=ps.length)(l:∀(A:Qv) (outer:L Env) (s:Qz) (H:Hp) (vs:L V) (Q:VK) (E:XK),Room k (A.deeper (envOfC c a s.heap.objs.size f d))->sp vs H Q E->
   ∃t,PSs (cxOf C P w K mg base N c a f d A outer s H E) body t/\t { nx:=λ_ H'=>Q .non H',rt:=Q } (start N vs) H):
  FnOk P w K mg base C (k+1) f (PySem.W.fnOf name c g body a T kV doc R an d ct) ps sp:=by
 refine⟨len,λA outer s H U X vs Q E hr z hb r m=>?_⟩;have hl:=len _ _ _ _ m;have W:=z.mod.kin.keeps λb o e=>(z.bs b o e).1;have lim:=z.mod.nolimit.keeps λb o e=>(z.bs b o e).1;have j:∀y∈ps.zip X,a.names.lookup y.1=Y .local\/(a.names.lookup y.1=Y .cell/\((cellsFrom (s.heap.objs.size+1) a.names []).lookup y.1).isSome=Z):=λ⟨n,v⟩ hy=>by
  rcases S.par n (Qj1 hy).1 with q|q
  ·exact .inl q
  ·exact .inr ⟨q,Qj4 _ _ _ (.inl q)⟩
 refine codeAny_call_function hr.depth (W _ _ lk) rfl S.co S.gen rfl (PySem.W.codeRec_of W G) (hb _ _ _ _ ?_);refine wpAny_newFunctionEnv_cells S.kind j λenv he s1 x=>?_;subst he;refine⟨lim.keeps x.toInCall.keep,codeAny_func ?_⟩;obtain⟨t,ht,hq⟩:=l A outer s H vs Q E (hr.deeper _) m;have I:Inv (cxOf C P w K mg base N c a f d A outer s H E) [] (start N vs) H s1:=qeq S hr.hd z hl r x;refine Qe (ht [] s1 (start N vs) H _ I hq) (λfl s' hs=>?_) λe s' hs=>hs;have p:∀{h:St}{H':Hp}{v:V}{u:Y8},Inv (cxOf C P w K mg base N c a f d A outer s H E) [] h H' s'->RelV v u->Q v H'->CE outer P w H s Q u s':=
  λ{h H' v u} i D q=>⟨v,H',i.os,i.bare,i.base,i.hok,D,q⟩
 cases fl with
 |ret u=>
  obtain⟨v,h,H',i,D,q⟩:=hs;exact p i D q
 |next=>
  obtain⟨h,H',i,q⟩:=hs;exact p (v:=V.non) i rfl q
 |brk=>
  obtain⟨_,_,_,q⟩:=hs;exact False.elim q
 |cont=>
  obtain⟨_,_,_,q⟩:=hs;exact False.elim q
section
variable {X:Cx}{x:Y5}{p pos:Pos}{e:Qx}{es:L Qx}{t:TA}{id:String}{r:L V->Hp->VK->Prop}
noncomputable def tCB(r:L V->Hp->VK->Prop)(t:TA):TE:=λσ H Q=>t σ H λvs H1=>r vs H1 Q
def qz6(hc:qqk X (.builtin id) r)(j:Gl X x)(i:X.mg x=J)(hv:Qa x=Y (.builtin id))(l:PA X (e::es) t)(g:x ≠ "__name__":=by decide)(b:(x==("__debug__" : Y5))=false:=by decide)
  (k:starEach (e::es) X.env=(Y6,Qy e X.env)::starEach es X.env:=by rfl) (a:(backTo pos (starEach es X.env)).any (·.1)=false:=by rfl):PE X (.Call (.Name x p) (e::es) [] pos) (tCB r t):=by
 intro pins s σ H Q I h;refine Zv (qwe I j i hv ?_ g b);exact PyProof.Rows.callWith_builtin1 (thn (l pos pins s σ H _ I h) λc d ⟨vs,H1,m,r1,f⟩=>hc pins d σ H1 vs c Q m r1 f) k a
def qxa(hc:qqk X (.type T) r)(j:Gl X x)(i:X.mg x=J)(hv:Qa x=Y (.type T))(l:PA X (e::es) t)(g:x ≠ "__name__":=by decide)(b:(x==("__debug__" : Y5))=false:=by decide)
  (k:starEach (e::es) X.env=(Y6,Qy e X.env)::starEach es X.env:=by rfl) (a:(backTo pos (starEach es X.env)).any (·.1)=false:=by rfl):PE X (.Call (.Name x p) (e::es) [] pos) (tCB r t):=by
 intro pins s σ H Q I h;refine Zv (qwe I j i hv ?_ g b);exact PyProof.Rows.callWith_type1 (thn (l pos pins s σ H _ I h) λc d ⟨vs,H1,m,r1,f⟩=>hc pins d σ H1 vs c Q m r1 f) k a
end
end L2
namespace HT
open PySem PyProof.Rows
section
open PySem.SeqAt
open PySem.AutoSeq1 (wpAny_loadPart')
open PySem.MeetsSeq PySem.MeetsSeq2 PySem.MeetsSeq3
end
section
def cat_tup(o:IsTup s.heap t vs.toArray)(hb:IsTup s.heap b ws.toArray)(hv:vs≠[])(q:ws=[]->Q (.ref t) s)(p:ws≠[]->Q (.ref s.heap.objs.size) { s with heap:=s.heap.push { cls:=.type "tuple",data:=.seq (vs++ws).toArray } })(hsz:vs.length+ws.length<=sizeLine):wpAny (model prog w) A (Q3 .Add (.ref t) (.ref b)) Q E s:=by
 obtain⟨⟨cls,l,data,sl⟩,i,hc,n,hd⟩:=id o;obtain⟨⟨m,g,j,c⟩,a,f,k,d⟩:=id hb;simp only at hc hd f d;subst hc hd f d;have e:vs.toArray++ws.toArray=(vs++ws).toArray:=by simp
 by_cases h:ws=[]
 ·exact concat_meets ⟨_,i,rfl⟩ ⟨_,a,rfl⟩ noFill_tuple_add seq_tuple_add PySem.F.slot_tuple_add PySem.F.entry_tuple_add (PySem.F.args_tuple_add_2 _ _)
   (tuple_addW1 t b vs.toArray ws.toArray n k l g sl c (by simpa using hv) (by simp[h])) ⟨i,a,q h⟩
 ·refine concat_meets ⟨_,i,rfl⟩ ⟨_,a,rfl⟩ noFill_tuple_add seq_tuple_add PySem.F.slot_tuple_add PySem.F.entry_tuple_add (PySem.F.args_tuple_add_2 _ _)
   (tuple_addW2 t b vs.toArray ws.toArray n k l g sl c (by simpa using hv) (by simpa using h) (by rw[Qqw,Qqw]; exact hsz)) ⟨i,a,?_⟩
  rw[e];exact p h
noncomputable def sIx(n d:Y0):Y3 B->Y0
 |none=>d
 |some v=>if v<0 then(v+(n:B)).toNat else min v.toNat n
def sIx_le(n d)(hd:d<=n)(o):sIx n d o<=n:=by
 cases o with
 |none=>exact hd
 |some v=>
  show(if v<0 then(v+(n:B)).toNat else min v.toNat n)<=n
  by_cases hv:v<0
  ·rw[Z2 hv]; omega
  ·rw[Z1 hv]; exact Nat.min_le_right _ _
def qe0(v)(n d:Y0):(if v<0 then max (v+(n:B)) 0 else min v (n:B))=((sIx n d (Y v):Y0):B):=by
 show(if v<0 then max (v+(n:B)) 0 else min v (n:B))=(((if v<0 then(v+(n:B)).toNat else min v.toNat n):Y0):B)
 by_cases hv:v<0
 ·simp only[Z2 hv]; omega
 ·simp only[Z1 hv]; omega
def qcy(lo hi)(n:Y0):Builtin.Slice.sliceAdjust lo hi 1 (n:B)=(((sIx n 0 lo:Y0):B),((sIx n n hi:Y0):B)):=by
 have h1:¬ ((1:B)<0):=by omega
 unfold Builtin.Slice.sliceAdjust;simp only[h1,if_false];refine Prod.ext ?_ ?_
 ·cases lo with
  |none=>rfl
  |some v=>exact qe0 v n 0
 ·cases hi with
  |none=>rfl
  |some v=>exact qe0 v n n
def qbo(i j:Y0):Builtin.Slice.slicePlaces (i:B) (j:B) 1=j - i:=by
 unfold Builtin.Slice.slicePlaces;have h1:(1:B) > 0:=by omega
 simp only[h1,if_true,Int.ediv_one]
 split<;>omega
def qkm(p:IsPart v o)(h:Q o s):wpAny (model prog w) A (Builtin.Slice.slicePartIndex v) Q E s:=by
 cases p with
 |none=>exact slicePart_none h
 |int i t=>exact slicePart_int h
def sliceApplied_gen{lo:Y3 B}{n:Y0}(hs:s.heap.IsSliceOf sl vl c .none)(pl:IsPart vl lo)(pu:IsPart c hi)(h:Q (((sIx n 0 lo:Y0):B),1,sIx n n hi - sIx n 0 lo) s):wpAny (model prog w) A (Builtin.Slice.sliceApplied (.ref sl) (pure (n:B))) Q E s:=by
 obtain⟨os,a,d,b⟩:=id hs;unfold Builtin.Slice.sliceApplied Builtin.Slice.sliceFields;refine Qq (Qq (Qf a b rfl (Qq (Qf a b rfl (Qq (Qf a b rfl (Qj ?_)))))));refine Qq (slicePart_none ?_);rw[Z1 (by decide)];refine Qq (qkm pl (Qq (qkm pu (Qq (Qj ?_)))));show wpAny _ _ (match Builtin.Slice.sliceAdjust lo hi 1 (n:B) with|(lo,hi)=>pure (lo,(1:B),Builtin.Slice.slicePlaces lo hi 1)) _ _ s;rw[qcy lo hi n];show wpAny _ _ (pure (((sIx n 0 lo:Y0):B),(1:B),Builtin.Slice.slicePlaces ((sIx n 0 lo:Y0):B) ((sIx n n hi:Y0):B) 1)) _ _ s;rw[qbo];exact Qj h
def qga(xs:Array Y8)(i k:Y0):((List.range k).filterMap λ(m:Y0)=>xs[((i:B)+(m:B)*1).toNat]?).toArray=((xs.toList.drop i).take k).toArray:=by
 have e:(λ(m:Y0)=>xs[((i:B)+(m:B)*1).toNat]?)=λm=>xs[i+m]?:=by
  funext m
  have:((i:B)+(m:B)*1).toNat=i+m:=by omega
  rw[this]
 rw[e];have:=pick_run xs i k;rw[Qxy]at this;have a:((λx=>xs[x]?)∘λx=>i+x)=λm=>xs[i+m]?:=rfl;rw[a]at this;rw[this]
def getItem_tuple_cut{lo:Y3 B}(c:IsTup s.heap t a)(hs:s.heap.IsSliceOf sl vl i .none)(pl:IsPart vl lo)(pu:IsPart i hi)(j:¬ (sIx a.size 0 lo=0/\sIx a.size a.size hi=a.size))(h:Q (.ref s.heap.objs.size) { s with heap:=s.heap.push { cls:=.type "tuple",data:=.seq ((a.toList.drop (sIx a.size 0 lo)).take (sIx a.size a.size hi - sIx a.size 0 lo)).toArray } })(hsz:a.size<=sizeLine):wpAny (model prog w) A (Zq (.ref t) (.ref sl)) Q E s:=by
 have b:sizeOk (.seq ((a.toList.drop (sIx a.size 0 lo)).take (sIx a.size a.size hi - sIx a.size 0 lo)).toArray):=by
  show((a.toList.drop (sIx a.size 0 lo)).take (sIx a.size a.size hi - sIx a.size 0 lo)).toArray.size<=sizeLine;rw[Qqw,Qza,Qx4,Qzh];omega
 have hj:sIx a.size a.size hi<=a.size:=sIx_le _ _ (Qqv _) hi;obtain⟨os,d,f,k⟩:=id hs;have g:s.TypeIs (.ref sl) "slice":=⟨os,d,f⟩
 unfold Zq
 try with_reducible refine Qn ?_
 first|refine Qq (Qj ?_)|skip
 refine Qq (wpAny_sequenceKey c.typeIs (by decide) ?_)
 refine Qq (Ql c.typeIs PyProof.Rows.slot_tuple_getitem
  (Qr PyProof.Rows.slot_tuple_getitem c.typeIs entry_tuple_getitem ?_ (args_tuple_getitem _ _)))
 show wpAny _ _ (Builtin.Tuple.tupleItemsOf (.ref t) >>= _) _ _ s;refine Qq (tupleItemsOf_ c ?_);refine Qq (wpAny_typeOf g ?_);rw[Z2 (by decide)];refine Qq (sliceApplied_gen hs pl pu ?_);have e:¬ ((((sIx a.size 0 lo:Y0):B)==0&&(1:B)==1&&(sIx a.size a.size hi - sIx a.size 0 lo)==a.size)=Z):=by
  intro q;rw[Qq0,Qq0]at q;have n:=eq_of_beq q.1.1;have l:=eq_of_beq q.2;exact j ⟨by omega,by omega⟩
 show wpAny _ _ (if (((sIx a.size 0 lo:Y0):B)==0&&(1:B)==1&&(sIx a.size a.size hi - sIx a.size 0 lo)==a.size)=Z then _ else _) _ _ s;rw[Z1 e,qga]
 first
  |exact Qq (Qm (Qj ⟨_,rfl,Qj h⟩) b)
  |exact Qq (Qm (Qq (Qj (Qj ⟨_,rfl,Qj h⟩))) b)
  |exact Qq (Qq (Qm (Qj (Qj ⟨_,rfl,Qj h⟩)) b))
  |exact Qq (Qq (Qm (Qj ⟨_,rfl,Qj h⟩) b))
end
end HT
namespace L2
open PySem PySem.Spec PyProof.Rows
abbrev TO:=St->Hp->(Y3 B->Hp->Prop)->Prop
def PO(X:Cx)(e:Y3 Qx)(t:TO):Prop:=
 ∀(pins:L (Y7×Obj)) (s:Qz) (σ:St) (H:Hp) (Q:Y3 B->Hp->Prop),Inv X pins σ H s->t σ H Q->
  wpAny (model X.prog X.w) X.A (evalPart e X.env) (λu s'=>∃o H',Inv X pins σ H' s'/\IsPart u o/\Q o H') X.xe s
noncomputable def qi7:TO:=λ_ H Q=>Q J H
noncomputable def tPart(t:TE):TO:=λσ H Q=>t σ H λx H1=>∃i,x=.int i/\Q (Y i) H1
def intsAre_of:∀{us},Vals (ns.map V.int) us->Zm us ns:=by
 induction ns with
 |nil=>intro us r; rw[Qxp]at r; cases r; exact .nil
 |cons n ns b=>
  intro us r;rw[Qqp]at r
  cases r with
  |cons r1 a=>
   obtain⟨t,e⟩:=r1;subst e;exact .cons n t (b a)
section
variable {X:Cx}{e:Qx}{te:TE}{lo hi:Y3 Qx}{tl th:TO}{pos p2:Pos}
def qlp:PO X J qi7:=by
 intro pins s σ H Q I h;rw[evalPart_none];exact Qj ⟨J,H,I,.none,h⟩
def qlo(h:PE X e te):PO X (Y e) (tPart te):=by
 intro pins s σ H Q I b;rw[evalPart_some];refine thn (h pins s σ H _ I b) λu d ⟨x,H1,c,r1,a⟩=>?_;obtain⟨i,rfl,q⟩:=a;obtain⟨t,rfl⟩:=r1;exact⟨Y i,H1,c,.int i t,q⟩
def SlR(X:Cx)(r:V->Y3 B->Y3 B->Hp->VK->Prop):Prop:=
 ∀(pins:L (Y7×Obj)) (s:Qz) (σ:St) (H:Hp) (x:V) (v vl vu:Y8) (lo hi:Y3 B) (sl:Y7) (Q:VK),Inv X pins σ H s->RelV x v->s.heap.IsSliceOf sl vl vu .none->IsPart vl lo->IsPart vu hi->r x lo hi H Q->
  ∃T id,typeLookup (.type T) "__getitem__" = pure (Y (.builtin id))/\s.TypeIs v T/\wpAny (model X.prog X.w) X.A (Zq v (.ref sl)) (EP X pins σ Q) X.xe s
noncomputable def tSl(r:V->Y3 B->Y3 B->Hp->VK->Prop)(te:TE)(tl th:TO):TE:=λσ H Q=>te σ H λx H1=>tl σ H1 λl H2=>th σ H2 λu H3=>r x l u H3 Q
def qgf(hr:SlR X r)(p:PE X e te)(o:PO X lo tl)(m:PO X hi th):PE X (.Subscript e (.Slice lo hi J p2) pos) (tSl r te tl th):=by
 intro pins s σ H Q I h;refine Subscript_ (thn (p pins s σ H _ I h) λv g ⟨x,H1,A,r1,k⟩=>?_);refine wpAny_Slice (thn (o pins g σ H1 _ A k) λvl f ⟨l,H2,z,pl,j⟩=>thn (m pins f σ H2 _ z j) λc a ⟨u,d,y,pu,i⟩=>?_);rw[evalPart_none];refine Qj ?_;have w:Inv X pins σ d { a with heap:=a.heap.push { cls:=.type "slice",data:=.fields #[vl,c,.none] } }:=y.kept λb ob q=>Qqz _ q;obtain⟨T,id,t,n,hg⟩:=hr pins { a with heap:=a.heap.push { cls:=.type "slice",data:=.fields #[vl,c,.none] } } σ d x v vl c l u a.heap.objs.size Q w r1 (Heap.IsSliceOf.new ..) pl pu i;exact tail_any n t hg (by with_unfolding_all rfl)
noncomputable def cutV(xs:L V)(lo hi:Y3 B):L V:=(xs.drop (HT.sIx xs.length 0 lo)).take (HT.sIx xs.length xs.length hi - HT.sIx xs.length 0 lo)
def qkx(xs)(lo hi):(cutV xs lo hi).length<=xs.length:=by
 unfold cutV;rw[Qza,Qx4];omega
def rSlT(K:Qqq):V->Y3 B->Y3 B->Hp->VK->Prop:=λx lo hi H Q=>∃a xs,x=.ref a/\SqT K H a xs/\
 ¬ (HT.sIx xs.length 0 lo=0/\HT.sIx xs.length xs.length hi=xs.length)/\∀p,H p=J->Q (.ref p) (upd H p (.tup (cutV xs lo hi)))
def sl_tup:SlR X (rSlT X.K):=by
 intro pins s σ H x v vl k lo hi sl Q I g hs pl pu h;obtain⟨a,xs,rfl,i,j,q⟩:=h;cases g;obtain⟨d,r,f,hz⟩:=I.tuple i;have c:d.toArray.size=xs.length:=by rw[Qqw]; exact r.length.symm
 refine⟨"tuple",_,PyProof.Rows.slot_tuple_getitem.lookup,f.typeIs,?_⟩;refine HT.getItem_tuple_cut f hs pl pu (by rw[c]; exact j) ?_ (by rw[c]; exact hz);rw[c];refine⟨.ref s.heap.objs.size,_,I.laid (λb ob q=>Qqz _ q) (Qqv _) ?_,rfl,q _ (I.hok.fresh (Qqv _))⟩;exact⟨Qzm (qkx xs lo hi) hz,_,(r.drop (HT.sIx xs.length 0 lo)).take (HT.sIx xs.length xs.length hi - HT.sIx xs.length 0 lo),IsTup.new _ _⟩
noncomputable def rCatT(K:Qqq):R2:=λx y H Q=>∃a b xs ys,x=.ref a/\y=.ref b/\SqT K H a xs/\SqT K H b ys/\xs≠[]/\xs.length+ys.length<=sizeLine/\
 (ys=[]->Q (.ref a) H)/\(ys≠[]->∀p,H p=J->Q (.ref p) (upd H p (.tup (xs++ys))))
def Vals.nil_iff(r:Vals xs us):us=[]↔xs=[]:=by
 cases r with
 |nil=>simp
 |cons _ _=>simp
def qmk:OpR X (Q3 .Add) (rCatT X.K):=by
 intro pins s σ H x y v u Q I g f h;obtain⟨a,b,xs,ys,rfl,rfl,m,hb,l,hz,j,i⟩:=h;cases g;cases f;obtain⟨k,r1,p1,_⟩:=I.tuple m;obtain⟨d,c,p2,_⟩:=I.tuple hb;refine HT.cat_tup p1 p2 (λz=>l (r1.nil_iff.mp z)) (λz=>⟨.ref a,H,I,rfl,j (c.nil_iff.mp z)⟩) (λz=>?_) (by rw[<- r1.length,<- c.length]; exact hz);refine⟨.ref s.heap.objs.size,_,I.laid (λb ob q=>Qqz _ q) (Qqv _) ?_,rfl,i (λw=>z (c.nil_iff.mpr w)) _ (I.hok.fresh (Qqv _))⟩;exact⟨by rw[Qqg]; exact hz,_,r1.append c,IsTup.new _ _⟩
end
noncomputable def ixN(n:Y0)(i:B):Y3 Nat:=if 0<=i then(if i<n then Y i.toNat else J) else if -(n:B)<=i then Y (i+n).toNat else J
noncomputable def atI{α:Type}(xs:L α)(i:B):Y3 α:=(ixN xs.length i).bind λj=>xs[j]?
def qd8(h:ixN n i=Y j):seqIndex? i n=Y j/\j<n/\-(n:B)<=i/\i<n:=by
 unfold ixN at h
 by_cases a:0<=i
 ·rw[Z2 a]at h
  by_cases h1:i<n
  ·rw[Z2 h1]at h;have e:=Option.some.inj h;exact⟨by rw[seqIndex_of a h1,e],by omega,by omega,h1⟩
  ·rw[Z1 h1]at h; cases h
 ·rw[Z1 a]at h
  by_cases h1:-(n:B)<=i
  ·rw[Z2 h1]at h;have e:=Option.some.inj h;exact⟨by rw[seqIndex_neg (by omega) h1,e],by omega,h1,by omega⟩
  ·rw[Z1 h1]at h; cases h
def qfd(h:atI xs i=Y v):∃j,seqIndex? i xs.length=Y j/\xs[j]?=Y v/\j<xs.length/\-(xs.length:B)<=i/\i<xs.length:=by
 unfold atI at h
 cases e:ixN xs.length i with
 |none=>rw[e]at h; cases h
 |some j=>
  rw[e]at h;obtain⟨h1,h2,b,a⟩:=qd8 e;exact⟨j,h1,h,h2,b,a⟩
def qno(b:Qx):Prop:=∀o i,subscripted b Y6 o i=operate [o,i] (Zq o i)
def IxR(X:Cx)(r:R2):Prop:=
 ∀(value slice:Qx) (pins:L (Y7×Obj)) (s:Qz) (σ:St) (H:Hp) (x y:V) (v u:Y8) (Q:VK),Inv X pins σ H s->RelV x v->RelV y u->r x y H Q->
  subscripted slice Y6 v u=operate [v,u] (Zq v u)->wpAny (model X.prog X.w) X.A (subscriptTail value slice v u) (EP X pins σ Q) X.xe s
def MtR(X:Cx)(id:String)(r:V->L V->Hp->VK->Prop):Prop:=
 ∀(pins:L (Y7×Obj)) (s:Qz) (σ:St) (H:Hp) (x:V) (xs:L V) (v:Y8) (us:L Y8) (Q:VK),Inv X pins σ H s->RelV x v->Vals xs us->r x xs H Q->
  wpAny (model X.prog X.w) X.A (call (.builtin id) (v::us)) (EP X pins σ Q) X.xe s
section
variable {X:Cx}
def pe_ix(hr:IxR X r)(f:PE X a ta)(hb:PE X b tb)(hs:qno b):PE X (.Subscript a b pos) (tOp r ta tb):=by
 intro pins s σ H Q I h;exact Subscript_ (binT f hb I h λv u c x y H2 g e d q=>hr a b pins c σ H2 x y v u Q g e d q (hs _ _))
noncomputable def rIxL(K:Qqq):R2:=λx y H Q=>∃p xs i v,x=.ref p/\y=.int i/\SqL K H p xs/\atI xs i=Y v/\Q v H
noncomputable def rIxT(K:Qqq):R2:=λx y H Q=>∃p xs i v,x=.ref p/\y=.int i/\SqT K H p xs/\atI xs i=Y v/\Q v H
def qm2:IxR X (rIxL X.K):=by
 intro value d pins s σ H x y v u Q I m l h hs;obtain⟨p,xs,i,z,rfl,rfl,n,A,q⟩:=h;cases m;obtain⟨t,rfl⟩:=l;obtain⟨f,r,pl,hz⟩:=I.list n;obtain⟨j,h1,h2,E,D,C⟩:=qfd A;obtain⟨w,k,e⟩:=r.get h2;have o:=r.length;have hn:=qwd;have c:EP X pins σ Q w s:=⟨z,H,I,e,q⟩
 by_cases g:0<=i
 ·have hj:i.toNat=j:=by
   rw[seqIndex_of g C]at h1;exact Option.some.inj h1
  exact item_listR pl.isList g (by omega) (by rw[hj]; simpa using k) c hs
 ·have hj:(i+(f.toArray.size:B)).toNat=j:=by
   rw[seqIndex_neg (by omega) D]at h1;rw[Qqw,<- o];exact Option.some.inj h1
  exact subscriptTail_builtinR pl.isList.typeIs slot_list_getitem.lookup
   (wpAny_getItem_list_neg pl.isList (by omega) (by rw[Qqw]<;>omega) (by omega) (by rw[hj]; simpa using k) ⟨rfl,c⟩) hs
def ix_tup:IxR X (rIxT X.K):=by
 intro value c pins s σ H x y v u Q I g f h hs;obtain⟨p,xs,i,z,rfl,rfl,l,n,q⟩:=h;cases g;obtain⟨t,rfl⟩:=f;obtain⟨k,r,pl,hz⟩:=I.tuple l;obtain⟨j,h1,h2,D,C,A⟩:=qfd n;obtain⟨w,o,d⟩:=r.get h2;have m:=r.length;have hn:=qwd;have e:EP X pins σ Q w s:=⟨z,H,I,d,q⟩
 exact subscriptTail_builtinR pl.typeIs slot_tuple_getitem.lookup
  (getItem_tuple pl (by omega) (by omega) (by rw[Qqw,<- m]; exact h1) (by simpa using o) ⟨rfl,e⟩) hs
def qb4(c:L Y8)(n j)(u):Obj.mapSeq (·.setIfInBounds j u) { cls:=.type "list",data:=.seq c.toArray n }={ cls:=.type "list",data:=.seq (c.set j u).toArray n }:=by
 simp[Obj.mapSeq]
theorem Inv.lst(I:Inv X d f H s)(h:H p=Y (.lst xs)):
  ∃(c:L Y8) (n:Y0),Vals xs c/\s.heap.get? p=Y { cls:=.type "list",data:=.seq c.toArray n }/\xs.length<=sizeLine:=by
 obtain⟨z,c,n,r,e⟩:=I.hok p _ h;exact⟨c,n,r,e,z⟩
def Inv.lstUpd{d:L Y8}(I:Inv X c i H s)(h:H p=Y (.lst xs))(j:s.heap.get? p=Y { cls:=.type "list",data:=.seq d.toArray n })(hf:f { cls:=.type "list",data:=.seq d.toArray n }={ cls:=.type "list",data:=.seq its'.toArray g })(r:Vals ys its')(hz:ys.length<=sizeLine)(t):
  Inv X c i (upd H p (.lst ys)) { s with heap:=s.heap.update p f,toks:=t }:=by
 have e:(s.heap.update p f).get? p=Y { cls:=.type "list",data:=.seq its'.toArray g }:=by
  rw[Qxg f j (by rw[hf]<;>rfl),hf]
 refine I.write (by rw[h]; trivial) (.inl rfl) (λb u hb q=>(Qxe _ _ (Ne.symm hb)).trans q) ⟨_,e⟩ ?_;exact⟨hz,its',g,r,e⟩
def rSetL:V->V->V->Hp->(Hp->Prop)->Prop:=λo i v H Q=>∃p xs k j,o=.ref p/\i=.int k/\H p=Y (.lst xs)/\ixN xs.length k=Y j/\Q (upd H p (.lst (xs.set j v)))
def set_list:PSet X rSetL:=by
 intro pins s σ H o i v z A u Q I ro y x h;obtain⟨p,xs,k,j,rfl,rfl,f,hj,q⟩:=h;cases ro;obtain⟨t,rfl⟩:=y;obtain⟨c,n,r,d,hz⟩:=I.lst f;obtain⟨h1,h2,l,g⟩:=qd8 hj;have e:=r.length;have hn:=qwd;have w:=
  I.lstUpd f d (qb4 c n j u) (r.set x j) (by rw[Qzq]; exact hz) s.toks
 by_cases m:0<=k
 ·have hk:k.toNat=j:=by
   rw[seqIndex_of m g]at h1;exact Option.some.inj h1
  exact PySem.W.ki_setAt d m (by omega) (by rw[Qqw,<- e]; exact g) (by rw[hk]; exact⟨_,w,q⟩)
 ·have hk:(k+(c.toArray.size:B)).toNat=j:=by
   rw[seqIndex_neg (by omega) l]at h1;rw[Qqw,<- e];exact Option.some.inj h1
  exact PySem.W.ki_setBack d (by omega) (by rw[Qqw,<- e]; exact l) (by omega) (by rw[hk]; exact⟨_,w,q⟩)
def qvu(lo hi)(n):(Zz lo hi J n).1=((HT.sIx n 0 lo:Y0):B)/\(Zz lo hi J n).2.1=((HT.sIx n n hi:Y0):B)/\(Zz lo hi J n).2.2=1:=by
 refine⟨?_,?_,rfl⟩
 ·cases lo with
  |none=>simp[Zz,HT.sIx]
  |some i=>
   simp only[Zz,HT.sIx,Option.getD_none,show(1:B) > 0 by decide,if_true]
   by_cases h:i<0
   ·simp only[h,if_true]<;>omega
   ·simp only[h,if_false]<;>omega
 ·cases hi with
  |none=>simp[Zz,HT.sIx]
  |some i=>
   simp only[Zz,HT.sIx,Option.getD_none,show(1:B) > 0 by decide,if_true]
   by_cases h:i<0
   ·simp only[h,if_true]<;>omega
   ·simp only[h,if_false]<;>omega
def qvv(c:L Y8)(lo hi):slicePick c.toArray lo hi J=((c.drop (HT.sIx c.length 0 lo)).take (HT.sIx c.length c.length hi - HT.sIx c.length 0 lo)).toArray:=by
 obtain⟨h1,h2,d⟩:=qvu lo hi c.toArray.size;unfold slicePick;rw[h1,h2,d];simp only[sliceRange_one,pick_run,Qqw]<;>rfl
def rSlL(K:Qqq):V->Y3 B->Y3 B->Hp->VK->Prop:=λx lo hi H Q=>∃a xs,x=.ref a/\SqL K H a xs/\∀p,H p=J->Q (.ref p) (upd H p (.lst (cutV xs lo hi)))
def qlk:SlR X (rSlL X.K):=by
 intro pins s σ H x v vl i lo hi sl Q I e hs pl pu h;obtain⟨a,xs,rfl,g,q⟩:=h;cases e;obtain⟨f,r,d,hz⟩:=I.list g;have c:=r.length;refine⟨"list",_,slot_list_getitem.lookup,d.isList.typeIs,?_⟩;refine wpAny_getItem_list_slice d.isList hs pl pu .none (by simp) ?_ (by rw[Qqw]<;>omega);rw[qvv,<- c];refine⟨.ref s.heap.objs.size,_,I.laid (λb ob q=>Qqz _ q) (Qqv _) ?_,rfl,q _ (I.hok.fresh (Qqv _))⟩;exact⟨Qzm (qkx xs lo hi) hz,_,0,(r.drop (HT.sIx xs.length 0 lo)).take (HT.sIx xs.length xs.length hi - HT.sIx xs.length 0 lo),Qqn _ rfl⟩
def qjj:qqk X (.builtin "len") (λxs H Q=>∃p ys,xs=[.ref p]/\(SqL X.K H p ys\/SqT X.K H p ys)/\Q (.int ys.length) H):=by
 intro pins s σ H xs g Q I r h;obtain⟨p,ys,rfl,d,q⟩:=h;obtain⟨u,rfl,f⟩:=vals1 r;cases f;have hn:=qwd;rcases d with d|d
 ·obtain⟨e,r',pl,hz⟩:=I.list d;have c:=r'.length;exact Calls.call_len_list pl.isList (by simp only[Qqw]<;>omega) ⟨.int ys.length,H,I.tok _,⟨s.toks+1,by rw[Qqw,c]⟩,q⟩
 ·obtain⟨e,r',pl,hz⟩:=I.tuple d;have c:=r'.length;exact len_tuple pl (by simp only[Qqw]<;>omega) ⟨.int ys.length,H,I.tok _,⟨s.toks+1,by rw[Qqw,c]⟩,q⟩
def qjx:qqk X (.type "list") (λxs H Q=>∃p ys,xs=[.ref p]/\(SqL X.K H p ys\/SqT X.K H p ys)/\∀l,H l=J->Q (.ref l) (upd H l (.lst ys))):=by
 intro pins s σ H xs m Q I r h;obtain⟨p,ys,rfl,f,q⟩:=h;obtain⟨u,rfl,k⟩:=vals1 r;cases k;have i:∀(c:L Y8),Vals ys c->ys.length<=sizeLine->∀(h':Heap) (d:Y0),(∀b o',s.heap.get? b=Y o'->h'.get? b=Y o')->
   h'.get? s.heap.objs.size=Y { cls:=.type "list",dict:=J,data:=.seq c.toArray d,slots:=#[] }->EP X pins σ Q (.ref s.heap.objs.size) { s with heap:=h' }:=λc r' hz h' d kp e=>
  ⟨.ref s.heap.objs.size,_,I.laid kp (Qqv _) (show ObjOk X.prog X.w _ h' _ (.lst ys) from⟨hz,c,d,r',e⟩),rfl,q _ (I.hok.fresh (Qqv _))⟩
 rcases f with f|f
 ·obtain⟨c,r',pl,hz⟩:=I.list f;have g:=r'.length;obtain⟨o,j,hc,n,hd⟩:=pl.isList;exact call_list_seq p (.inl rfl) j hc hd (λh' d kp e=>i c r' hz h' d kp e) (by simp only[Qqw]<;>omega)
 ·obtain⟨c,r',pl,hz⟩:=I.tuple f;have g:=r'.length;obtain⟨o,j,hc,n,hd⟩:=pl;exact call_list_seq p (.inr rfl) j hc hd (λh' d kp e=>i c r' hz h' d kp e) (by simp only[Qqw]<;>omega)
def qxo:qqk X (.type "tuple") (λxs H Q=>∃p ys,xs=[.ref p]/\((SqL X.K H p ys/\∀l,H l=J->Q (.ref l) (upd H l (.tup ys)))\/(SqT X.K H p ys/\Q (.ref p) H))):=by
 intro pins s σ H xs k Q I r h;obtain⟨p,ys,rfl,h⟩:=h;obtain⟨u,rfl,i⟩:=vals1 r;cases i;rcases h with⟨d,q⟩|⟨d,q⟩
 ·obtain⟨c,r',pl,hz⟩:=I.list d;have f:=r'.length;refine call_tuple_list pl.isList (λh' kp=>?_) (by simp only[Qqw]<;>omega);have g:=I.kept (t':=s.toks) kp;have j:=
   g.laid (t':=s.toks) (λb o e=>Qqz _ e) (Qqv _) (show ObjOk X.prog X.w _ _ _ (.tup ys) from⟨hz,c,r',IsTup.new _ _⟩)
  exact⟨.ref h'.objs.size,_,j,rfl,q _ (g.hok.fresh (Qqv _))⟩
 ·obtain⟨c,r',pl,hz⟩:=I.tuple d;exact call_tuple_same pl ⟨.ref p,H,I,rfl,q⟩
def tyV(K:Qqq)(T:String)(x:V)(H:Hp):Prop:=match x with
 |.str _=>T = "str"
 |.int _=>T = "int"
 |.ref p=>(T = "list"/\∃xs,SqL K H p xs)\/(T = "tuple"/\∃o,K.lookup p=Y o/\o.cls=.type "tuple"/\o.dict=J)\/
   (T = "dict"/\((∃kvs,H p=Y (.dK kvs))\/∃kvs,H p=Y (.dT kvs)))\/(T = "set"/\∃S n,H p=Y (.set S n))
 |_=>False
def tyV_is(I:Inv X d g H s)(r:RelV x v)(ty:tyV X.K T x H):
  s.TypeIs v T/\∀a,v=.ref a->∃ob,s.heap.get? a=Y ob/\ob.dict=none:=by
 cases x with
 |str z=>
  obtain⟨t,rfl⟩:=r;cases (ty);exact⟨typeIs_str s z t,λ_ e=>nomatch e⟩
 |int i=>
  obtain⟨t,rfl⟩:=r;cases (ty);exact⟨typeIs_int s i t,λ_ e=>nomatch e⟩
 |ref p=>
  cases r;rcases ty with⟨rfl,xs,j⟩|⟨rfl,o,hk,hc,hd⟩|⟨rfl,hk⟩|⟨rfl,S,n,hk⟩
  ·obtain⟨h,_,pl,_⟩:=I.list j;refine⟨pl.isList.typeIs,λa e=>?_⟩;cases e;obtain⟨o,n,e,c,hd,_⟩:=pl;exact⟨o,e,hd⟩
  ·refine⟨⟨o,I.kIn p o hk,hc⟩,λa e=>?_⟩;cases e;exact⟨o,I.kIn _ o hk,hd⟩
  ·have z:∃o,s.heap.get? p=Y o/\o.ExactDict:=by
    rcases hk with⟨kvs,hk⟩|⟨kvs,hk⟩
    ·obtain⟨_,_,_,_,o,_,_,e,ex,_⟩:=I.hok p _ hk;exact⟨o,e,ex⟩
    ·obtain⟨_,_,_,_,o,_,_,e,ex,_⟩:=I.hok p _ hk;exact⟨o,e,ex⟩
   obtain⟨o,e,ex⟩:=z;refine⟨⟨o,e,ex.1⟩,λa f=>?_⟩;cases f;exact⟨o,e,ex.2.1⟩
  ·obtain⟨o,_,_,_,e,ex,_⟩:=I.hok p _ hk;refine⟨⟨o,e,ex.1⟩,λa f=>?_⟩;cases f;exact⟨o,e,ex.2.1⟩
 |_=>exact False.elim ty
noncomputable def tBM(K:Qqq)(T:String)(r:V->L V->Hp->VK->Prop)(to:TE)(t:TA):TE:=λσ H Q=>to σ H λx H1=>tyV K T x H1/\t σ H1 λxs H2=>r x xs H2 Q
variable {o e:Qx}{es:L Qx}{to:TE}{t:TA}{name:Y5}{apos cpos:Pos}{T id:String}{r:V->L V->Hp->VK->Prop}
def qgn(w:PlainAttrs T)(slot:Slot T name id)(i:typeOf (.builtin id)=pure (.type "method_descriptor"))(z:MtR X id r)(y:PE X o to)(A:PA X (e::es) t)
  (f:Q9 o name X.env (Qy o X.env)=Qy o X.env:=by rfl)
  (g:((backTo cpos (starEach (e::es) X.env)).all (λx=>!x.1)&&(backToKw cpos (keywordEach [] X.env)).all (λx=>x.1.isSome)
   && decide ((e::es).length+([]:L Zl).length+(if ([]:L Zl).isEmpty then 0 else 1)<30))=true:=by rfl)
  (d:(apos.endLine==cpos.line)=true:=by rfl) (hs:starEach (e::es) X.env=(Y6,Qy e X.env)::starEach es X.env:=by rfl) (c:(backTo cpos (starEach es X.env)).any (·.1)=false:=by rfl) :
  PE X (.Call (.Attribute o name apos) (e::es) [] cpos) (tBM X.K T r to t):=by
 intro pins s σ H Q I h;refine wpAny_Call_method_late f g d rfl (thn (y pins s σ H _ I h) λv n ⟨x,H1,k,r1,ty,u⟩=>?_);obtain⟨h1,h2⟩:=tyV_is k r1 ty;refine⟨T,id,w,slot,i,h1,h2,?_⟩;have j:=A cpos pins n σ H1 _ k u;rw[hs]at j ⊢;refine Calls.callWith_builtin (by show(Y6||(backTo cpos (starEach es X.env)).any (·.1))=Y6; rw[c]<;>rfl) (Calls.evalArgs_plain ?_);exact thn j λl m ⟨vs,H2,C,p,q⟩=>z pins m σ H2 x vs v l Q C r1 p q
end
def MtM(X:Cx)(id:String)(r:V->L V->Hp->VK->Prop):Prop:=
 ∀(pins:L (Y7×Obj)) (s:Qz) (σ:St) (H:Hp) (x:V) (xs:L V) (v:Y8) (us:L Y8) (Q:VK),Inv X pins σ H s->RelV x v->Vals xs us->r x xs H Q->
  wpAny (model X.prog X.w) X.A (call (.builtin id) (v::us)) (EP X pins σ Q) X.xe s
def Vals.one:∀{x}{us},Vals [x] us->∃u,us=[u]/\RelV x u
 |_,_,.cons r .nil=>⟨_,rfl,r⟩
def Vals.two:∀{x y}{us},Vals [x,y] us->∃u v,us=[u,v]/\RelV x u/\RelV y v
 |_,_,_,.cons r (.cons q .nil)=>⟨_,_,rfl,r,q⟩
theorem Vals.rep(h:Vals xs us):∀k:Y0,Vals (List.replicate k xs).flatten (List.replicate k us).flatten
 |0=>.nil
 |k+1=>by
  rw[Qzi,Qzi,Qz6,Qz6];exact Vals.append h (Vals.rep h k)
theorem foldl_rep(its):∀(k:Y0) (a:L Y8),
  List.foldl (λb x2=>b++x2) a.toArray (List.replicate k its.toArray)=(a++(List.replicate k its).flatten).toArray
 |0,a=>by simp
 |k+1,a=>by
  have e:a.toArray++its.toArray=(a++its).toArray:=by simp
  have c:(a++its)++(List.replicate k its).flatten=a++(List.replicate (k+1) its).flatten:=by
   rw[Qzi,Qz6,Qq7]
  rw[<- c,<- foldl_rep its k (a++its),<- e,Qzi,Qjq]
section
def Inv.lset{a:L Y8}(I:Inv X pins σ H s)(d:H l=Y (.lst xs))(e:s.heap.get? l=Y { cls:=.type "list",data:=.seq a.toArray n })(hf:f a.toArray=its'.toArray)(hv:Vals ys its')(hz:ys.length<=sizeLine):
  Inv X pins σ (upd H l (.lst ys)) { s with heap:=s.heap.update l (Obj.mapSeq f),toks:=t' }:=by
 have q:=PySem.IsL.update e f;rw[hf]at q;refine I.write (by rw[d]; exact trivial) (.inl rfl) (λg u hb c=>(Qxe s.heap (Obj.mapSeq f) (Ne.symm hb)).trans c) ⟨_,q⟩ ?_;exact⟨hz,its',_,hv,q⟩
def Inv.lnew(I:Inv X pins σ H s)(hv:Vals ys a)(hz:ys.length<=sizeLine):
  Inv X pins σ (upd H s.heap.objs.size (.lst ys)) { s with heap:=s.heap.push { cls:=.type "list",data:=.seq a.toArray },toks:=t' }:=
 I.laid (λ_ _ q=>Qqz _ q) (Qqv _) ⟨hz,a,0,hv,Qqn _ rfl⟩
theorem Inv.fresh(I:Inv X pins σ H s):H s.heap.objs.size=none:=I.hok.fresh (Qqv _)
def Inv.lstM(I:Inv X pins σ H s)(c:H l=Y (.lst xs)):xs.length<=sizeLine/\∃(a:L Y8) (n:Y0),Vals xs a/\xs.length=a.length/\s.heap.get? l=Y { cls:=.type "list",data:=.seq a.toArray n }:=by
 obtain⟨z,a,n,r,e⟩:=I.hok l _ c;exact⟨z,a,n,r,r.length,e⟩
def qag(h:n<=sizeLine):Builtin.List.listTooLong n=false:=by
 unfold Builtin.List.listTooLong;exact Zu (by omega)
end
section
def qle:V->L V->Hp->VK->Prop:=λx vs H Q=>∃l xs y,x=.ref l/\vs=[y]/\H l=Y (.lst xs)/\xs.length<sizeLine/\Q .non (upd H l (.lst (xs++[y])))
def qdn:MtM X "list.append" qle:=by
 intro pins s σ H x vs v g Q I c d h;obtain⟨l,xs,y,rfl,rfl,b,hz,q⟩:=h;cases c;obtain⟨u,rfl,f⟩:=d.one;obtain⟨z,a,n,r,i,e⟩:=I.lstM b;refine Qu F.slot_list_append ⟨_,e,rfl⟩ F.entry_list_append (F.args_list_append_2 _ _) (PySem.list_append l a.toArray n u (by rw[Qqw]; omega)) ⟨e,?_⟩;refine⟨.non,_,I.lset b e (by simp) (r.append (.cons f .nil)) ?_,rfl,q⟩;rw[Qqg,Qxh];omega
def len_rep{α:Type}(xs:L α)(k):(List.replicate k xs).flatten.length=k*xs.length:=by
 induction k with
 |zero=>simp
 |succ k a=>rw[Qzi,Qz6,Qqg,a,Nat.succ_mul,Nat.add_comm]
end
section
end
section
end
end L2
namespace Att
open PySem PySem.W PySem.Calls PyProof.Rows
def qj7:∀(ns:L B) (vs:L Y8),WellAll P h vs (ns.map WData.int)->Zm vs ns:=by
 intro ns
 induction ns with
 |nil=>
  intro vs w;rw[Qxp]at w;cases w;exact .nil
 |cons n ns c=>
  intro vs w;rw[Qqp]at w
  cases w with
  |cons a b=>
   cases a;exact .cons _ _ (c _ b)
def qdq{l:OpenLaw}(p:l.most=Y n)(c:l.row.toRowW.claim.pre args=Z)(j:WellAll P h b args):
  ∃a vs ns,b=[Value.ref a]/\args=[WData.list (ns.map WData.int)]/\h.get? a=Y { cls:=.type "list",data:=.seq vs.toArray }/\Zm vs ns/\ns.length<=n:=by
 have k:=(pre_splitW c).1;have hc:l.pre.holds [] { args:=args }=true:=(pre_splitW c).2;obtain⟨d,r,rfl,h1,h2⟩:=hasAllW_cons k;obtain rfl:=hasAllW_nil h2;obtain⟨xs,rfl,s⟩:=hasW_list h1;obtain⟨ns,rfl⟩:=items_int s;have e:ns.length<=n:=by
  unfold OpenLaw.pre at hc;have i:(WTm.not (.lt (.lit (.int (n:B))) (.len (.arg 0)))).holds [] { args:=[.list (ns.map .int)] }=true:=by
   have i:=(holds_andW hc).1;rw[p]at i;exact i
  have g:=condW_of i (w_not (w_lt w_lit (w_len_list (w_arg rfl))));rw[Qqx]at g;refine Nat.le_of_not_lt λq=>?_;have m:(n:B)<((ns.length:Y0):B):=by omega
  first
   |(rw[Zs m]at g; exact absurd g (by decide))
   |(simp at g; omega)
 cases j with
 |cons w1 w2=>
  cases w2
  cases w1 with
  |list o f=>exact⟨_,_,ns,rfl,rfl,o,qj7 ns _ f,e⟩
def qdy(l:OpenLaw)(args):l.row.toRowW.claim.post args (.bool Z) args=true:=
 postW_of
  (by first|rfl|decide|simp[WShape.has,WShape.arms,WShape.armsAll])
  (show(WTm.eq .res (.lit (.bool Z))).value [] { args:=args,res:=Y (.bool Z),after:=args }=Y (.bool (Z==Z)) from w_eq_bool (w_res rfl) w_lit) rfl
def attach_call{l:OpenLaw}(E:l.most=Y n)(t:d.params.defaults=[])(call:∀(w:Qk) (s₀ b:Qz) (mg m:Y5->Y3 Y8) (i:Y7) (o:Obj) (k j doc:Y8) (a:Y7) (vs:L Y8) (ns:L B),
   Ground q loose [] XP w s₀ mg m b.heap->YP w b.heap->
   b.heap.get? i=Y o->o.data=.func (docDef d.name d.params d.body d.scope k j doc)->b.heap.CodeRec j d.name->mg d.name=Y (.ref i)->
   b.heap.get? a=Y { cls:=.type "list",data:=.seq vs.toArray }->Zm vs ns->ns.length<=n->b.gens=#[]->
   Zw (model l.prog w) Zn (.call (.ref i) ⟨[.ref a],[]⟩) (λr s'=>r=.ok (.ret (.bool Z))/\OldK b.heap s'.heap/\s'.os=b.os/\Zf s'.gens) b):
  WalkO q loose XP YP l.row.toRowW d [] (λf vs=>PySem.call f vs):=by
 intro w s₀ b mg m G P i o k j doc N kV D hd u y s hg z v Q e x A p H;obtain rfl:N=.none:=Dflts.none y t;obtain rfl:kV=.none:=Dflts.noKw y;obtain⟨a,vs,ns,rfl,rfl,g,c,h⟩:=qdq E e p;refine enter_call (Q8 (call w s₀ b mg m i o k j doc a vs ns G P D (fd_plain hd) u s g c h hg) λr s' C=>?_);obtain⟨rfl,h2,K,I⟩:=C;exact⟨.inl ⟨.bool Z,.bool Z,[],rfl,λ_=>rfl,.bool Z,qdy l _,λ_=>⟨List.Pairwise.nil,λ_ F=>(nomatch F)⟩⟩,h2,K,I⟩
section
end
end Att
namespace L2
open PySem PySem.Spec PyProof.Rows
theorem qxk:∀{vs}{ns},Zm vs ns->Vals (ns.map V.int) vs
 |_,_,.nil=>.nil
 |_,_,.cons n t h=>.cons ⟨t,rfl⟩ (qxk h)
def Only(H:Hp):Prop:=∀b,H b=J\/∃o xs,H b=Y (.frz o (.lst xs))
def qg3{K:Qqq}(KX:K.In s₁.heap)(t:s₁.heap.Ns mainGlobals mg)(hb:s₁.heap.Ns builtinsNs E)(I:∀x:Y5,x ≠ "__name__"->E x=Qa x)(y:s₁.heap.NoLimit)(hg:s₁.gens=#[])(C:s₁.heap.get? a=Y { cls:=.type "list",data:=.seq vs.toArray })(hi:Zm vs ns)(U:ns.length<=sizeLine)(hr:Room k Zn)(F:∀base:Heap,K.In base->base.Ns mainGlobals mg->FnOk P w K mg base CX k Q fd [x] S)(i:∀(s:Qz) (u:Y8),BindsTo s fd ⟨[u],[]⟩ [(x,u)])(G:∀H:Hp,Only H->SqL K H a (ns.map V.int)->S [.ref a] H (λv _=>v=.bl Z) λ_ _ _=>False)(N:∀H e s',CX [] H s₁ (λ_ _ _=>False) e s'->False):
  Zw (model P w) Zn (.call (.ref Q) ⟨[.ref a],[]⟩) (λr s'=>r=.ok (.ret (.bool Z))/\OldK s₁.heap s'.heap/\s'.os=s₁.os/\Zf s'.gens) s₁:=by
 have T:=qxk hi;have l:=hi.length;have g:∀H:Hp,Only H->SqL K H a (ns.map V.int)->HOk P w H s₁.heap->(∀b,H b≠J->b=a)->(H a≠J->K.lookup a=J)->
   Zw (model P w) Zn (.call (.ref Q) ⟨[.ref a],[]⟩) (λr s'=>r=.ok (.ret (.bool Z))/\OldK s₁.heap s'.heap/\s'.os=s₁.os/\Zf s'.gens) s₁:=by
  intro H W hS hok X hK;have c:∀{b:Y7}{o:Obj},s₁.heap.get? b=Y o->H b=J->(hidT s₁.heap H).get? b=Y o:=λe n=>qg8 e n;have D:∀{b:Y7}{o:Obj}{es:Array Q2}{ep:Y0},s₁.heap.get? b=Y o->o.data=.dict es ep->H b=none:=λ{b o es ep} e d=>by
   cases q:H b with
   |none=>rfl
   |some u=>
    have R:=X b (by rw[q]; simp);subst R;rw[C]at e; cases e;have d':=d;cases d'
  have f:∀{b:Y7}{m:Y5->Y3 Y8},s₁.heap.Ns b m->(hidT s₁.heap H).Ns b m:=λ{b m} ⟨o,es,ep,e,d,r⟩=>⟨o,es,ep,c e (D e d),d,r⟩
  have A:=λb o e=>c (KX b o e) (by
   cases q:H b with
   |none=>rfl
   |some u=>
    have R:=X b (by rw[q]; simp);subst R
    rw[hK (by rw[q]; simp)]at e; cases e)
  have hM:Mod K mg (hidT s₁.heap H):=⟨A,f t,⟨E,f hb,I⟩,let ⟨mc,h1,h2⟩:=y; ⟨mc,f h1,h2⟩⟩
  have e0:Env0 P w K mg (hidT s₁.heap H) Zn [] s₁ H:=⟨rfl,hM,λb o e=>qma e,Nat.le_of_eq (qew _ _),trivial,λb hb=>absurd (show b∈([]:L Y7) from hb) (by simp),hok,.of_eq hg⟩
  refine Q8 ((F _ A (f t)).run Zn [] s₁ H ⟨[.ref a],[]⟩ [.ref a] [.ref a] _ _ hr e0 (i s₁ (.ref a)) (.cons rfl .nil) (G H W hS)) λr s' h=>?_
  cases r with
  |error e=>exact(N H e s' h).elim
  |ok fl=>
   cases fl with
   |next=>exact False.elim h
   |brk=>exact False.elim h
   |cont=>exact False.elim h
   |ret u=>
    obtain⟨v,H',os,bare,un,p,r',q⟩:=h;have q':=q;subst q';obtain rfl:u=Value.bool true:=r';refine⟨rfl,OldK.of_keep λb o e=>?_,os,bare⟩
    cases q:H b with
    |none=>exact un.keep b o e q (by intro z; exact absurd (show b∈([]:L Y7) from z) (by simp)) (by simp)
    |some u=>
     rcases W b with z|⟨ob,xs,z⟩
     ·rw[q]at z; cases z
     ·have z2:=un.frzs b ob _ z;obtain⟨e1,_⟩:=hok b _ z;obtain⟨e2,_⟩:=p b _ z2;rw[e]at e1; cases e1;exact e2
 cases hk:K.lookup a with
 |some o=>
  have e:=KX a o hk;rw[C]at e;cases e;refine g (λ_=>J) (λ_=>.inl rfl) (.inr ⟨_,vs.toArray,_,hk,rfl,rfl,rfl,by rw[Qqw,l]; exact U,by simpa using T⟩) (λb u z=>by have j:=z; cases j) (λb z=>absurd rfl z) λz=>absurd rfl z
 |none=>
  refine g (λb=>if b=a then Y (.frz { cls:=.type "list",data:=.seq vs.toArray } (.lst (ns.map V.int))) else J) (λb=>?_) (.inl (.inr ⟨{ cls:=.type "list",data:=.seq vs.toArray },Z2 rfl⟩)) (λb u z=>?_) (λb z=>?_) λ_=>hk
  ·by_cases hb:b=a
   ·exact .inr ⟨_,_,Z2 hb⟩
   ·exact .inl (Z1 hb)
  ·by_cases hb:b=a
   ·have j:=(Z2 hb).symm.trans z;cases j;subst hb;exact⟨C,by rw[Qqx]; exact U,vs,_,T,C⟩
   ·have j:=(Z1 hb).symm.trans z;cases j
  ·by_cases hb:b=a
   ·exact hb
   ·exact absurd (Z1 hb) z
def walk_of{l:PySem.W.OpenLaw}{K:Qp->Qqq}{D:Qk->CXT}{A:Qk->Sp}(E:l.most=Y n)(r:n<=sizeLine)(y:d.params.defaults=[])(hr:Room k Zn)(N:∀(w:Qk) (h:Heap),YP w h->(K w.params).In h)(F:∀(w:Qk) (mg:Y5->Y3 Y8) (j:Y7) (h:Heap),(K w.params).In h->h.Ns mainGlobals mg->mg d.name=Y (.ref j)->
   ∃fd:Qo,(∀(s:Qz) (u:Y8),BindsTo s fd ⟨[u],[]⟩ [(x,u)])/\
    ∀base:Heap,(K w.params).In base->base.Ns mainGlobals mg->FnOk l.prog w (K w.params) mg base (D w) k j fd [x] (A w))(p:∀(w:Qk) (H:Hp) (a:Y7) (ns:L B),ns.length<=n->Only H->SqL (K w.params) H a (ns.map V.int)->A w [.ref a] H (λv _=>v=.bl Z) λ_ _ _=>False)(z:∀(w:Qk) (H:Hp) (s:Qz) (e:Y8) (m:Qz),D w [] H s (λ_ _ _=>False) e m->False):
  PySem.W.WalkO q loose XP YP l.row.toRowW d [] (λf vs=>PySem.call f vs):=by
 refine Att.attach_call E y λw s₀ g mg U j o T X doc a vs ns G S W hd I t i c b hg=>?_;have C:=N w _ S;obtain⟨fd,hb,R⟩:=F w mg j _ C G.T.g t;exact qg3 C G.T.g G.T.b G.T.builtins G.T.nolimit hg i c (Qzm b r) hr R hb (λH Q P=>p w H a ns b Q P) λH e m=>z w H g e m
noncomputable abbrev CX0:CXT:=λ_ _ _ _ _ _=>False
noncomputable abbrev E0:XK:=λ_ _ _=>False
def qgo:qkv CX0 X E0:=λ_ _ _ _ _ _ _ h=>h.elim
structure Fun (K:Qqq) (x qual:Y5) (st:Stmt) (f:Y7) (fd:Qo):Prop where
 ex:∃(oc:Y8) (od:Y3 Y7) (kV doc pm:Y8) (an:Y3 Y7) (cdv ct:Y8) (osl:Array (Y3 Y8)),
  fd=PySem.W.fnOf x qual (qqi st) (qzu st) (qza st) .none kV doc pm an cdv ct/\K.lookup f=Y ⟨oc,od,.func fd,osl⟩/\PySem.W.codeIn K cdv qual=Z
 kp:Qzg K (.ref f)=Z
section
variable {P:Program}{w:Qk}{K:Qqq}{mg:Y5->Y3 Y8}{base:Heap}
def Fun.ok{st:Stmt}(F:Fun K x a st f g)(S:FnScope N ps (qza st))(len:∀vs H Q E,sp vs H Q E->vs.length=ps.length)(c:∀(b:Y8) (A:Qv) (outer:L Env) (s:Qz) (H:Hp) (vs:L V) (Q:VK) (E:XK),Room k (A.deeper (envOfC a (qza st) s.heap.objs.size f b))->sp vs H Q E->
   ∃t,PSs (cxOf CX0 P w K mg base N a (qza st) f b A outer s H E).nox (qzu st) t/\t { nx:=λ_ H'=>Q .non H',rt:=Q } (start N vs) H):FnOk P w K mg base CX0 (k+1) f g ps sp:=by
 obtain⟨m,l,kV,doc,j,an,b,ct,i,rfl,lk,e⟩:=F.ex;refine fn_of lk e S len λA outer s H vs Q E hr d=>?_;obtain⟨t,h,q⟩:=c b A outer s H vs Q E hr d;exact⟨t,h.nox,q⟩
def Fun.binds{st:Stmt}(F:Fun K x a st f d)(h:∀(kV doc c:Y8) (an:Y3 Y7) (b ct:Y8) (us:L Y8),us.length=ps.length->bindArgs (PySem.W.fnOf x a (qqi st) (qzu st) (qza st) .none kV doc c an b ct) ⟨us,[]⟩=pure (ps.zip us)):Binds K d ps []:=by
 obtain⟨j,i,kV,doc,c,an,b,ct,e,rfl,lk,g⟩:=F.ex;exact .all (h kV doc c an b ct)
def qwn{st:Stmt}{kV:Y8}(l:K.lookup f=Y ⟨h,g,.func (PySem.W.fnOf x a (qqi st) (qzu st) (qza st) .none kV doc e an b ct),d⟩)(c:PySem.W.codeIn K b a=Z)(k:Qzg K (.ref f)=Z):Fun K x a st f (PySem.W.fnOf x a (qqi st) (qzu st) (qza st) .none kV doc e an b ct):=⟨⟨h,g,kV,doc,e,an,b,ct,d,rfl,l,c⟩,k⟩
end
def qc8(h:n<=1000):n<sizeLine:=Qxz h (by decide)
section
end
def Same(H H':Hp):Prop:=∀b o,H b=Y o->H' b=Y o
end L2
end
section
namespace L2
open PySem PySem.Spec PyProof.Rows
section
variable [DecidableEq κ]
noncomputable def valV(kvs:L (κ×V))(k:κ):Y3 V:=(kvs.find? λkv=>decide (kv.1=k)).map (·.2)
noncomputable def putK(kvs:L (κ×V))(k:κ)(v:V):L (κ×V):=
 if (kvs.any λkv=>decide (kv.1=k))=Z then kvs.map (λkv=>if kv.1=k then(kv.1,v) else kv) else kvs++[(k,v)]
def qjw{k:κ}(e:p.1=k):valV (p::r) k=Y p.2:=by simp[valV,Qzv,e]
def qjy{k:κ}(e:¬ p.1=k):valV (p::r) k=valV r k:=by simp[valV,Qzv,e]
theorem qy7(k):∀kvs:L (κ×V),(kvs.any λa=>decide (a.1=k))=(valV kvs k).isSome
 |[]=>rfl
 |p::r=>by
  rw[Qz8]
  by_cases e:p.1=k
  ·simp only[qjw e,Zs e,Bool.true_or,Option.isSome_some]
  ·rw[qjy e,Zu e,Bool.false_or]; exact qy7 k r
def qq9(kvs:L (κ×V))(k)(v):(putK kvs k v).length<=kvs.length+1:=by
 unfold putK
 split
 ·rw[Qqx]; omega
 ·rw[Qqg,Qql,Qj2]; omega
def RelO.isSome_eq(r:RelO o u):o.isSome=u.isSome:=by
 cases o with
 |none=>cases u with
  |none=>rfl
  |some _=>exact(r).elim
 |some _=>cases u with
  |none=>exact(r).elim
  |some _=>rfl
theorem RelO.getD(r:RelO o u)(rd:RelV d d'):RelV (o.getD d) (u.getD d'):=by
 cases o with
 |none=>cases u with
  |none=>exact rd
  |some _=>exact(r).elim
 |some _=>cases u with
  |none=>exact(r).elim
  |some _=>exact r
def KV.val{kvs:L (κ×V)}(r:KV kvs vs)(k):RelO (valV kvs k) (valueAt vs k):=by
 unfold KV at r
 induction r with
 |nil=>exact True.intro
 |@cons p q ps a h t d=>
  obtain⟨h1,h2⟩:=h
  by_cases e:p.1=k
  ·have c:=h1.symm.trans e;have b:valueAt (q::a) k=Y q.2:=by simp[valueAt,Qzv,c]
   rw[qjw e,b]; exact h2
  ·have c:¬ q.1=k:=λz=>e (h1.trans z);have b:valueAt (q::a) k=valueAt a k:=by simp[valueAt,Qzv,c]
   rw[qjy e,b]; exact d
theorem KV.any{kvs:L (κ×V)}(r:KV kvs vs)(k):(kvs.any λa=>decide (a.1=k))=vs.any λa=>decide (a.1=k):=by
 unfold KV at r
 induction r with
 |nil=>rfl
 |cons h t b=>rw[Qz8,Qz8,b,h.1]
def KV.repl(r:KV kvs vs)(k:κ)(b:RelV y u):
  KV (kvs.map λa=>if a.1=k then(a.1,y) else a) (vs.map λa=>if a.1=k then(a.1,u) else a):=by
 unfold KV at r ⊢
 induction r with
 |nil=>exact .nil
 |@cons p q ps d h t c=>
  rw[Qqp,Qqp];refine .cons ?_ c;obtain⟨h1,h2⟩:=h
  by_cases e:p.1=k
  ·rw[Z2 e,Z2 (h1.symm.trans e)]; exact⟨h1,b⟩
  ·rw[Z1 e,Z1 (λz=>e (h1.trans z))]; exact⟨h1,h2⟩
def KV.put(r:KV kvs vs)(k:κ)(a:RelV y u):KV (putK kvs k y) (stored vs k u):=by
 unfold putK stored;rw[r.any k]
 by_cases e:(vs.any λb=>decide (b.1=k))=Z
 ·rw[Z2 e,Z2 e]; exact r.repl k a
 ·rw[Z1 e,Z1 e]; exact Paired.snoc r ⟨rfl,a⟩
def KV.keys{kvs:L (κ×V)}(r:KV kvs vs):kvs.map (·.1)=vs.map (·.1):=by
 unfold KV at r
 induction r with
 |nil=>rfl
 |cons h t a=>rw[Qqp,Qqp,a,h.1]
theorem KV.length{kvs:L (κ×V)}(r:KV kvs vs):kvs.length=vs.length:=Paired.length r
end
def qkc(r:RelV (kV k) u):(mixKind P w).is k u=true:=by
 cases k with
 |inl i=>obtain⟨t,e⟩:=(r); subst e; exact qyh P w i t
 |inr x=>obtain⟨t,e⟩:=(r); subst e; exact qq8 P w x t
theorem qwf:∀{ks}{us},Vals (ks.map kV) us->ItemsAre (mixKind P w) ks us
 |[],_,r=>by rw[Qxp]at r; cases r; exact .nil
 |k::ks,_,r=>by
  rw[Qqp]at r
  cases r with
  |cons h t=>exact .cons (qkc h) (qwf t)
abbrev KT(H:Hp):L (L Key×V)->L (L Key×Y7×Y8)->Prop:=Paired λp q=>p.1=q.1/\H q.2.1=Y (.tup (p.1.map kV))/\RelV p.2 q.2.2
def KT.val(r:KT H kvs xs)(k):RelO (valV kvs k) ((atKey xs k).map (·.2)):=by
 induction r with
 |nil=>exact True.intro
 |@cons p q ps a h t d=>
  obtain⟨h1,_,h2⟩:=h
  by_cases e:p.1=k
  ·have c:=h1.symm.trans e;have b:atKey (q::a) k=Y q.2:=by simp[atKey,Qzv,c]
   rw[qjw e,b]; exact h2
  ·have c:¬ q.1=k:=λz=>e (h1.trans z);have b:atKey (q::a) k=atKey a k:=by simp[atKey,Qzv,c]
   rw[qjy e,b]; exact d
def KT.repl(r:KT H kvs xs)(k)(b:RelV y u):
  KT H (kvs.map λa=>if a.1=k then(a.1,y) else a) (xs.map (putAt k u)):=by
 induction r with
 |nil=>exact .nil
 |@cons p q ps f h t c=>
  rw[Qqp,Qqp];refine .cons ?_ c;obtain⟨h1,h2,d⟩:=h;unfold putAt
  by_cases e:p.1=k
  ·rw[Z2 e,Z2 (h1.symm.trans e)]; exact⟨h1,h2,b⟩
  ·rw[Z1 e,Z1 (λz=>e (h1.trans z))]; exact⟨h1,h2,d⟩
def KT.put(r:KT H kvs xs)(k)(hb:H b=Y (.tup (k.map kV)))(a:RelV y u):
  KT H (putK kvs k y) (storedH xs k b u):=by
 have e:(kvs.any λc=>decide (c.1=k))=(atKey xs k).isSome:=by
  rw[qy7,(r.val k).isSome_eq,Qjg]
 unfold putK storedH;rw[e]
 by_cases q:(atKey xs k).isSome=Z
 ·rw[Z2 q,Z2 q]; exact r.repl k a
 ·rw[Z1 q,Z1 q]; exact Paired.snoc r ⟨rfl,hb,a⟩
def KT.keeps(r:KT H kvs xs)(a:∀b ys,H b=Y (.tup ys)->H' b=Y (.tup ys)):KT H' kvs xs:=
 Paired.mapP r λ_ _ z=>⟨z.1,a _ _ z.2.1,z.2.2⟩
section
def rd_of(ok:HOk P w H h)(e:Rd H a u):ObjOk P w H h a u:=e.ok ok
def qwu(ok:HOk P w H h)(e:Rd H a (.dK kvs)):kvs.length<=sizeLine/\(a==Qh)=Y6/\∃vs,KV kvs vs/\h.DictOf (mixKind P w) a vs:=
 show ObjOk P w H h a (.dK kvs) from rd_of ok e
def dk_of(ok:HOk P w H h)(e:H a=Y (.dK kvs)):kvs.length<=sizeLine/\(a==Qh)=Y6/\∃vs,KV kvs vs/\h.DictOf (mixKind P w) a vs:=qwu ok (.inl e)
def qq5(ok:HOk P w H h)(e:H a=Y (.tup (ks.map kV))):(tupleKind (mixKind P w)).is h ks a:=by
 obtain⟨_,b,r,o,h1,h2,n,c⟩:=(ok a _ e)
 exact⟨o,b.toArray,n,h1,h2,c,by simpa using qwf r⟩
def qyu(ok:HOk P w H h)(e:Rd H a (.dT kvs)):kvs.length<=sizeLine/\(a==Qh)=Y6/\
  ∃xs,KT H kvs xs/\h.DictOfH (tupleKind (mixKind P w)) a xs:=by
 obtain⟨z,y,xs,r,o,es,j,h1,h2,i,g,f⟩:=(rd_of ok e)
 refine⟨z,y,xs,r,o,es,j,h1,h2,i,g,λx b=>?_,f⟩;have all:∀{l:L (L Key×V)}{m:L (L Key×Y7×Y8)},KT H l m->∀x∈m,(tupleKind (mixKind P w)).is h x.1 x.2.1:=by
  intro l m q
  induction q with
  |nil=>intro x b; exact nomatch b
  |@cons p q ps k c t d=>
   intro x b;rcases Qqy.mp b with e|b
   ·subst e;exact qq5 ok (by rw[<- c.1]; exact c.2.1)
   ·exact d x b
 exact all r x b
def dt_of(ok:HOk P w H h)(e:H a=Y (.dT kvs)):kvs.length<=sizeLine/\(a==Qh)=Y6/\
  ∃xs,KT H kvs xs/\h.DictOfH (tupleKind (mixKind P w)) a xs:=qyu ok (.inl e)
end
def DGet(H:Hp)(a:Y7)(y:V)(r:Y3 V):Prop:=
 (∃kvs k,Rd H a (.dK kvs)/\y=kV k/\r=valV kvs k)\/∃kvs k b,Rd H a (.dT kvs)/\y=.ref b/\H b=Y (.tup (k.map kV))/\r=valV kvs k
def DPut(H:Hp)(a:Y7)(y v:V)(H':Hp):Prop:=
 (∃kvs k,H a=Y (.dK kvs)/\y=kV k/\kvs.length<sizeLine/\H'=upd H a (.dK (putK kvs k v)))\/
 ∃kvs k b,H a=Y (.dT kvs)/\y=.ref b/\H b=Y (.tup (k.map kV))/\kvs.length<sizeLine/\H'=upd H a (.dT (putK kvs k v))
theorem DPut.k{H:Hp}{a:Y7}{kvs:L (Key×V)}{k:Key}{v:V}(e:H a=Y (.dK kvs))(b:kvs.length<sizeLine):DPut H a (kV k) v (upd H a (.dK (putK kvs k v))):=.inl ⟨kvs,k,e,rfl,b,rfl⟩
section
def Inv.big(I:Inv X pins σ H s):Qh<s.heap.objs.size:=by
 have h:=(I.mod.glob.keeps I.bk).lt;exact Nat.lt_trans (by decide) h
def qep(t:A.units+1<cLine)(I:Inv X pins σ H s)(g:DGet H a y (Y v))(q:RelV y u)(h:∀f s',Inv X pins σ H s'->RelV v f->Q f s'):
  wpAny (model X.prog X.w) A (Zq (.ref a) u) Q E s:=by
 rcases g with⟨kvs,k,e,m,l⟩|⟨kvs,k,b,e,m,x,l⟩
 ·subst m;obtain⟨z,hd,vs,d,n⟩:=qwu I.hok e;obtain⟨f,i,c⟩:=RelO.some_of (by rw[l]; exact d.val k);exact wpAny_getItem_of (qkc q) n.mapOf i (h f _ (I.tok _) c)
 ·subst m;cases (q);obtain⟨z,hd,xs,d,n⟩:=qyu I.hok e;obtain⟨f,i,c⟩:=RelO.some_of (by rw[l]; exact d.val k);obtain⟨p,w,j⟩:=Qqi.mp i;refine wpAny_getItem_heap (Q6 t) (qq5 I.hok x) n w ?_;rw[j];exact h f _ (I.tok _) c
def d_in(j:A.units+1<cLine)(I:Inv X pins σ H s)(g:DGet H a y o)(i:RelV y u)(h:∀s',Inv X pins σ H s'->Q (.bool o.isSome) s'):
  wpAny (model X.prog X.w) A (Qd .In u (.ref a)) Q E s:=by
 rcases g with⟨kvs,k,e,d,l⟩|⟨kvs,k,b,e,d,m,l⟩
 ·subst d;obtain⟨z,hd,vs,c,f⟩:=qwu I.hok e;refine wpAny_in_of (qkc i) hd f.mapOf ?_;rw[<- (c.val k).isSome_eq,<- l];exact h _ (I.tok _)
 ·subst d;cases (i);obtain⟨z,hd,xs,c,f⟩:=qyu I.hok e;refine wpAny_in_heap (Q6 j) (qq5 I.hok m) hd f ?_;have q:=(c.val k).isSome_eq;rw[Qjg]at q;rw[<- q,<- l];exact h _ (I.tok _)
def qne(j:A.units+1<cLine)(I:Inv X pins σ H s)(g:DGet H a y o)(i:RelV y u)(h:∀s',Inv X pins σ H s'->Q (.bool (!o.isSome)) s'):
  wpAny (model X.prog X.w) A (Qd .NotIn u (.ref a)) Q E s:=by
 rcases g with⟨kvs,k,e,d,l⟩|⟨kvs,k,b,e,d,m,l⟩
 ·subst d;obtain⟨z,hd,vs,c,f⟩:=qwu I.hok e;refine wpAny_notIn_of (qkc i) hd f.mapOf ?_;rw[<- (c.val k).isSome_eq,<- l];exact h _ (I.tok _)
 ·subst d;cases (i);obtain⟨z,hd,xs,c,f⟩:=qyu I.hok e;refine wpAny_notIn_heap (Q6 j) (qq5 I.hok m) hd f ?_;have q:=(c.val k).isSome_eq;rw[Qjg]at q;rw[<- q,<- l];exact h _ (I.tok _)
def qy2(I:Inv X pins σ H s)(c:Mut (H a))(hs:Heap.SameBut a s.heap h')(d:∃q,h'.get? a=Y q)(new:ObjOk X.prog X.w (upd H a ob) h' a ob):
  Inv X pins σ (upd H a ob) { s with heap:=h',toks:=t' }:=
 I.write c (.inl rfl) (λb q hb z=>(hs.2 b hb).trans z) d new
def dk_new(z:kvs.length<=sizeLine)(hd:(a==Qh)=Y6)(b:KV kvs vs)(c:h'.DictOf (mixKind P w) a vs):
  ObjOk P w H' h' a (.dK kvs):=⟨z,hd,vs,b,c⟩
def qeo(D:A.units+1<cLine)(I:Inv X pins σ H s)(g:DPut H a y v H')(t:RelV y u)(w:RelV v r)(h:∀s',Inv X pins σ H' s'->Q () s'):
  wpAny (model X.prog X.w) A (setItem (.ref a) u r) Q E s:=by
 rcases g with⟨kvs,k,e,m,l,n⟩|⟨kvs,k,b,e,m,C,l,n⟩
 ·subst m n;obtain⟨z,hd,vs,d,p⟩:=dk_of I.hok e;have hz:vs.length<=sizeLine:=by rw[<- d.length]; exact z
  have j:(putK kvs k v).length<=sizeLine:=by have:=qq9 kvs k v; omega
  refine wpAny_setItem_pairs (qkc t) p λh' f hs=>h _ ?_;have F:∃q,h'.get? a=Y q:=let ⟨q,_,_,i,_⟩:=f; ⟨q,i⟩;exact qy2 I (by rw[e]; exact True.intro) hs F (dk_new j hd (d.put k w) f)
 ·subst m n;cases (t);obtain⟨z,hd,xs,d,p⟩:=dt_of I.hok e;have hz:xs.length<=sizeLine:=by rw[<- Paired.length d]; exact z
  have j:(putK kvs k v).length<=sizeLine:=by have:=qq9 kvs k v; omega
  refine wpAny_setItem_heap (Q6 D) (qq5 I.hok C) p λh' f hs=>h _ ?_;obtain⟨q,es,P,i,h2,N,K,_,G⟩:=f;refine qy2 I (by rw[e]; exact True.intro) hs ⟨q,i⟩ ⟨j,hd,_,(d.put k C w).keeps λc ys x=>?_,q,es,P,i,h2,N,K,G⟩;rw[qzx (qzs x e (λz=>nomatch z))];exact x
end
section
end
def NoSl(i:Qx):Prop:=∀ov iv,subscripted i Y6 ov iv=operate [ov,iv] (Zq ov iv)
def qc0(m:typeLookup (.type T) "__getitem__" = pure (Y (.builtin l)))(hs:NoSl a)(h:wpAny (model prog w) A (Qy b env) (λo e=>wpAny (model prog w) A (Qy a env) (λi s₂=>s₂.TypeIs o T/\wpAny (model prog w) A (Zq o i) Q E s₂) E e) E s):
  wpAny (model prog w) A (Qy (.Subscript b a pos) env) Q E s:=by
 refine Subscript_ (Qe h (λo e j=>Qe j (λi s₂ c=>?_) λ_ _ x=>x) λ_ _ x=>x);obtain⟨k,c⟩:=c;unfold subscriptTail;refine Qq ?_;rw[getitemInPython_of_ne k.not_modules];refine Qq (wpAny_specialOf k m ?_);have f:wpAny (model prog w) A (subscripted a Y6 o i) (λr d=>wpAny (model prog w) A (letTemporaryGo b o r >>= λ_=>pure r) Q E d) E s₂:=by
  rw[hs o i];exact wpAny_operating (Qe c (λr d g=>Qq (wpAny_letTemporaryGo (Qj g))) λ_ _ x=>x)
 first
  |exact Qj (Qq f)
  |exact Qq (Qj (Qq f))
  |exact Qq f
def qy0(I:Inv X c f H s)(g:DGet H a y o):s.TypeIs (.ref a) "dict":=by
 rcases g with⟨kvs,k,e,_,_⟩|⟨kvs,k,b,e,_,_,_⟩
 ·obtain⟨_,_,vs,_,d⟩:=qwu I.hok e;exact d.typeIs
 ·obtain⟨_,_,xs,_,d⟩:=qyu I.hok e;exact d.typeIs
noncomputable def tDGet(td ty:TE):TE:=λσ H Q=>td σ H λx H1=>ty σ H1 λy H2=>∃a v,x=.ref a/\DGet H2 a y (Y v)/\Q v H2
noncomputable def tDIn(ty td:TE):TE:=λσ H Q=>ty σ H λy H1=>td σ H1 λx H2=>∃a o,x=.ref a/\DGet H2 a y o/\Q (.bl o.isSome) H2
noncomputable def qct(ty td:TE):TE:=λσ H Q=>ty σ H λy H1=>td σ H1 λx H2=>∃a o,x=.ref a/\DGet H2 a y o/\Q (.bl (!o.isSome)) H2
noncomputable def sDPut(td ty tv:TE):TS:=λD σ H=>tv σ H λv H1=>td σ H1 λx H2=>ty σ H2 λy H3=>∃a H4,x=.ref a/\DPut H3 a y v H4/\D.nx σ H4
section
def ql5(m:X.A.units+1<cLine)(n:PE X o td)(hi:PE X i ty)(hs:NoSl i):PE X (.Subscript o i pos) (tDGet td ty):=by
 intro pins s σ H Q I h;refine qc0 PySem.F.slot_dict_getitem.lookup hs (thn (n pins s σ H _ I h) λu d ⟨x,H1,q,j,l⟩=>thn (hi pins d σ H1 _ q l) λz w ⟨y,H2,c,f,a,v,ex,g,k⟩=>?_);subst ex;obtain rfl:u=Value.ref a:=j;exact⟨qy0 c g,qep m c g f λr t p b=>⟨v,H2,p,b,k⟩⟩
def pc_din(l:X.A.units+1<cLine)(hi:PE X i ty)(m:PE X o td):PC X .In i o (tDIn ty td):=by
 intro pins s σ H Q I h;refine thn (hi pins s σ H _ I h) λv b ⟨y,H1,q,c,j⟩=>thn (m pins b σ H1 _ q j) λu t ⟨x,H2,p,d,a,k,ex,g,f⟩=>?_;subst ex;obtain rfl:u=Value.ref a:=d;exact d_in l p g c λr n=>⟨.bl k.isSome,H2,n,rfl,f⟩
def qde(l:X.A.units+1<cLine)(hi:PE X i ty)(m:PE X o td):PC X .NotIn i o (qct ty td):=by
 intro pins s σ H Q I h;refine thn (hi pins s σ H _ I h) λv b ⟨y,H1,q,c,j⟩=>thn (m pins b σ H1 _ q j) λu t ⟨x,H2,p,d,a,k,ex,g,f⟩=>?_;subst ex;obtain rfl:u=Value.ref a:=d;exact qne l p g c λr n=>⟨.bl (!k.isSome),H2,n,rfl,f⟩
def qlm(n:X.A.units+1<cLine)(p:PE X o td)(hi:PE X i ty)(hv:PE X value tv)(hs:swapsWith value (Y (.Subscript o i pos')) pos.line X.env=pure Y6):
  PS X (.Assign [.Subscript o i pos'] value pos) (sDPut td ty tv):=by
 intro pins s σ H D I h;refine wpAny_Assign_Subscript (thn (hv pins s σ H _ I h) λr c ⟨v,H1,z,j,m⟩=>thn (p pins c σ H1 _ z m) λu b ⟨x,H2,w,f,l⟩=>thn (hi pins b σ H2 _ w l) λF E ⟨y,G,t,d,a,A,ex,g,k⟩=>?_) hs;subst ex;obtain rfl:u=Value.ref a:=f;exact qeo n t g d j λC q=>⟨σ,A,q,k⟩
end
def qa6(h:Heap)(hb:Qh<h.objs.size):ObjOk P w H (h.push { cls:=.type "dict",data:=.dict #[] }) h.objs.size (.dK []):=
 ⟨Qz4 _,beq_eq_false_iff_ne.mpr (Ne.symm (Qq4 hb)),[],.nil,Heap.DictOf.new h⟩
noncomputable def tDNewK:TE:=λ_ H Q=>∀p,H p=J->Q (.ref p) (upd H p (.dK []))
section
def pe_dnewK:PE X (.Dict [] [] pos) tDNewK:=λpins s σ H Q I h=>
 wpAny_Dict_empty ⟨.ref s.heap.objs.size,_,I.laid (λ_ _ q=>Qqz _ q) (Qqv _) (qa6 s.heap I.big),rfl,h _ (I.hok.fresh (Qqv _))⟩
end
noncomputable def qaq:L (TE×TE)->St->Hp->(L (V×V)->Hp->Prop)->Prop
 |[],_,H,Q=>Q [] H
 |(tk,tv)::r,σ,H,Q=>tk σ H λx H1=>tv σ H1 λy H2=>qaq r σ H2 λps H3=>Q ((x,y)::ps) H3
abbrev VV:L (V×V)->L (Y8×Y8)->Prop:=Paired λp q=>RelV p.1 q.1/\RelV p.2 q.2
def PPs(X:Cx)(pos:Pos)(keys:L (Y3 Qx))(values:L Qx)(trs:L (TE×TE)):Prop:=
 ∀(pins:L (Y7×Obj)) (s:Qz) (σ:St) (H:Hp) (Q:L (V×V)->Hp->Prop),Inv X pins σ H s->qaq trs σ H Q->
  wpAny (model X.prog X.w) X.A (evalPairs (pairTrees keys values X.env pos)) (λvs s'=>∃ps H',Inv X pins σ H' s'/\VV ps vs/\Q ps H') X.xe s
def qln:PPs X pos [] [] []:=λpins s σ H Q I h=>pairTrees_nil_walk ⟨[],H,I,.nil,h⟩
def qgw(hk:PE X k d)(hv:PE X v c)(hr:PPs X pos ks vs a):
  PPs X pos (Y k::ks) (v::vs) ((d,c)::a):=λpins s σ H Q I h=>
 pairTrees_cons_walk (thn (hk pins s σ H _ I h) λu f ⟨x,H1,p,i,m⟩=>thn (hv pins f σ H1 _ p m) λw2 e ⟨y,H2,o,g,l⟩=>
  thn (hr pins e σ H2 _ o l) λr t ⟨ps,q,n,b,j⟩=>⟨(x,y)::ps,q,n,.cons ⟨i,g⟩ b,j⟩)
noncomputable def qkr(kvs more:L (Key×V)):L (Key×V):=more.foldl (λacc kv=>putK acc kv.1 kv.2) kvs
def KV.merge:∀{more}{a}{kvs}{vs},KV more a->KV kvs vs->KV (qkr kvs more) (merged vs a):=by
 intro more a kvs vs r;unfold KV at r
 induction r generalizing kvs vs with
 |nil=>intro q; exact q
 |@cons p q ps d h t c=>
  intro b;have e:KV (putK kvs p.1 p.2) (stored vs q.1 q.2):=by
   have:=b.put p.1 h.2;rw[<- h.1]; exact this
  exact c e
theorem qxe:∀(more kvs:L (Key×V)),(qkr kvs more).length<=kvs.length+more.length
 |[],kvs=>by show kvs.length<=kvs.length+0; omega
 |p::r,kvs=>by
  have h1:=qxe r (putK kvs p.1 p.2);have h2:=qq9 kvs p.1 p.2;show(qkr (putK kvs p.1 p.2) r).length<=_;rw[Qql]; omega
theorem qk5:∀{kvs}{e},VV (kvs.map λf=>(kV f.1,f.2)) e->∃d,Carries (mixKind P w) e d/\KV kvs d
 |[],_,r=>by rw[Qxp]at r; cases r; exact⟨[],True.intro,.nil⟩
 |p::kvs,_,r=>by
  rw[Qqp]at r
  cases r with
  |@cons a b g bs h t=>
   obtain⟨d,c,q⟩:=qk5 t;obtain⟨b1,b2⟩:=b;exact⟨(p.1,b2)::d,⟨qkc h.1,rfl,c⟩,.cons ⟨rfl,h.2⟩ q⟩
noncomputable def tDisp(trs:L (TE×TE)):TE:=λσ H Q=>∀p,H p=J->qaq trs σ (upd H p (.dK [])) λps H2=>H2 p=Y (.dK [])/\∃kvs:L (Key×V),ps=kvs.map (λkv=>(kV kv.1,kv.2))/\kvs.length<=15/\Q (.ref p) (upd H2 p (.dK (qkr [] kvs)))
def ql3(h:PPs X pos keys b d)(f:keys.all (·.isSome)=Z)(u:keys.length=b.length)(x:keys≠[])(j:keys.length<=15):PE X (.Dict keys b pos) (tDisp d):=by
 intro pins s σ H Q I q;have hn:=I.hok.fresh (Qqv s.heap.objs.size);have C:=I.laid (t':=s.toks) (λ_ _ q=>Qqz _ q) (Qqv _) (qa6 s.heap I.big);refine wpAny_Dict_walk (knd:=mixKind X.prog X.w) f u x j (thn (h pins _ σ _ _ C (q _ hn)) λD E ⟨ps,H2,k,i,e,kvs,y,lk,r⟩=>?_);subst y;obtain⟨m,c,n⟩:=qk5 i;obtain⟨z,hd,l,p,A⟩:=dk_of k.hok e;cases p;refine⟨m,c,A,λh' g hs=>⟨.ref s.heap.objs.size,_,?_,rfl,r⟩⟩;have hz:(qkr [] kvs).length<=sizeLine:=by
  have h1:=qxe kvs [];rw[Qj2]at h1;rw[Q1]; omega
 have v:∃q,h'.get? s.heap.objs.size=Y q:=let ⟨q,_,_,t,_⟩:=g; ⟨q,t⟩;exact qy2 k (by rw[e]; exact True.intro) hs v (dk_new hz hd (n.merge .nil) g)
structure M1 (X:Cx) (o:Qx) (m:Y5) (apos:Pos) (e:Qx) (cpos:Pos):Prop where
 base:Q9 o m X.env (Qy o X.env)=Qy o X.env
 few:((backTo cpos (starEach [e] X.env)).all (λx=>!x.1)&&(backToKw cpos (keywordEach [] X.env)).all (λx=>x.1.isSome)
  && decide (([e]:L Qx).length+([]:L Zl).length+(if ([]:L Zl).isEmpty then 0 else 1)<30))=Z
 line:(apos.endLine==cpos.line)=Z
 trees:backTo cpos (starEach [e] X.env)=[(Y6,Qy e X.env)]
def IsD(H:Hp)(a:Y7):Prop:=(∃kvs,Rd H a (.dK kvs))\/∃kvs,Rd H a (.dT kvs)
def isD_at(I:Inv X c g H s)(d:IsD H a):
  s.TypeIs (.ref a) "dict"/\(∀b,Value.ref a=.ref b->∃ob,s.heap.get? b=Y ob/\ob.dict=J)/\(a==Qh)=false:=by
 rcases d with⟨kvs,e⟩|⟨kvs,e⟩
 ·obtain⟨_,hd,vs,_,f⟩:=qwu I.hok e;refine⟨f.typeIs,λb q=>?_,hd⟩;cases q;obtain⟨ob,_,_,h1,h2,_⟩:=f;exact⟨ob,h1,h2.2.1⟩
 ·obtain⟨_,hd,xs,_,f⟩:=qyu I.hok e;refine⟨f.typeIs,λb q=>?_,hd⟩;cases q;obtain⟨ob,_,_,h1,h2,_⟩:=f;exact⟨ob,h1,h2.2.1⟩
section
def d_get1(n:A.units+1<cLine)(I:Inv X pins σ H s)(g:DGet H a y o)(m:RelV y u)(h:∀j s',Inv X pins σ H s'->RelV (o.getD .non) j->Q j s'):
  wpAny (model X.prog X.w) A (call (.builtin "dict.get") [.ref a,u]) Q E s:=by
 rcases g with⟨kvs,k,e,i,l⟩|⟨kvs,k,b,e,i,p,l⟩
 ·subst i;obtain⟨z,hd,vs,c,f⟩:=qwu I.hok e;refine call_meetsIn PySem.F.slot_dict_get f.typeIs PySem.F.entry_dict_get (PySem.F.args_dict_get_2 _ _) (meets_dict_get (mixKind X.prog X.w) a (qkc m) hd) ⟨_,f.mapOf,h _ _ (I.tok _) ?_⟩;rw[l];exact(c.val k).getD rfl
 ·subst i;cases (m);obtain⟨z,hd,xs,c,f⟩:=qyu I.hok e;refine call_meetsIn PySem.F.slot_dict_get f.typeIs PySem.F.entry_dict_get (PySem.F.args_dict_get_2 _ _) (meetsH_dict_get (tupleKind (mixKind X.prog X.w)) a b hd) ⟨Q6 n,k,xs,qq5 I.hok p,f,h _ _ (I.tok _) ?_⟩;rw[l];exact(c.val k).getD rfl
end
noncomputable def tDGet1(td ty:TE):TE:=λσ H Q=>td σ H λx H1=>∃a,x=.ref a/\IsD H1 a/\ty σ H1 λy H2=>∃o,DGet H2 a y o/\Q (o.getD .non) H2
section
def qgl(r:X.A.units+1<cLine)(t:PE X o td)(v:PE X e ty)(m:M1 X o "get" apos e cpos):PE X (.Call (.Attribute o "get" apos) [e] [] cpos) (tDGet1 td ty):=by
 intro pins s σ H Q I h;refine wpAny_Call_method m.base m.few m.line PySem.F.plainAttrs_dict PySem.F.slot_dict_get PySem.F.type_dict_get (thn (t pins s σ H _ I h) λu k ⟨x,H1,c,n,a,ex,d,q⟩=>?_);subst ex;obtain rfl:u=Value.ref a:=n;obtain⟨j,i,_⟩:=isD_at c d;refine⟨j,i,?_⟩;rw[m.trees];refine Calls.callWith_builtin rfl (Calls.evalArgs_plain (Calls.spliced_cons (thn (v pins k σ H1 _ c q) λF D ⟨y,H2,z,l,E,g,p⟩=>Calls.spliced_nil ?_)));exact d_get1 r z g l λA C w b=>⟨_,H2,w,b,p⟩
end
section
end
section
end
end L2
end
section
namespace M
open PySem (Str Operator CmpOp)
inductive D where
 |non|bl (b:Yb)|int (i:B)|str (s:Y5)|tup (ds:L D)|lst (ds:L D)|loc (l:Y0)
 deriving Inhabited
inductive Ya where
 |lst (w:Yb) (ds:L D)
 |dic (w:Yb) (kvs:L (D×D))
 |obj (C:Y0) (fs:L (Y5×D))
 deriving Inhabited
abbrev Y2:=L Ya
abbrev Sl:=L (Y3 D)
noncomputable def lim:Nat:=16777216
inductive Ty where
 |non|bl|int|str|tup|lst
 deriving DecidableEq
noncomputable def Ty.name:Ty->String
 |.non=>"NoneType"
 |.bl=>"bool"
 |.int=>"int"
 |.str=>"str"
 |.tup=>"tuple"
 |.lst=>"list"
inductive Bq where
 |len|min|tuple|list|all|sorted|any|int|max
inductive Mt where
 |append|extend|index|insert
inductive T where
 |var (i:Y0)
 |tup (is:L Y0)
noncomputable def T.slots:T->L Y0
 |.var i=>[i]
 |.tup is=>is
inductive E where
 |var (i:Y0)
 |lit (d:D)
 |glo (x:Y5) (d:D)
 |bin (op:Ze) (a b:E)
 |neg (a:E)
 |not (a:E)
 |cmp (op:CmpOp) (a b:E)
 |cmp2 (op op':CmpOp) (a b c:E)
 |and (a b:E)
 |or (a b:E)
 |tup (es:L E)
 |lst (es:L E)
 |idx (a b:E)
 |sli (a:E) (lo hi:Y3 E)
 |call (f:Y0) (es:L E)
 |bcall (f:Bq) (es:L E)
 |isi (a:E) (ts:L Ty) (many:Yb)
 |meth (a:E) (m:Mt) (es:L E)
 |gc (a:E)
 |rng1 (a:E)
 |zip (a b:E)
 |dic (es:L E)
 |didx (a b:E)
 |din (neg:Yb) (a b:E)
 |dgt (a b:E)
 |gidx (x:Y5) (ks:L Y5) (ds:L D) (b:E)
 |gin (neg:Yb) (x:Y5) (ks:L Y5) (b:E)
 |lenset (a:E)
 |comp (t:T) (it:E) (test:Y3 E) (elt:E) (src:L (Y3 Y0))
 |attr (C:Y0) (a:E) (f:Y5)
 |mcall (C f:Y0) (m:Y5) (a:E) (es:L E)
 |new (C f:Y0) (es:L E)
inductive S where
 |set (t:T) (e:E)
 |dset (a i e:E)
 |setA (C:Y0) (a:E) (f:Y5) (e:E)
 |ford (t:T) (a:E) (body:L S)
 |bad
 |six (a i e:E)
 |expr (e:E)
 |ret (e:E)
 |ite (c:E) (a b:L S)
 |forr (t:T) (it:E) (body:L S)
structure Fn where
 np:Y0
 nl:Y0
 body:L S
mutual
noncomputable def eqT:D->D->Yb
 |.non,.non=>Z
 |.bl a,.bl b=>a==b
 |.bl a,.int j=>(if a then 1 else 0)==j
 |.int i,.bl b=>i==(if b then 1 else 0)
 |.int i,.int j=>i==j
 |.str a,.str b=>a==b
 |.tup a,.tup b=>eqTs a b
 |_,_=>Y6
noncomputable def eqTs:L D->L D->Yb
 |[],[]=>Z
 |a::as,b::bs=>eqT a b&&eqTs as bs
 |_,_=>Y6
end
noncomputable def isI:D->Yb
 |.int _=>Z
 |_=>Y6
noncomputable def flat(_:Y0):D->Yb
 |.int _=>Z
 |.str _=>Z
 |.tup ds=>ds.all isI
 |_=>Y6
noncomputable abbrev flats(n:Y0)(ds:L D):Bool:=ds.all (flat n)
noncomputable def mulOk(i j:B):Bool:=(decide (-(2 ^ 64)<i)&&decide (i<2 ^ 64))||(decide (-(2 ^ 64)<j)&&decide (j<2 ^ 64))
noncomputable def listAt(st:Y2)(l:Y0):Y3 (L D):=match st[l]? with|some (.lst _ ds)=>Y ds|_=>J
noncomputable def wlistAt(st:Y2)(l:Y0):Y3 (L D):=match st[l]? with|some (.lst Z ds)=>Y ds|_=>J
noncomputable def seqAt(st:Y2):D->Y3 (L D)
 |.loc l=>listAt st l
 |.lst ds=>Y ds
 |_=>J
mutual
/-- no place of the store within -/
noncomputable def noLoc:D->Yb
 |.loc _=>Y6
 |.tup ds=>noLocs ds
 |.lst ds=>noLocs ds
 |_=>Z
noncomputable def noLocs:L D->Yb
 |[]=>Z
 |d::ds=>noLoc d&&noLocs ds
end
mutual
/-- every place of the store within is one of the first n -/
noncomputable def lt(n:Y0):D->Yb
 |.loc l=>Nat.blt l n
 |.tup ds=>lts n ds
 |.lst ds=>lts n ds
 |_=>Z
noncomputable def lts(n:Y0):L D->Yb
 |[]=>Z
 |d::ds=>lt n d&&lts n ds
end
noncomputable def ltC(n:Y0):Ya->Yb
 |.lst _ ds=>lts n ds
 |.dic _ kvs=>kvs.all λp=>lt n p.2
 |.obj _ fs=>fs.all λp=>lt n p.2
noncomputable def gcX(n:Y0)(p:D×Y2):D×Y2:=
 if noLoc p.1 then(p.1,p.2.take n) else match p.1 with
  |.loc l=>if n<=l then(match p.2[l]? with
   |some (.lst Z ds)=>if noLocs ds then(.lst ds,p.2.take n) else p
   |_=>p) else p
  |_=>p
open Classical in
noncomputable def gcD(st:Y2)(p:D×Y2):D×Y2:=
 if (p.2.take st.length).all (ltC st.length)=Z then gcX st.length p else if p.2.take st.length=st then gcX st.length p else p
noncomputable def dicAt(st:Y2)(l:Y0):Y3 (L (D×D)):=match st[l]? with|some (.dic _ kvs)=>Y kvs|_=>J
noncomputable def wdicAt(st:Y2)(l:Y0):Y3 (L (D×D)):=match st[l]? with|some (.dic Z kvs)=>Y kvs|_=>J
noncomputable def objAt(st:Y2)(C:Y0):D->Y3 (L (Y5×D))
 |.loc l=>match st[l]? with|some (.obj C' fs)=>if C'=C then Y fs else J|_=>J
 |_=>J
noncomputable def putA(f:Y5)(v:D):L (Y5×D)->L (Y5×D)
 |[]=>[(f,v)]
 |(g,x)::r=>if g=f then(g,v)::r else(g,x)::putA f v r
noncomputable def keysOf(kvs:L (D×D)):L D:=kvs.map (·.1)
noncomputable def dkeys(st:Y2):D->Y3 (L D)
 |.loc l=>(dicAt st l).map keysOf
 |_=>J
noncomputable def isKey:D->Yb
 |.int _=>Z
 |.str _=>Z
 |_=>Y6
noncomputable def dget(kvs:L (D×D))(k:D):Y3 D:=(kvs.find? λp=>eqT p.1 k).map (·.2)
noncomputable def dput(kvs:L (D×D))(k v:D):L (D×D):=if kvs.any λp=>eqT p.1 k then kvs.map (λp=>if eqT p.1 k then(p.1,v) else p) else kvs++[(k,v)]
noncomputable def pairUp:L D->Y3 (L (D×D))
 |[]=>Y []
 |k::v::r=>if isKey k then(pairUp r).map ((k,v)::·) else J
 |_=>J
noncomputable def dall(kvs:L (D×D)):L (D×D):=kvs.foldl (λacc p=>dput acc p.1 p.2) []
noncomputable def alloc(st:Y2)(c:Ya):D×Y2:=(.loc st.length,st++[c])
noncomputable def binop(st:Y2):Ze->D->D->Y3 (D×Y2)
 |.Add,.int i,.int j=>Y (.int (i+j),st)
 |.Add,.tup a,.tup b=>if a.isEmpty||decide (lim<a.length+b.length) then J else Y (.tup (a++b),st)
 |.Add,a,b=>(seqAt st a).bind λx=>(seqAt st b).bind λy=>if lim<x.length+y.length then J else Y (alloc st (.lst Z (x++y)))
 |.Sub,.int i,.int j=>Y (.int (i - j),st)
 |.Mult,.int i,.int j=>if mulOk i j then Y (.int (i*j),st) else J
 |.Mult,.tup a,.int k=>if decide (k < -(2 ^ 62))||decide (2 ^ 62<=k)||decide (lim<a.length*k.toNat) then J else Y (.tup (List.replicate k.toNat a).flatten,st)
 |.FloorDiv,.int i,.int j=>if 0<j/\j<2 ^ 64 then Y (.int (i / j),st) else J
 |.Mod,.int i,.int j=>if 0<j then Y (.int (i % j),st) else J
 |.Pow,.int i,.int j=>if 0<=j/\j<=1000/\i.natAbs<2 ^ 64 then Y (.int (i ^ j.toNat),st) else J
 |_,_,_=>J
noncomputable def addK(S:L (L B))(k:L B):L (L B):=if k∈S then S else S++[k]
noncomputable def distinct(ks:L (L B)):L (L B):=ks.foldl addK []
noncomputable def keyD:D->Y3 (L B)
 |.tup ds=>ds.mapM λd=>match d with|.int i=>Y i|_=>J
 |_=>J
noncomputable def qve:D->Y3 D
 |.tup ds=>(ds.mapM keyD).bind λks=>if ds.length<=16 then Y (.int (distinct ks).length) else J
 |_=>J
noncomputable def ixN(n:Y0)(i:B):Y3 Nat:=if 0<=i then(if i<n then Y i.toNat else J) else if -(n:B)<=i then Y (i+n).toNat else J
noncomputable def atI{α:Type}(xs:L α)(i:B):Y3 α:=(ixN xs.length i).bind λj=>xs[j]?
noncomputable def idxD(st:Y2):D->D->Y3 D
 |.tup ds,.int i=>atI ds i
 |d,.int i=>(seqAt st d).bind λds=>atI ds i
 |_,_=>J
noncomputable def cutIx(n d:Y0):Y3 B->Y0
 |none=>d
 |some v=>if v<0 then(v+(n:B)).toNat else min v.toNat n
noncomputable def cut{α:Type}(xs:L α)(lo hi:Y3 B):L α:=(xs.drop (cutIx xs.length 0 lo)).take (cutIx xs.length xs.length hi - cutIx xs.length 0 lo)
noncomputable def sliD(st:Y2):D->Y3 B->Y3 B->Y3 (D×Y2)
 |.tup ds,lo,hi=>Y (.tup (cut ds lo hi),st)
 |d,lo,hi=>(seqAt st d).map λds=>alloc st (.lst Z (cut ds lo hi))
noncomputable def inD(st:Y2)(x:D):D->Y3 Yb
 |.tup ds=>if flat 9 x&&flats 9 ds then Y (ds.any λy=>eqT y x) else J
 |d=>(seqAt st d).bind λds=>if flat 9 x&&flats 9 ds then Y (ds.any λy=>eqT y x) else J
noncomputable def isNon:D->Yb
 |.non=>Z
 |_=>Y6
noncomputable def eqD(_:Y2)(x y:D):Y3 Bool:=match x,y with
 |.bl a,.bl b=>Y (a==b)
 |.non,.non=>Y Z
 |x,y=>if flat 9 x&&(flat 9 y||isNon y) then Y (eqT x y) else J
noncomputable def neD(_:Y2):D->D->Y3 Yb
 |.int i,.int j=>Y (!(i==j))
 |.str i,.str j=>Y (!(i==j))
 |_,_=>J
noncomputable def cmpD(st:Y2):CmpOp->D->D->Y3 Yb
 |.Lt,.int i,.int j=>Y (decide (i<j))
 |.LtE,.int i,.int j=>Y (decide (i<=j))
 |.Gt,.int i,.int j=>Y (decide (j<i))
 |.GtE,.int i,.int j=>Y (decide (j<=i))
 |.Eq,x,y=>eqD st x y
 |.NotEq,x,y=>neD st x y
 |.Is,x,.non=>Y (isNon x)
 |.IsNot,x,.non=>Y (!isNon x)
 |.In,x,y=>inD st x y
 |.NotIn,x,y=>(inD st x y).map (!·)
 |_,_,_=>J
noncomputable def tyName(st:Y2):D->Y3 Ty
 |.non=>Y .non
 |.bl _=>Y .bl
 |.int _=>Y .int
 |.str _=>Y .str
 |.tup _=>Y .tup
 |d=>(seqAt st d).map λ_=>.lst
noncomputable def tyIs(t n:Ty):Bool:=t==n||(t==.int&&n==.bl)
noncomputable def truth(st:Y2):D->Y3 Yb
 |.non=>Y Y6
 |.bl b=>Y b
 |.int i=>Y (i != 0)
 |.tup ds=>Y (!ds.isEmpty)
 |d=>(seqAt st d).map λds=>!ds.isEmpty
noncomputable def insInt(x:B):L B->L B
 |[]=>[x]
 |y::r=>if x<=y then x::y::r else y::insInt x r
noncomputable def sortInt:L B->L B
 |[]=>[]
 |x::r=>insInt x (sortInt r)
noncomputable def asInts:L D->Y3 (L B)
 |[]=>Y []
 |.int i::r=>(asInts r).map (i::·)
 |_=>J
noncomputable def asBools:L D->Y3 (L Yb)
 |[]=>Y []
 |.bl i::r=>(asBools r).map (i::·)
 |_=>J
noncomputable def bLen(st:Y2):L D->Y3 (D×Y2)
 |[.tup ds]=>Y (.int ds.length,st)
 |[d]=>(seqAt st d).map λds=>(.int ds.length,st)
 |_=>J
noncomputable def bMin(st:Y2):L D->Y3 (D×Y2)
 |[.int i,.int j]=>Y (.int (if j<i then j else i),st)
 |_=>J
noncomputable def bMax(st:Y2):L D->Y3 (D×Y2)
 |[.int i,.int j]=>Y (.int (if j > i then j else i),st)
 |_=>J
noncomputable def bTuple(st:Y2):L D->Y3 (D×Y2)
 |[.tup ds]=>Y (.tup ds,st)
 |[d]=>(seqAt st d).map λds=>(.tup ds,st)
 |_=>J
noncomputable def bList(st:Y2):L D->Y3 (D×Y2)
 |[.tup ds]=>Y (alloc st (.lst Z ds))
 |[d]=>((seqAt st d).or (dkeys st d)).map λds=>alloc st (.lst Z ds)
 |_=>J
noncomputable def bAll(st:Y2):L D->Y3 (D×Y2)
 |[d]=>(seqAt st d).bind λds=>(asBools ds).map λbs=>(.bl (bs.all id),st)
 |_=>J
noncomputable def bAny(st:Y2):L D->Y3 (D×Y2)
 |[d]=>(seqAt st d).bind λds=>(asBools ds).map λbs=>(.bl (bs.any id),st)
 |_=>J
noncomputable def bSorted(st:Y2):L D->Y3 (D×Y2)
 |[d]=>((seqAt st d).or (dkeys st d)).bind λds=>(if 64<=ds.length then J else asInts ds).map λns=>alloc st (.lst Z ((sortInt ns).map .int))
 |_=>J
noncomputable def bInt(st:Y2):L D->Y3 (D×Y2)
 |[.int i]=>Y (.int i,st)
 |[.bl b]=>Y (.int (if b then 1 else 0),st)
 |_=>J
noncomputable def bfun(st:Y2):Bq->L D->Y3 (D×Y2)
 |.len=>bLen st
 |.min=>bMin st
 |.tuple=>bTuple st
 |.list=>bList st
 |.all=>bAll st
 |.sorted=>bSorted st
 |.any=>bAny st
 |.max=>bMax st
 |.int=>bInt st
noncomputable def mAppend(st:Y2):D->L D->Y3 (D×Y2)
 |.loc l,[d]=>(wlistAt st l).bind λds=>if ds.length<lim then Y (.non,st.set l (.lst Z (ds++[d]))) else J
 |_,_=>J
noncomputable def mExtend(st:Y2):D->L D->Y3 (D×Y2)
 |.loc l,[d]=>(wlistAt st l).bind λds=>(match d with|.tup es=>Y es|d=>seqAt st d).bind λes=>if ds.length+es.length<=lim then Y (.non,st.set l (.lst Z (ds++es))) else J
 |_,_=>J
noncomputable def mIndex(st:Y2):D->L D->Y3 (D×Y2)
 |d,[x]=>(seqAt st d).bind λds=>if flat 9 x&&flats 9 ds then(ds.findIdx? λy=>eqT y x).map λ(j:Y0)=>(.int (j:B),st) else J
 |_,_=>J
noncomputable def mInsert(st:Y2):D->L D->Y3 (D×Y2)
 |.loc l,[.int i,d]=>(wlistAt st l).bind λds=>if 0<=i/\i<=ds.length/\ds.length<lim then Y (.non,st.set l (.lst Z (ds.take i.toNat++d::ds.drop i.toNat))) else J
 |_,_=>J
noncomputable def mfun(st:Y2):Mt->D->L D->Y3 (D×Y2)
 |.append=>mAppend st
 |.extend=>mExtend st
 |.index=>mIndex st
 |.insert=>mInsert st
noncomputable def Mt.ofList(_:Mt):Bool:=Z
noncomputable def mty(st:Y2)(m:Mt):D->Yb
 |.str _=>!m.ofList
 |d=>m.ofList&&(seqAt st d).isSome
noncomputable def sixD(st:Y2):D->D->D->Y3 Y2
 |.loc l,.int i,d=>(wlistAt st l).bind λds=>(ixN ds.length i).map λj=>st.set l (.lst Z (ds.set j d))
 |_,_,_=>J
inductive Out where
 |nx (τ:Sl)
 |rt (d:D)
 |bk (τ:Sl)
 |ct (τ:Sl)
structure R where
 ev:Sl->Y2->E->Y3 (D×Y2)
 tst:Sl->Y2->E->Y3 (Yb×Y2)
 ex:Sl->Y2->L S->Y3 (Out×Y2)
 call:Y0->L D->Y2->Y3 (D×Y2)
noncomputable def evs(f:Y2->E->Y3 (D×Y2)):L E->Y2->Y3 (L D×Y2)
 |[],st=>Y ([],st)
 |e::es,st=>(f st e).bind λp=>(evs f es p.2).bind λq=>Y (p.1::q.1,q.2)
noncomputable def setIs:L Y0->L D->Sl->Y3 Sl
 |[],[],τ=>Y τ
 |i::is,d::ds,τ=>if i<τ.length then setIs is ds (τ.set i (Y d)) else J
 |_,_,_=>J
noncomputable def setT:T->D->Sl->Y3 Sl
 |.var i,d,τ=>if i<τ.length then Y (τ.set i (Y d)) else J
 |.tup is,.tup ds,τ=>setIs is ds τ
 |_,_,_=>J
inductive Src where
 |tup (ds:L D)
 |lst (d:D)
 |rng (lo:B) (n:Y0)
 |zip (a b:D)
noncomputable def rowAt(st:Y2):D->Y3 (L D)
 |.tup ds=>Y ds
 |d=>seqAt st d
noncomputable def pairAt(xs ys:L D)(i:Y0):Y3 D:=match xs[i]?,ys[i]? with
 |some x,Y y=>Y (.tup [x,y])
 |_,_=>J
noncomputable def Src.at(st:Y2)(i:Y0):Src->Y3 (Y3 D)
 |.tup ds=>Y ds[i]?
 |.lst d=>(seqAt st d).map λds=>ds[i]?
 |.rng lo n=>Y (if i<n then Y (.int (lo+i)) else J)
 |.zip a b=>(rowAt st a).bind λxs=>(rowAt st b).map λys=>pairAt xs ys i
noncomputable def Src.size(st:Y2):Src->Y0
 |.tup ds=>ds.length
 |.lst d=>((seqAt st d).getD []).length
 |.rng _ n=>n
 |.zip a b=>min ((rowAt st a).getD []).length ((rowAt st b).getD []).length
noncomputable def big(i:B):Bool:=decide (i < -(2 ^ 62))||decide (2 ^ 62<=i)
noncomputable def src(r:R)(τ:Sl)(st:Y2):E->Y3 (Src×Y2)
 |.rng1 a=>(r.ev τ st a).bind λp=>match p.1 with
  |.int n=>if big n then J else Y (.rng 0 n.toNat,p.2)
  |_=>J
 |.zip a b=>(r.ev τ st a).bind λp=>(r.ev τ p.2 b).bind λq=>(rowAt q.2 p.1).bind λ_=>(rowAt q.2 q.1).map λ_=>(.zip p.1 q.1,q.2)
 |e=>(r.ev τ st e).bind λp=>match p.1 with
  |.tup ds=>Y (.tup ds,p.2)
  |d=>(seqAt p.2 d).map λ_=>(.lst d,p.2)
noncomputable def loop(it:Src)(f:Sl->Y2->D->Y3 (Out×Y2)):Y0->Y0->Sl->Y2->Y3 (Out×Y2)
 |0,_,_,_=>J
 |k+1,i,τ,st=>(it.at st i).bind λo=>match o with
  |none=>Y (.nx τ,st)
  |some d=>(f τ st d).bind λp=>match p.1 with
   |.nx τ'=>loop it f k (i+1) τ' p.2
   |.ct τ'=>loop it f k (i+1) τ' p.2
   |.bk τ'=>Y (.nx τ',p.2)
   |.rt v=>Y (.rt v,p.2)
noncomputable def turnC(r:R)(t:T)(test:Y3 E)(elt:E)(τ:Sl)(st:Y2)(d:D):Y3 (Y3 D×Sl×Y2):=
 (setT t d τ).bind λτ'=>match test with
  |none=>(r.ev τ' st elt).map λp=>(Y p.1,τ',p.2)
  |some c=>(r.tst τ' st c).bind λb=>if b.1 then(r.ev τ' b.2 elt).map λp=>(Y p.1,τ',p.2) else Y (J,τ',b.2)
noncomputable def loopC(it:Src)(f:Sl->Y2->D->Y3 (Y3 D×Sl×Y2)):Y0->Y0->L D->Sl->Y2->Y3 (L D×Y2)
 |0,_,_,_,_=>J
 |k+1,i,acc,τ,st=>(it.at st i).bind λo=>match o with
  |none=>if lim<acc.length then J else Y (acc,st)
  |some d=>if lim<=acc.length then J else(f τ st d).bind λp=>loopC it f k (i+1) (match p.1 with|some x=>acc++[x]|none=>acc) p.2.1 p.2.2
noncomputable def inner(src:L (Y3 Y0))(τ:Sl):Sl:=src.map λo=>o.bind λi=>(τ[i]?).bind id
noncomputable def part(r:R)(τ:Sl)(st:Y2):Y3 E->Y3 (Y3 B×Y2)
 |none=>Y (J,st)
 |some e=>(r.ev τ st e).bind λp=>match p.1 with
  |.int i=>Y (Y i,p.2)
  |_=>J
noncomputable def dinR(r:R)(τ:Sl)(st:Y2)(neg:Yb)(a b:E):Y3 (D×Y2):=
 (r.ev τ st a).bind λp=>(r.ev τ p.2 b).bind λq=>match q.1 with
  |.loc l=>(dicAt q.2 l).bind λkvs=>if isKey p.1 then Y (.bl ((dget kvs p.1).isSome != neg),q.2) else J
  |_=>J
noncomputable def ginR(r:R)(τ:Sl)(st:Y2)(neg:Yb)(ks:L Y5)(b:E):Y3 (D×Y2):=
 (r.ev τ st b).bind λp=>match p.1 with
  |.str z=>Y (.bl (ks.contains z != neg),p.2)
  |_=>J
noncomputable def stepEv(r:R)(τ:Sl)(st:Y2):E->Y3 (D×Y2)
 |.var i=>match τ[i]? with
  |some (Y d)=>Y (d,st)
  |_=>J
 |.lit d=>Y (d,st)
 |.glo _ d=>Y (d,st)
 |.bin op a b=>(r.ev τ st a).bind λp=>(r.ev τ p.2 b).bind λq=>binop q.2 op p.1 q.1
 |.neg a=>(r.ev τ st a).bind λp=>match p.1 with
  |.int i=>Y (.int (-i),p.2)
  |_=>J
 |.not a=>(r.ev τ st a).bind λp=>match p.1 with
  |.bl b=>Y (.bl (!b),p.2)
  |_=>J
 |.cmp op a b=>(r.ev τ st a).bind λp=>(r.ev τ p.2 b).bind λq=>(cmpD q.2 op p.1 q.1).map λk=>(.bl k,q.2)
 |.cmp2 op op' a b c=>(r.ev τ st a).bind λp=>(r.ev τ p.2 b).bind λq=>(cmpD q.2 op p.1 q.1).bind λk=>
   if k then(r.ev τ q.2 c).bind λu=>(cmpD u.2 op' q.1 u.1).map λk'=>(.bl k',u.2) else Y (.bl Y6,q.2)
 |.and a b=>(r.ev τ st a).bind λp=>match p.1 with
  |.bl Z=>r.ev τ p.2 b
  |.bl Y6=>Y (.bl Y6,p.2)
  |_=>J
 |.or a b=>(r.ev τ st a).bind λp=>match p.1 with
  |.bl Y6=>r.ev τ p.2 b
  |.bl Z=>Y (.bl Z,p.2)
  |_=>J
 |.tup es=>(evs (r.ev τ) es st).bind λp=>if lim<p.1.length then J else Y (.tup p.1,p.2)
 |.lst es=>(evs (r.ev τ) es st).bind λp=>if lim<p.1.length then J else Y (alloc p.2 (.lst Z p.1))
 |.idx a b=>(r.ev τ st a).bind λp=>(r.ev τ p.2 b).bind λq=>(idxD q.2 p.1 q.1).map λd=>(d,q.2)
 |.sli a lo hi=>(r.ev τ st a).bind λp=>(part r τ p.2 lo).bind λl=>(part r τ l.2 hi).bind λh=>sliD h.2 p.1 l.1 h.1
 |.call f es=>(evs (r.ev τ) es st).bind λp=>r.call f p.1 p.2
 |.bcall f es=>(evs (r.ev τ) es st).bind λp=>bfun p.2 f p.1
 |.isi a ts _=>(r.ev τ st a).bind λp=>(tyName p.2 p.1).map λn=>(.bl (ts.any λt=>tyIs t n),p.2)
 |.meth a m es=>(r.ev τ st a).bind λp=>if mty p.2 m p.1 then(evs (r.ev τ) es p.2).bind λq=>mfun q.2 m p.1 q.1 else J
 |.gc a=>(r.ev τ st a).map λp=>gcD st p
 |.rng1 _=>J
 |.zip _ _=>J
 |.dic es=>(evs (r.ev τ) es (st++[.dic Z []])).bind λp=>match wdicAt p.2 st.length with
  |some []=>(pairUp p.1).bind λkvs=>if kvs.length<=15 then Y (.loc st.length,p.2.set st.length (.dic Z (dall kvs))) else J
  |_=>J
 |.didx a b=>(r.ev τ st a).bind λp=>(r.ev τ p.2 b).bind λq=>match p.1 with
  |.loc l=>(dicAt q.2 l).bind λkvs=>if isKey q.1 then(dget kvs q.1).map λd=>(d,q.2) else J
  |_=>J
 |.din neg a b=>dinR r τ st neg a b
 |.dgt a b=>(r.ev τ st a).bind λp=>match p.1 with
  |.loc l=>(dicAt p.2 l).bind λ_=>(r.ev τ p.2 b).bind λq=>(dicAt q.2 l).bind λkvs=>if isKey q.1 then Y ((dget kvs q.1).getD .non,q.2) else J
  |_=>J
 |.gidx _ ks ds b=>(r.ev τ st b).bind λp=>match p.1 with
  |.str z=>((ks.zip ds).find? λq=>q.1==z).map λq=>(q.2,p.2)
  |_=>J
 |.gin neg _ ks b=>ginR r τ st neg ks b
 |.lenset a=>(r.ev τ st a).bind λp=>(qve p.1).map λd=>(d,p.2)
 |.comp t it test elt sr=>(src r τ st it).bind λp=>
   (loopC p.1 (turnC r t test elt) (p.1.size p.2+1) 0 [] (inner sr τ) p.2).map λq=>alloc q.2 (.lst Z q.1)
 |.attr C a f=>(r.ev τ st a).bind λp=>(objAt p.2 C p.1).bind λfs=>(fs.lookup f).map λd=>(d,p.2)
 |.mcall C f m a es=>(r.ev τ st a).bind λp=>(objAt p.2 C p.1).bind λfs=>if (fs.lookup m).isSome then J else(evs (r.ev τ) es p.2).bind λq=>r.call f (p.1::q.1) q.2
 |.new C f es=>(evs (r.ev τ) es st).bind λp=>(r.call f (.loc p.2.length::p.1) (p.2++[.obj C []])).bind λq=>if isNon q.1 then Y (.loc p.2.length,q.2) else J
noncomputable def stepTst(r:R)(τ:Sl)(st:Y2):E->Y3 (Yb×Y2)
 |.not a=>(r.tst τ st a).map λp=>(!p.1,p.2)
 |.and a b=>(r.tst τ st a).bind λp=>if p.1 then r.tst τ p.2 b else Y (Y6,p.2)
 |.or a b=>(r.tst τ st a).bind λp=>if p.1 then Y (Z,p.2) else r.tst τ p.2 b
 |.din neg a b=>(dinR r τ st neg a b).bind λp=>(truth p.2 p.1).map λk=>(k,p.2)
 |.gin neg _ ks b=>(ginR r τ st neg ks b).bind λp=>(truth p.2 p.1).map λk=>(k,p.2)
 |.cmp op a b=>(r.ev τ st a).bind λp=>(r.ev τ p.2 b).bind λq=>(cmpD q.2 op p.1 q.1).map λk=>(k,q.2)
 |.cmp2 op op' a b c=>(r.ev τ st a).bind λp=>(r.ev τ p.2 b).bind λq=>(cmpD q.2 op p.1 q.1).bind λk=>
   if k then(r.ev τ q.2 c).bind λu=>(cmpD u.2 op' q.1 u.1).map λk'=>(k',u.2) else Y (Y6,q.2)
 |e=>(r.ev τ st e).bind λp=>(truth p.2 p.1).map λk=>(k,p.2)
noncomputable def stepEx(r:R)(τ:Sl)(st:Y2):S->Y3 (Out×Y2)
 |.set t e=>(r.ev τ st e).bind λp=>(setT t p.1 τ).map λτ'=>(.nx τ',p.2)
 |.dset a i e=>(r.ev τ st e).bind λp=>(r.ev τ p.2 a).bind λq=>(r.ev τ q.2 i).bind λu=>match q.1 with
  |.loc l=>(wdicAt u.2 l).bind λkvs=>if isKey u.1&&decide (kvs.length<lim) then Y (.nx τ,u.2.set l (.dic Z (dput kvs u.1 p.1))) else J
  |_=>J
 |.setA C a f e=>(r.ev τ st e).bind λp=>(r.ev τ p.2 a).bind λq=>(objAt q.2 C q.1).bind λfs=>match q.1 with
  |.loc l=>if fs.length<900 then Y (.nx τ,q.2.set l (.obj C (putA f p.1 fs))) else J
  |_=>J
 |.ford t a body=>(r.ev τ st a).bind λp=>match p.1 with
  |.loc l=>(wdicAt p.2 l).bind λkvs=>(loop (.tup (keysOf kvs)) (λτ st d=>(setT t d τ).bind λτ'=>r.ex τ' st body) (kvs.length+1) 0 τ (p.2.set l (.dic Y6 kvs))).bind λq=>
   match q.2[l]? with
   |some (.dic Y6 kvs')=>Y (q.1,q.2.set l (.dic Z kvs'))
   |_=>J
  |_=>J
 |.bad=>J
 |.six a i e=>(r.ev τ st e).bind λp=>(r.ev τ p.2 a).bind λq=>(r.ev τ q.2 i).bind λu=>(sixD u.2 q.1 u.1 p.1).map λst'=>(.nx τ,st')
 |.expr e=>(r.ev τ st e).map λp=>(.nx τ,p.2)
 |.ret e=>(r.ev τ st e).map λp=>(.rt p.1,p.2)
 |.ite c a b=>(r.tst τ st c).bind λp=>if p.1 then r.ex τ p.2 a else r.ex τ p.2 b
 |.forr t it body=>(src r τ st it).bind λp=>
   loop p.1 (λτ st d=>(setT t d τ).bind λτ'=>r.ex τ' st body) (p.1.size p.2+1) 0 τ p.2
noncomputable def exs(f:Sl->Y2->S->Y3 (Out×Y2)):L S->Sl->Y2->Y3 (Out×Y2)
 |[],τ,st=>Y (.nx τ,st)
 |s::ss,τ,st=>(f τ st s).bind λp=>match p.1 with
  |.nx τ'=>exs f ss τ' p.2
  |o=>Y (o,p.2)
noncomputable def stepCall(fns:L Fn)(r:R)(f:Y0)(ds:L D)(st:Y2):Y3 (D×Y2):=
 match fns[f]? with
 |some F=>if ds.length=F.np then(r.ex (ds.map Y++List.replicate (F.nl - ds.length) J) st F.body).bind λp=>match p.1 with
   |.rt d=>Y (d,p.2)
   |.nx _=>Y (.non,p.2)
   |_=>J
  else J
 |none=>J
noncomputable def step(c:Y0->L D->Y2->Y3 (D×Y2))(r:R):R:=⟨stepEv r,stepTst r,λτ st ss=>exs (stepEx r) ss τ st,c⟩
noncomputable def runK(c:Y0->L D->Y2->Y3 (D×Y2)):Y0->R
 |0=>⟨λ_ _ _=>J,λ_ _ _=>J,λ_ _ _=>J,c⟩
 |k+1=>step c (runK c k)
open Classical in
noncomputable def lim1{α:Type}(f:Y0->Y3 α):Y3 α:=if h:∃x,∃n,f n=Y x then Y h.choose else J
noncomputable def RL(c:Y0->L D->Y2->Y3 (D×Y2)):R:=⟨λτ st e=>lim1 λn=>(runK c n).ev τ st e,λτ st e=>lim1 λn=>(runK c n).tst τ st e,λτ st e=>lim1 λn=>(runK c n).ex τ st e,c⟩
noncomputable def callD(fns:L Fn):Y0->Y0->L D->Y2->Y3 (D×Y2)
 |0=>λ_ _ _=>J
 |d+1=>stepCall fns (RL (callD fns d))
noncomputable abbrev rn(fns:L Fn)(d n:Y0):R:=runK (callD fns d) n
noncomputable abbrev Lv(fns:L Fn)(d:Y0):R:=RL (callD fns d)
def lim1_is(h:lim1 f=Y x):∃n,f n=Y x:=by
 unfold lim1 at h
 split at h
 ·rename_i a;obtain⟨n,hn⟩:=a.choose_spec;exact⟨n,by rw[hn]; exact h⟩
 ·cases h
def runK_call(c:Y0->L D->Y2->Y3 (D×Y2)):∀n,(runK c n).call=c
 |0=>rfl
 |_+1=>rfl
end M
end
section
namespace M
open PySem (Str)
def qzl(h:f τ s x=Y (.nx a,s')):exs f (x::b) τ s=exs f b a s':=by
 simp only[exs,h,oBs]
def qyt(h:f τ s x=Y (.rt d,a)):exs f (x::b) τ s=Y (.rt d,a):=by
 simp only[exs,h,oBs]
theorem qwk(P:Y0->Sl->Y2->Prop)(hs:∀i τ st,i<n->P i τ st->∃a st',f τ st (.int (lo+i))=Y (.nx a,st')/\P (i+1) a st'):
  ∀(k i:Y0) (τ:Sl) (st:Y2),i+k=n->P i τ st->∃a st',loop (.rng lo n) f (k+1) i τ st=Y (.nx a,st')/\P n a st'
 |0,i,τ,st,h,p=>by
  have:i=n:=by lia
  subst this;exact⟨τ,st,by simp[loop,Src.at],p⟩
 |k+1,i,τ,st,h,p=>by
  have hi:i<n:=by lia
  obtain⟨a,st',e,q⟩:=hs i τ st hi p;obtain⟨b,c,g,d⟩:=qwk P hs k (i+1) a st' (by lia) q;refine⟨b,c,?_,d⟩;rw[loop];simp only[Src.at,hi,if_true,oBs,e];exact g
def qg2(P:Y0->Sl->Y2->Prop)(b:P 0 τ st)(hs:∀i τ st,i<n->P i τ st->∃a st',f τ st (.int (lo+i))=Y (.nx a,st')/\P (i+1) a st'):
  ∃a st',loop (.rng lo n) f (n+1) 0 τ st=Y (.nx a,st')/\P n a st':=qwk P hs n 0 τ st (by lia) b
def Co{α:Type}(a:Y3 α)(b:Y0->Y3 α):Prop:=∀x,a=Y x->∃n,∀m,n<=m->b m=Y x
def Co.refl(a:Y3 α):Co a λ_=>a:=λ_ h=>⟨0,λ_ _=>h⟩
theorem Co.none(b:Y0->Y3 α):Co Option.none b:=λ_ h=>by cases h
theorem Co.bind{f:Y3 α}{c:Y0->Y3 α}{g:α->Y3 b}{g':Y0->α->Y3 b}(hf:Co f c)(d:∀a,Co (g a) λm=>g' m a):Co (f.bind g) λm=>(c m).bind (g' m):=λx h=>by
 cases e:f with
 |none=>rw[e]at h; cases h
 |some a=>
  rw[e]at h;obtain⟨n,hn⟩:=hf a e;obtain⟨k,hk⟩:=d a x h;refine⟨max n k,λm i=>?_⟩;simp only;rw[hn m (by lia)];exact hk m (by lia)
theorem Co.map{f:Y3 α}{b:Y0->Y3 α}(g:α->c)(hf:Co f b):Co (f.map g) λm=>(b m).map g:=λx h=>by
 cases e:f with
 |none=>rw[e]at h; cases h
 |some a=>
  rw[e]at h;obtain⟨n,hn⟩:=hf a e;refine⟨n,λm d=>?_⟩;simp only;rw[hn m d];exact h
def Co.ite[Decidable c]{a b:Y3 α}{e d:Y0->Y3 α}(f:Co a e)(hb:Co b d):Co (if c then a else b) λm=>if c then e m else d m:=by
 by_cases h:c
 ·simp only[Z2 h]; exact f
 ·simp only[Z1 h]; exact hb
structure Le (r:R) (r':Y0->R):Prop where
 ev:∀τ st e,Co (r.ev τ st e) λm=>(r' m).ev τ st e
 tst:∀τ st e,Co (r.tst τ st e) λm=>(r' m).tst τ st e
 ex:∀τ st e,Co (r.ex τ st e) λm=>(r' m).ex τ st e
 call:∀f ds st,Co (r.call f ds st) λm=>(r' m).call f ds st
theorem qz8{a:Y0->Y2->E->Y3 (D×Y2)}(h:∀st e,Co (f st e) λm=>a m st e):∀(es:L E) (st:Y2),Co (evs f es st) λm=>evs (a m) es st
 |[],st=>.refl _
 |e::es,st=>(h st e).bind λp=>(qz8 h es p.2).bind λq=>.refl _
theorem qxd{b:Y0->Sl->Y2->D->Y3 (Out×Y2)}(h:∀τ st d,Co (f τ st d) λm=>b m τ st d):∀(k i:Y0) (τ:Sl) (st:Y2),Co (loop it f k i τ st) λm=>loop it (b m) k i τ st
 |0,_,_,_=>.refl _
 |k+1,i,τ,st=>by
  unfold loop;refine(Co.refl _).bind λo=>?_
  cases o with
  |none=>exact .refl _
  |some d=>
   refine(h τ st d).bind λp=>?_
   cases c:p.1 with
   |nx a=>exact qxd h k _ _ _
   |ct a=>exact qxd h k _ _ _
   |bk a=>exact .refl _
   |rt v=>exact .refl _
theorem qks{b:Y0->Sl->Y2->D->Y3 (Y3 D×Sl×Y2)}(h:∀τ st d,Co (f τ st d) λm=>b m τ st d):∀(k i:Y0) (a:L D) (τ:Sl) (st:Y2),Co (loopC it f k i a τ st) λm=>loopC it (b m) k i a τ st
 |0,_,_,_,_=>.refl _
 |k+1,i,a,τ,st=>by
  unfold loopC;refine(Co.refl _).bind λo=>?_
  cases o with
  |none=>exact .refl _
  |some d=>exact Co.ite (.refl _) ((h τ st d).bind λp=>qks h k _ _ _ _)
theorem qvh{a:Y0->Sl->Y2->S->Y3 (Out×Y2)}(h:∀τ st s,Co (f τ st s) λm=>a m τ st s):∀(ss:L S) (τ:Sl) (st:Y2),Co (exs f ss τ st) λm=>exs (a m) ss τ st
 |[],_,_=>.refl _
 |s::ss,τ,st=>by
  unfold exs;refine(h τ st s).bind λp=>?_
  cases c:p.1 with
  |nx b=>exact qvh h ss _ _
  |_=>exact .refl _
section
variable (h:Le r r')
include h
theorem qav(τ)(st)(e):Co (src r τ st e) λm=>src (r' m) τ st e:=by
 cases e with
 |rng1 a=>exact(h.ev τ st a).bind λp=>.refl _
 |zip a b=>exact(h.ev τ st a).bind λp=>(h.ev τ _ b).bind λq=>.refl _
 |_=>exact(h.ev τ st _).bind λp=>.refl _
theorem qv5(τ)(st)(e):Co (part r τ st e) λm=>part (r' m) τ st e:=by
 cases e with
 |none=>exact .refl _
 |some e=>exact(h.ev τ st e).bind λp=>.refl _
theorem qbb(t)(test)(elt)(τ)(st)(d):Co (turnC r t test elt τ st d) λm=>turnC (r' m) t test elt τ st d:=by
 unfold turnC;refine(Co.refl _).bind λa=>?_
 cases test with
 |none=>exact(h.ev _ _ _).map _
 |some c=>exact(h.tst _ _ _).bind λb=>Co.ite ((h.ev _ _ _).map _) (.refl _)
theorem qw0(τ)(st)(neg)(a b):Co (dinR r τ st neg a b) λm=>dinR (r' m) τ st neg a b:=(h.ev τ st a).bind λp=>(h.ev τ _ b).bind λq=>.refl _
theorem qwl(τ)(st)(neg)(ks)(b):Co (ginR r τ st neg ks b) λm=>ginR (r' m) τ st neg ks b:=(h.ev τ st b).bind λp=>.refl _
theorem qjo(τ)(st)(e):Co (stepEv r τ st e) λm=>stepEv (r' m) τ st e:=by
 cases e with
 |var i=>exact .refl _
 |lit d=>exact .refl _
 |glo x d=>exact .refl _
 |bin j a b=>exact(h.ev τ st a).bind λp=>(h.ev τ _ b).bind λq=>.refl _
 |neg a=>exact(h.ev τ st a).bind λp=>.refl _
 |not a=>exact(h.ev τ st a).bind λp=>.refl _
 |cmp j a b=>exact(h.ev τ st a).bind λp=>(h.ev τ _ b).bind λq=>.refl _
 |cmp2 j n a b c=>exact(h.ev τ st a).bind λp=>(h.ev τ _ b).bind λq=>(Co.refl _).bind λk=>Co.ite ((h.ev τ _ c).bind λu=>.refl _) (.refl _)
 |and a b=>
  refine(h.ev τ st a).bind λp=>?_;obtain⟨d,s⟩:=p
  cases d with
  |bl k=>cases k with
   |true=>exact h.ev τ _ b
   |false=>exact .refl _
  |_=>exact .refl _
 |or a b=>
  refine(h.ev τ st a).bind λp=>?_;obtain⟨d,s⟩:=p
  cases d with
  |bl k=>cases k with
   |false=>exact h.ev τ _ b
   |true=>exact .refl _
  |_=>exact .refl _
 |tup es=>exact(qz8 (h.ev τ) es st).bind λp=>.refl _
 |lst es=>exact(qz8 (h.ev τ) es st).bind λp=>.refl _
 |idx a b=>exact(h.ev τ st a).bind λp=>(h.ev τ _ b).bind λq=>.refl _
 |sli a lo hi=>exact(h.ev τ st a).bind λp=>(qv5 h τ _ lo).bind λl=>(qv5 h τ _ hi).bind λu=>.refl _
 |call f es=>exact(qz8 (h.ev τ) es st).bind λp=>h.call f _ _
 |bcall f es=>exact(qz8 (h.ev τ) es st).bind λp=>.refl _
 |isi a o m=>exact(h.ev τ st a).bind λp=>.refl _
 |lenset a=>exact(h.ev τ st a).bind λp=>.refl _
 |gc a=>exact(h.ev τ st a).map _
 |meth a m es=>exact(h.ev τ st a).bind λp=>Co.ite ((qz8 (h.ev τ) es _).bind λq=>.refl _) (.refl _)
 |rng1 a=>exact .refl _
 |zip a b=>exact .refl _
 |dic es=>exact(qz8 (h.ev τ) es _).bind λp=>.refl _
 |didx a b=>exact(h.ev τ st a).bind λp=>(h.ev τ _ b).bind λq=>.refl _
 |din neg a b=>exact qw0 h τ st neg a b
 |dgt a b=>
  refine(h.ev τ st a).bind λp=>?_;obtain⟨d,s⟩:=p
  cases d with
  |loc l=>exact(Co.refl _).bind λ_=>(h.ev τ _ b).bind λq=>.refl _
  |_=>exact .refl _
 |gidx x ks ds b=>exact(h.ev τ st b).bind λp=>.refl _
 |gin neg x ks b=>exact qwl h τ st neg ks b
 |comp t it g elt sr=>exact(qav h τ st it).bind λp=>(qks (qbb h t g elt) _ _ _ _ _).map _
 |attr C a f=>exact(h.ev τ st a).bind λp=>.refl _
 |mcall C f m a es=>exact(h.ev τ st a).bind λp=>(Co.refl _).bind λfs=>Co.ite (.refl _) ((qz8 (h.ev τ) es _).bind λq=>h.call f _ _)
 |new C f es=>exact(qz8 (h.ev τ) es st).bind λp=>(h.call f _ _).bind λq=>.refl _
theorem qx5(τ)(st)(e):Co (stepTst r τ st e) λm=>stepTst (r' m) τ st e:=by
 cases e with
 |not a=>exact(h.tst τ st a).map _
 |and a b=>exact(h.tst τ st a).bind λp=>Co.ite (h.tst τ _ b) (.refl _)
 |or a b=>exact(h.tst τ st a).bind λp=>Co.ite (.refl _) (h.tst τ _ b)
 |din neg a b=>exact(qw0 h τ st neg a b).bind λp=>.refl _
 |gin neg x ks b=>exact(qwl h τ st neg ks b).bind λp=>.refl _
 |cmp f a b=>exact(h.ev τ st a).bind λp=>(h.ev τ _ b).bind λq=>.refl _
 |cmp2 f d a b c=>exact(h.ev τ st a).bind λp=>(h.ev τ _ b).bind λq=>(Co.refl _).bind λk=>Co.ite ((h.ev τ _ c).bind λu=>.refl _) (.refl _)
 |_=>exact(h.ev τ st _).bind λp=>.refl _
theorem qjm(τ)(st)(s):Co (stepEx r τ st s) λm=>stepEx (r' m) τ st s:=by
 cases s with
 |set t e=>exact(h.ev τ st e).bind λp=>.refl _
 |dset a i e=>exact(h.ev τ st e).bind λp=>(h.ev τ _ a).bind λq=>(h.ev τ _ i).bind λu=>.refl _
 |bad=>exact .refl _
 |six a i e=>exact(h.ev τ st e).bind λp=>(h.ev τ _ a).bind λq=>(h.ev τ _ i).bind λu=>.refl _
 |setA C a f e=>exact(h.ev τ st e).bind λp=>(h.ev τ _ a).bind λq=>.refl _
 |ford t a body=>
  refine(h.ev τ st a).bind λp=>?_;obtain⟨d,s⟩:=p
  cases d with
  |loc l=>exact(Co.refl _).bind λkvs=>(qxd (λτ st d=>(Co.refl _).bind λg=>h.ex g st body) _ _ _ _).bind λq=>.refl _
  |_=>exact .refl _
 |expr e=>exact(h.ev τ st e).map _
 |ret e=>exact(h.ev τ st e).map _
 |ite c a b=>exact(h.tst τ st c).bind λp=>Co.ite (h.ex τ _ a) (h.ex τ _ b)
 |forr t it body=>exact(qav h τ st it).bind λp=>qxd (λτ st d=>(Co.refl _).bind λg=>h.ex g st body) _ _ _ _
theorem qc1(c:Y0->L D->Y2->Y3 (D×Y2)):Le (step c r) λm=>step c (r' m):=
 ⟨qjo h,qx5 h,λτ st a=>qvh (qjm h) a τ st,λf ds st=>.refl _⟩
end
theorem qja(c:Y0->L D->Y2->Y3 (D×Y2)):∀n,Le (runK c n) λ_=>runK c (n+1)
 |0=>⟨λ_ _ _=>.none _,λ_ _ _=>.none _,λ_ _ _=>.none _,λ_ _ _=>.refl _⟩
 |n+1=>qc1 (qja c n) c
section
def ev_up(h:(runK c n).ev τ st e=Y x)(b:n<=N):(runK c N).ev τ st e=Y x:=by
 induction b with
 |refl=>exact h
 |step _ a=>obtain⟨k,hk⟩:=(qja c _).ev τ st e x a; exact hk k (Qqv _)
def qhi(h:(runK c n).tst τ st e=Y x)(b:n<=N):(runK c N).tst τ st e=Y x:=by
 induction b with
 |refl=>exact h
 |step _ a=>obtain⟨k,hk⟩:=(qja c _).tst τ st e x a; exact hk k (Qqv _)
def ex_up(h:(runK c n).ex τ st e=Y x)(b:n<=N):(runK c N).ex τ st e=Y x:=by
 induction b with
 |refl=>exact h
 |step _ a=>obtain⟨k,hk⟩:=(qja c _).ex τ st e x a; exact hk k (Qqv _)
end
def qyl(up:∀n N x,f n=Y x->n<=N->f N=Y x)(h:f n=Y x):lim1 f=Y x:=by
 have a:∃x,∃n,f n=Y x:=⟨x,n,h⟩
 unfold lim1;rw[dif_pos a];obtain⟨k,hk⟩:=a.choose_spec;have c:=up _ (max n k) _ h (by lia);have b:=up _ (max n k) _ hk (by lia);rw[c]at b;exact b.symm
section
end
section
variable {r:R}{s:Src}{S:Y2}{rest:Sl}{elt:E}{ds:L D}
theorem qwv(a:∀i,s.at S i=Y ds[i]?)(c:es.length=ds.length)(b:ds.length<lim)(f:∀(i:Y0) (d e:D),ds[i]?=Y d->es[i]?=Y e->r.ev (Y d::rest) S elt=Y (e,S)):
  ∀(k i:Y0) (o:Y3 D),i+k=ds.length->loopC s (turnC r (.var 0) J elt) (k+1) i (es.take i) (o::rest) S=Y (es,S)
 |0,i,o,h=>by
  have e:i=ds.length:=by lia
  subst e;have h1:es.take ds.length=es:=Qxf (by lia);rw[loopC,a,h1];simp only[oBs,Qz2 (Qqv _)];rw[Z1 (by lia)]
 |k+1,i,o,h=>by
  have hi:i<ds.length:=by lia
  have h1:ds[i]?=Y ds[i]:=by simp
  have h2:es[i]?=Y (es[i]'(by lia)):=by simp
  have g:=f i _ _ h1 h2;rw[loopC,a,h1];simp only[oBs];rw[Z1 (by rw[Qza]; lia)];have j:turnC r (.var 0) J elt (o::rest) S ds[i]=Y (Y (es[i]'(by lia)),Y ds[i]::rest,S):=by
   unfold turnC;simp only[setT,Qql,Qjo,if_true,Qjd,oBs,g,oMs]
  rw[j];simp only[oBs];rw[show es.take i++[es[i]'(by lia)]=es.take (i+1) by rw[Qzx (by lia)]];exact qwv a c b f k (i+1) _ (by lia)
theorem qx9(a:∀i,s.at S i=Y ds[i]?)(g:ds.length<lim)(hc:∀(i:Y0) (d:D),ds[i]?=Y d->r.tst (Y d::rest) S c=Y (p d,S))(f:D->D)(m:∀(i:Y0) (d:D),ds[i]?=Y d->p d=Z->r.ev (Y d::rest) S elt=Y (f d,S)):
  ∀(k i:Y0) (o:Y3 D),i+k=ds.length->loopC s (turnC r (.var 0) (Y c) elt) (k+1) i (((ds.take i).filter p).map f) (o::rest) S=Y ((ds.filter p).map f,S)
 |0,i,o,h=>by
  have e:i=ds.length:=by lia
  subst e;rw[loopC,a,Qxf (Qqv _)];simp only[oBs,Qz2 (Qqv _)];have:=Qzc p ds;rw[Z1 (by rw[Qqx]; lia)]
 |k+1,i,o,h=>by
  have hi:i<ds.length:=by lia
  have h1:ds[i]?=Y ds[i]:=by simp
  rw[loopC,a,h1];simp only[oBs];have t:=Qzc p (ds.take i);have q:(ds.take i).length<=ds.length:=by rw[Qza]; lia
  rw[Z1 (by rw[Qqx]; lia)];have n:=Qzx (by omega);have j:=qx9 a g hc f m k (i+1) (Y ds[i]) (by lia)
  cases b:p ds[i] with
  |true=>
   have l:turnC r (.var 0) (Y c) elt (o::rest) S ds[i]=Y (Y (f ds[i]),Y ds[i]::rest,S):=by
    unfold turnC;simp only[setT,Qql,Qjo,if_true,Qjd,oBs,hc i _ h1,b,m i _ h1 b,oMs]
   rw[l];simp only[oBs];rw[n,Qxx,Qqd]at j;simpa[b] using j
  |false=>
   have l:turnC r (.var 0) (Y c) elt (o::rest) S ds[i]=Y (J,Y ds[i]::rest,S):=by
    unfold turnC;simp only[setT,Qql,Qjo,if_true,Qjd,oBs,hc i _ h1,b,Qzw,if_false]
   rw[l];simp only[oBs];rw[n,Qxx,Qqd]at j;simpa[b] using j
end
def qa9{S:Y2}{ds:L D}(a:src r τ S it=Y (s,S'))(g:∀i,s.at S' i=Y ds[i]?)(hsz:s.size S'=ds.length)(f:inner sr τ=J::rest)(c:es.length=ds.length)(b:ds.length<lim)(j:∀(i:Y0) (d e:D),ds[i]?=Y d->es[i]?=Y e->r.ev (Y d::rest) S' elt=Y (e,S')):stepEv r τ S (.comp (.var 0) it J elt sr)=Y (.loc S'.length,S'++[.lst Z es]):=by
 have h:=qwv g c b j ds.length 0 J (by lia);show((src r τ S it).bind λp=>(loopC p.1 (turnC r (.var 0) J elt) (p.1.size p.2+1) 0 [] (inner sr τ) p.2).map λq=>alloc q.2 (.lst Z q.1))=_;rw[a];simp only[oBs,hsz,f];rw[show([]:L D)=es.take 0 by simp,h]
 rfl
def qxx{S:Y2}{ds:L D}(f:D->D)(a:src r τ S it=Y (s,S'))(g:∀i,s.at S' i=Y ds[i]?)(hsz:s.size S'=ds.length)(e:inner sr τ=J::rest)(b:ds.length<lim)(hc:∀(i:Y0) (d:D),ds[i]?=Y d->r.tst (Y d::rest) S' c=Y (p d,S'))(j:∀(i:Y0) (d:D),ds[i]?=Y d->p d=Z->r.ev (Y d::rest) S' elt=Y (f d,S')):stepEv r τ S (.comp (.var 0) it (Y c) elt sr)=Y (.loc S'.length,S'++[.lst Z ((ds.filter p).map f)]):=by
 have h:=qx9 g b hc f j ds.length 0 J (by lia);show((src r τ S it).bind λp=>(loopC p.1 (turnC r (.var 0) (Y c) elt) (p.1.size p.2+1) 0 [] (inner sr τ) p.2).map λq=>alloc q.2 (.lst Z q.1))=_;rw[a];simp only[oBs,hsz,e];simp only[Qj7,List.filter_nil,Qxp]at h;rw[h]
 rfl
def qxp{S:Y2}(h:seqAt S q=Y ds)(i):(Src.lst q).at S i=Y ds[i]?:=by simp[Src.at,h]
def qz5{S:Y2}(h:seqAt S q=Y ds):(Src.lst q).size S=ds.length:=by simp[Src.size,h]
def qyk{S:Y2}(lo)(n)(i):(Src.rng lo n).at S i=Y ((List.range n).map λ(j:Y0)=>D.int (lo+j))[i]?:=by
 simp only[Src.at,Qqb]
 by_cases h:i<n
 ·rw[Z2 h,Qja h]; rfl
 ·rw[Z1 h,Qz2 (by simpa using h)]; rfl
theorem qju{ds:L D}(P:Y0->Sl->Y2->Prop)(Q:Sl->Y2->Prop)(b:∀i τ st,P i τ st->s.at st i=Y ds[i]?)(hs:∀i τ st d,ds[i]?=Y d->P i τ st->(∃a st',(f τ st d=Y (.nx a,st')\/f τ st d=Y (.ct a,st'))/\P (i+1) a st')\/∃a st',f τ st d=Y (.bk a,st')/\Q a st'):
  ∀(k i:Y0) (τ:Sl) (st:Y2),i+k=ds.length->P i τ st->∃a st',loop s f (k+1) i τ st=Y (.nx a,st')/\(P ds.length a st'\/Q a st')
 |0,i,τ,st,h,p=>by
  have e:i=ds.length:=by lia
  subst e;refine⟨τ,st,?_,.inl p⟩;rw[loop,b _ _ _ p];simp[Qz2 (Qqv _)]
 |k+1,i,τ,st,h,p=>by
  have hi:i<ds.length:=by lia
  have h1:ds[i]?=Y ds[i]:=by simp
  rw[loop,b _ _ _ p,h1];simp only[oBs];rcases hs i τ st _ h1 p with⟨a,st',e|e,q⟩|⟨a,st',e,q⟩
  ·rw[e];exact qju P Q b hs k (i+1) a st' (by lia) q
  ·rw[e];exact qju P Q b hs k (i+1) a st' (by lia) q
  ·rw[e];exact⟨a,st',rfl,.inr q⟩
def qvc{ds:L D}(P:Y0->Sl->Y2->Prop)(Q:Sl->Y2->Prop)(c:P 0 τ st)(hsz:s.size st=ds.length)(b:∀i τ st,P i τ st->s.at st i=Y ds[i]?)(hs:∀i τ st d,ds[i]?=Y d->P i τ st->(∃a st',(f τ st d=Y (.nx a,st')\/f τ st d=Y (.ct a,st'))/\P (i+1) a st')\/∃a st',f τ st d=Y (.bk a,st')/\Q a st'):
  ∃a st',loop s f (s.size st+1) 0 τ st=Y (.nx a,st')/\(P ds.length a st'\/Q a st'):=by
 rw[hsz];exact qju P Q b hs ds.length 0 τ st (by lia) c
section
def gc_x(h:p.2.take st.length=st):gcD st p=gcX st.length p:=by
 unfold gcD;rw[Z2 h,ite_self]
def qjt:noLoc (.tup ds)=noLocs ds:=by rw[noLoc]
def qz3:noLoc (.lst ds)=noLocs ds:=by rw[noLoc]
def qyg:noLocs (d::ds)=(noLoc d&&noLocs ds):=rfl
theorem qq3:∀{ds},noLocs ds=ds.all noLoc
 |[]=>rfl
 |d::ds=>by rw[qyg,Qzp,qq3]
def qwz(h:∀d∈ds,noLoc d=Z):noLocs ds=true:=by rw[qq3,Qzj]; exact h
def qz9{α:Type}{xs:L α}{g:α->D}(h:∀x∈xs,noLoc (g x)=Z):noLocs (xs.map g)=true:=qwz λd hd=>by
 obtain⟨x,a,rfl⟩:=Qqk.mp hd;exact h x a
def qzv(h:noLocs ds=Z):gcD st (.loc st.length,st++[.lst Z ds])=(.lst ds,st):=by
 rw[gc_x (by simp)];unfold gcX;rw[Z1 (by simp[noLoc])];simp[h]
end
def qqg(d:-(2 ^ 64)<b)(c:b<2 ^ 64):mulOk a b=true:=by unfold mulOk; simp; lia
section
end
def bMo(S)(a)(h:0<b):binop S .Mod (.int a) (.int b)=Y (.int (a % b),S):=by
 simp only[binop];rw[Z2 h]
def bDi(S)(a)(h:0<b)(c:b<2 ^ 64):binop S .FloorDiv (.int a) (.int b)=Y (.int (a / b),S):=by
 simp only[binop];rw[Z2 ⟨h,c⟩]
abbrev CF:=Y0->L D->Y2->Y3 (D×Y2)
section
end
section
end
section
end
end M
end
section
namespace M
open PySem (Str CmpOp Operator)
inductive It where
 /-- a test comes out so -/
 |b (k:Yb)
 /-- a call answers so -/
 |c (a:D×Y2)
 /-- seen by the kernel -/
 |k
 /-- what lies in a cell -/
 |r (c:Ya)
 /-- what a dict has at a key -/
 |q (o:Y3 D)
 /-- what lies at an index -/
 |i (d:D)
 |n
 /-- a part leaves nothing behind -/
 |g
 /-- a part leaves a list -/
 |l (ds:L D)
 /-- a loop ends so -/
 |s (o:Out×Y2)
 /-- slots and store stand so -/
 |e (p:Sl×Y2)
 /-- an if ends so -/
 |t (o:Out×Y2)
abbrev Tp:=L It
noncomputable def TM(α:Type):=Tp->(α->Tp->Prop)->Prop
noncomputable def TM.bind{α β:Type}(x:TM α)(f:α->TM β):TM β:=λt K=>x t λa t'=>f a t' K
noncomputable def TM.map{α β:Type}(x:TM α)(f:α->β):TM β:=λt K=>x t λa t'=>K (f a) t'
noncomputable def no{α:Type}:TM α:=λ_ _=>False
noncomputable def lf{α:Type}:Y3 α->TM α
 |some a=>λt K=>K a t
 |none=>no
noncomputable def ys{α:Type}(a:α):TM α:=λt K=>K a t
noncomputable def askB(p:Yb):TM Bool:=λt K=>match t with
 |.b k::t'=>p=k/\K k t'
 |.k::t'=>K p t'
 |_=>False
noncomputable def askC(o:Y3 (D×Y2)):TM (D×Y2):=λt K=>match t with
 |.c a::t'=>o=Y a/\K a t'
 |_=>False
noncomputable def askD(o:Y3 (D×Y2)):TM (D×Y2):=λt K=>match t with
 |.c a::t'=>o=Y a/\K a t'
 |t=>lf o t K
noncomputable def askE(o:Y3 (D×Y2))(x:TM (D×Y2)):TM (D×Y2):=λt K=>match t with
 |.c a::t'=>o=Y a/\K a t'
 |t=>x t K
noncomputable def askS(o:Y3 (Out×Y2))(x:TM (Out×Y2)):TM (Out×Y2):=λt K=>match t with
 |.s a::t'=>o=Y a/\K a t'
 |t=>x t K
noncomputable def askT(o:Y3 (Out×Y2))(x:TM (Out×Y2)):TM (Out×Y2):=λt K=>match t with
 |.t a::t'=>o=Y a/\K a t'
 |t=>x t K
noncomputable def askQ(o:Y3 D):TM (Y3 D):=λt K=>match t with
 |.q a::t'=>o=a/\K a t'
 |.k::t'=>K o t'
 |_=>False
noncomputable def askI(o:Y3 D):TM D:=λt K=>match t with
 |.i a::t'=>o=Y a/\K a t'
 |.n::t'=>lf o t' K
 |t=>lf o t K
noncomputable def askR(o:Y3 Ya):TM Ya:=λt K=>match t with
 |.r c::t'=>o=Y c/\K c t'
 |_=>False
noncomputable def askN(p:Sl×Y2):TM (Sl×Y2):=λt K=>match t with
 |.e q::t'=>p=q/\K q t'
 |t=>K p t
noncomputable def rdT(n:Y0)(st:Y2)(l:Y0):TM Ya:=if Nat.blt l n then lf st[l]? else askR st[l]?
noncomputable def Ya.ls:Ya->Y3 (L D)
 |.lst _ ds=>Y ds
 |_=>J
noncomputable def Ya.wls:Ya->Y3 (L D)
 |.lst Z ds=>Y ds
 |_=>J
noncomputable def Ya.dc:Ya->Y3 (L (D×D))
 |.dic _ ds=>Y ds
 |_=>J
noncomputable def Ya.wdc:Ya->Y3 (L (D×D))
 |.dic Z ds=>Y ds
 |_=>J
noncomputable def Ya.ob(C:Y0):Ya->Y3 (L (Y5×D))
 |.obj C' fs=>if C'=C then Y fs else J
 |_=>J
noncomputable def seqT(n:Y0)(st:Y2):D->TM (L D)
 |.loc l=>(rdT n st l).bind λc=>lf c.ls
 |.lst ds=>ys ds
 |_=>no
noncomputable def rowT(n:Y0)(st:Y2):D->TM (L D)
 |.tup ds=>ys ds
 |d=>seqT n st d
noncomputable def wlT(n:Y0)(st:Y2)(l:Y0):TM (L D):=(rdT n st l).bind λc=>lf c.wls
noncomputable def dcT(n:Y0)(st:Y2)(l:Y0):TM (L (D×D)):=(rdT n st l).bind λc=>lf c.dc
noncomputable def wdT(n:Y0)(st:Y2)(l:Y0):TM (L (D×D)):=(rdT n st l).bind λc=>lf c.wdc
noncomputable def obT(n:Y0)(st:Y2)(C:Y0):D->TM (L (Y5×D))
 |.loc l=>(rdT n st l).bind λc=>lf (c.ob C)
 |_=>no
noncomputable def qm3:CmpOp->D->Yb
 |.Lt,_=>Z
 |.LtE,_=>Z
 |.Gt,_=>Z
 |.GtE,_=>Z
 |.Is,_=>Z
 |.IsNot,_=>Z
 |.Eq,.int _=>Z
 |.NotEq,.int _=>Z
 |_,_=>Y6
noncomputable def isLs:D->Yb
 |.loc _=>Z
 |.lst _=>Z
 |_=>Y6
noncomputable def isAsk:CmpOp->D->D->Yb
 |.In,_,y=>isLs y
 |.NotIn,_,y=>isLs y
 |.Eq,x,_=>isLs x
 |.NotEq,x,_=>isLs x
 |_,_,_=>Y6
noncomputable def askO(o:Y3 Yb):TM Bool:=λt K=>match t with
 |.b k::t'=>o=Y k/\K k t'
 |.k::t'=>lf o t' K
 |_=>False
noncomputable def cmpT(st:Y2)(op:CmpOp)(x y:D):TM Bool:=if isAsk op x y then askO (cmpD st op x y) else(lf (cmpD st op x y)).bind λp=>if qm3 op x then askB p else ys p
noncomputable def qhm(n:Y0)(st:Y2)(d:D):TM Bool:=match d with
 |.loc l=>(seqT n st (.loc l)).bind λds=>askB (!ds.isEmpty)
 |.lst ds=>askB (!ds.isEmpty)
 |d=>lf (truth st d)
noncomputable def addT(n:Y0)(st:Y2)(a b:D):TM (D×Y2):=(seqT n st a).bind λx=>(seqT n st b).bind λy=>(askB (decide (lim<x.length+y.length))).bind λk=>if k then no else ys (alloc st (.lst Z (x++y)))
noncomputable def binT(n:Y0)(st:Y2)(op:Ze)(a b:D):TM (D×Y2):=match op,a with
 |.Add,.loc l=>addT n st (.loc l) b
 |.Add,.lst l=>addT n st (.lst l) b
 |.Mult,.int i=>match b with
  |.int j=>(askB (mulOk i j)).bind λk=>if k then ys (.int (i*j),st) else no
  |b=>lf (binop st .Mult (.int i) b)
 |.Mult,.tup l=>askD (binop st .Mult (.tup l) b)
 |.Mod,.int i=>askD (binop st .Mod (.int i) b)
 |.FloorDiv,.int i=>askD (binop st .FloorDiv (.int i) b)
 |op,a=>lf (binop st op a b)
noncomputable def qb2(n:Y0)(st:Y2)(m:Mt)(d:D)(es:L D):TM (D×Y2):=match m with
 |.append=>match d,es with
  |.loc l,[d]=>(wlT n st l).bind λds=>(askB (decide (ds.length<lim))).bind λb=>if b then ys (.non,st.set l (.lst Z (ds++[d]))) else no
  |_,_=>no
 |.extend=>match d,es with
  |.loc l,[d]=>(wlT n st l).bind λds=>(rowT n st d).bind λes=>(askB (decide (ds.length+es.length<=lim))).bind λb=>if b then ys (.non,st.set l (.lst Z (ds++es))) else no
  |_,_=>no
 |.insert=>match d,es with
  |.loc l,[.int i,d]=>(wlT n st l).bind λds=>(askB (decide (0<=i/\i<=ds.length/\ds.length<lim))).bind λb=>if b then ys (.non,st.set l (.lst Z (ds.take i.toNat++d::ds.drop i.toNat))) else no
  |_,_=>no
 |.index=>match es with
  |[x]=>(seqT n st d).bind λds=>askD (if flat 9 x&&flats 9 ds then(ds.findIdx? λy=>eqT y x).map λ(j:Y0)=>(.int (j:B),st) else J)
  |_=>no
noncomputable def sliT(n:Y0)(st:Y2):D->Y3 B->Y3 B->TM (D×Y2)
 |.tup ds,lo,hi=>ys (.tup (cut ds lo hi),st)
 |d,lo,hi=>(seqT n st d).map λds=>alloc st (.lst Z (cut ds lo hi))
noncomputable def tyT(n:Y0)(st:Y2):D->TM Ty
 |.non=>ys .non
 |.bl _=>ys .bl
 |.int _=>ys .int
 |.str _=>ys .str
 |.tup _=>ys .tup
 |d=>(seqT n st d).map λ_=>.lst
noncomputable def mtyT(n:Y0)(st:Y2)(m:Mt)(d:D):TM Bool:=match d with
 |.str _=>ys (!m.ofList)
 |.lst _=>ys m.ofList
 |.loc l=>(seqT n st (.loc l)).bind λ_=>ys m.ofList
 |_=>no
noncomputable def qni(n:Y0)(st:Y2)(f:Bq)(ds:L D):TM (D×Y2):=match f with
 |.len=>match ds with
  |[.loc l]=>(seqT n st (.loc l)).bind λxs=>ys (.int xs.length,st)
  |ds=>lf (bfun st .len ds)
 |.list=>match ds with
  |[.loc l]=>(rdT n st l).bind λc=>(lf (c.ls.or (c.dc.map keysOf))).bind λxs=>ys (alloc st (.lst Z xs))
  |ds=>lf (bfun st .list ds)
 |.tuple=>match ds with
  |[.loc l]=>(seqT n st (.loc l)).bind λxs=>ys (.tup xs,st)
  |ds=>lf (bfun st .tuple ds)
 |.max=>match ds with
  |[.int i,.int j]=>(askB (decide (j > i))).bind λk=>ys (.int (if k then j else i),st)
  |_=>no
 |.min=>match ds with
  |[.int i,.int j]=>(askB (decide (j<i))).bind λk=>ys (.int (if k then j else i),st)
  |_=>no
 |f=>askD (bfun st f ds)
structure RT where
 rl:R
 ev:Sl->Y2->E->TM (D×Y2)
 tst:Sl->Y2->E->TM (Yb×Y2)
 ex:Sl->Y2->L S->TM (Out×Y2)
 call:Y0->L D->Y2->TM (D×Y2)
noncomputable def gcT(st:Y2)(p:D×Y2):TM (D×Y2):=λt K=>match t with
 |.g::t'=>(noLoc p.1=Z/\p.2.take st.length=st)/\K (p.1,st) t'
 |.l ds::t'=>gcD st p=(.lst ds,st)/\K (.lst ds,st) t'
 |.k::t'=>K (gcD st p) t'
 |_=>False
noncomputable def evsT(f:Y2->E->TM (D×Y2)):L E->Y2->TM (L D×Y2)
 |[],st=>ys ([],st)
 |e::es,st=>(f st e).bind λp=>(evsT f es p.2).bind λq=>ys (p.1::q.1,q.2)
noncomputable def srcT(n:Y0)(r:RT)(τ:Sl)(st:Y2):E->TM (Src×Y2)
 |.rng1 a=>(r.ev τ st a).bind λp=>match p.1 with
  |.int n=>if big n then no else ys (.rng 0 n.toNat,p.2)
  |_=>no
 |.zip a b=>(r.ev τ st a).bind λp=>(r.ev τ p.2 b).bind λq=>lf ((rowAt q.2 p.1).bind λ_=>(rowAt q.2 q.1).map λ_=>(.zip p.1 q.1,q.2))
 |e=>(r.ev τ st e).bind λp=>match p.1 with
  |.tup ds=>ys (.tup ds,p.2)
  |.str z=>no
  |d=>(seqT n p.2 d).map λ_=>(.lst d,p.2)
noncomputable def qds(it:Src)(f:Sl->Y2->D->TM (Out×Y2)):Y0->Y0->Sl->Y2->TM (Out×Y2)
 |0,_,_,_=>no
 |k+1,i,τ,st=>(lf (it.at st i)).bind λo=>match o with
  |none=>ys (.nx τ,st)
  |some d=>(f τ st d).bind λp=>match p.1 with
   |.nx τ'=>qds it f k (i+1) τ' p.2
   |.ct τ'=>qds it f k (i+1) τ' p.2
   |.bk τ'=>ys (.nx τ',p.2)
   |.rt v=>ys (.rt v,p.2)
noncomputable def turnT(r:RT)(t:T)(test:Y3 E)(elt:E)(τ:Sl)(st:Y2)(d:D):TM (Y3 D×Sl×Y2):=
 (lf (setT t d τ)).bind λτ'=>match test with
  |none=>(r.ev τ' st elt).map λp=>(Y p.1,τ',p.2)
  |some c=>(r.tst τ' st c).bind λb=>if b.1 then(r.ev τ' b.2 elt).map λp=>(Y p.1,τ',p.2) else ys (J,τ',b.2)
noncomputable def qam(it:Src)(f:Sl->Y2->D->TM (Y3 D×Sl×Y2)):Y0->Y0->L D->Sl->Y2->TM (L D×Y2)
 |0,_,_,_,_=>no
 |k+1,i,acc,τ,st=>(lf (it.at st i)).bind λo=>match o with
  |none=>if lim<acc.length then no else ys (acc,st)
  |some d=>if lim<=acc.length then no else(f τ st d).bind λp=>qam it f k (i+1) (match p.1 with|some x=>acc++[x]|none=>acc) p.2.1 p.2.2
noncomputable def qmz(r:RT)(τ:Sl)(st:Y2):Y3 E->TM (Y3 B×Y2)
 |none=>ys (J,st)
 |some e=>(r.ev τ st e).bind λp=>match p.1 with
  |.int i=>ys (Y i,p.2)
  |_=>no
noncomputable def dgT(n:Y0)(p:D×Y2)(k:D)(st:Y2):TM (Y3 D):=match p.1 with
 |.loc l=>(dcT n st l).bind λkvs=>if isKey k then askQ (dget kvs k) else no
 |_=>no
noncomputable def qc3(n:Y0)(r:RT)(τ:Sl)(st:Y2):E->TM (D×Y2)
 |.var i=>lf (match τ[i]? with
  |some (Y d)=>Y (d,st)
  |_=>J)
 |.lit d=>ys (d,st)
 |.glo _ d=>ys (d,st)
 |.bin op a b=>(r.ev τ st a).bind λp=>(r.ev τ p.2 b).bind λq=>binT n q.2 op p.1 q.1
 |.neg a=>(r.ev τ st a).bind λp=>lf (match p.1 with
  |.int i=>Y (.int (-i),p.2)
  |_=>J)
 |.not a=>(r.ev τ st a).bind λp=>lf (match p.1 with
  |.bl b=>Y (.bl (!b),p.2)
  |_=>J)
 |.cmp op a b=>(r.ev τ st a).bind λp=>(r.ev τ p.2 b).bind λq=>(cmpT q.2 op p.1 q.1).map λk=>(.bl k,q.2)
 |.cmp2 op op' a b c=>(r.ev τ st a).bind λp=>(r.ev τ p.2 b).bind λq=>(cmpT q.2 op p.1 q.1).bind λk=>
   if k then(r.ev τ q.2 c).bind λu=>(cmpT u.2 op' q.1 u.1).map λk'=>(.bl k',u.2) else ys (.bl Y6,q.2)
 |.and a b=>(r.ev τ st a).bind λp=>match p.1 with
  |.bl Z=>r.ev τ p.2 b
  |.bl Y6=>ys (.bl Y6,p.2)
  |_=>no
 |.or a b=>(r.ev τ st a).bind λp=>match p.1 with
  |.bl Y6=>r.ev τ p.2 b
  |.bl Z=>ys (.bl Z,p.2)
  |_=>no
 |.tup es=>(evsT (r.ev τ) es st).bind λp=>if lim<p.1.length then no else ys (.tup p.1,p.2)
 |.lst es=>(evsT (r.ev τ) es st).bind λp=>if lim<p.1.length then no else ys (alloc p.2 (.lst Z p.1))
 |.idx a b=>(r.ev τ st a).bind λp=>(r.ev τ p.2 b).bind λq=>(askI (idxD q.2 p.1 q.1)).map λd=>(d,q.2)
 |.sli a lo hi=>(r.ev τ st a).bind λp=>(qmz r τ p.2 lo).bind λl=>(qmz r τ l.2 hi).bind λh=>sliT n h.2 p.1 l.1 h.1
 |.call f es=>(evsT (r.ev τ) es st).bind λp=>r.call f p.1 p.2
 |.bcall f es=>(evsT (r.ev τ) es st).bind λp=>qni n p.2 f p.1
 |.isi a ts _=>(r.ev τ st a).bind λp=>(tyT n p.2 p.1).map λn=>(.bl (ts.any λt=>tyIs t n),p.2)
 |.meth a m es=>(r.ev τ st a).bind λp=>(mtyT n p.2 m p.1).bind λk=>if k then(evsT (r.ev τ) es p.2).bind λq=>qb2 n q.2 m p.1 q.1 else no
 |.gc a=>(r.ev τ st a).bind λp=>gcT st p
 |.dic es=>(evsT (r.ev τ) es (st++[.dic Z []])).bind λp=>(wdT n p.2 st.length).bind λk0=>lf (match k0 with
  |[]=>(pairUp p.1).bind λkvs=>if kvs.length<=15 then Y (.loc st.length,p.2.set st.length (.dic Z (dall kvs))) else J
  |_=>J)
 |.didx a b=>(r.ev τ st a).bind λp=>(r.ev τ p.2 b).bind λq=>(dgT n p q.1 q.2).bind λo=>(lf o).map λd=>(d,q.2)
 |.din neg a b=>(r.ev τ st a).bind λp=>(r.ev τ p.2 b).bind λq=>(dgT n q p.1 q.2).map λo=>(.bl (o.isSome != neg),q.2)
 |.dgt a b=>(r.ev τ st a).bind λp=>match p.1 with
  |.loc l=>(dcT n p.2 l).bind λ_=>(r.ev τ p.2 b).bind λq=>(dgT n p q.1 q.2).bind λo=>ys (o.getD .non,q.2)
  |_=>no
 |.gidx _ ks ds b=>(r.ev τ st b).bind λp=>lf (match p.1 with
  |.str z=>((ks.zip ds).find? λq=>q.1==z).map λq=>(q.2,p.2)
  |_=>J)
 |.gin neg _ ks b=>(r.ev τ st b).bind λp=>lf (match p.1 with
  |.str z=>Y (.bl (ks.contains z != neg),p.2)
  |_=>J)
 |.lenset a=>(r.ev τ st a).bind λp=>(askI (qve p.1)).map λd=>(d,p.2)
 |.comp t it test elt sr=>askE (stepEv r.rl τ st (.comp t it test elt sr)) ((srcT n r τ st it).bind λp=>
   (qam p.1 (turnT r t test elt) (p.1.size p.2+1) 0 [] (inner sr τ) p.2).map λq=>alloc q.2 (.lst Z q.1))
 |.attr C a f=>(r.ev τ st a).bind λp=>(obT n p.2 C p.1).bind λfs=>lf ((fs.lookup f).map λd=>(d,p.2))
 |.mcall C f m a es=>(r.ev τ st a).bind λp=>(obT n p.2 C p.1).bind λfs=>if (fs.lookup m).isSome then no else(evsT (r.ev τ) es p.2).bind λq=>r.call f (p.1::q.1) q.2
 |.new C f es=>(evsT (r.ev τ) es st).bind λp=>(r.call f (.loc p.2.length::p.1) (p.2++[.obj C []])).bind λq=>if isNon q.1 then ys (.loc p.2.length,q.2) else no
 |_=>no
noncomputable def qaj(n:Y0)(r:RT)(τ:Sl)(st:Y2):E->TM (Yb×Y2)
 |.not a=>(r.tst τ st a).map λp=>(!p.1,p.2)
 |.and a b=>(r.tst τ st a).bind λp=>if p.1 then r.tst τ p.2 b else ys (Y6,p.2)
 |.or a b=>(r.tst τ st a).bind λp=>if p.1 then ys (Z,p.2) else r.tst τ p.2 b
 |.din neg a b=>(r.ev τ st a).bind λp=>(r.ev τ p.2 b).bind λq=>(dgT n q p.1 q.2).map λo=>(o.isSome != neg,q.2)
 |.gin neg _ ks b=>(r.ev τ st b).bind λp=>lf (match p.1 with
  |.str z=>Y (ks.contains z != neg,p.2)
  |_=>J)
 |.cmp op a b=>(r.ev τ st a).bind λp=>(r.ev τ p.2 b).bind λq=>(cmpT q.2 op p.1 q.1).map λk=>(k,q.2)
 |.cmp2 op op' a b c=>(r.ev τ st a).bind λp=>(r.ev τ p.2 b).bind λq=>(cmpT q.2 op p.1 q.1).bind λk=>
   if k then(r.ev τ q.2 c).bind λu=>(cmpT u.2 op' q.1 u.1).map λk'=>(k',u.2) else ys (Y6,q.2)
 |e=>(r.ev τ st e).bind λp=>(qhm n p.2 p.1).map λk=>(k,p.2)
noncomputable def qhs(n:Y0)(r:RT)(τ:Sl)(st:Y2):S->TM (Out×Y2)
 |.set t e=>(r.ev τ st e).bind λp=>(lf (setT t p.1 τ)).map λτ'=>(.nx τ',p.2)
 |.dset a i e=>(r.ev τ st e).bind λp=>(r.ev τ p.2 a).bind λq=>(r.ev τ q.2 i).bind λu=>match q.1 with
  |.loc l=>(wdT n u.2 l).bind λkvs=>if isKey u.1 then(askB (decide (kvs.length<lim))).bind λb=>if b then ys (.nx τ,u.2.set l (.dic Z (dput kvs u.1 p.1))) else no else no
  |_=>no
 |.setA C a f e=>(r.ev τ st e).bind λp=>(r.ev τ p.2 a).bind λq=>(obT n q.2 C q.1).bind λfs=>match q.1 with
  |.loc l=>if fs.length<900 then ys (.nx τ,q.2.set l (.obj C (putA f p.1 fs))) else no
  |_=>no
 |.expr e=>(r.ev τ st e).map λp=>(.nx τ,p.2)
 |.ret e=>(r.ev τ st e).map λp=>(.rt p.1,p.2)
 |.ite c a b=>askT (stepEx r.rl τ st (.ite c a b)) ((r.tst τ st c).bind λp=>if p.1 then r.ex τ p.2 a else r.ex τ p.2 b)
 |.forr t it body=>askS (stepEx r.rl τ st (.forr t it body)) ((srcT n r τ st it).bind λp=>
   qds p.1 (λτ st d=>(lf (setT t d τ)).bind λτ'=>r.ex τ' st body) (p.1.size p.2+1) 0 τ p.2)
 |.ford t a body=>askS (stepEx r.rl τ st (.ford t a body)) no
 |.six a i e=>askT (stepEx r.rl τ st (.six a i e)) ((r.ev τ st e).bind λp=>(r.ev τ p.2 a).bind λq=>(r.ev τ q.2 i).bind λu=>match q.1,u.1 with
  |.loc l,.int i=>(wlT n u.2 l).bind λds=>(lf (ixN ds.length i)).map λj=>(.nx τ,u.2.set l (.lst Z (ds.set j p.1)))
  |_,_=>no)
 |_=>no
noncomputable def qjn(n:Y0)(r:RT)(τ:Sl)(st:Y2)(s:S):TM (Out×Y2):=askT (stepEx r.rl τ st s) (qhs n r τ st s)
noncomputable def exsT(f:Sl->Y2->S->TM (Out×Y2)):L S->Sl->Y2->TM (Out×Y2)
 |[],τ,st=>ys (.nx τ,st)
 |s::ss,τ,st=>(askN (τ,st)).bind λu=>(f u.1 u.2 s).bind λp=>match p.1 with
  |.nx τ'=>exsT f ss τ' p.2
  |o=>ys (o,p.2)
abbrev CT:=Y0->L D->Y2->TM (D×Y2)
noncomputable def runT(n:Y0)(R0:R)(c:CT):Y0->RT
 |0=>⟨R0,λ_ _ _=>no,λ_ _ _=>no,λ_ _ _=>no,c⟩
 |k+1=>⟨R0,qc3 n (runT n R0 c k),qaj n (runT n R0 c k),λτ st ss=>exsT (qjn n (runT n R0 c k)) ss τ st,c⟩
noncomputable def qkf(fns:L Fn)(n:Y0)(Oq:L Y0)(k:Y0):Y0->CT
 |0=>λ_ _ _=>no
 |d+1=>λf ds st=>if Oq.contains f then askC (callD fns (k+(d+1)) f ds st) else match fns[f]? with
   |some F=>if ds.length=F.np then((runT n (RL (callD fns (k+d))) (qkf fns n Oq k d) 40).ex (ds.map Y++List.replicate (F.nl - ds.length) J) st F.body).bind λp=>(match p.1 with
     |.rt d=>ys (d,p.2)
     |.nx _=>ys (.non,p.2)
     |_=>no)
    else no
   |none=>no
def Sn{α:Type}(x:TM α)(y:Y3 α):Prop:=∀t K,x t K->∃a t',y=Y a/\K a t'
theorem Sn.lf:∀(o:Y3 α),Sn (lf o) o
 |some a=>λt K h=>⟨a,t,rfl,h⟩
 |none=>λt K h=>h.elim
theorem Sn.ys(a:α):Sn (ys a) (Y a):=λt K h=>⟨a,t,rfl,h⟩
theorem Sn.no(o:Y3 α):Sn no o:=λt K h=>h.elim
theorem Sn.bind{x:TM α}{y:Y3 α}{f:α->TM b}{g:α->Y3 b}(h:Sn x y)(h':∀a,Sn (f a) (g a)):Sn (x.bind f) (y.bind g):=λt K e=>by
 obtain⟨a,d,rfl,c⟩:=h _ _ e;exact h' a _ _ c
theorem Sn.map{x:TM α}{y:Y3 α}(f:α->b)(h:Sn x y):Sn (x.map f) (y.map f):=λt K e=>by
 obtain⟨a,c,rfl,d⟩:=h _ _ e;exact⟨f a,c,rfl,d⟩
def Sn.ite[Decidable c]{a b:TM α}{e d:Y3 α}(f:Sn a e)(hb:Sn b d):Sn (if c then a else b) (if c then e else d):=by
 by_cases h:c
 ·rw[Z2 h,Z2 h]; exact f
 ·rw[Z1 h,Z1 h]; exact hb
def Sn.up{x:TM α}{y y':Y3 α}(h:∀a,y=Y a->y'=Y a)(e:Sn x y):Sn x y':=λt K h1=>by
 obtain⟨a,b,d,c⟩:=e t K h1;exact⟨a,b,h a d,c⟩
def Sn.eq{x:TM α}{y y':Y3 α}(h:y=y')(e:Sn x y):Sn x y':=h▸e
def bm{α a:Type}{o:Y3 α}{f:α->a}:(o.bind λx=>Y (f x))=o.map f:=by cases o<;>rfl
theorem Sn.askB(p):Sn (askB p) (Y p):=λt K h=>by
 cases t with
 |nil=>exact h.elim
 |cons i t=>
  cases i with
  |b k=>obtain⟨rfl,e⟩:=h; exact⟨_,_,rfl,e⟩
  |k=>exact⟨p,t,rfl,h⟩
  |_=>exact h.elim
theorem Sn.askC(o):Sn (askC o) o:=λt K h=>by
 cases t with
 |nil=>exact h.elim
 |cons i t=>
  cases i with
  |c a=>exact⟨a,t,h.1,h.2⟩
  |_=>exact h.elim
theorem Sn.askD(o):Sn (askD o) o:=λt K h=>by
 cases t with
 |nil=>exact Sn.lf o _ _ h
 |cons i t=>
  cases i with
  |c a=>exact⟨a,t,h.1,h.2⟩
  |_=>exact Sn.lf o _ _ h
theorem Sn.askE(h:Sn x o):Sn (askE o x) o:=λt K e=>by
 cases t with
 |nil=>exact h _ _ e
 |cons i t=>
  cases i with
  |c a=>exact⟨a,t,e.1,e.2⟩
  |_=>exact h _ _ e
theorem Sn.askS(h:Sn x o):Sn (askS o x) o:=λt K e=>by
 cases t with
 |nil=>exact h _ _ e
 |cons i t=>
  cases i with
  |s a=>exact⟨a,t,e.1,e.2⟩
  |_=>exact h _ _ e
theorem Sn.askT(h:Sn x o):Sn (askT o x) o:=λt K e=>by
 cases t with
 |nil=>exact h _ _ e
 |cons i t=>
  cases i with
  |t a=>exact⟨a,t,e.1,e.2⟩
  |_=>exact h _ _ e
theorem Sn.askQ(o):Sn (askQ o) (Y o):=λt K h=>by
 cases t with
 |nil=>exact h.elim
 |cons i t=>
  cases i with
  |q a=>exact⟨a,t,congrArg Y h.1,h.2⟩
  |k=>exact⟨o,t,rfl,h⟩
  |_=>exact h.elim
theorem Sn.askI(o):Sn (askI o) o:=λt K h=>by
 cases t with
 |nil=>exact Sn.lf o _ _ h
 |cons i t=>
  cases i with
  |i a=>exact⟨a,t,h.1,h.2⟩
  |n=>exact Sn.lf o _ _ h
  |_=>exact Sn.lf o _ _ h
theorem Sn.askR(o):Sn (askR o) o:=λt K h=>by
 cases t with
 |nil=>exact h.elim
 |cons i t=>
  cases i with
  |r c=>exact⟨c,t,h.1,h.2⟩
  |_=>exact h.elim
theorem Sn.askN(p):Sn (askN p) (Y p):=λt K h=>by
 cases t with
 |nil=>exact⟨p,[],rfl,h⟩
 |cons i t=>
  cases i with
  |e q=>exact⟨q,t,congrArg Y h.1,h.2⟩
  |_=>exact⟨p,_,rfl,h⟩
def Sn.rd(n)(st)(l):Sn (rdT n st l) st[l]?:=by
 unfold rdT
 by_cases hb:Nat.blt l n=Z
 ·rw[Z2 hb]; exact .lf _
 ·rw[Z1 hb]; exact .askR _
def Sn.seq(n)(st)(d):Sn (seqT n st d) (seqAt st d):=by
 cases d with
 |loc l=>exact((Sn.rd n st l).bind λc=>.lf _).eq (by show _=listAt st l; unfold listAt; cases st[l]? with|none=>rfl|some c=>cases c<;>rfl)
 |lst ds=>exact .ys _
 |_=>exact .no _
def Sn.sli(n)(st)(d)(lo hi):Sn (sliT n st d lo hi) (sliD st d lo hi):=by
 cases d with
 |tup ds=>exact .ys _
 |_=>exact(Sn.seq n st _).map _
def Sn.ty(n)(st)(d):Sn (tyT n st d) (tyName st d):=by
 cases d with
 |non=>exact .ys _
 |bl _=>exact .ys _
 |int _=>exact .ys _
 |str _=>exact .ys _
 |tup _=>exact .ys _
 |_=>exact(Sn.seq n st _).map _
def Sn.row(n)(st)(d):Sn (rowT n st d) (rowAt st d):=by
 cases d with
 |tup ds=>exact .ys _
 |non=>exact Sn.seq n st .non
 |bl b=>exact Sn.seq n st (.bl b)
 |int b=>exact Sn.seq n st (.int b)
 |str b=>exact Sn.seq n st (.str b)
 |lst b=>exact Sn.seq n st (.lst b)
 |loc b=>exact Sn.seq n st (.loc b)
def Sn.wl(n)(st)(l):Sn (wlT n st l) (wlistAt st l):=((Sn.rd n st l).bind λc=>.lf _).eq (by
 unfold wlistAt
 cases st[l]? with
 |none=>rfl
 |some c=>cases c with
  |lst w ds=>cases w<;>rfl
  |_=>rfl)
def Sn.dc(n)(st)(l):Sn (dcT n st l) (dicAt st l):=((Sn.rd n st l).bind λc=>.lf _).eq (by unfold dicAt; cases st[l]? with|none=>rfl|some c=>cases c<;>rfl)
def Sn.wd(n)(st)(l):Sn (wdT n st l) (wdicAt st l):=((Sn.rd n st l).bind λc=>.lf _).eq (by
 unfold wdicAt
 cases st[l]? with
 |none=>rfl
 |some c=>cases c with
  |dic w ds=>cases w<;>rfl
  |_=>rfl)
def Sn.ob(n)(st)(C)(d):Sn (obT n st C d) (objAt st C d):=by
 cases d with
 |loc l=>exact((Sn.rd n st l).bind λc=>.lf _).eq (by unfold objAt; dsimp only; cases st[l]? with|none=>rfl|some c=>cases c<;>rfl)
 |_=>exact .no _
def Sn.gc(st)(p):Sn (gcT st p) (Y (gcD st p)):=λt K h=>by
 cases t with
 |nil=>exact h.elim
 |cons i t=>
  cases i with
  |g=>
   obtain⟨⟨h1,h2⟩,h⟩:=h;refine⟨_,t,?_,h⟩;unfold gcD gcX;rw[h2,Z2 h1,Z2 rfl,ite_self]
  |l ds=>exact⟨_,t,congrArg Y h.1,h.2⟩
  |k=>exact⟨_,t,rfl,h⟩
  |_=>exact h.elim
def Sn.cond(p)(a:α):Sn (TM.bind (M.askB p) λb=>if b=Z then M.ys a else M.no) (if p=Z then Y a else J):=
 (Sn.askB p).bind λb=>Sn.ite (Sn.ys a) (.no J)
def Sn.meth(n)(st)(m)(d)(es):Sn (qb2 n st m d es) (mfun st m d es):=by
 cases m with
 |append=>
  unfold qb2;dsimp only
  split
  ·refine(Sn.wl n st _).bind λds=>(Sn.cond _ _).eq ?_;simp only[decide_eq_true_eq]
  ·exact .no _
 |extend=>
  unfold qb2;dsimp only
  split
  ·rename_i l d;refine(Sn.wl n st _).bind λds=>((Sn.row n st d).bind λes=>Sn.cond _ _).eq ?_;simp only[decide_eq_true_eq];cases d<;>rfl
  ·exact .no _
 |insert=>
  unfold qb2;dsimp only
  split
  ·refine(Sn.wl n st _).bind λds=>(Sn.cond _ _).eq ?_;simp only[decide_eq_true_eq]
  ·exact .no _
 |index=>
  unfold qb2;dsimp only
  split
  ·exact(Sn.seq n st _).bind λds=>.askD _
  ·exact .no _
def Sn.mt(n)(st)(m)(d){x:TM α}{y:Y3 α}(h:Sn x y):Sn (TM.bind (mtyT n st m d) λk=>if k=Z then x else M.no) (if mty st m d then y else J):=by
 cases d with
 |str z=>exact λt K e=>Sn.ite h (.no J) t K e
 |lst z=>
  refine((Sn.ys m.ofList).bind λk=>Sn.ite h (.no J)).eq ?_
  show(if m.ofList=Z then y else J)=if (m.ofList&&Z)=Z then y else J
  rw[Qx2]
 |loc l=>
  have e:=((Sn.seq n st (.loc l)).bind λ_=>Sn.ys m.ofList).bind λk=>Sn.ite (c:=k=Z) h (.no J);refine e.up λa e=>?_;show(if (m.ofList&&(seqAt st (.loc l)).isSome)=Z then y else J)=Y a
  cases hs:seqAt st (.loc l) with
  |none=>rw[hs]at e; cases e
  |some xs=>rw[hs]at e; rw[Option.isSome_some,Qx2]; exact e
 |_=>exact λt K e=>e.elim
theorem Sn.askO(o):Sn (askO o) o:=λt K h=>by
 cases t with
 |nil=>exact h.elim
 |cons i t=>
  cases i with
  |b k=>exact⟨k,t,h.1,h.2⟩
  |k=>exact Sn.lf o _ _ h
  |_=>exact h.elim
def Sn.cmp(st)(a)(x y):Sn (cmpT st a x y) (cmpD st a x y):=by
 unfold cmpT
 by_cases b:isAsk a x y=Z
 ·rw[Z2 b]; exact .askO _
 ·rw[Z1 b];have h:Sn ((M.lf (cmpD st a x y)).bind λp=>if qm3 a x=Z then M.askB p else M.ys p) ((cmpD st a x y).bind λp=>if qm3 a x=Z then Y p else Y p):=(Sn.lf _).bind λp=>Sn.ite (Sn.askB p) (Sn.ys p);simpa using h
theorem Sn.truth(n)(st)(d):Sn (qhm n st d) (truth st d):=by
 cases d with
 |loc l=>exact((Sn.seq n st (.loc l)).bind λds=>Sn.askB _).eq (by show _=(seqAt st (.loc l)).map _; rw[Option.map_eq_bind]; rfl)
 |lst l=>exact .askB _
 |non=>exact .lf (M.truth st .non)
 |bl b=>exact .lf (M.truth st (.bl b))
 |int b=>exact .lf (M.truth st (.int b))
 |str b=>exact .lf (M.truth st (.str b))
 |tup b=>exact .lf (M.truth st (.tup b))
def Sn.add(n)(st)(a b):Sn (addT n st a b) ((seqAt st a).bind λx=>(seqAt st b).bind λy=>if lim<x.length+y.length then J else Y (alloc st (.lst Z (x++y)))):=
 (Sn.seq n st a).bind λx=>(Sn.seq n st b).bind λy=>by
  have h:=(Sn.askB (decide (lim<x.length+y.length))).bind λk=>Sn.ite (c:=k=Z) (.no J) (Sn.ys (alloc st (.lst Z (x++y))));simpa only[oBs,decide_eq_true_eq] using h
def Sn.bin(n)(st)(c)(a b):Sn (binT n st c a b) (binop st c a b):=by
 unfold binT
 split
 ·exact(Sn.add n st _ b).eq (by cases b<;>rfl)
 ·exact(Sn.add n st _ b).eq (by cases b<;>rfl)
 ·split
  ·exact Sn.cond _ _
  ·exact .lf _
 ·exact .askD _
 ·exact .askD _
 ·exact .askD _
 ·exact .lf _
def Sn.bf(n)(st)(f)(ds):Sn (qni n st f ds) (bfun st f ds):=by
 unfold qni
 split
 ·split
  ·exact((Sn.seq n st _).bind λxs=>.ys _).eq (bm)
  ·exact .lf _
 ·split
  ·rename_i l;refine((Sn.rd n st l).bind λc=>(Sn.lf _).bind λxs=>.ys _).eq ?_;show _=bList st [.loc l];unfold bList seqAt listAt dkeys dicAt;dsimp only
   cases st[l]? with
   |none=>rfl
   |some c=>cases c<;>rfl
  ·exact .lf _
 ·split
  ·exact((Sn.seq n st _).bind λxs=>.ys _).eq (bm)
  ·exact .lf _
 ·split
  ·rename_i i j;refine((Sn.askB _).bind λk=>.ys _).eq ?_;show Y _=Y _
   by_cases h:j > i<;>simp[h]
  ·exact .no _
 ·split
  ·rename_i i j;refine((Sn.askB _).bind λk=>.ys _).eq ?_;show Y _=Y _
   by_cases h:j<i<;>simp[h]
  ·exact .no _
 ·exact .askD _
structure SnR (r:RT) (r':R):Prop where
 rl:r.rl=r'
 ev:∀τ st e,Sn (r.ev τ st e) (r'.ev τ st e)
 tst:∀τ st e,Sn (r.tst τ st e) (r'.tst τ st e)
 ex:∀τ st e,Sn (r.ex τ st e) (r'.ex τ st e)
 call:∀f ds st,Sn (r.call f ds st) (r'.call f ds st)
theorem qxi(h:∀st e,Sn (f st e) (a st e)):∀(es:L E) (st:Y2),Sn (evsT f es st) (evs a es st)
 |[],st=>.ys _
 |e::es,st=>(h st e).bind λp=>(qxi h es p.2).bind λq=>.ys _
theorem qyi(h:∀τ st d,Sn (f τ st d) (b τ st d)):∀(k i:Y0) (τ:Sl) (st:Y2),Sn (qds it f k i τ st) (loop it b k i τ st)
 |0,_,_,_=>.no _
 |k+1,i,τ,st=>by
  unfold loop qds;refine(Sn.lf _).bind λo=>?_
  cases o with
  |none=>exact .ys _
  |some d=>
   refine(h τ st d).bind λp=>?_;obtain⟨o,s⟩:=p
   cases o with
   |nx a=>exact qyi h k _ _ _
   |ct a=>exact qyi h k _ _ _
   |bk a=>exact .ys _
   |rt v=>exact .ys _
theorem qal(h:∀τ st d,Sn (f τ st d) (b τ st d)):∀(k i:Y0) (a:L D) (τ:Sl) (st:Y2),Sn (qam it f k i a τ st) (loopC it b k i a τ st)
 |0,_,_,_,_=>.no _
 |k+1,i,a,τ,st=>by
  unfold loopC qam;refine(Sn.lf _).bind λo=>?_
  cases o with
  |none=>exact Sn.ite (.no _) (.ys _)
  |some d=>exact Sn.ite (.no _) ((h τ st d).bind λp=>qal h k _ _ _ _)
theorem qeg(h:∀τ st s,Sn (f τ st s) (a τ st s)):∀(ss:L S) (τ:Sl) (st:Y2),Sn (exsT f ss τ st) (exs a ss τ st)
 |[],_,_=>.ys _
 |s::ss,τ,st=>by
  unfold exs exsT;refine Sn.bind (y:=Y (τ,st)) (.askN _) λu=>(h u.1 u.2 s).bind λp=>?_;obtain⟨o,q⟩:=p
  cases o with
  |nx b=>exact qeg h ss _ _
  |rt _=>exact .ys _
  |bk _=>exact .ys _
  |ct _=>exact .ys _
section
variable (h:SnR r r')
include h
theorem qhu(τ)(st)(e):Sn (srcT n r τ st e) (src r' τ st e):=by
 cases e with
 |rng1 a=>
  refine(h.ev τ st a).bind λp=>?_;obtain⟨d,s⟩:=p
  cases d with
  |int n=>exact Sn.ite (.no _) (.ys _)
  |_=>exact .no _
 |zip a b=>exact(h.ev τ st a).bind λp=>(h.ev τ _ b).bind λq=>.lf _
 |_=>
  refine(h.ev τ st _).bind λp=>?_;obtain⟨d,s⟩:=p
  cases d with
  |tup n=>exact .ys _
  |str z=>exact .no _
  |_=>exact(Sn.seq n s _).map _
theorem qdh(τ)(st)(e):Sn (qmz r τ st e) (part r' τ st e):=by
 cases e with
 |none=>exact .ys _
 |some e=>
  refine(h.ev τ st e).bind λp=>?_;obtain⟨d,s⟩:=p
  cases d with
  |int n=>exact .ys _
  |_=>exact .no _
theorem qio(t)(test)(elt)(τ)(st)(d):Sn (turnT r t test elt τ st d) (turnC r' t test elt τ st d):=(Sn.lf _).bind λa=>by
 cases test with
 |none=>exact(h.ev _ _ _).map _
 |some c=>exact(h.tst _ _ _).bind λb=>Sn.ite ((h.ev _ _ _).map _) (.ys _)
omit h in
theorem qhw(p)(k)(st){f:Y3 D->TM α}{g:Y3 D->Y3 α}(hf:∀o,Sn (f o) (g o)):Sn ((dgT n p k st).bind f) (match p.1 with
  |.loc l=>(dicAt st l).bind λkvs=>if isKey k then g (dget kvs k) else J
  |_=>J):=by
 obtain⟨d,s⟩:=p
 cases d with
 |loc l=>
  refine(((Sn.dc n st l).bind λkvs=>Sn.ite (Sn.askQ (dget kvs k)) (.no J)).bind hf).eq ?_;dsimp only
  cases dicAt st l with
  |none=>rfl
  |some kvs=>
   show Option.bind (if isKey k=Z then Y (dget kvs k) else J) g=if isKey k=Z then g (dget kvs k) else J
   by_cases e:isKey k=Z
   ·rw[Z2 e,Z2 e]; rfl
   ·rw[Z1 e,Z1 e]; rfl
 |_=>exact λt K e=>e.elim
theorem qc2(τ)(st)(e):Sn (qc3 n r τ st e) (stepEv r' τ st e):=by
 cases e with
 |var i=>exact .lf _
 |lit d=>exact .ys _
 |glo x d=>exact .ys _
 |bin j a b=>exact(h.ev τ st a).bind λp=>(h.ev τ _ b).bind λq=>.bin _ _ _ _ _
 |neg a=>exact(h.ev τ st a).bind λp=>.lf _
 |not a=>exact(h.ev τ st a).bind λp=>.lf _
 |cmp j a b=>exact(h.ev τ st a).bind λp=>(h.ev τ _ b).bind λq=>(Sn.cmp _ _ _ _).map _
 |cmp2 j w a b c=>exact(h.ev τ st a).bind λp=>(h.ev τ _ b).bind λq=>(Sn.cmp _ _ _ _).bind λk=>Sn.ite ((h.ev τ _ c).bind λu=>(Sn.cmp _ _ _ _).map _) (.ys _)
 |and a b=>
  refine(h.ev τ st a).bind λp=>?_;obtain⟨d,s⟩:=p
  cases d with
  |bl k=>cases k with
   |true=>exact h.ev τ _ b
   |false=>exact .ys _
  |_=>exact .no _
 |or a b=>
  refine(h.ev τ st a).bind λp=>?_;obtain⟨d,s⟩:=p
  cases d with
  |bl k=>cases k with
   |false=>exact h.ev τ _ b
   |true=>exact .ys _
  |_=>exact .no _
 |tup es=>exact(qxi (h.ev τ) es st).bind λp=>Sn.ite (.no _) (.ys _)
 |lst es=>exact(qxi (h.ev τ) es st).bind λp=>Sn.ite (.no _) (.ys _)
 |idx a b=>exact(h.ev τ st a).bind λp=>(h.ev τ _ b).bind λq=>(Sn.askI _).map _
 |sli a lo hi=>exact(h.ev τ st a).bind λp=>(qdh h τ _ lo).bind λl=>(qdh h τ _ hi).bind λu=>.sli _ _ _ _ _
 |call f es=>exact(qxi (h.ev τ) es st).bind λp=>h.call f _ _
 |bcall f es=>exact(qxi (h.ev τ) es st).bind λp=>.bf _ _ _ _
 |isi a y m=>exact(h.ev τ st a).bind λp=>(Sn.ty _ _ _).map _
 |lenset a=>exact(h.ev τ st a).bind λp=>(Sn.askI _).map _
 |gc a=>exact((h.ev τ st a).bind λp=>Sn.gc st p).eq (bm)
 |meth a m es=>exact(h.ev τ st a).bind λp=>Sn.mt _ _ _ _ ((qxi (h.ev τ) es _).bind λq=>.meth _ _ _ _ _)
 |dic es=>
  refine(qxi (h.ev τ) es _).bind λp=>((Sn.wd n p.2 st.length).bind λv=>Sn.lf _).eq ?_
  cases wdicAt p.2 st.length with
  |none=>rfl
  |some v=>cases v<;>rfl
 |didx a b=>exact(h.ev τ st a).bind λp=>(h.ev τ _ b).bind λq=>qhw p q.1 q.2 λo=>(Sn.lf o).map _
 |din neg a b=>exact(h.ev τ st a).bind λp=>(h.ev τ _ b).bind λq=>qhw q p.1 q.2 λo=>Sn.ys _
 |dgt a b=>
  refine(h.ev τ st a).bind λp=>?_;obtain⟨d,s⟩:=p
  cases d with
  |loc l=>exact(Sn.dc n s l).bind λ_=>(h.ev τ _ b).bind λq=>qhw (.loc l,s) q.1 q.2 λo=>Sn.ys _
  |_=>exact .no _
 |gidx x ks ds b=>exact(h.ev τ st b).bind λp=>.lf _
 |gin neg x ks b=>exact(h.ev τ st b).bind λp=>.lf _
 |comp t it g elt sr=>
  show Sn (askE (stepEv r.rl τ st (.comp t it g elt sr)) _) _;rw[h.rl];exact Sn.askE ((qhu h τ st it).bind λp=>(qal (qio h t g elt) _ _ _ _ _).map _)
 |attr C a f=>exact(h.ev τ st a).bind λp=>(Sn.ob _ _ _ _).bind λfs=>.lf _
 |mcall C f m a es=>exact(h.ev τ st a).bind λp=>(Sn.ob _ _ _ _).bind λfs=>Sn.ite (.no _) ((qxi (h.ev τ) es _).bind λq=>h.call f _ _)
 |new C f es=>exact(qxi (h.ev τ) es st).bind λp=>(h.call f _ _).bind λq=>Sn.ite (.ys _) (.no _)
 |_=>exact .no _
theorem qbc(τ)(st)(e):Sn (qaj n r τ st e) (stepTst r' τ st e):=by
 cases e with
 |not a=>exact(h.tst τ st a).map _
 |and a b=>exact(h.tst τ st a).bind λp=>Sn.ite (h.tst τ _ b) (.ys _)
 |or a b=>exact(h.tst τ st a).bind λp=>Sn.ite (.ys _) (h.tst τ _ b)
 |din neg a b=>
  refine((h.ev τ st a).bind λp=>(h.ev τ _ b).bind λq=>qhw q p.1 q.2 λo=>Sn.ys _).eq ?_;show _=(dinR r' τ st neg a b).bind _;unfold dinR;simp only[Option.bind_assoc];refine congrArg _ (funext λp=>congrArg _ (funext λq=>?_))
  cases q.1 with
  |loc l=>
   dsimp only
   cases dicAt q.2 l with
   |none=>rfl
   |some kvs=>
    simp only[oBs]
    by_cases e:isKey p.1=Z
    ·rw[Z2 e,Z2 e]; rfl
    ·rw[Z1 e,Z1 e]; rfl
  |_=>rfl
 |gin neg x ks b=>
  refine((h.ev τ st b).bind λp=>Sn.lf _).eq ?_;show _=(ginR r' τ st neg ks b).bind _;unfold ginR;simp only[Option.bind_assoc];refine congrArg _ (funext λp=>?_);cases p.1<;>rfl
 |cmp f a b=>exact(h.ev τ st a).bind λp=>(h.ev τ _ b).bind λq=>(Sn.cmp _ _ _ _).map _
 |cmp2 f d a b c=>exact(h.ev τ st a).bind λp=>(h.ev τ _ b).bind λq=>(Sn.cmp _ _ _ _).bind λk=>Sn.ite ((h.ev τ _ c).bind λu=>(Sn.cmp _ _ _ _).map _) (.ys _)
 |_=>exact(h.ev τ st _).bind λp=>(Sn.truth _ _ _).map _
theorem qc4(τ)(st)(s):Sn (qhs n r τ st s) (stepEx r' τ st s):=by
 cases s with
 |set t e=>exact(h.ev τ st e).bind λp=>(Sn.lf _).map _
 |dset a i e=>
  refine(h.ev τ st e).bind λp=>(h.ev τ _ a).bind λq=>(h.ev τ _ i).bind λu=>?_;obtain⟨d,s⟩:=q
  cases d with
  |loc l=>
   refine((Sn.wd n u.2 l).bind λkvs=>Sn.ite (Sn.cond (decide (kvs.length<lim)) (Out.nx τ,u.2.set l (.dic Z (dput kvs u.1 p.1)))) (.no J)).eq ?_;refine congrArg _ (funext λkvs=>?_)
   cases isKey u.1 with
   |true=>rfl
   |false=>rfl
  |_=>exact .no _
 |setA C a f e=>
  refine(h.ev τ st e).bind λp=>(h.ev τ _ a).bind λq=>(Sn.ob n _ _ _).bind λfs=>?_;obtain⟨d,s⟩:=q
  cases d with
  |loc l=>exact Sn.ite (.ys _) (.no _)
  |_=>exact .no _
 |expr e=>exact(h.ev τ st e).map _
 |ret e=>exact(h.ev τ st e).map _
 |ite c a b=>
  show Sn (askT (stepEx r.rl τ st (.ite c a b)) _) _;rw[h.rl];exact Sn.askT ((h.tst τ st c).bind λp=>Sn.ite (h.ex τ _ a) (h.ex τ _ b))
 |forr t it body=>
  show Sn (askS (stepEx r.rl τ st (.forr t it body)) _) _;rw[h.rl];exact Sn.askS ((qhu h τ st it).bind λp=>qyi (λτ st d=>(Sn.lf _).bind λg=>h.ex g st body) _ _ _ _)
 |ford t a body=>
  show Sn (askS (stepEx r.rl τ st (.ford t a body)) _) _;rw[h.rl];exact Sn.askS (.no _)
 |six a i e=>
  show Sn (askT (stepEx r.rl τ st (.six a i e)) _) _;rw[h.rl];refine Sn.askT ((h.ev τ st e).bind λp=>(h.ev τ _ a).bind λq=>(h.ev τ _ i).bind λu=>?_);obtain⟨d,s⟩:=q;obtain⟨k,s'⟩:=u
  cases d with
  |loc l=>
   cases k with
   |int i=>
    refine((Sn.wl n s' l).bind λds=>(Sn.lf (ixN ds.length i)).map λj=>(Out.nx τ,s'.set l (.lst Z (ds.set j p.1)))).eq ?_;show _=((wlistAt s' l).bind λds=>(ixN ds.length i).map λj=>s'.set l (.lst Z (ds.set j p.1))).map _
    cases wlistAt s' l with
    |none=>rfl
    |some ds=>show Option.map _ _=Option.map _ (Option.map _ _); rw[Option.map_map]; rfl
   |_=>exact .no _
  |_=>exact .no _
 |_=>exact .no _
theorem qjl(τ)(st)(s):Sn (qjn n r τ st s) (stepEx r' τ st s):=by
 show Sn (askT (stepEx r.rl τ st s) _) _;rw[h.rl];exact Sn.askT (qc4 h τ st s)
end
def qlc(c):Le (RL c) λm=>runK c m:=
 ⟨λτ st e x h=>by obtain⟨n,e⟩:=lim1_is h; exact⟨n,λm a=>ev_up e a⟩,λτ st e x h=>by obtain⟨n,e⟩:=lim1_is h; exact⟨n,λm a=>qhi e a⟩,λτ st e x h=>by obtain⟨n,e⟩:=lim1_is h; exact⟨n,λm a=>ex_up e a⟩,λf ds st x h=>⟨0,λm _=>by show(runK c m).call f ds st=_; rw[runK_call]; exact h⟩⟩
def qjk(c)(τ)(st)(e)(x)(h:stepEv (RL c) τ st e=Y x):(RL c).ev τ st e=Y x:=by
 obtain⟨n,hn⟩:=qjo (qlc c) τ st e x h;exact qyl (n:=n+1) (λ_ _ _ h k=>ev_up h k) (hn n (Qqv _))
def rl_tst(c)(τ)(st)(e)(x)(h:stepTst (RL c) τ st e=Y x):(RL c).tst τ st e=Y x:=by
 obtain⟨n,hn⟩:=qx5 (qlc c) τ st e x h;exact qyl (n:=n+1) (λ_ _ _ h k=>qhi h k) (hn n (Qqv _))
def qgz(c)(τ)(st)(e)(x)(h:exs (stepEx (RL c)) e τ st=Y x):(RL c).ex τ st e=Y x:=by
 obtain⟨n,hn⟩:=qvh (qjm (qlc c)) e τ st x h;exact qyl (n:=n+1) (λ_ _ _ h k=>ex_up h k) (hn n (Qqv _))
theorem qx6(h:∀f ds st,Sn (c f ds st) (c' f ds st)):∀k,SnR (runT n (RL c') c k) (RL c')
 |0=>⟨rfl,λ_ _ _=>.no _,λ_ _ _=>.no _,λ_ _ _=>.no _,h⟩
 |k+1=>⟨rfl,λτ st e=>(qc2 (qx6 h k) τ st e).up (qjk c' τ st e),λτ st e=>(qbc (qx6 h k) τ st e).up (rl_tst c' τ st e),λτ st a=>(qeg (qjl (qx6 h k)) a τ st).up (qgz c' τ st a),h⟩
theorem qxj:∀(d f:Y0) (ds:L D) (st:Y2),Sn (qkf fns n b k d f ds st) (callD fns (k+d) f ds st)
 |0,f,ds,st=>.no _
 |d+1,f,ds,st=>by
  unfold qkf
  by_cases a:b.contains f=Z
  ·rw[Z2 a];exact .askC _
  ·rw[Z1 a];show Sn _ (stepCall fns (RL (callD fns (k+d))) f ds st);unfold stepCall
   cases hf:fns[f]? with
   |none=>exact .no _
   |some F=>
    refine Sn.ite (((qx6 (λf ds st=>qxj d f ds st) 40).ex _ _ _).bind λp=>?_) (.no _);obtain⟨o,s⟩:=p
    cases o with
    |rt _=>exact .ys _
    |nx _=>exact .ys _
    |bk _=>exact .no _
    |ct _=>exact .no _
def qz7(n)(c)(d)(P:Prop->Prop)(t)(b:P (r=r))(h:exsT (qjn n (runT n (RL (callD fns (k+d))) (qkf fns n c k d) 40)) ss τ st t (λa _=>a=r)=P (r=r):=by kernel_rfl):exs (stepEx (RL (callD fns (k+d)))) ss τ st=Y r:=by
 rw[<- h]at b;obtain⟨a,g,e,rfl⟩:=qeg (qjl (qx6 (λf ds st=>qxj d f ds st) 40)) ss τ st t _ b;exact e
def qqx(n)(b)(d)(P:Prop->Prop)(t)(c:P (r=r))(h:exsT (qjn n (runT n (RL (callD fns (k+d))) (qkf fns n b k d) 40)) ss τ st t (λa _=>a=r)=P (r=r):=by kernel_rfl):(RL (callD fns (k+d))).ex τ st ss=Y r:=qgz _ _ _ _ _ (qz7 n b d P t c h)
def qzb(n)(c)(d)(P:Prop->Prop)(t)(b:P (r=r))(h:(runT n (RL (callD fns (k+d))) (qkf fns n c k d) 40).ev τ st e t (λa _=>a=r)=P (r=r):=by kernel_rfl):(RL (callD fns (k+d))).ev τ st e=Y r:=by
 rw[<- h]at b;obtain⟨a,g,e,rfl⟩:=(qx6 (λf ds st=>qxj d f ds st) 40).ev τ st e t _ b;exact e
def qze(n)(c)(d)(P:Prop->Prop)(t)(b:P (r=r))(h:(runT n (RL (callD fns (k+d))) (qkf fns n c k d) 40).tst τ st e t (λa _=>a=r)=P (r=r):=by kernel_rfl):(RL (callD fns (k+d))).tst τ st e=Y r:=by
 rw[<- h]at b;obtain⟨a,g,e,rfl⟩:=(qx6 (λf ds st=>qxj d f ds st) 40).tst τ st e t _ b;exact e
def qzz(n)(c)(d)(P:Prop->Prop)(t)(b:P (r=r))(h:qkf fns n c k d f ds st t (λa _=>a=r)=P (r=r):=by kernel_rfl):callD fns (k+d) f ds st=Y r:=by
 rw[<- h]at b;obtain⟨a,g,e,rfl⟩:=qxj d f ds st t _ b;exact e
def qjf(n)(g)(d)(c)(P:Prop->Prop)(t)(b:P (c=r))(h:qkf fns n g k d f ds st t (λa _=>a=r)=P (c=r):=by kernel_rfl):callD fns (k+d) f ds st=Y r:=by
 rw[<- h]at b;obtain⟨a,i,e,rfl⟩:=qxj d f ds st t _ b;exact e
end M
end
section
namespace MS
open PySem PySem.Spec PyProof.Rows L2
def qjv:fillsNumberSlot (.type "tuple") "mul" = pure false:=
 PySem.fillsNumberSlot_seq F.slot_tuple_mul.lookup (by decide +kernel) F.slot_tuple_rmul.lookup (by decide +kernel)
def qv2:seqRepeat? (.type "tuple")=pure (Y (.builtin "tuple.__mul__")):=by
 unfold seqRepeat?;rw[PySem.seqSlot_of (name:="__mul__") F.slot_tuple_mul.lookup (by decide +kernel),PySem.seqSlot_of (name:="__rmul__") F.slot_tuple_rmul.lookup (by decide +kernel)]
 rfl
def qkd(a)(t)(l)(b)(n)(c)(sl):
  Meets (Zy.«int.__rmul__» ⟨[.int a t,.ref l],[]⟩) (λ_ R s=>s.heap.get? l=Y { cls:=.type "tuple",dict:=c,data:=.seq b n,slots:=sl }/\R (.ok (.ret Value.notImplemented)) s):=
 .of_wp λprog w A R s h=>by obtain⟨e,g,d,tk,os⟩:=s; obtain⟨f,h⟩:=h; wp_walk; exact⟨_,rfl,h⟩
def qkw(l)(a)(n)(c)(sl)(x)(u)(b:¬ (decide (x < -(2 ^ 63))||decide (x >= 2 ^ 63))=Z)(i:(a.isEmpty||x==1)=Z):
  Meets (Zy.«tuple.__mul__» ⟨[.ref l,.int x u],[]⟩) (λ_ R s=>s.heap.get? l=Y { cls:=.type "tuple",dict:=c,data:=.seq a n,slots:=sl }/\R (.ok (.ret (Value.ref l))) s):=
 .of_wp λprog w A R s h=>by
  obtain⟨e,g,d,tk,os⟩:=s; obtain⟨f,h⟩:=h
  wp_walk
  simp only[Z1 b]
  wp_walk
  exact⟨_,rfl,h⟩
def qky(l)(a)(n)(c)(sl)(x)(u)(b:¬ (decide (x < -(2 ^ 63))||decide (x >= 2 ^ 63))=Z)(j:¬ (a.isEmpty||x==1)=Z)(i:(decide (x<=0)||a.isEmpty)=Z):
  Meets (Zy.«tuple.__mul__» ⟨[.ref l,.int x u],[]⟩) (λ_ R s=>s.heap.get? l=Y { cls:=.type "tuple",dict:=c,data:=.seq a n,slots:=sl }/\R (.ok (.ret (Value.ref s.heap.objs.size))) { s with heap:=s.heap.push { cls:=.type "tuple",data:=.seq #[] } }):=
 .of_wp λprog w A R s h=>by
  obtain⟨e,g,d,tk,os⟩:=s; obtain⟨f,h⟩:=h
  wp_walk
  simp only[Z1 b]
  wp_walk
  exact⟨_,rfl,h⟩
def qka(l)(a)(n)(f)(sl)(x)(u)(e:¬ (decide (x < -(2 ^ 63))||decide (x >= 2 ^ 63))=Z)(p:¬ (a.isEmpty||x==1)=Z)(o:¬ (decide (x<=0)||a.isEmpty)=Z)(c:¬ ((a.size:B)*x > (2 ^ 63 - 1) / 8))(m:¬ Builtin.Tuple.tupleTooMany ((a.size:B)*x)=Z)(k:(List.foldl (λb x2=>b++x2) #[] (List.replicate x.toNat a)).size<=sizeLine):
  Meets (Zy.«tuple.__mul__» ⟨[.ref l,.int x u],[]⟩) (λ_ R s=>s.heap.get? l=Y { cls:=.type "tuple",dict:=f,data:=.seq a n,slots:=sl }/\R (.ok (.ret (Value.ref s.heap.objs.size))) { s with heap:=s.heap.push { cls:=.type "tuple",data:=.seq (List.foldl (λb x2=>b++x2) #[] (List.replicate x.toNat a)) } }):=
 .of_wp λprog w A R s h=>by
  obtain⟨i,g,d,tk,os⟩:=s; obtain⟨j,h⟩:=h
  wp_walk
  simp only[Z1 e]
  wp_walk
  simp only[Z1 c]
  wp_walk
  exact⟨_,rfl,h⟩
noncomputable def rRepT(K:Qqq):R2:=λx y H Q=>∃l k xs,x=.ref l/\y=.int k/\SqT K H l xs/\-(2 ^ 62)<=k/\k<2 ^ 62/\xs.length*k.toNat<=sizeLine/\
 (∀ys,ys=(List.replicate k.toNat xs).flatten->(ys=xs->Q (.ref l) H)/\∀p,H p=J->Q (.ref p) (upd H p (.tup ys)))
def qmx:OpR X (Q3 .Mult) (rRepT X.K):=by
 intro pins s σ H x y v u Q I D C h;obtain⟨l,k,xs,rfl,rfl,N,U,T,hz,q⟩:=h;cases D;obtain⟨t,rfl⟩:=C;obtain⟨a,r,P,G⟩:=I.tuple N;obtain⟨⟨cls,d,A,sl⟩,b,hc,n,hd⟩:=id P;simp only at hc hd;subst hc hd;have p:=r.length;obtain⟨E,o⟩:=q _ rfl;have w:=λm=>by
  have:=foldl_rep a m [];rw[List.nil_append]at this;exact this
 have i:¬ (decide (k < -(2 ^ 63))||decide (k >= 2 ^ 63))=true:=by simp; omega
 refine wpAny_binaryOp_repeat_ref (by decide) ⟨_,b,rfl⟩ (λs'=>typeIs_int s' k t) qjv F.fills_int_mul F.slot_int_rmul qv2 F.slot_int_index.lookup
  (Qu F.slot_int_rmul (typeIs_int s k t) F.entry_int_rmul (F.args_int_rmul_2 _ _) (qkd k t l a.toArray n d sl) ⟨b,rfl,⟨_,b,rfl⟩,?_⟩)
 by_cases h1:(a.toArray.isEmpty||k==1)=Z
 ·refine Qu F.slot_tuple_mul ⟨_,b,rfl⟩ F.entry_tuple_mul (F.args_tuple_mul_2 _ _) (qkw l a.toArray n d sl k t i h1) ⟨b,⟨.ref l,H,I,rfl,E ?_⟩⟩;rw[Qxa]at h1;rcases h1 with z|z
  ·have j:a=[]:=by simpa using z
   have R:=Qzs.mp (by rw[p,j]; rfl);rw[R];simp
  ·have j:k=1:=by simpa using z
   rw[j];simp
 ·have g:a≠[]:=λz=>h1 (by rw[z]; rfl)
  by_cases h2:(decide (k<=0)||a.toArray.isEmpty)=Z
  ·refine Qu F.slot_tuple_mul ⟨_,b,rfl⟩ F.entry_tuple_mul (F.args_tuple_mul_2 _ _) (qky l a.toArray n d sl k t i h1 h2) ⟨b,?_⟩;have hk:k<=0:=by
    rw[Qxa]at h2;rcases h2 with z|z
    ·simpa using z
    ·exact absurd (by simpa using z) g
   have S:k.toNat=0:=by omega
   refine⟨.ref _,_,I.laid (λ_ _ e=>Qqz _ e) (Qqv _) ?_,rfl,o _ I.fresh⟩;rw[S];exact⟨Qz4 _,[],.nil,IsTup.new s.heap _⟩
  ·have hk:0<k:=by
    simp at h2; omega
   have c:((a.toArray.size:Y0):B)*k=((a.length*k.toNat:Y0):B):=by
    rw[Qqw,Int.natCast_mul]
    congr 1
    omega
   have f:a.length*k.toNat<=sizeLine:=by rw[<- p]; exact hz
   have K:(sizeLine:Y0)<2 ^ 60:=by rw[Q1]; decide
   refine Qu F.slot_tuple_mul ⟨_,b,rfl⟩ F.entry_tuple_mul (F.args_tuple_mul_2 _ _) (qka l a.toArray n d sl k t i h1 h2 ?_ ?_ ?_) ⟨b,?_⟩
   ·rw[c]; omega
   ·unfold Builtin.Tuple.tupleTooMany;rw[c,decide_eq_true_eq];omega
   ·rw[w,Qqw,len_rep,Nat.mul_comm]; exact f
   ·refine⟨.ref _,_,I.laid (λ_ _ e=>Qqz _ e) (Qqv _) ?_,rfl,o _ I.fresh⟩;rw[w];exact⟨by rw[len_rep,Nat.mul_comm]; exact hz,_,r.rep k.toNat,IsTup.new s.heap _⟩
section
def qxq{lo:Y3 B}(c:IsTup s.heap t a)(hs:s.heap.IsSliceOf sl vl g .none)(pl:IsPart vl lo)(pu:IsPart g hi)(i:HT.sIx a.size 0 lo=0/\HT.sIx a.size a.size hi=a.size)(h:Q (.ref t) s):wpAny (model prog w) A (Zq (.ref t) (.ref sl)) Q E s:=by
 obtain⟨os,d,e,j⟩:=id hs;have f:s.TypeIs (.ref sl) "slice":=⟨os,d,e⟩
 unfold Zq
 try with_reducible refine Qn ?_
 first|refine Qq (Qj ?_)|skip
 refine Qq (wpAny_sequenceKey c.typeIs (by decide) ?_)
 refine Qq (Ql c.typeIs PyProof.Rows.slot_tuple_getitem
  (Qr PyProof.Rows.slot_tuple_getitem c.typeIs entry_tuple_getitem ?_ (args_tuple_getitem _ _)))
 show wpAny _ _ (Builtin.Tuple.tupleItemsOf (.ref t) >>= _) _ _ s;refine Qq (tupleItemsOf_ c ?_);refine Qq (wpAny_typeOf f ?_);rw[Z2 (by decide)];refine Qq (HT.sliceApplied_gen hs pl pu ?_);have b:(((HT.sIx a.size 0 lo:Y0):B)==0&&(1:B)==1&&(HT.sIx a.size a.size hi - HT.sIx a.size 0 lo)==a.size)=true:=by
  rw[i.1,i.2];simp
 show wpAny _ _ (if (((HT.sIx a.size 0 lo:Y0):B)==0&&(1:B)==1&&(HT.sIx a.size a.size hi - HT.sIx a.size 0 lo)==a.size)=Z then _ else _) _ _ s;rw[Z2 b];refine Qq ?_;unfold Builtin.Tuple.tupleIsExact;refine Qq (wpAny_typeOf c.typeIs (Qj ?_));rw[Z2 (by decide)]
 first
  |exact Qq (Zi (Qj ⟨_,rfl,Qj h⟩))
  |exact Qq (Zi (Qq (Qj (Qj ⟨_,rfl,Qj h⟩))))
  |exact Qq (Qq (Zi (Qj (Qj ⟨_,rfl,Qj h⟩))))
end
end MS
end
section
namespace MS
open PySem PySem.Spec PyProof.Rows L2
open M (D Ya Y2 Sl)
def nn{α:Type}{a:α}{P:Prop}(h:J=Y a):P:=by cases h
def SqF(K:Qqq)(H:Hp)(a:Y7)(xs:L V):Prop:=
 (∃o,H a=Y (.frz o (.lst xs)))\/∃(o:Obj) (its:Array Y8) (n:Y0),K.lookup a=Y o/\o.cls=.type "list"/\o.dict=J/\o.data=.seq its n/\its.size<=sizeLine/\Vals xs its.toList
mutual
noncomputable def IsD(K:Qqq)(m:L Y7)(H:Hp):D->V->Prop
 |.non,v=>v=.non
 |.bl b,v=>v=.bl b
 |.int i,v=>v=.int i
 |.str s,v=>v=.str s
 |.tup ds,v=>∃a xs,v=.ref a/\SqT K H a xs/\IsDs K m H ds xs
 |.lst ds,v=>∃a xs,v=.ref a/\SqF K H a xs/\IsDs K m H ds xs
 |.loc l,v=>∃a,m[l]?=Y a/\v=.ref a
noncomputable def IsDs(K:Qqq)(m:L Y7)(H:Hp):L D->L V->Prop
 |[],xs=>xs=[]
 |d::ds,xs=>∃x r,xs=x::r/\IsD K m H d x/\IsDs K m H ds r
end
def Sub(m m':L Y7):Prop:=∀(l:Y0) (a:Y7),m[l]?=Y a->m'[l]?=Y a
noncomputable def Sq:HO->Prop
 |.lst _=>True
 |.tup _=>True
 |_=>False
structure Tr (H H':Hp):Prop where
 tup:∀b xs,H b=Y (.tup xs)->H' b=Y (.tup xs)
 frz:∀b o u,H b=Y (.frz o u)->H' b=Y (.frz o u)
structure Tw (H H':Hp):Prop where
 tup:∀b xs,H b=Y (.tup xs)->H' b=Y (.tup xs)
 frz:∀b o u,Sq u->H b=Y (.frz o u)->H' b=Y (.frz o u)
def Tr.w(t:Tr H H'):Tw H H':=⟨t.tup,λb o u _=>t.frz b o u⟩
def Sub.refl(m):Sub m m:=λ_ _ h=>h
def Sub.trans(a:Sub m c)(b:Sub c m2):Sub m m2:=λl x h=>b l x (a l x h)
def Sub.app(m r):Sub m (m++r):=λl a h=>by
 rw[Qqr (Qqj.mp h).1]; exact h
def Tr.refl(H):Tr H H:=⟨λ_ _ h=>h,λ_ _ _ h=>h⟩
def Tr.trans(a:Tr H d)(b:Tr d H2):Tr H H2:=⟨λc xs h=>b.tup c xs (a.tup c xs h),λc o u h=>b.frz c o u (a.frz c o u h)⟩
def Tr.of_same(h:Same H H'):Tr H H':=⟨λb xs e=>h b _ e,λb o u e=>h b _ e⟩
def qzc(a:H p=J):Same H (upd H p o):=λb u e=>by
 rw[qzx (qzi e a)]; exact e
def Tr.put(a:H p=Y (.lst xs)):Tr H (upd H p (.lst ys)):=
 ⟨λb zs e=>by rw[qzx (qzs e a (by intro z; cases z))]; exact e,λb o u e=>by rw[qzx (qzs e a (by intro z; cases z))]; exact e⟩
def Tw.sqT{K:Qqq}(t:Tw H H')(h:SqT K H a xs):SqT K H' a xs:=by
 rcases h with (h|⟨o,h⟩)|h
 ·exact .inl (.inl (t.tup _ _ h))
 ·exact .inl (.inr ⟨o,t.frz _ _ _ trivial h⟩)
 ·exact .inr h
def SqF.sq{K:Qqq}(h:SqF K H a xs):SqL K H a xs:=by
 rcases h with h|h
 ·exact .inl (.inr h)
 ·exact .inr h
def Tw.sqF{K:Qqq}(t:Tw H H')(h:SqF K H a xs):SqF K H' a xs:=by
 rcases h with⟨o,h⟩|h
 ·exact .inl ⟨o,t.frz _ _ _ trivial h⟩
 ·exact .inr h
theorem Tr.sqT{K:Qqq}(t:Tr H H')(h:SqT K H a xs):SqT K H' a xs:=t.w.sqT h
theorem Tr.sqF{K:Qqq}(t:Tr H H')(h:SqF K H a xs):SqF K H' a xs:=t.w.sqF h
section
variable {K:Qqq}{m m':L Y7}{H H':Hp}
mutual
theorem qqc(hs:Sub m m')(b:Tw H H'):∀(d:D) (v:V),IsD K m H d v->IsD K m' H' d v
 |.non,_,h=>h
 |.bl _,_,h=>h
 |.int _,_,h=>h
 |.str _,_,h=>h
 |.tup ds,_,h=>by
  unfold IsD at h ⊢;obtain⟨a,xs,e,q,r⟩:=h;exact⟨a,xs,e,b.sqT q,qqz hs b ds xs r⟩
 |.lst ds,_,h=>by
  unfold IsD at h ⊢;obtain⟨a,xs,e,q,r⟩:=h;exact⟨a,xs,e,b.sqF q,qqz hs b ds xs r⟩
 |.loc l,_,h=>by
  unfold IsD at h ⊢;obtain⟨a,e,q⟩:=h;exact⟨a,hs l a e,q⟩
theorem qqz(hs:Sub m m')(a:Tw H H'):∀(ds:L D) (xs:L V),IsDs K m H ds xs->IsDs K m' H' ds xs
 |[],_,h=>h
 |d::ds,_,h=>by
  unfold IsDs at h ⊢;obtain⟨x,r,e,q,t⟩:=h;exact⟨x,r,e,qqc hs a d x q,qqz hs a ds r t⟩
end
def qzw(hs:Sub m m')(a:Tr H H')(d)(v)(h:IsD K m H d v):IsD K m' H' d v:=qqc hs a.w d v h
def qzd(hs:Sub m m')(a:Tr H H')(ds)(xs)(h:IsDs K m H ds xs):IsDs K m' H' ds xs:=qqz hs a.w ds xs h
theorem IsD.int(h:IsD K m H (.int i) v):v=.int i:=by unfold IsD at h; exact h
theorem IsD.bl(h:IsD K m H (.bl i) v):v=.bl i:=by unfold IsD at h; exact h
theorem IsD.str(h:IsD K m H (.str i) v):v=.str i:=by unfold IsD at h; exact h
theorem IsD.non(h:IsD K m H .non v):v=.non:=by unfold IsD at h; exact h
theorem IsD.tup(h:IsD K m H (.tup ds) v):∃a xs,v=.ref a/\SqT K H a xs/\IsDs K m H ds xs:=by unfold IsD at h; exact h
theorem IsD.lst(h:IsD K m H (.lst ds) v):∃a xs,v=.ref a/\SqF K H a xs/\IsDs K m H ds xs:=by unfold IsD at h; exact h
theorem IsD.loc(h:IsD K m H (.loc l) v):∃a,m[l]?=Y a/\v=.ref a:=by unfold IsD at h; exact h
def mkInt(i):IsD K m H (.int i) (.int i):=by unfold IsD; rfl
def mkBl(i):IsD K m H (.bl i) (.bl i):=by unfold IsD; rfl
def mkStr(i):IsD K m H (.str i) (.str i):=by unfold IsD; rfl
def qvb:IsD K m H .non .non:=by unfold IsD; rfl
def qxb(h:SqT K H a xs)(q:IsDs K m H ds xs):IsD K m H (.tup ds) (.ref a):=by unfold IsD; exact⟨a,xs,rfl,h,q⟩
def qb1(h:SqF K H a xs)(q:IsDs K m H ds xs):IsD K m H (.lst ds) (.ref a):=by unfold IsD; exact⟨a,xs,rfl,h,q⟩
def qgs(h:m[l]?=Y a):IsD K m H (.loc l) (.ref a):=by unfold IsD; exact⟨a,h,rfl⟩
def IsDs.nil(h:IsDs K m H [] xs):xs=[]:=by unfold IsDs at h; exact h
def IsDs.cons(h:IsDs K m H (d::ds) xs):∃x r,xs=x::r/\IsD K m H d x/\IsDs K m H ds r:=by unfold IsDs at h; exact h
def qqy:IsDs K m H [] []:=by unfold IsDs; rfl
def qzo(h:IsD K m H d x)(t:IsDs K m H ds r):IsDs K m H (d::ds) (x::r):=by unfold IsDs; exact⟨x,r,rfl,h,t⟩
def IsDs.one(h:IsDs K m H [d] xs):∃x,xs=[x]/\IsD K m H d x:=by
 obtain⟨x,r,rfl,q,t⟩:=h.cons;rw[t.nil];exact⟨x,rfl,q⟩
def IsDs.two(h:IsDs K m H [d,e] xs):∃x y,xs=[x,y]/\IsD K m H d x/\IsD K m H e y:=by
 obtain⟨x,r,rfl,q,t⟩:=h.cons;obtain⟨y,rfl,a⟩:=t.one;exact⟨x,y,rfl,q,a⟩
theorem IsDs.length:∀{ds}{xs},IsDs K m H ds xs->ds.length=xs.length
 |[],_,h=>by rw[h.nil]; rfl
 |_::_,_,h=>by
  obtain⟨x,r,rfl,_,t⟩:=h.cons;rw[Qql,Qql,t.length]
theorem IsDs.get:∀{ds:L D}{xs:L V}{i:Y0}{d:D},IsDs K m H ds xs->ds[i]?=Y d->∃x,xs[i]?=Y x/\IsD K m H d x
 |[],_,_,_,_,e=>by simp at e
 |d::ds,_,0,d',h,e=>by
  obtain⟨x,r,rfl,q,_⟩:=h.cons;have c:d=d':=by simpa using e
  subst c;exact⟨x,rfl,q⟩
 |d::ds,_,i+1,d',h,e=>by
  obtain⟨x,r,rfl,_,t⟩:=h.cons;obtain⟨y,b,a⟩:=t.get (by simpa using e);exact⟨y,by simpa using b,a⟩
theorem IsDs.append:∀{ds es}{xs ys},IsDs K m H ds xs->IsDs K m H es ys->IsDs K m H (ds++es) (xs++ys)
 |[],_,_,_,h,q=>by rw[h.nil]; exact q
 |_::_,_,_,_,h,q=>by
  obtain⟨x,r,rfl,a,t⟩:=h.cons;exact qzo a (t.append q)
theorem IsDs.set:∀{ds:L D}{xs:L V}(i:Y0){d:D}{x:V},IsDs K m H ds xs->IsD K m H d x->IsDs K m H (ds.set i d) (xs.set i x)
 |[],_,_,_,_,h,_=>by rw[h.nil]; exact qqy
 |_::_,_,0,_,_,h,q=>by
  obtain⟨x,r,rfl,a,t⟩:=h.cons;exact qzo q t
 |_::_,_,i+1,_,_,h,q=>by
  obtain⟨x,r,rfl,a,t⟩:=h.cons;exact qzo a (t.set i q)
end
noncomputable def keyOf:D->Y3 Key
 |.int i=>Y (.inl i)
 |.str z=>Y (.inr z)
 |_=>J
noncomputable def IsKV(K:Qqq)(m:L Y7)(H:Hp):L (D×D)->L (Key×V)->Prop
 |[],xs=>xs=[]
 |p::r,xs=>∃k v xr,xs=(k,v)::xr/\keyOf p.1=Y k/\IsD K m H p.2 v/\IsKV K m H r xr
theorem qqb{K:Qqq}(hs:Sub m b)(c:Tw H H'):∀(kvs:L (D×D)) (xs:L (Key×V)),IsKV K m H kvs xs->IsKV K b H' kvs xs
 |[],_,h=>h
 |p::r,_,⟨k,v,a,e,hk,hv,hr⟩=>⟨k,v,a,e,hk,qqc hs c _ _ hv,qqb hs c r a hr⟩
def qj4{K:Qqq}(hs:Sub m a)(b:Tr H H')(kvs)(xs)(h:IsKV K m H kvs xs):IsKV K a H' kvs xs:=qqb hs b.w kvs xs h
theorem IsKV.length{K:Qqq}:∀{kvs}{xs},IsKV K m H kvs xs->kvs.length=xs.length
 |[],_,h=>by rw[show _=[] from h]; rfl
 |p::r,_,⟨k,v,a,e,_,_,hr⟩=>by rw[e,Qql,Qql,hr.length]
def qei(c:keyOf a=Y k)(hb:keyOf b=Y j):M.eqT a b=decide (k=j):=by
 cases a with
 |int i=>
  cases c
  cases b with
  |int d=>cases hb; rw[M.eqT]; by_cases h:i=d<;>simp[h]
  |str z=>cases hb; simp[M.eqT]
  |_=>exact nn hb
 |str z=>
  cases c
  cases b with
  |int d=>cases hb; simp[M.eqT]
  |str e=>cases hb; rw[M.eqT]; by_cases h:z=e<;>simp[h]
  |_=>exact nn hb
 |_=>exact nn c
def qq5(h:M.isKey a=Z):∃k,keyOf a=Y k:=by
 cases a with
 |int i=>exact⟨_,rfl⟩
 |str z=>exact⟨_,rfl⟩
 |_=>cases h
def qmu{K:Qqq}(h:keyOf a=Y k)(i:IsD K m H a v):v=kV k:=by
 cases a with
 |int b=>cases h; exact i.int
 |str z=>cases h; exact i.str
 |_=>exact nn h
theorem IsKV.get{K:Qqq}(c:keyOf a=Y j):∀{kvs}{xs},IsKV K m H kvs xs->(M.dget kvs a=J/\valV xs j=J)\/∃d v,M.dget kvs a=Y d/\valV xs j=Y v/\IsD K m H d v
 |[],_,h=>by rw[show _=[] from h]; exact .inl ⟨rfl,rfl⟩
 |p::r,_,⟨k,v,g,e,hk,hv,hr⟩=>by
  subst e;have eq:=qei hk c
  by_cases b:k=j
  ·refine .inr ⟨p.2,v,?_,qjw b,hv⟩;rw[Zs b]at eq;simp[M.dget,eq]
  ·rw[Zu b]at eq;have f:M.dget (p::r) a=M.dget r a:=by simp[M.dget,eq]
   rw[f,qjy b];exact hr.get c
theorem IsKV.any{K:Qqq}(b:keyOf a=Y j):∀{kvs}{xs},IsKV K m H kvs xs->(kvs.any λp=>M.eqT p.1 a)=(xs.any λp=>decide (p.1=j))
 |[],_,h=>by rw[show _=[] from h]; rfl
 |p::r,_,⟨k,v,c,e,hk,hv,hr⟩=>by
  subst e;rw[Qz8,Qz8,qei hk b,hr.any b]
theorem IsKV.repl{K:Qqq}(c:keyOf a=Y j)(hd:IsD K m H d w):∀{kvs}{xs},IsKV K m H kvs xs->IsKV K m H (kvs.map λp=>if M.eqT p.1 a then(p.1,d) else p) (xs.map λp=>if p.1=j then(p.1,w) else p)
 |[],_,h=>by rw[show _=[] from h]; rfl
 |p::r,_,⟨k,v,f,e,hk,hv,hr⟩=>by
  subst e;have eq:=qei hk c;rw[Qqp,Qqp]
  by_cases b:k=j
  ·rw[Zs b]at eq;rw[Z2 eq,Z2 b];exact⟨k,w,_,rfl,hk,hd,hr.repl c hd⟩
  ·rw[Zu b]at eq;rw[Z1 (by rw[eq]; nofun),Z1 b];exact⟨k,v,_,rfl,hk,hv,hr.repl c hd⟩
theorem IsKV.snoc{K:Qqq}(b:keyOf a=Y j)(hd:IsD K m H d w):∀{kvs}{xs},IsKV K m H kvs xs->IsKV K m H (kvs++[(a,d)]) (xs++[(j,w)])
 |[],_,h=>by rw[show _=[] from h]; exact⟨j,w,[],rfl,b,hd,rfl⟩
 |p::r,_,⟨k,v,c,e,hk,hv,hr⟩=>by
  subst e;exact⟨k,v,_,rfl,hk,hv,hr.snoc b hd⟩
def IsKV.put{K:Qqq}(h:IsKV K m H kvs xs)(b:keyOf a=Y j)(hd:IsD K m H d w):IsKV K m H (M.dput kvs a d) (putK xs j w):=by
 unfold M.dput putK;rw[h.any b]
 split
 ·exact h.repl b hd
 ·exact h.snoc b hd
theorem IsKV.merge{K:Qqq}:∀{more}{ms}{kvs}{xs},IsKV K m H more ms->IsKV K m H kvs xs->IsKV K m H (more.foldl (λa p=>M.dput a p.1 p.2) kvs) (qkr xs ms)
 |[],_,kvs,xs,h,q=>by rw[show _=[] from h]; exact q
 |p::r,_,kvs,xs,⟨k,v,b,e,hk,hv,hr⟩,q=>by
  subst e;exact hr.merge (q.put hk hv)
noncomputable def IsFs(K:Qqq)(m:L Y7)(H:Hp):L (Y5×D)->L (Y5×V)->Prop
 |[],ys=>ys=[]
 |p::r,ys=>∃v yr,ys=(p.1,v)::yr/\IsD K m H p.2 v/\IsFs K m H r yr
theorem qxu{K:Qqq}(hs:Sub m b)(c:Tw H H'):∀(fs:L (Y5×D)) (ys:L (Y5×V)),IsFs K m H fs ys->IsFs K b H' fs ys
 |[],_,h=>h
 |p::r,_,⟨v,a,e,hv,hr⟩=>⟨v,a,e,qqc hs c _ _ hv,qxu hs c r a hr⟩
def qd9{K:Qqq}(hs:Sub m a)(b:Tr H H')(fs)(ys)(h:IsFs K m H fs ys):IsFs K a H' fs ys:=qxu hs b.w fs ys h
theorem IsFs.length{K:Qqq}:∀{fs}{ys},IsFs K m H fs ys->fs.length=ys.length
 |[],_,h=>by rw[show _=[] from h]; rfl
 |p::r,_,⟨v,a,e,_,hr⟩=>by rw[e,Qql,Qql,hr.length]
theorem IsFs.get{K:Qqq}(f):∀{fs}{ys},IsFs K m H fs ys->(fs.lookup f=J/\ys.lookup f=J)\/∃d v,fs.lookup f=Y d/\ys.lookup f=Y v/\IsD K m H d v
 |[],_,h=>by rw[show _=[] from h]; exact .inl ⟨rfl,rfl⟩
 |(g,d)::r,_,⟨v,a,e,hv,hr⟩=>by
  subst e;rw[Qzk,Qzk]
  cases f==g with
  |true=>exact .inr ⟨d,v,rfl,rfl,hv⟩
  |false=>exact hr.get f
theorem IsFs.put{K:Qqq}(hd:IsD K m H d w):∀{fs}{ys},IsFs K m H fs ys->IsFs K m H (M.putA f d fs) (putF f w ys)
 |[],_,h=>by rw[show _=[] from h]; exact⟨w,[],rfl,hd,rfl⟩
 |(g,x)::r,_,⟨v,a,e,hv,hr⟩=>by
  subst e;unfold M.putA putF
  split
  ·exact⟨w,a,rfl,hd,hr⟩
  ·exact⟨v,_,rfl,hv,hr.put hd⟩
noncomputable def IsC(K:Qqq)(m:L Y7)(H:Hp):Ya->Y7->Prop
 |.lst Z ds,a=>∃xs,H a=Y (.lst xs)/\IsDs K m H ds xs
 |.lst Y6 ds,a=>∃xs,SqF K H a xs/\IsDs K m H ds xs
 |.dic Z kvs,a=>∃xs,H a=Y (.dK xs)/\IsKV K m H kvs xs
 |.dic Y6 kvs,a=>∃o xs,H a=Y (.frz o (.dK xs))/\IsKV K m H kvs xs
 |.obj C fs,a=>∃dx ys,H a=Y (.ins C dx ys)/\IsFs K m H fs ys
noncomputable def Wr:Ya->Yb
 |.lst w _=>w
 |_=>Z
structure Rel (K:Qqq) (m:L Y7) (st:Y2) (H:Hp):Prop where
 len:m.length=st.length
 nd:∀(l l':Y0) (a:Y7) (c c':Ya),m[l]?=Y a->m[l']?=Y a->st[l]?=Y c->st[l']?=Y c'->Wr c=Z->Wr c'=Z->l=l'
 cell:∀(l:Y0) (c:Ya) (a:Y7),st[l]?=Y c->m[l]?=Y a->IsC K m H c a
section
variable {K:Qqq}{m:L Y7}{st:Y2}{H:Hp}
def Rel.addr(h:Rel K m st H){l:Y0}(e:st[l]?=Y c):∃a,m[l]?=Y a:=by
 have b:=(Qqj.mp e).1;have:=h.len;exact⟨m[l]'(by lia),by simp⟩
def IsC.wr(h:IsC K m H c a)(w:Wr c=Z):∃o,H a=Y o:=by
 cases c with
 |lst b ds=>
  have e:=w;subst e;obtain⟨xs,e,_⟩:=h;exact⟨_,e⟩
 |dic b kvs=>
  cases b with
  |true=>obtain⟨xs,e,_⟩:=h; exact⟨_,e⟩
  |false=>obtain⟨o,xs,e,_⟩:=h; exact⟨_,e⟩
 |obj C fs=>
  obtain⟨dx,ys,e,_⟩:=h;exact⟨_,e⟩
def Rel.list(h:Rel K m st H)(e:M.listAt st l=Y ds)(hv:IsD K m H (.loc l) v):∃a xs,m[l]?=Y a/\v=.ref a/\SqL K H a xs/\IsDs K m H ds xs:=by
 obtain⟨a,b,rfl⟩:=hv.loc;unfold M.listAt at e
 split at e
 ·rename_i w g q;cases e;have c:=h.cell l _ a q b
  cases w with
  |true=>
   obtain⟨xs,f,d⟩:=c;exact⟨a,xs,b,rfl,SqL.of f,d⟩
  |false=>
   obtain⟨xs,f,d⟩:=c;exact⟨a,xs,b,rfl,f.sq,d⟩
 ·exact nn e
def Rel.seq(h:Rel K m st H)(e:M.seqAt st d=Y ds)(hv:IsD K m H d v):∃a xs,True/\v=.ref a/\SqL K H a xs/\IsDs K m H ds xs:=by
 cases d with
 |loc l=>
  obtain⟨a,xs,_,q⟩:=h.list e hv;exact⟨a,xs,trivial,q⟩
 |lst es=>
  cases e;obtain⟨a,xs,e,q,r⟩:=hv.lst;exact⟨a,xs,trivial,e,q.sq,r⟩
 |_=>exact nn e
def Rel.wlist(h:Rel K m st H)(e:M.wlistAt st l=Y ds)(hv:IsD K m H (.loc l) v):∃a xs,m[l]?=Y a/\v=.ref a/\H a=Y (.lst xs)/\IsDs K m H ds xs/\st[l]?=Y (.lst Z ds):=by
 obtain⟨a,b,rfl⟩:=hv.loc;unfold M.wlistAt at e
 split at e
 ·rename_i f q;cases e;obtain⟨xs,d,c⟩:=h.cell l _ a q b;exact⟨a,xs,b,rfl,d,c,q⟩
 ·exact nn e
def qwi(hs:Sub m f)(b:Tw H H')(h:IsC K m H c a)(d:Wr c=Z->H' a=H a):IsC K f H' c a:=by
 cases c with
 |lst w ds=>
  cases w with
  |true=>
   obtain⟨xs,e,q⟩:=h;exact⟨xs,(d rfl).trans e,qqz hs b ds xs q⟩
  |false=>
   obtain⟨xs,e,q⟩:=h;exact⟨xs,b.sqF e,qqz hs b ds xs q⟩
 |dic w kvs=>
  cases w with
  |true=>
   obtain⟨xs,e,q⟩:=h;exact⟨xs,(d rfl).trans e,qqb hs b kvs xs q⟩
  |false=>
   obtain⟨o,xs,e,q⟩:=h;exact⟨o,xs,(d rfl).trans e,qqb hs b kvs xs q⟩
 |obj C fs=>
  obtain⟨dx,ys,e,q⟩:=h;exact⟨dx,ys,(d rfl).trans e,qxu hs b fs ys q⟩
def qjc(hs:Sub m b)(e:Tr H H')(h:IsC K m H c a)(d:Wr c=Z->H' a=H a):IsC K b H' c a:=qwi hs e.w h d
def Rel.dict(h:Rel K m st H)(e:M.dicAt st l=Y kvs)(hv:IsD K m H (.loc l) v):∃a xs,m[l]?=Y a/\v=.ref a/\Rd H a (.dK xs)/\IsKV K m H kvs xs:=by
 obtain⟨a,b,rfl⟩:=hv.loc;unfold M.dicAt at e
 split at e
 ·rename_i w g q;cases e;have c:=h.cell l _ a q b
  cases w with
  |true=>
   obtain⟨xs,f,d⟩:=c;exact⟨a,xs,b,rfl,.inl f,d⟩
  |false=>
   obtain⟨o,xs,f,d⟩:=c;exact⟨a,xs,b,rfl,.inr ⟨o,f⟩,d⟩
 ·exact nn e
def Rel.wdict(h:Rel K m st H)(e:M.wdicAt st l=Y kvs)(hv:IsD K m H (.loc l) v):∃a xs,m[l]?=Y a/\v=.ref a/\H a=Y (.dK xs)/\IsKV K m H kvs xs/\st[l]?=Y (.dic Z kvs):=by
 obtain⟨a,c,rfl⟩:=hv.loc;unfold M.wdicAt at e
 split at e
 ·rename_i b q;cases e;obtain⟨xs,f,d⟩:=h.cell l _ a q c;exact⟨a,xs,c,rfl,f,d,q⟩
 ·exact nn e
def Rel.inst(h:Rel K m st H)(e:M.objAt st C d=Y fs)(hv:IsD K m H d v):∃l a dx ys,d=.loc l/\m[l]?=Y a/\v=.ref a/\H a=Y (.ins C dx ys)/\IsFs K m H fs ys/\st[l]?=Y (.obj C fs):=by
 cases d with
 |loc l=>
  obtain⟨a,b,rfl⟩:=hv.loc;have e:(match st[l]? with|some (.obj c fs)=>if c=C then Y fs else J|_=>J)=Y fs:=e
  split at e
  ·rename_i c fs' q
   split at e
   ·rename_i f;cases e;subst f;obtain⟨dx,ys,i,g⟩:=h.cell l _ a q b;exact⟨l,a,dx,ys,rfl,b,rfl,i,g,q⟩
   ·exact nn e
  ·exact nn e
 |_=>exact nn e
def Rel.same(h:Rel K m st H)(s:Same H H'):Rel K m st H':=
 ⟨h.len,h.nd,λl c a e b=>qjc (Sub.refl m) (Tr.of_same s) (h.cell l c a e b) λw=>by
  obtain⟨xs,q⟩:=(h.cell l c a e b).wr w
  rw[q]; exact s _ _ q⟩
def Rel.newC(h:Rel K m st H)(j:H p=J)(hc:Wr c=Z->True)(hd:IsC K (m++[p]) (upd H p o) c p):Rel K (m++[p]) (st++[c]) (upd H p o):=by
 have y:Tr H (upd H p o):=Tr.of_same (qzc j);have d:∀(l:Y0) (e:Ya) (a:Y7),(st++[c])[l]?=Y e->(m++[p])[l]?=Y a->(l<st.length/\st[l]?=Y e/\m[l]?=Y a)\/(l=st.length/\e=c/\a=p):=by
  intro l e a f g
  by_cases r:l<st.length
  ·rw[Qqr r]at f;rw[Qqr (by rw[h.len]; exact r)]at g;exact .inl ⟨r,f,g⟩
  ·have q:=(Qqj.mp f).1;rw[Qqg,Qxh]at q;have u:l=st.length:=by lia
   subst u;rw[Qzd (Qqv _)]at f;rw[Qzd (by rw[h.len]; exact Qqv _),h.len]at g;have t:c=e:=by simpa using f
   have s:p=a:=by simpa using g
   exact .inr ⟨rfl,t.symm,s.symm⟩
 refine⟨by simp[h.len],λl n a e v u t s A w x=>?_,λl e a f g=>?_⟩
 ·rcases d l e a s u with⟨h1,b,r1⟩|⟨h1,b,r1⟩<;>rcases d n v a A t with⟨h2,k,i⟩|⟨h2,k,i⟩
  ·exact h.nd l n a e v r1 i b k w x
  ·obtain⟨ys,z⟩:=(h.cell l e a b r1).wr w;rw[i,j]at z; cases z
  ·obtain⟨ys,z⟩:=(h.cell n v a k i).wr x;rw[r1,j]at z; cases z
  ·rw[h1,h2]
 ·rcases d l e a f g with⟨h1,b,r1⟩|⟨h1,b,r1⟩
  ·refine qjc (Sub.app m [p]) y (h.cell l e a b r1) λw=>?_;obtain⟨ys,z⟩:=(h.cell l e a b r1).wr w;exact qzx (qzi z j)
  ·rw[b,r1];exact hd
def Rel.new(h:Rel K m st H)(a:H p=J)(hd:IsDs K m H ds xs):Rel K (m++[p]) (st++[.lst Z ds]) (upd H p (.lst xs)):=
 h.newC a (λ_=>trivial) ⟨xs,qzy,qzd (Sub.app m [p]) (Tr.of_same (qzc a)) ds xs hd⟩
def Rel.newD(h:Rel K m st H)(a:H p=J)(hd:IsKV K m H kvs xs):Rel K (m++[p]) (st++[.dic Z kvs]) (upd H p (.dK xs)):=
 h.newC a (λ_=>trivial) ⟨xs,qzy,qj4 (Sub.app m [p]) (Tr.of_same (qzc a)) kvs xs hd⟩
def Rel.newLoc(h:Rel K m st H):IsD K (m++[p]) H' (.loc st.length) (.ref p):=qgs (by
 rw[Qzd (by rw[h.len]; exact Qqv _),h.len]; simp)
def Rel.putW(h:Rel K m st H)(e:st[l]?=Y c)(i:Wr c=Z)(s:m[l]?=Y a)(u:Tw H (upd H a o))(hd:IsC K m (upd H a o) c' a):
  Rel K m (st.set l c') (upd H a o):=by
 have v:=(Qqj.mp e).1;have wr:∀(j:Y0) (d:Ya),(st.set l c')[j]?=Y d->(j=l/\d=c')\/(j≠l/\st[j]?=Y d):=by
  intro j d q
  by_cases hj:j=l
  ·subst hj;rw[Qq2 v]at q;exact .inl ⟨rfl,(Option.some.inj q).symm⟩
  ·rw[Qqa (Ne.symm hj)]at q;exact .inr ⟨hj,q⟩
 refine⟨by rw[Qzq]; exact h.len,λj t b d d' n k y x w r=>?_,λj d b q g=>?_⟩
 ·rcases wr j d y with⟨f,b1⟩|⟨f,b1⟩<;>rcases wr t d' x with⟨p,b2⟩|⟨p,b2⟩
  ·rw[f,p]
  ·subst f; exact h.nd _ _ b _ _ n k e b2 i r
  ·subst p; exact h.nd _ _ b _ _ n k b1 e w i
  ·exact h.nd _ _ b _ _ n k b1 b2 w r
 ·rcases wr j d q with⟨f,b1⟩|⟨f,b1⟩
  ·subst f b1;rw[s]at g; cases g;exact hd
  ·refine qwi (Sub.refl m) u (h.cell j d b b1 g) λw=>qzx λz=>?_;subst z;exact f (h.nd _ _ b _ _ g s b1 e w i)
def Rel.putC(h:Rel K m st H)(e:st[l]?=Y c)(b:Wr c=Z)(f:m[l]?=Y a)(d:Tr H (upd H a o))(hd:IsC K m (upd H a o) c' a):
  Rel K m (st.set l c') (upd H a o):=h.putW e b f d.w hd
theorem Rel.put(h:Rel K m st H)(e:st[l]?=Y (.lst Z ds))(d:m[l]?=Y a)(c:H a=Y (.lst xs))(hd:IsDs K m H b ys):
  Rel K m (st.set l (.lst Z b)) (upd H a (.lst ys)):=
 h.putC e rfl d (Tr.put c) ⟨ys,qzy,qzd (Sub.refl m) (Tr.put c) b ys hd⟩
def Tr.putD(a:H p=Y (.dK xs)):Tr H (upd H p (.dK ys)):=
 ⟨λb zs e=>by rw[qzx (qzs e a (by intro z; cases z))]; exact e,λb o u e=>by rw[qzx (qzs e a (by intro z; cases z))]; exact e⟩
theorem Rel.putD(h:Rel K m st H)(e:st[l]?=Y (.dic Z kvs))(d:m[l]?=Y a)(c:H a=Y (.dK xs))(hd:IsKV K m H b ys):
  Rel K m (st.set l (.dic Z b)) (upd H a (.dK ys)):=
 h.putC e rfl d (Tr.putD c) ⟨ys,qzy,qj4 (Sub.refl m) (Tr.putD c) b ys hd⟩
end
def Tr.putI(a:H p=Y (.ins C c xs)):Tr H (upd H p (.ins C c ys)):=
 ⟨λb zs e=>by rw[qzx (qzs e a (by intro z; cases z))]; exact e,λb o u e=>by rw[qzx (qzs e a (by intro z; cases z))]; exact e⟩
theorem Rel.putI{K:Qqq}{st:Y2}(h:Rel K m st H)(e:st[l]?=Y (.obj C fs))(f:m[l]?=Y a)(d:H a=Y (.ins C c xs))(hd:IsFs K m H b ys):
  Rel K m (st.set l (.obj C b)) (upd H a (.ins C c ys)):=
 h.putC e rfl f (Tr.putI d) ⟨c,ys,qzy,qd9 (Sub.refl m) (Tr.putI d) b ys hd⟩
def Rel.newI{K:Qqq}{st:Y2}(h:Rel K m st H)(i:H x=J)(f:H a=J)(d:a≠x):Same H (upd (upd H a (.own x)) x (.ins C a []))/\Rel K (m++[x]) (st++[.obj C []]) (upd (upd H a (.own x)) x (.ins C a [])):=by
 have g:Same H (upd H a (.own x)):=qzc f;have c:(upd H a (.own x)) x=none:=by rw[qzx (Ne.symm d)]; exact i
 exact⟨λb u e=>qzc c b u (g b u e),(h.same g).newC c (λ_=>trivial) ⟨a,[],qzy,rfl⟩⟩
def Tr.ice(h:H a=Y (.dK xs)):Tr H (upd H a (.frz o (.dK xs))):=
 ⟨λb zs e=>by rw[qzx (qzs e h (by intro z; cases z))]; exact e,λb o u e=>by rw[qzx (qzs e h (by intro z; cases z))]; exact e⟩
def Tr.thaw(h:H a=Y (.dK xs))(t:Tr (upd H a (.frz o (.dK xs))) H'):Tr H (upd H' a (.dK ys)):=
 ⟨λb zs e=>by
  have hb:=qzs e h (by intro z; cases z);rw[qzx hb];exact t.tup b zs (by rw[qzx hb]; exact e),λb o u e=>by
  have hb:=qzs e h (by intro z; cases z);rw[qzx hb]
  exact t.frz b o u (by rw[qzx hb]; exact e)⟩
def Tw.thaw(h:H a=Y (.frz o (.dK xs))):Tw H (upd H a (.dK ys)):=
 ⟨λb zs e=>by rw[qzx (qzs e h (by intro z; cases z))]; exact e,λb o u hs e=>by rw[qzx (qzs e h (by intro z; cases z; exact hs))]; exact e⟩
theorem Rel.ice{K:Qqq}{st:Y2}(h:Rel K m st H)(e:st[l]?=Y (.dic Z kvs))(c:m[l]?=Y a)(b:H a=Y (.dK xs))(hd:IsKV K m H kvs xs):
  Rel K m (st.set l (.dic Y6 kvs)) (upd H a (.frz o (.dK xs))):=
 h.putC e rfl c (Tr.ice b) ⟨o,xs,qzy,qj4 (Sub.refl m) (Tr.ice b) kvs xs hd⟩
theorem Rel.thaw{K:Qqq}{st:Y2}(h:Rel K m st H)(e:st[l]?=Y (.dic Y6 kvs))(c:m[l]?=Y a)(b:H a=Y (.frz o (.dK xs))):
  Rel K m (st.set l (.dic Z kvs)) (upd H a (.dK xs)):=by
 obtain⟨o',ys,d,q⟩:=h.cell l _ a e c;rw[b]at d;cases d;exact h.putW e rfl c (Tw.thaw b) ⟨xs,qzy,qqb (Sub.refl m) (Tw.thaw b) kvs xs q⟩
structure SlotOk (K:Qqq) (m:L Y7) (H:Hp) (τ:Sl) (σ:L2.St):Prop where
 len:τ.length=σ.length
 at_:∀(i:Y0) (d:D),τ[i]?=Y (Y d)->∃v,σ[i]?=Y (Y v)/\IsD K m H d v
def SlotOk.monoW{K:Qqq}(h:SlotOk K m H τ σ)(s:Sub m c)(t:Tw H H'):SlotOk K c H' τ σ:=
 ⟨h.len,λi d e=>let ⟨v,a,b⟩:=h.at_ i d e; ⟨v,a,qqc s t d v b⟩⟩
def SlotOk.mono{K:Qqq}(h:SlotOk K m H τ σ)(s:Sub m c)(t:Tr H H'):SlotOk K c H' τ σ:=
 ⟨h.len,λi d e=>let ⟨v,a,b⟩:=h.at_ i d e; ⟨v,a,qzw s t d v b⟩⟩
def SlotOk.put{K:Qqq}(h:SlotOk K m H τ b)(q:IsD K m H d v):SlotOk K m H (τ.set i (Y d)) (b.set i (Y v)):=by
 refine⟨by rw[Qzq,Qzq]; exact h.len,λj e a=>?_⟩
 by_cases hj:i=j
 ·subst hj;have hi:i<τ.length:=by
   have:=(Qqj.mp a).1;rwa [Qzq]at this
  rw[Qq2 hi]at a;cases a;exact⟨v,Qq2 (by rw[<- h.len]; exact hi),q⟩
 ·rw[Qqa hj]at a ⊢;exact h.at_ j e a
def Post(K:Qqq)(m:L Y7)(H:Hp)(d:D)(st':Y2)(Q:VK):Prop:=∀v m' H',Sub m m'->Tr H H'->Rel K m' st' H'->IsD K m' H' d v->Q v H'
def PostB(K:Qqq)(m:L Y7)(H:Hp)(b:Yb)(st':Y2)(Q:Yb->Hp->Prop):Prop:=∀m' H',Sub m m'->Tr H H'->Rel K m' st' H'->Q b H'
def PostL(K:Qqq)(m:L Y7)(H:Hp)(ds:L D)(st':Y2)(Q:L V->Hp->Prop):Prop:=∀vs m' H',Sub m m'->Tr H H'->Rel K m' st' H'->IsDs K m' H' ds vs->Q vs H'
def Post.mono{K:Qqq}(p:Post K m H d st' Q)(s:Sub m a)(t:Tr H b):Post K a b d st' Q:=
 λv m' H' s' c r i=>p v m' H' (s.trans s') (t.trans c) r i
def Post.here{K:Qqq}(p:Post K m H d st' Q)(r:Rel K m st' H)(i:IsD K m H d v):Q v H:=p v m H (Sub.refl m) (Tr.refl H) r i
noncomputable def tD(K:Qqq)(f:Sl->Y2->Y3 (D×Y2)):TE:=λσ H Q=>∃m st τ d st',Rel K m st H/\SlotOk K m H τ σ/\f τ st=Y (d,st')/\Post K m H d st' Q
noncomputable def tTs(K:Qqq)(f:Sl->Y2->Y3 (Yb×Y2)):TT:=λσ H Q=>∃m st τ d st',Rel K m st H/\SlotOk K m H τ σ/\f τ st=Y (d,st')/\PostB K m H d st' Q
noncomputable def tL(K:Qqq)(f:Sl->Y2->Y3 (L D×Y2)):TA:=λσ H Q=>∃m st τ d st',Rel K m st H/\SlotOk K m H τ σ/\f τ st=Y (d,st')/\PostL K m H d st' Q
noncomputable def rD(K:Qqq)(g:Y2->D->D->Y3 (D×Y2)):R2:=λx y H Q=>∃m st a b d st',Rel K m st H/\IsD K m H a x/\IsD K m H b y/\g st a b=Y (d,st')/\Post K m H d st' Q
def rC(K:Qqq)(g:Y2->L D->Y3 (D×Y2)):L V->Hp->VK->Prop:=λxs H Q=>∃m st ds d st',Rel K m st H/\IsDs K m H ds xs/\g st ds=Y (d,st')/\Post K m H d st' Q
def rU1(K:Qqq)(g:Y2->D->Y3 (D×Y2)):V->Hp->VK->Prop:=λx H Q=>∃m st a d st',Rel K m st H/\IsD K m H a x/\g st a=Y (d,st')/\Post K m H d st' Q
def Post.of{K:Qqq}(q:Post K m H d s Q)(e:Y (d',a)=Y (d,s)):Post K m H d' a Q:=by cases e; exact q
def PostB.of{K:Qqq}(q:PostB K m H d s Q)(e:Y (d',a)=Y (d,s)):PostB K m H d' a Q:=by cases e; exact q
def PostL.of{K:Qqq}(q:PostL K m H d s Q)(e:Y (d',a)=Y (d,s)):PostL K m H d' a Q:=by cases e; exact q
def rsI{α:Type}{K:Qqq}{f:Sl->Y2->Y3 (α×Y2)}{W:L Y7->α->Y2->Prop}{st:Y2}{d:α}(R:Rel K m st H)(S:SlotOk K m H τ a)(e:f τ st=Y (d,st'))(w:W m d st'):∃m st τ d st',Rel K m st H/\SlotOk K m H τ a/\f τ st=Y (d,st')/\W m d st':=⟨m,st,τ,d,st',R,S,e,w⟩
def tD.el{K:Qqq}{P:Prop}(h:tD K f g H Q)(k:∀m st τ d st',Rel K m st H->SlotOk K m H τ g->f τ st=Y (d,st')->Post K m H d st' Q->P):P:=by
 rcases h with⟨m,st,τ,d,st',a,b,c,e⟩
 exact k m st τ d st' a b c e
def tTs.el{K:Qqq}{P:Prop}(h:tTs K f a H Q)(k:∀m st τ d st',Rel K m st H->SlotOk K m H τ a->f τ st=Y (d,st')->PostB K m H d st' Q->P):P:=by
 rcases h with⟨m,st,τ,d,st',p0,p1,p2,b⟩
 exact k m st τ d st' p0 p1 p2 b
def tL.el{K:Qqq}{P:Prop}(h:tL K f a H Q)(k:∀m st τ d st',Rel K m st H->SlotOk K m H τ a->f τ st=Y (d,st')->PostL K m H d st' Q->P):P:=by
 rcases h with⟨m,st,τ,d,st',p0,p1,p2,b⟩
 exact k m st τ d st' p0 p1 p2 b
def rD.el{K:Qqq}{P:Prop}(h:rD K f x y H Q)(k:∀m st a b d st',Rel K m st H->IsD K m H a x->IsD K m H b y->f st a b=Y (d,st')->Post K m H d st' Q->P):P:=by
 rcases h with⟨m,st,a,b,d,st',p0,p1,p2,e,c⟩
 exact k m st a b d st' p0 p1 p2 e c
def rC.el{K:Qqq}{P:Prop}(h:rC K f xs H Q)(k:∀m st ds d st',Rel K m st H->IsDs K m H ds xs->f st ds=Y (d,st')->Post K m H d st' Q->P):P:=by
 rcases h with⟨m,st,ds,d,st',p0,p1,p2,a⟩
 exact k m st ds d st' p0 p1 p2 a
def rU1.el{K:Qqq}{P:Prop}(h:rU1 K f x H Q)(k:∀m st a d st',Rel K m st H->IsD K m H a x->f st a=Y (d,st')->Post K m H d st' Q->P):P:=by
 rcases h with⟨m,st,a,d,st',p0,p1,p2,b⟩
 exact k m st a d st' p0 p1 p2 b
def _root_.L2.PE.imp(h:PE X e t)(f:∀σ H Q,t' σ H Q->t σ H Q):PE X e t':=λpins s σ H Q I q=>h pins s σ H Q I (f σ H Q q)
def _root_.L2.PT.imp(h:PT X e t)(f:∀σ H Q,t' σ H Q->t σ H Q):PT X e t':=λpins s σ H Q I q=>h pins s σ H Q I (f σ H Q q)
def _root_.L2.PW.imp(h:PW X e t)(f:∀σ H Q,t' σ H Q->t σ H Q):PW X e t':=λw pins s σ H Q I q=>h w pins s σ H Q I (f σ H Q q)
def _root_.L2.PA.imp(h:PA X e t)(f:∀σ H Q,t' σ H Q->t σ H Q):PA X e t':=λp pins s σ H Q I q=>h p pins s σ H Q I (f σ H Q q)
def _root_.L2.PS.imp(h:PS X e t)(f:∀σ H Q,t' σ H Q->t σ H Q):PS X e t':=λpins s σ H Q I q=>h pins s σ H Q I (f Q σ H q)
def _root_.L2.PSs.imp(h:PSs X e t)(f:∀D σ H,t' D σ H->t D σ H):PSs X e t':=λpins s σ H D I q=>h pins s σ H D I (f D σ H q)
def qzk{α:Type}{g:D×Y2->Y3 α}{r:α}{P:Prop}(e:f.bind g=Y r)(k:∀d st,f=Y (d,st)->g (d,st)=Y r->P):P:=by
 cases f with
 |none=>exact nn e
 |some p=>exact k p.1 p.2 rfl e
def qzg{α a:Type}{f:Y3 α}{g:α->a}{r:a}{P:Prop}(e:f.map g=Y r)(k:∀d,f=Y d->g d=r->P):P:=by
 cases f with
 |none=>exact nn e
 |some p=>exact k p rfl (Option.some.inj e)
def qzj{α a:Type}{f:Y3 α}{g:α->Y3 a}{r:a}{P:Prop}(e:f.bind g=Y r)(k:∀d,f=Y d->g d=Y r->P):P:=by
 cases f with
 |none=>exact nn e
 |some p=>exact k p rfl e
def orO{α:Type}{a b:Y3 α}{r:α}(h:a.or b=Y r):a=Y r\/b=Y r:=by
 cases a with
 |none=>exact .inr h
 |some x=>exact .inl h
def mapD{α a:Type}{f:Y3 α}{g:α->a}{r:a}(e:f.map g=Y r):∃d,f=Y d/\g d=r:=by
 cases f with
 |none=>exact nn e
 |some p=>exact⟨p,rfl,Option.some.inj e⟩
section
variable {K:Qqq}
def qcs(h:tD K (λτ st=>(i τ st).bind λp=>(f τ p.2).bind λq=>g q.2 p.1 q.1) a H Q):tOp (rD K g) (tD K i) (tD K f) a H Q:=by
 exact h.el λm st τ d st' w j e q=>qzk e λu z s e=>qzk e λt k r e=>rsI w j s λx m1 H1 b1 c v o=>rsI v (j.mono b1 c) r λy l H2 b2 b R2 n=>
  ⟨l,k,u,t,d,st',R2,qzw b2 b _ _ o,n,e,q.mono (b1.trans b2) (c.trans b)⟩
def tD_un(h:tD K (λτ st=>(b τ st).bind λp=>g p.2 p.1) a H Q):tUn (rU1 K g) (tD K b) a H Q:=by
 exact h.el λm st τ d st' o l e q=>qzk e λk f j e=>rsI o l j λx m1 H1 b1 c n i=>⟨m1,f,k,d,st',n,i,e,q.mono b1 c⟩
def qi9(h:tL K (λτ st=>(g τ st).bind λp=>(f τ p.2).bind λq=>Y (p.1::q.1,q.2)) a H Q):qlz (tD K g) (tL K f) a H Q:=by
 refine h.el λm st τ d st' s i e q=>qzk e λu t o e=>qzj e λp n e=>?_;have q:=q.of e;exact rsI s i o λx m1 H1 b1 c r l=>rsI r (i.mono b1 c) n λxs j H2 b2 b R2 k=>
  q _ j H2 (b1.trans b2) (c.trans b) R2 (qzo (qzw b2 b _ _ l) k)
def tL_nil(h:tL K (λ_ st=>Y ([],st)) a H Q):tNil a H Q:=by
 refine h.el λm st τ d st' b c e q=>?_;have q:=q.of e;exact q [] m H (Sub.refl m) (Tr.refl H) b qqy
def qqe(h:tD K (λτ st=>(b τ st).bind λp=>g p.2 p.1) a H Q):tCB (rC K g) (tL K b) a H Q:=by
 exact h.el λm st τ d st' l j e q=>qzj e λp i e=>rsI l j i λxs m1 H1 b1 c k f=>⟨m1,p.2,p.1,d,st',k,f,e,q.mono b1 c⟩
end
end MS
end
section
namespace MS
open PySem PySem.Spec PyProof.Rows L2
open M (D Ya Y2 Sl)
section
variable {X:Cx}
def qql:(sizeLine:Y0)=M.lim:=Q1
def qdi:OpR X (Q3 .FloorDiv) (rI (λ_ j=>0<j/\j<2 ^ 64) λi j=>.int (i / j)):=opI λi j _ _ _ _ _ hc q=>by
 refine floordiv_int (by omega) (by rw[Int.fdiv_eq_ediv_of_nonneg i (by omega)]; exact q) (.inl (PyProof.noPylong_of_log2 ?_));have b:j.natAbs<2 ^ 64:=by omega
 have a:j.natAbs≠0:=by omega
 have c:=(Nat.log2_lt a).mpr b;omega
theorem _root_.MS.IsDs.rep{K:Qqq}(h:IsDs K m H ds xs):∀k:Y0,IsDs K m H (List.replicate k ds).flatten (List.replicate k xs).flatten
 |0=>by simp only[List.replicate_zero]; exact qqy
 |k+1=>by
  rw[Qzi,Qzi,Qz6,Qz6];exact h.append (IsDs.rep h k)
def qmv(I:Inv X a m H s)(x:SqL X.K H l xs)(i:SqL X.K H b ys)(hz:xs.length+ys.length<=sizeLine)(q:∀p,H p=J->Q (.ref p) (upd H p (.lst (xs++ys)))):
  wpAny (model X.prog X.w) X.A (Q3 .Add (.ref l) (.ref b)) (EP X a m Q) X.xe s:=by
 obtain⟨vs,r1,pl,_⟩:=I.list x;obtain⟨ws,o,h,_⟩:=I.list i;have C:=r1.length;have A:=o.length;obtain⟨⟨cls,z,u,sl⟩,n,r,hc,y,hd⟩:=pl;obtain⟨⟨v,j,k,g⟩,w,c,f,t,d⟩:=h;simp only at hc hd f d;subst hc hd f d;have e:vs.toArray++ws.toArray=(vs++ws).toArray:=by simp
 refine concat_meets ⟨_,r,rfl⟩ ⟨_,c,rfl⟩ noFill_list_add seq_list_add PySem.F.slot_list_add PySem.F.entry_list_add (PySem.F.args_list_add_2 _ _) (list_addW l b vs.toArray ws.toArray n w z j sl g (by simp; omega)) ⟨r,c,?_⟩;rw[e];exact⟨.ref _,_,I.lnew (r1.append o) (by rw[Qqg]; omega),rfl,q _ I.fresh⟩
def qmw(G):OpR X (Q3 G) (rD X.K λst a b=>M.binop st G a b):=by
 intro pins s σ H x y v u Q I i g h;refine h.el λm st a b d st' c l j e q=>?_;have e:=e;unfold M.binop at e
 split at e
 ·have q:=q.of e;exact op_add pins s σ H x y v u Q I i g ⟨_,_,l.int,j.int,q.here c (mkInt _)⟩
 ·rename_i U bs
  split at e
  ·exact nn e
  ·rename_i hc;have q:=q.of e;rw[Qxa,decide_eq_true_eq,not_or,List.isEmpty_iff]at hc;obtain⟨D,xs,rfl,t,f⟩:=l.tup;obtain⟨F,ys,rfl,A,w⟩:=j.tup;have E:=f.length;have N:=w.length;have K:=qql;refine qmk pins s σ H _ _ v u Q I i g ⟨D,F,xs,ys,rfl,rfl,t,A,?_,by omega,λz=>?_,λz p C=>?_⟩
   ·intro z;subst z;exact hc.1 (Qzs.mp E)
   ·have n:=f.append w;rw[z,Qze]at n;exact q.here c (qxb t n)
   ·have r:=qzc (o:=.tup (xs++ys)) C;exact q _ m _ (Sub.refl m) (Tr.of_same r) (c.same r) (qxb (SqT.of qzy) (qzd (Sub.refl m) (Tr.of_same r) _ _ (f.append w)))
 ·rename_i la V _ _;refine qzj e λT R e=>qzj e λS P e=>?_
  split at e
  ·exact nn e
  ·rename_i hc;have q:=q.of e;obtain⟨D,xs,_,rfl,t,f⟩:=c.seq R l;obtain⟨F,ys,_,rfl,A,w⟩:=c.seq P j;have E:=f.length;have N:=w.length;have K:=qql;cases i;cases g;refine qmv I t A (by omega) λp C=>?_;exact q _ (m++[p]) _ (Sub.app m [p]) (Tr.of_same (qzc C)) (c.new C (f.append w)) c.newLoc
 ·have q:=q.of e;exact op_sub pins s σ H x y v u Q I i g ⟨_,_,l.int,j.int,q.here c (mkInt _)⟩
 ·split at e
  ·rename_i hc;have q:=q.of e;refine op_mul pins s σ H x y v u Q I i g ⟨_,_,l.int,j.int,?_,q.here c (mkInt _)⟩;unfold M.mulOk at hc;simp only[Qxa,Qq0,decide_eq_true_eq]at hc;exact hc
  ·exact nn e
 ·rename_i U k _
  split at e
  ·exact nn e
  ·rename_i hc;have q:=q.of e;simp only[Qxa,decide_eq_true_eq]at hc;obtain⟨D,xs,rfl,t,f⟩:=l.tup;have E:=f.length;have K:=qql;refine qmx pins s σ H _ _ v u Q I i g ⟨D,k,xs,rfl,j.int,t,by omega,by omega,by rw[<- E]; omega,λys A=>⟨λz=>?_,λp C=>?_⟩⟩
   ·have n:=f.rep k.toNat
    rw[<- A,z]at n;exact q.here c (qxb t n)
   ·have r:=qzc (o:=.tup ys) C;have n:=f.rep k.toNat
    rw[<- A]at n;exact q _ m _ (Sub.refl m) (Tr.of_same r) (c.same r) (qxb (SqT.of qzy) (qzd (Sub.refl m) (Tr.of_same r) _ _ n))
 ·split at e
  ·rename_i hc;have q:=q.of e;exact qdi pins s σ H x y v u Q I i g ⟨_,_,l.int,j.int,hc,q.here c (mkInt _)⟩
  ·exact nn e
 ·split at e
  ·rename_i hc;have q:=q.of e;exact op_mod pins s σ H x y v u Q I i g ⟨_,_,l.int,j.int,hc,q.here c (mkInt _)⟩
  ·exact nn e
 ·split at e
  ·rename_i hc;have q:=q.of e;exact op_pow pins s σ H x y v u Q I i g ⟨_,_,l.int,j.int,⟨hc.1,by omega,hc.2.2⟩,q.here c (mkInt _)⟩
  ·exact nn e
 ·exact nn e
def qqq(I:Inv X c e H s)(h:IsD X.K m H (.tup ds) v):∃a xs b,v=.ref a/\SqT X.K H a xs/\IsDs X.K m H ds xs/\Vals xs b/\IsTup s.heap a b.toArray:=by
 obtain⟨a,xs,rfl,d,f⟩:=h.tup;obtain⟨b,r,p,_⟩:=I.tuple d;exact⟨a,xs,b,rfl,d,f,r,p⟩
section
variable {H:Hp}{m:L Y7}
theorem qyp:∀{ds es}{xs},ds.all M.isI=Z->es.all M.isI=Z->IsDs X.K m H ds xs->IsDs X.K m H es xs->ds=es
 |[],es,xs,_,_,h,h'=>by
  rw[h.nil]at h';exact(Qzs.mp h'.length).symm
 |d::ds,es,xs,f,c,h,h'=>by
  obtain⟨x,r,rfl,q,t⟩:=h.cons
  cases es with
  |nil=>cases h'.nil
  |cons e es=>
   obtain⟨j,r',z,i,g⟩:=h'.cons;cases z;rw[Qzp,Qq0]at f c;rw[qyp f.2 c.2 t g]
   cases d with
   |int a=>
    cases e with
    |int b=>cases q.int; cases i.int; rfl
    |_=>cases c.1
   |_=>cases f.1
def qm5(I:Inv X pins σ H s)(f:M.flat n d=Z)(c:M.flat n e=Z)(h:IsD X.K m H d v)(h':IsD X.K m H e v):d=e:=by
 cases d with
 |int b=>
  rw[h.int]at h'
  cases e with
  |tup ds=>obtain⟨a,xs,z,_⟩:=h'.tup; cases z
  |int b=>cases h'.int; rfl
  |str b=>cases h'.str
  |_=>cases c
 |str b=>
  rw[h.str]at h'
  cases e with
  |tup ds=>obtain⟨a,xs,z,_⟩:=h'.tup; cases z
  |int b=>cases h'.int
  |str b=>cases h'.str; rfl
  |_=>cases c
 |tup ds=>
  obtain⟨a,xs,rfl,k,i⟩:=h.tup
  cases e with
  |tup es=>
   obtain⟨b,ys,z,j,g⟩:=h'.tup;cases z;cases I.tuple_inj k j;rw[qyp f c i g]
  |int b=>cases h'.int
  |str b=>cases h'.str
  |_=>cases c
 |_=>cases f
theorem qwp:∀{ds},ds.all M.isI=Z->M.eqTs ds ds=Z
 |[],_=>rfl
 |d::ds,f=>by
  rw[Qzp,Qq0]at f;unfold M.eqTs;rw[qwp f.2,Qx2]
  cases d with
  |int a=>exact beq_self_eq_true a
  |_=>cases f.1
noncomputable def pairE(ds es:L D)(j:Y0):Bool:=match ds[j]?,es[j]? with
 |some d,Y e=>M.eqT d e
 |_,_=>Z
theorem qwr:∀(ds es:L D),M.eqTs ds es=((List.range (min ds.length es.length)).all (pairE ds es)&&ds.length==es.length)
 |[],[]=>rfl
 |[],e::es=>by simp[M.eqTs]
 |d::ds,[]=>by simp[M.eqTs]
 |d::ds,e::es=>by
  simp only[M.eqTs];rw[qwr ds es,Qql,Qql,Nat.add_min_add_right,List.range_succ_eq_map,Qzp,List.all_map,Bool.and_assoc]
  congr 1
  congr 1
  rw[Qj3,beq_iff_eq,beq_iff_eq];omega
def int_at(f:ds.all M.isI=Z)(c:IsDs X.K m H ds xs)(r:Vals xs b)(h:j<b.toArray.size):∃a t,ds[j]?=Y (.int a)/\b.toArray[j]=Value.int a t:=by
 have l:=c.length;have i:=r.length;rw[Qqw]at h;obtain⟨d,g⟩:∃d,ds[j]?=Y d:=⟨_,Qqo (by omega)⟩
 obtain⟨x,k,q⟩:=c.get g;obtain⟨u,w,z⟩:=r.get k;have e:=Qzj.mp f _ (Qqm g)
 cases d with
 |int a=>
  cases q.int;obtain⟨t,rfl⟩:=z;exact⟨a,t,g,(Qjz _).trans (Qqj.mp w).2⟩
 |_=>cases e
def qic(I:Inv X pins σ H s)(n)(A)(d e)(x y)(u v)(T:A.units+n<cLine)(f:M.flat n d=Z)(z:M.flat n e=Z)(G:IsD X.K m H d x)(l:IsD X.K m H e y)(E:RelV x u)(k:RelV y v):SeqAt.EqAt A s u v (M.eqT d e)/\SeqAt.RcAt A s u v (M.eqT d e):=by
 have c:A.units<cLine:=by omega
 cases d with
 |int a=>
  cases G.int; obtain⟨h,rfl⟩:=E
  cases e with
  |tup es=>obtain⟨b,ys,o,rfl,p,q,C,p2⟩:=qqq I l; cases k; exact⟨SeqAt.EqAt.int_tuple a h p2 c,SeqAt.RcAt.int_tuple a h p2 c⟩
  |int b=>cases l.int; obtain⟨t,rfl⟩:=k; exact⟨SeqAt.EqAt.int_int a h b t,SeqAt.RcAt.int_int a h b t⟩
  |str b=>cases l.str; obtain⟨t,rfl⟩:=k; exact⟨SeqAt.EqAt.int_str a h b t,SeqAt.RcAt.int_str a h b t⟩
  |_=>cases z
 |str a=>
  cases G.str; obtain⟨h,rfl⟩:=E
  cases e with
  |tup es=>obtain⟨b,ys,o,rfl,p,q,C,p2⟩:=qqq I l; cases k; exact⟨SeqAt.EqAt.str_tuple a h p2 c,SeqAt.RcAt.str_tuple a h p2 c⟩
  |int b=>cases l.int; obtain⟨t,rfl⟩:=k; exact⟨SeqAt.EqAt.str_int a h b t,SeqAt.RcAt.str_int a h b t⟩
  |str b=>cases l.str; obtain⟨t,rfl⟩:=k; exact⟨SeqAt.EqAt.str_str a h b t,SeqAt.RcAt.str_str a h b t⟩
  |_=>cases z
 |tup ds=>
  obtain⟨a,xs,P,rfl,R,F,r1,p1⟩:=qqq I G;cases E
  cases e with
  |int b=>cases l.int; obtain⟨t,rfl⟩:=k; exact⟨SeqAt.EqAt.tuple_int b t p1 c,SeqAt.RcAt.tuple_int b t p1 c⟩
  |str b=>cases l.str; obtain⟨t,rfl⟩:=k; exact⟨SeqAt.EqAt.tuple_str b t p1 c,SeqAt.RcAt.tuple_str b t p1 c⟩
  |tup es=>
   obtain⟨b,ys,o,rfl,p,q,C,p2⟩:=qqq I l;cases k;have K:SeqAt.RcAt A s (.ref a) (.ref b) (M.eqTs ds es):=by
    have:=SeqAt.RcAt.tuples p1 p2 c (e:=pairE ds es) λj h1 h2=>by
     obtain⟨i,t,g,w⟩:=int_at f F r1 h1;obtain⟨Q,h,S,N⟩:=int_at z q C h2;rw[w,N];unfold pairE;rw[g,S];exact SeqAt.EqAt.int_int i t Q h
    rw[qwr,F.length,q.length,r1.length,C.length];simpa using this
   refine⟨?_,K⟩
   by_cases r:a=b
   ·subst r;cases I.tuple_inj R p;cases qyp f z F q;show SeqAt.EqAt A s _ _ (M.eqTs ds ds);rw[qwp f];exact SeqAt.EqAt.same _
   ·exact SeqAt.EqAt.of_refs r K
  |_=>cases z
 |_=>cases f
end
end
end MS
end
section
namespace MS
open PySem PySem.Spec PyProof.Rows L2
section
end
end MS
end
section
namespace MS
open PySem PySem.Spec PyProof.Rows L2
open M (D Ya Y2 Sl)
section
variable {X:Cx}
section
def qff(I:Inv X pins σ H s)(A)(E:A.units+9<cLine)(G:M.flat 9 d0=Z)(F:IsD X.K m H d0 g)(p:RelV g c):
  ∃e:Y8->Yb,∀(ds:L D) (xs:L V) (a:L Y8),M.flats 9 ds=Z->IsDs X.K m H ds xs->Vals xs a->(∀w∈a,SeqAt.EqAt A s w c (e w))/\a.any e=ds.any λy=>M.eqT y d0:=by
 classical
 refine⟨λw=>decide (∃d x,M.flat 9 d=Z/\IsD X.K m H d x/\RelV x w/\M.eqT d d0=Z),λds=>?_⟩;have b:∀d x w,M.flat 9 d=Z->IsD X.K m H d x->RelV x w->decide (∃d x,M.flat 9 d=Z/\IsD X.K m H d x/\RelV x w/\M.eqT d d0=Z)=M.eqT d d0:=by
  intro d x w f i r
  cases q:M.eqT d d0 with
  |true=>exact Zs ⟨d,x,f,i,r,q⟩
  |false=>
   refine Zu ?_;rintro⟨d',S,K,C,r',k⟩;have P:=r.inj r';subst P;have N:=qm5 I f K i C;subst N;rw[q]at k;cases k
 induction ds with
 |nil=>
  intro xs a _ h r;rw[h.nil]at r;cases r;exact⟨λw j=>(by cases j),rfl⟩
 |cons d ds v=>
  intro xs a f h r;obtain⟨x,l,rfl,q,t⟩:=h.cons;simp only[ Qzp,Qq0]at f
  cases r with
  |@cons _ u _ n r1 o=>
   obtain⟨R,Q⟩:=v l n f.2 t o;refine⟨λw j=>?_,?_⟩
   ·rcases Qqy.mp j with z|z
    ·subst z;show SeqAt.EqAt A s w c (decide _);rw[b d x w f.1 q r1];exact(qic I 9 A d d0 x g w c E f.1 G q F r1 p).1
    ·exact R w z
   ·rw[Qz8,Qz8,Q]
    congr 1
    exact b d x u f.1 q r1
end
def qh9(n)(G:X.A.units+64<cLine):OpR X (Qd (cond n .NotIn .In)) (rD X.K λst a b=>(M.inD st a b).map λk=>(.bl (cond n (!k) k),st)):=by
 intro pins s σ H x y v u Q I A z h;refine h.el λm st a b d st' F D C e q=>qzg e λk f t=>?_;cases t;have i:X.A.in1.units+9<cLine:=by have hz:X.A.in1.units=X.A.units+1:=rfl; lia
 have q:=q.here F (mkBl _)
 cases b with
 |tup ds=>
  simp only[M.inD]at f
  split at f
  ·rename_i hf;cases f;rw[Qq0]at hf;obtain⟨p,xs,c,rfl,E,j,r,pl⟩:=qqq I C;cases z;obtain⟨ef,o⟩:=qff I X.A.in1 i hf.1 D A;obtain⟨h1,h2⟩:=o ds xs c hf.2 j r;have e:c.toArray.any ef=c.any ef:=by simp
   rw[<- h2,<- e]at q;cases n
   ·exact SeqAt.in_tupleAt ef pl (λw g=>h1 w (by simpa using g)) ⟨.bl _,H,I,rfl,q⟩
   ·exact SeqAt.notIn_tupleAt ef pl (λw g=>h1 w (by simpa using g)) ⟨.bl _,H,I,rfl,q⟩
  ·exact nn f
 |loc l|lst l=>
  simp only[M.inD]at f;refine qzj f λds t f=>?_
  split at f
  ·rename_i hf;cases f;rw[Qq0]at hf;obtain⟨p,xs,_,rfl,E,j⟩:=F.seq t C;cases z;obtain⟨c,r,pl,_⟩:=I.list E;obtain⟨ef,o⟩:=qff I X.A.in1 i hf.1 D A;obtain⟨h1,h2⟩:=o ds xs c hf.2 j r;have e:c.toArray.any ef=c.any ef:=by simp
   rw[<- h2,<- e]at q;cases n
   ·exact SeqAt.in_listAt ef pl.isList (λw g=>h1 w (by simpa using g)) ⟨.bl _,H,I,rfl,q⟩
   ·exact SeqAt.notIn_listAt ef pl.isList (λw g=>h1 w (by simpa using g)) ⟨.bl _,H,I,rfl,q⟩
  ·exact nn f
 |_=>simp[M.inD,M.seqAt]at f
def op_eqD(w:X.A.units+64<cLine):OpR X (Qd .Eq) (rD X.K λst a b=>(M.eqD st a b).map λk=>(.bl k,st)):=by
 intro pins s σ H x y v u Q I f j h;refine h.el λm st a b d st' n g l e q=>qzg e λk c p=>?_;cases p;unfold M.eqD at c
 split at c
 ·cases c; cases g.bl; cases l.bl; cases f; cases j; exact SeqAt.RcAt.bool_bool _ _ _ _ _ _ ⟨.bl _,H,I,rfl,q.here n (mkBl _)⟩
 ·cases c; cases g.non; cases l.non; cases f; cases j; exact SeqAt.RcAt.none_none _ _ _ _ ⟨.bl _,H,I,rfl,q.here n (mkBl _)⟩
 ·split at c
  ·rename_i hf;cases c;rw[Qq0]at hf;have K:=q.here n (mkBl _)
   cases hb:M.flat 9 b with
   |true=>exact(qic I 9 X.A a b x y v u (by lia) hf.1 hb g l f j).2 _ _ _ _ ⟨.bl _,H,I,rfl,K⟩
   |false=>
    rw[hb]at hf
    cases b with
    |non=>
     cases l.non; cases j
     cases a with
     |int i=>cases g.int; obtain⟨t,rfl⟩:=f; exact SeqAt.RcAt.int_none i t _ _ _ _ ⟨.bl _,H,I,rfl,K⟩
     |str i=>cases g.str; obtain⟨t,rfl⟩:=f; exact SeqAt.RcAt.str_none i t _ _ _ _ ⟨.bl _,H,I,rfl,K⟩
     |tup ds=>
      obtain⟨a,xs,o,rfl,z,r,r1,p1⟩:=qqq I g;cases f;exact SeqAt.RcAt.tuple_none p1 (by lia) _ _ _ _ ⟨.bl _,H,I,rfl,K⟩
     |_=>cases hf.1
    |_=>cases hf.2
  ·exact nn c
def op_neD:OpR X (Qd .NotEq) (rD X.K λst a b=>(M.neD st a b).map λk=>(.bl k,st)):=by
 intro pins s σ H x y v u Q I i g h;refine h.el λm st a b d st' n l j e q=>qzg e λk c o=>?_;cases o;unfold M.neD at c
 split at c
 ·cases c;cases l.int; cases j.int;obtain⟨t,rfl⟩:=i;obtain⟨f,rfl⟩:=g;exact SeqAt.RcNeAt.int_int _ t _ f _ _ _ _ ⟨.bl _,H,I,rfl,q.here n (mkBl _)⟩
 ·cases c;cases l.str; cases j.str;obtain⟨t,rfl⟩:=i;obtain⟨f,rfl⟩:=g;exact SeqAt.RcNeAt.str_str _ t _ f _ _ _ _ ⟨.bl _,H,I,rfl,q.here n (mkBl _)⟩
 ·exact nn c
def qar{K:Qqq}(h:IsD K m H d x):decide (x=.non)=M.isNon d:=by
 cases d with
 |non=>rw[h.non]; rfl
 |bl b=>rw[h.bl]; rfl
 |int b=>rw[h.int]; rfl
 |str b=>rw[h.str]; rfl
 |tup ds=>obtain⟨a,xs,rfl,_⟩:=h.tup; rfl
 |loc l=>obtain⟨a,_,rfl⟩:=h.loc; rfl
 |lst l=>obtain⟨a,xs,rfl,_⟩:=h.lst; rfl
def qxs(n:X.A.units+64<cLine)(p):OpR X (Qd p) (rD X.K λst a b=>(M.cmpD st p a b).map λk=>(.bl k,st)):=by
 intro pins s σ H x y v u Q I g f h;obtain⟨m,st,a,b,d,st',l,j,i,e,q⟩:=h;refine qzg e λk c o=>?_;cases o;unfold M.cmpD at c
 split at c
 ·cases c;exact op_lt pins s σ H x y v u Q I g f ⟨_,_,j.int,i.int,q.here l (mkBl _)⟩
 ·cases c;exact op_le pins s σ H x y v u Q I g f ⟨_,_,j.int,i.int,q.here l (mkBl _)⟩
 ·cases c;exact op_gt pins s σ H x y v u Q I g f ⟨_,_,j.int,i.int,q.here l (mkBl _)⟩
 ·cases c;exact op_ge pins s σ H x y v u Q I g f ⟨_,_,j.int,i.int,q.here l (mkBl _)⟩
 ·exact op_eqD n pins s σ H x y v u Q I g f ⟨m,st,a,b,_,_,l,j,i,by dsimp only; rw[c]; rfl,q⟩
 ·exact op_neD pins s σ H x y v u Q I g f ⟨m,st,a,b,_,_,l,j,i,by dsimp only; rw[c]; rfl,q⟩
 ·cases c;refine op_isN pins s σ H x y v u Q I g f ⟨i.non,?_⟩;rw[qar j];exact q.here l (mkBl _)
 ·cases c;refine qmj pins s σ H x y v u Q I g f ⟨i.non,?_⟩;rw[qar j];exact q.here l (mkBl _)
 ·exact qh9 Y6 n pins s σ H x y v u Q I g f ⟨m,st,a,b,_,_,l,j,i,by dsimp only; rw[c]; rfl,q⟩
 ·obtain⟨k,o,rfl⟩:=mapD c;exact qh9 Z n pins s σ H x y v u Q I g f ⟨m,st,a,b,_,_,l,j,i,by dsimp only; rw[o]; rfl,q⟩
 ·exact nn c
def qir{K:Qqq}{st:Y2}(j:Rel K m st H)(h:IsD K m H d x)(e:M.truth st d=Y k):TruV K x H k:=by
 cases d with
 |non=>rw[h.non]; simp only[M.truth]at e; exact(Option.some.inj e).symm
 |bl b=>rw[h.bl]; simp only[M.truth]at e; exact(Option.some.inj e).symm
 |int b=>rw[h.int]; simp only[M.truth]at e; exact(Option.some.inj e).symm
 |str b=>exact nn e
 |tup ds=>
  obtain⟨a,xs,rfl,f,c⟩:=h.tup;simp only[M.truth]at e;refine .inr (.inl ⟨xs,f,?_⟩);have:=c.length;cases e;cases ds<;>cases xs<;>simp_all
 |loc l=>
  simp only[M.truth]at e;refine qzg e λds i g=>?_;obtain⟨a,xs,_,rfl,f,c⟩:=j.seq i h;refine .inl ⟨xs,f,?_⟩;have:=c.length;subst g;cases ds<;>cases xs<;>simp_all
 |lst l=>
  simp only[M.truth]at e;refine qzg e λds i g=>?_;obtain⟨a,xs,_,rfl,f,c⟩:=j.seq i h;refine .inl ⟨xs,f,?_⟩;have:=c.length;subst g;cases ds<;>cases xs<;>simp_all
def qig{K:Qqq}(a:IsDs K m H ds xs)(e:M.atI ds i=Y d):∃x,L2.atI xs i=Y x/\IsD K m H d x:=by
 unfold M.atI at e;refine qzj e λj g f=>?_;obtain⟨x,c,q⟩:=a.get f;refine⟨x,?_,q⟩;unfold L2.atI;have b:L2.ixN xs.length i=Y j:=by rw[<- a.length]; exact g
 rw[b];exact c
def ix_D:IxR X (rD X.K λst a b=>(M.idxD st a b).map λd=>(d,st)):=by
 intro value c pins s σ H x y v u Q I t r h hs;obtain⟨m,st,a,b,d,st',o,A,z,e,q⟩:=h;refine qzg e λk f n=>?_;cases n;unfold M.idxD at f
 split at f
 ·obtain⟨p,xs,rfl,j,g⟩:=A.tup;obtain⟨w,l,i⟩:=qig g f;exact ix_tup value c pins s σ H _ _ v u Q I t r ⟨p,xs,_,w,rfl,z.int,j,l,q.here o i⟩ hs
 ·refine qzj f λds n f=>?_;obtain⟨p,xs,_,rfl,j,g⟩:=o.seq n A;obtain⟨w,l,i⟩:=qig g f;exact qm2 value c pins s σ H _ _ v u Q I t r ⟨p,xs,_,w,rfl,z.int,j,l,q.here o i⟩ hs
 ·exact nn f
def qfq:qqk X (.type "int") (rC X.K M.bInt):=by
 intro pins s σ H xs a Q I r h;refine h.el λm st ds d st' c b e q=>?_;unfold M.bInt at e
 split at e
 ·rename_i i;have q:=q.of e;obtain⟨x,rfl,j⟩:=b.one;exact qw5 pins s σ H _ a Q I r (.inl ⟨i,by rw[j.int],q.here c (mkInt _)⟩)
 ·rename_i k;have q:=q.of e;obtain⟨x,rfl,j⟩:=b.one;exact qw5 pins s σ H _ a Q I r (.inr ⟨k,by rw[j.bl],q.here c (mkInt _)⟩)
 ·exact nn e
def rSixD(K:Qqq):V->V->V->Hp->(Hp->Prop)->Prop:=λo i v H Q=>∃m st a b c st',Rel K m st H/\IsD K m H a o/\IsD K m H b i/\IsD K m H c v/\M.sixD st a b c=Y st'/\
 ∀m' H',Sub m m'->Tr H H'->Rel K m' st' H'->Q H'
def six_D:PSet X (rSixD X.K):=by
 intro pins s σ H o i v n r u Q I ro l k h;obtain⟨m,st,a,b,c,st',g,x,w,t,e,q⟩:=h;unfold M.sixD at e
 split at e
 ·refine qzj e λds C e=>?_;obtain⟨j,A,z⟩:=mapD e;subst z;obtain⟨p,xs,y,rfl,d,f,hs⟩:=g.wlist C x;refine set_list pins s σ H _ _ _ n r u Q I ro l k ⟨p,xs,_,j,rfl,w.int,d,by rw[<- f.length]; exact A,?_⟩;exact q m _ (Sub.refl m) (Tr.put d) (g.put hs y d (f.set j t))
 ·exact nn e
def qb0:MtM X "list.append" (λx xs H Q=>∃m st a ds d st',Rel X.K m st H/\IsD X.K m H a x/\IsDs X.K m H ds xs/\M.mAppend st a ds=Y (d,st')/\Post X.K m H d st' Q):=by
 intro pins s σ H x xs v g Q I i j h;obtain⟨m,st,a,ds,d,st',f,n,l,e,q⟩:=h;unfold M.mAppend at e
 split at e
 ·refine qzj e λt r e=>?_
  split at e
  ·rename_i z;have q:=q.of e;obtain⟨p,ys,o,rfl,b,c,hs⟩:=f.wlist r n;obtain⟨y,rfl,k⟩:=l.one;have w:=c.length;have u:=qql;refine qdn pins s σ H _ _ v g Q I i j ⟨p,ys,y,rfl,rfl,b,by lia,?_⟩;exact q _ m _ (Sub.refl m) (Tr.put b) (f.put hs o b (c.append (qzo k qqy))) qvb
  ·exact nn e
 ·exact nn e
def rSlD(K:Qqq):V->Y3 B->Y3 B->Hp->VK->Prop:=λx lo hi H Q=>∃m st a d st',Rel K m st H/\IsD K m H a x/\M.sliD st a lo hi=Y (d,st')/\Post K m H d st' Q
theorem _root_.MS.IsDs.take{K:Qqq}:∀{ds:L D}{xs:L V}(n:Y0),IsDs K m H ds xs->IsDs K m H (ds.take n) (xs.take n)
 |_,_,0,_=>by simp only[Qj7]; exact qqy
 |[],_,n+1,h=>by rw[h.nil]; simp only[List.take_nil]; exact qqy
 |d::ds,_,n+1,h=>by
  obtain⟨x,r,rfl,q,t⟩:=h.cons;simp only[List.take_succ_cons];exact qzo q (IsDs.take n t)
theorem _root_.MS.IsDs.drop{K:Qqq}:∀{ds:L D}{xs:L V}(n:Y0),IsDs K m H ds xs->IsDs K m H (ds.drop n) (xs.drop n)
 |_,_,0,h=>by simp only[List.drop_zero]; exact h
 |[],_,n+1,h=>by rw[h.nil]; simp only[List.drop_nil]; exact qqy
 |d::ds,_,n+1,h=>by
  obtain⟨x,r,rfl,q,t⟩:=h.cons;simp only[List.drop_succ_cons];exact IsDs.drop n t
def qa8(n d)(o):M.cutIx n d o=HT.sIx n d o:=by
 cases o<;>rfl
def qie{K:Qqq}(h:IsDs K m H ds xs)(lo hi):IsDs K m H (M.cut ds lo hi) (cutV xs lo hi):=by
 unfold M.cut cutV;rw[qa8,qa8,h.length];exact(h.drop _).take _
def sl_D:SlR X (rSlD X.K):=by
 intro pins s σ H x v vl w lo hi sl Q I i hs pl pu h;obtain⟨m,st,a,d,st',c,y,e,q⟩:=h;unfold M.sliD at e
 split at e
 ·have q:=q.of e;obtain⟨p,xs,rfl,t,j⟩:=y.tup;have n:=qie j lo hi
  by_cases f:HT.sIx xs.length 0 lo=0/\HT.sIx xs.length xs.length hi=xs.length
  ·cases i;obtain⟨k,r,z,hz⟩:=I.tuple t;refine⟨"tuple",_,PyProof.Rows.slot_tuple_getitem.lookup,z.typeIs,?_⟩;have b:k.toArray.size=xs.length:=by rw[Qqw]; exact r.length.symm
   refine qxq z hs pl pu (by rw[b]; exact f) ?_;refine⟨.ref p,H,I,rfl,q.here c (qxb t ?_)⟩;have u:cutV xs lo hi=xs:=by
    unfold cutV;rw[f.1,f.2];simp
   rw[u]at n;exact n
  ·refine sl_tup pins s σ H _ v vl w lo hi sl Q I i hs pl pu ⟨p,xs,rfl,t,f,λF D=>?_⟩;have g:=qzc (o:=.tup (cutV xs lo hi)) D;exact q _ m _ (Sub.refl m) (Tr.of_same g) (c.same g) (qxb (SqT.of qzy) (qzd (Sub.refl m) (Tr.of_same g) _ _ n))
 ·refine qzg e λds u E=>?_;cases E;obtain⟨p,xs,_,rfl,C,j⟩:=c.seq u y;exact qlk pins s σ H _ v vl w lo hi sl Q I i hs pl pu ⟨p,xs,rfl,C,λl A=>q _ (m++[l]) _ (Sub.app m [l]) (Tr.of_same (qzc A)) (c.new A (qie j lo hi)) c.newLoc⟩
def qe8:qqk X (.builtin "len") (rC X.K M.bLen):=by
 intro pins s σ H xs f Q I r h;refine h.el λm st ds d st' c g e q=>?_;unfold M.bLen at e
 split at e
 ·have q:=q.of e;obtain⟨x,rfl,i⟩:=g.one;obtain⟨p,ys,rfl,b,a⟩:=i.tup;refine qjj pins s σ H _ f Q I r ⟨p,ys,rfl,.inr b,?_⟩;rw[<- a.length];exact q.here c (mkInt _)
 ·refine qzg e λl k j=>?_;cases j;obtain⟨x,rfl,i⟩:=g.one;obtain⟨p,ys,_,rfl,b,a⟩:=c.seq k i;refine qjj pins s σ H _ f Q I r ⟨p,ys,rfl,.inl b,?_⟩;rw[<- a.length];exact q.here c (mkInt _)
 ·exact nn e
def qe3(hc:X.calm=Z):qqk X (.builtin "min") (rC X.K M.bMin):=by
 intro pins s σ H xs a Q I r h;refine h.el λm st ds d st' c b e q=>?_;unfold M.bMin at e
 split at e
 ·have q:=q.of e;obtain⟨x,y,rfl,i,j⟩:=b.two;cases i.int; cases j.int;exact qe4 hc pins s σ H _ a Q I r ⟨_,_,rfl,q.here c (mkInt _)⟩
 ·exact nn e
def qe5(hc:X.calm=Z):qqk X (.builtin "max") (rC X.K M.bMax):=by
 intro pins s σ H xs a Q I r h;refine h.el λm st ds d st' c b e q=>?_;unfold M.bMax at e
 split at e
 ·have q:=q.of e;obtain⟨x,y,rfl,i,j⟩:=b.two;cases i.int; cases j.int;exact qe6 hc pins s σ H _ a Q I r ⟨_,_,rfl,q.here c (mkInt _)⟩
 ·exact nn e
def qy4:qqk X (.type "tuple") (rC X.K M.bTuple):=by
 intro pins s σ H xs g Q I r h;refine h.el λm st ds d st' f j e q=>?_;unfold M.bTuple at e
 split at e
 ·have q:=q.of e;obtain⟨x,rfl,i⟩:=j.one;obtain⟨p,ys,rfl,a,c⟩:=i.tup;exact qxo pins s σ H _ g Q I r ⟨p,ys,rfl,.inr ⟨a,q.here f (qxb a c)⟩⟩
 ·refine qzg e λu t n=>?_;cases n;obtain⟨x,rfl,i⟩:=j.one;obtain⟨p,ys,_,rfl,a,c⟩:=f.seq t i;refine qxo pins s σ H _ g Q I r ⟨p,ys,rfl,.inl ⟨a,λl k=>?_⟩⟩;have b:=qzc (o:=.tup ys) k;exact q _ m _ (Sub.refl m) (Tr.of_same b) (f.same b) (qxb (SqT.of qzy) (qzd (Sub.refl m) (Tr.of_same b) _ _ c))
 ·exact nn e
theorem qj2:∀{xs}{vs}{b},KV xs vs->b.length=vs.length->(∀(j:Y0) (v:Y8),b[j]?=Y v->∃k x,vs[j]?=Y (k,x)/\(mixKind P w).is k v=Z)->Vals (xs.map λp=>kV p.1) b
 |[],_,b,.nil,a,_=>by
  rw[Qzs.mp a];exact .nil
 |(k,x)::xs,(l,u)::vs,[],.cons _ _,a,_=>by cases a
 |(k,x)::xs,(l,u)::vs,v::b,.cons h r,a,hv=>by
  obtain⟨q,o,e,hk⟩:=hv 0 v rfl;cases e;have c:=h.1;subst c;refine .cons ?_ (qj2 (P:=P) (w:=w) r (by simpa using a) λj f e=>?_)
  ·rcases qzh hk with⟨i,t,rfl,rfl⟩|⟨z,t,rfl,rfl⟩
   ·exact⟨t,rfl⟩
   ·exact⟨t,rfl⟩
  ·obtain⟨g,d,n,m⟩:=hv (j+1) f (by simpa using e);exact⟨g,d,by simpa using n,m⟩
theorem IsKV.keys{K:Qqq}:∀{kvs}{xs},IsKV K m H kvs xs->IsDs K m H (M.keysOf kvs) (xs.map λp=>kV p.1)
 |[],_,h=>by rw[show _=[] from h]; exact qqy
 |p::r,_,⟨k,v,a,e,hk,hv,hr⟩=>by
  subst e;refine qzo ?_ hr.keys;obtain⟨d,e⟩:=p
  cases d with
  |int i=>cases hk; exact mkInt i
  |str z=>cases hk; exact mkStr z
  |_=>exact nn hk
theorem Rel.dkeys{K:Qqq}{st:Y2}(h:Rel K m st H)(e:M.dkeys st d=Y ds)(hv:IsD K m H d v):∃a xs,v=.ref a/\Rd H a (.dK xs)/\IsDs K m H ds (xs.map λp=>kV p.1):=by
 cases d with
 |loc l=>
  obtain⟨kvs,b,rfl⟩:=mapD e;obtain⟨a,xs,_,rfl,hr,hk⟩:=h.dict b hv;exact⟨a,xs,rfl,hr,hk.keys⟩
 |_=>exact nn e
def qem(I:Inv X b f H s)(e:Rd H a (.dK xs)):∃vs c,KV xs vs/\s.heap.DictAt (mixKind X.prog X.w) a vs c/\(a==Qh)=Y6/\vs.length<=sizeLine:=by
 obtain⟨hz,lo,vs,d,o,es,c,r⟩:=qwu I.hok e;exact⟨vs,c,d,⟨o,es,r⟩,lo,by rw[<- d.length]; exact hz⟩
def qke(k:X.A.handled=J):qqk X (.type "list") (λxs H Q=>∃p ys,xs=[.ref p]/\Rd H p (.dK ys)/\∀l,H l=J->Q (.ref l) (upd H l (.lst (ys.map λq=>kV q.1)))):=by
 intro pins s σ H xs o Q I r h;obtain⟨p,ys,rfl,i,q⟩:=h;obtain⟨u,rfl,f⟩:=vals1 r;cases f;obtain⟨vs,t,b,n,lo,hn⟩:=qem I i;refine PySem.W.kdl_call (PySem.W.kdl_dict lo) k n hn λh' tk a c hk m d=>?_;have g:=qj2 b (by rw[Qzh]; exact d.1) λj v e=>d.2 j v (by rw[<- Qq1]; exact e);refine⟨.ref s.heap.objs.size,_,I.laid hk (Qqv _) (show ObjOk X.prog X.w _ h' _ (.lst (ys.map λq=>kV q.1)) from⟨?_,a.toList,c,g,m⟩),rfl,q _ (I.hok.fresh (Qqv _))⟩;rw[Qqx,b.length]; exact hn
def qy3(K:PySem.W.KdlSrc X.prog X.w T r d n P t)(C:A.handled=J)(hok:t s.heap)(z:n<=sizeLine)(h:∀(a:Heap) (k:Y0) (vs:Array Y8),(∀b o,s.heap.get? b=Y o->a.get? b=Y o)->s.heap.objs.size<a.objs.size->ItemsOf P vs n->R vs.toList { s with heap:=a,toks:=k }):wpAny (model X.prog X.w) A (collect (.ref r)) R E s:=by
 have lt:=K.there _ hok
 let g:=s.heap.objs.size
 let p:=s.heap.push { cls:=.type "list",data:=.seq ([]:L Y8).toArray }
 have hg:p.get? g=Y { cls:=.type "list",data:=.seq #[] }:=Qqn _ rfl;have ext:=PySem.W.kdl_extend (s:={ s with heap:=p }) (R:=λq m=>∃(a:Heap) (k:Y0) (vs:Array Y8) (c:Y0),q=.ok (.ret (.ref g))/\m={ s with heap:=a,toks:=k }/\(∀b o,s.heap.get? b=Y o->a.get? b=Y o)/\a.get? g=Y { cls:=.type "list",dict:=J,data:=.seq vs c,slots:=#[] }/\ItemsOf P vs n)
  K C (K.keep _ _ hok λb _ o e=>Qqz _ e) g (Qxn lt.1) (Qxn lt.2) (.ref g) 0 hg
  (λa k vs c l i j=>⟨a,k,vs,c,rfl,rfl,λb o e=>l b o (Qq4 (Qqe e)) (Qqz _ e),i,j⟩) z
 unfold collect;apply Qq;apply wpAny_runValue;apply Zk entry_proto_collect';rw[Around.under_plainId PySem.F.plain_proto_collect _];apply Qq;refine Qm (Qj ⟨plainId_quiet PySem.F.plain_list_iadd _,?_⟩);apply Zk entry_list_iadd';rw[Around.under_plainId PySem.F.plain_list_iadd _];refine Qe (ext) (λD m x=>?_) λe m x=>?_
 ·cases D with
  |done f=>
   rcases x with⟨a,k,vs,c,e,rfl,l,i,j⟩
   cases e;apply Qq;apply wpAny_load i;exact Qj (h a k vs l (Qqe i) j)
  |again c=>
   rcases x with⟨v,u⟩
   refine⟨v,Q8 u λw F y=>?_⟩
   rcases y with⟨a,k,vs,c,rfl,rfl,l,i,j⟩
   apply Qq;apply wpAny_load i;exact Qj (h a k vs l (Qqe i) j)
 ·rcases x with⟨_,_,_,_,e,_⟩
  cases e
def qbe(K:PySem.W.KdlSrc X.prog X.w T r d n P u)(w:A.handled=J)(hok:u s.heap)(F:n<64)(y:∀vs:L Y8,vs.length=n->(∀(j:Y0) (v:Y8),vs[j]?=Y v->P j v)->Zm vs ns)(h:∀(a:Y7) (h':Heap) (m e:Y0) (f:Array Y8) (c:L B),(∀b o,s.heap.get? b=Y o->h'.get? b=Y o)->s.heap.objs.size<=a->h'.get? a=Y (seqObj "list" f e)->Zm f.toList c->c.Perm ns->c.Pairwise (· <= ·)->Q (.ref a) { s with heap:=h',toks:=m }):
  wpAny (model X.prog X.w) A (call (.builtin "sorted") [.ref r]) Q E s:=by
 have i:n<=sizeLine:=by rw[Q1]; lia
 apply PySem.Calls.call_function_entry kind_sorted plain_sorted entry_sorted (args_sorted1 _);unfold Zy.«sorted»;apply Qq;apply Qj;apply Qq;apply qy3 (A:=A.in1) K w hok i;intro h1 m g hk k t;have p:g.toList.length=n:=by rw[Qzh]; exact t.1
 have hi:=y g.toList p λj v e=>t.2 j v (by rw[<- Qq1]; exact e);apply Qq;refine wpAny_newList ?_ (by rw[p]; exact i);have l:(h1.push (seqObj "list" g.toList.toArray 0)).get? h1.objs.size=Y (seqObj "list" g.toList.toArray 0):=Qqn _ rfl;apply Qq;apply Qn;refine Qr slot_list_sort ⟨_,l,rfl⟩ entry_list_sort (list_sort_tree l hi (by lia) λf c D C z=>⟨_,rfl,?_⟩) (args_list_sort _);obtain⟨e,x⟩:=sortedHeap_at l;refine Qj ⟨_,rfl,h _ _ _ e f c (λb o q=>?_) ?_ x D C z⟩
 ·have hb:=Qqe (hk b o q);exact(sortedHeap_old (Qq4 hb) (by rw[size_push']; exact Qxu hb)).trans (Qqz _ (hk b o q))
 ·exact Qx9 k
def qck(n:X.A.handled=J):qqk X (.type "list") (rC X.K M.bList):=by
 intro pins s σ H xs j Q I r h;refine h.el λm st ds d st' b k e q=>?_;unfold M.bList at e
 split at e
 ·have q:=q.of e;obtain⟨x,rfl,i⟩:=k.one;obtain⟨p,ys,rfl,f,c⟩:=i.tup;exact qjx pins s σ H _ j Q I r ⟨p,ys,rfl,.inr f,λl a=>q _ (m++[l]) _ (Sub.app m [l]) (Tr.of_same (qzc a)) (b.new a c) b.newLoc⟩
 ·refine qzg e λt g o=>?_;cases o;obtain⟨x,rfl,i⟩:=k.one;rcases orO g with g|g
  ·obtain⟨p,ys,_,rfl,f,c⟩:=b.seq g i;exact qjx pins s σ H _ j Q I r ⟨p,ys,rfl,.inl f,λl a=>q _ (m++[l]) _ (Sub.app m [l]) (Tr.of_same (qzc a)) (b.new a c) b.newLoc⟩
  ·obtain⟨p,ys,rfl,f,c⟩:=b.dkeys g i;exact qke n pins s σ H _ j Q I r ⟨p,ys,rfl,f,λl a=>q _ (m++[l]) _ (Sub.app m [l]) (Tr.of_same (qzc a)) (b.new a c) b.newLoc⟩
 ·exact nn e
theorem qvn{K:Qqq}:∀{ds}{xs}{a}{bs},M.asBools ds=Y bs->IsDs K m H ds xs->Vals xs a->LSm.BoolsAre a bs
 |[],_,_,_,e,c,r=>by
  rw[c.nil]at r;cases r;cases e;exact .nil
 |d::ds,_,_,_,e,c,r=>by
  obtain⟨x,j,rfl,q,t⟩:=c.cons
  cases d with
  |bl b=>
   simp only[M.asBools]at e;refine qzg e λi h g=>?_;subst g;cases q.bl
   cases r with
   |cons r1 f=>
    cases r1;exact .cons b (qvn h t f)
  |_=>simp[M.asBools]at e
theorem ints_of{K:Qqq}:∀{ds}{xs}{ns},M.asInts ds=Y ns->IsDs K m H ds xs->xs=ns.map V.int/\ds=ns.map D.int
 |[],_,_,e,a=>by
  cases e;exact⟨a.nil,rfl⟩
 |d::ds,_,_,e,a=>by
  obtain⟨x,h,rfl,q,t⟩:=a.cons
  cases d with
  |int b=>
   simp only[M.asInts]at e;refine qzg e λg f c=>?_;subst c;cases q.int;obtain⟨h1,h2⟩:=ints_of f t;rw[h1,h2];exact⟨rfl,rfl⟩
  |_=>simp[M.asInts]at e
def qfj(hc:X.calm=Z):qqk X (.builtin "all") (rC X.K M.bAll):=by
 intro pins s σ H xs E Q I r h;refine h.el λm st ds d st' j o e q=>?_;unfold M.bAll at e
 split at e
 ·refine qzj e λD C e=>qzg e λbs z y=>?_;cases y;obtain⟨x,rfl,i⟩:=o.one;obtain⟨p,ys,_,rfl,t,n⟩:=j.seq C i;obtain⟨u,rfl,l⟩:=vals1 r;cases l;obtain⟨a,k,pl,_⟩:=I.list t;have hb:=qvn z n k;have f:=pl.isList;have c:p<s.heap.objs.size:=by obtain⟨_,e,_⟩:=id f; exact Qqe e
  refine call_all_walk (Za f ?_)
  refine⟨s.heap.objs.size,[s.heap.objs.size,p],[s.heap.objs.size],a.toArray.size,_,_,λi=>(bs[i]?).getD Z,rfl,Walks.list (A:=X.A.in1) (I.ok.hd hc) _ p (Qq4 c) a.toArray,
   ⟨⟨_,Qqn _ rfl,rfl,rfl⟩,f.push _⟩,λi v s' F G w g=>?_,λh' tk hk=>?_⟩
  ·obtain⟨b,e,rfl⟩:=hb.get i v (by simpa using w);simp only[e]at g;exact Qb g
  ·have e:((List.range a.toArray.size).all λi=>(bs[i]?).getD Z)=bs.all id:=by
    rw[Qqw,hb.length]; exact LSm.range_all bs
   rw[e];exact⟨.bl _,H,I.kept (LSm.kept_iter hk),rfl,q.here j (mkBl _)⟩
 ·exact nn e
def range_any(bs:L Yb):((List.range bs.length).any λi=>(bs[i]?).getD Y6)=bs.any id:=by
 rw[Qj3,Qx5,Qx5];constructor
 ·rintro⟨i,hi,h⟩;have hi:=Qzr.mp hi;rw[Qqo hi]at h;exact⟨bs[i],Qxl hi,h⟩
 ·rintro⟨b,hb,h⟩;obtain⟨i,hi,rfl⟩:=Qz0 hb;exact⟨i,Qzr.mpr hi,by rw[Qqo hi]; exact h⟩
def qfx(hc:X.calm=Z):qqk X (.builtin "any") (rC X.K M.bAny):=by
 intro pins s σ H xs E Q I r h;refine h.el λm st ds d st' j o e q=>?_;unfold M.bAny at e
 split at e
 ·refine qzj e λD C e=>qzg e λbs z y=>?_;cases y;obtain⟨x,rfl,i⟩:=o.one;obtain⟨p,ys,_,rfl,t,n⟩:=j.seq C i;obtain⟨u,rfl,l⟩:=vals1 r;cases l;obtain⟨a,k,pl,_⟩:=I.list t;have hb:=qvn z n k;have f:=pl.isList;have c:p<s.heap.objs.size:=by obtain⟨_,e,_⟩:=id f; exact Qqe e
  refine call_any_walk (Za f ?_)
  refine⟨s.heap.objs.size,[s.heap.objs.size,p],[s.heap.objs.size],a.toArray.size,_,_,λi=>(bs[i]?).getD Y6,rfl,Walks.list (A:=X.A.in1) (I.ok.hd hc) _ p (Qq4 c) a.toArray,
   ⟨⟨_,Qqn _ rfl,rfl,rfl⟩,f.push _⟩,λi v s' F G w g=>?_,λh' tk hk=>?_⟩
  ·obtain⟨b,e,rfl⟩:=hb.get i v (by simpa using w);simp only[e]at g;exact Qb g
  ·have e:((List.range a.toArray.size).any λi=>(bs[i]?).getD Y6)=bs.any id:=by
    rw[Qqw,hb.length]; exact range_any bs
   rw[e];exact⟨.bl _,H,I.kept (LSm.kept_iter hk),rfl,q.here j (mkBl _)⟩
 ·exact nn e
theorem qxz(x):∀l:L B,(M.insInt x l).Perm (x::l)
 |[]=>.refl _
 |y::r=>by
  unfold M.insInt
  split
  ·exact .refl _
  ·exact((qxz x r).cons y).trans (.swap x y r)
theorem qz2:∀l:L B,(M.sortInt l).Perm l
 |[]=>.refl _
 |x::r=>by
  unfold M.sortInt;exact(qxz x _).trans ((qz2 r).cons x)
theorem qxh(x):∀l:L B,l.Pairwise (· <= ·)->(M.insInt x l).Pairwise (· <= ·)
 |[],_=>by unfold M.insInt; simp
 |y::r,h=>by
  unfold M.insInt
  split
  ·rename_i a;refine List.Pairwise.cons (λz hz=>?_) h;rcases Qqy.mp hz with e|e
   ·rw[e]; exact a
   ·exact Int.le_trans a ((Qxb.mp h).1 z e)
  ·rename_i a;have h':=Qxb.mp h;refine List.Pairwise.cons (λz hz=>?_) (qxh x r h'.2);rcases Qqy.mp ((qxz x r).mem_iff.mp hz) with e|e
   ·rw[e]; lia
   ·exact h'.1 z e
theorem qqv:∀l:L B,(M.sortInt l).Pairwise (· <= ·)
 |[]=>by unfold M.sortInt; simp
 |x::r=>by
  unfold M.sortInt;exact qxh x _ (qqv r)
theorem qxg{K:Qqq}:∀(ns:L B),IsDs K m H (ns.map D.int) (ns.map V.int)
 |[]=>qqy
 |n::r=>qzo (mkInt n) (qxg r)
def qw4(hh:X.A.handled=J):qqk X (.builtin "sorted") (rC X.K M.bSorted):=by
 intro pins s σ H xs us Q I r h;refine h.el λm st ds d st' g ix e q=>?_;unfold M.bSorted at e
 split at e
 ·refine qzj e λG l e=>qzg e λns n e3=>?_;cases e3
  split at n
  ·exact nn n
  ·rename_i a0;obtain⟨x,rfl,i⟩:=ix.one;rcases orO l with l|l
   case inr=>
    obtain⟨p,ys,rfl,C,j⟩:=g.dkeys l i;obtain⟨u,rfl,t⟩:=vals1 r;cases t;obtain⟨vs,W,T,da,lo,hn⟩:=qem I C;obtain⟨F,e5⟩:=ints_of n j;have z:=j.length;rw[Qqx]at z;have l5:=T.length;refine qbe (ns:=ns) (PySem.W.kdl_dict lo) hh da (by lia) (λLq hl hv=>?_) λa h1 tk c f v hk U D P N K=>?_
    ·have S:=qj2 T hl hv;rw[F]at S;exact intsAre_of S
    ·have E:=PySem.W.ksm_same (N.trans (qz2 ns).symm) K (qqv ns);subst E;have y:=(qz2 ns).length_eq;have w:=qql;have l6:ns.length=G.length:=by
      have:=congrArg List.length e5;rw[Qqx]at this;exact this.symm
     have k:=I.hok.fresh U;refine⟨.ref a,upd H a (.lst ((M.sortInt ns).map V.int)),I.laid hk U ⟨?_,f.toList,c,qxk P,?_⟩,rfl,?_⟩
     ·rw[Qqx,y,w];unfold M.lim
      lia
     ·rw[D]
     ·exact q _ (m++[_]) _ (Sub.app m _) (Tr.of_same (qzc k)) (g.new k (qxg _)) g.newLoc
   obtain⟨p,ys,_,rfl,C,j⟩:=g.seq l i;obtain⟨u,rfl,t⟩:=vals1 r;cases t;obtain⟨A,R,pl,_⟩:=I.list C;obtain⟨F,e5⟩:=ints_of n j;have z:=j.length;have l2:=R.length;subst F;have hI:=intsAre_of R;refine sorted_ints pl.isList hI (by lia) λf v P N K=>?_;have E:=PySem.W.ksm_same (N.trans (qz2 ns).symm) K (qqv ns);subst E;obtain⟨W,D⟩:=sortedAll_at s.heap A f;have k:=I.hok.fresh (Qxd _);have y:=(qz2 ns).length_eq;have w:=qql;rw[Qqx]at z;refine⟨.ref (s.heap.objs.size+1),upd H (s.heap.objs.size+1) (.lst ((M.sortInt ns).map V.int)),I.laid (λb o e=>sortedAll_old e) (Qxd _) ?_,rfl,?_⟩
   ·refine⟨?_,f.toList,W,qxk P,?_⟩
    ·rw[Qqx,y,w];unfold M.lim
     lia
    ·rw[D]
   ·exact q _ (m++[_]) _ (Sub.app m _) (Tr.of_same (qzc k)) (g.new k (qxg _)) g.newLoc
 ·exact nn e
def qd2(K)(n t)(a:t≠.non):PySem.W.kitOne K (.type n.name) (.type t.name)=Y (M.tyIs t n):=by
 cases n<;>cases t<;>first
  |exact absurd rfl a
  |rfl
  |decide +kernel
theorem qd3(K)(n):∀a:L M.Ty,(∀t∈a,t≠.non)->PySem.W.kitAny K (.type n.name) (a.map λt=>Value.type t.name)=Y (a.any λt=>M.tyIs t n)
 |[],_=>rfl
 |t::a,h=>by
  rw[Qqp,Qz8];unfold PySem.W.kitAny;rw[qd2 K n t (h t Qq9)]
  cases M.tyIs t n with
  |true=>rfl
  |false=>exact qd3 K n a λb c=>h b (Qqu _ c)
def qix{st:Y2}(I:Inv X c v H s)(p:Rel X.K m st H)(h:IsD X.K m H d x)(r:RelV x u)(e:M.tyName st d=Y n):
  ∃q:Heap->Prop,PySem.W.KitX X.K u (.type n.name) q/\q s.heap/\u≠.builtin "__main__.__loader__#opaque":=by
 cases d with
 |non=>cases h.non; cases r; cases e; exact⟨_,PySem.W.kitx_none,True.intro,λz=>nomatch z⟩
 |bl b=>cases h.bl; cases r; cases e; exact⟨_,PySem.W.kitx_bool,True.intro,λz=>nomatch z⟩
 |int b=>cases h.int; obtain⟨t,rfl⟩:=r; cases e; exact⟨_,PySem.W.kitx_int,True.intro,λz=>nomatch z⟩
 |str b=>cases h.str; obtain⟨t,rfl⟩:=r; cases e; exact⟨_,PySem.W.kitx_str,True.intro,λz=>nomatch z⟩
 |tup ds=>
  obtain⟨a,xs,f,rfl,g,k,r1,p1⟩:=qqq I h;cases r;cases e;obtain⟨o,h1,h2,_⟩:=p1;exact⟨_,PySem.W.kitx_tuple,⟨o,h1,h2⟩,λz=>nomatch z⟩
 |loc l=>
  simp only[M.tyName]at e;refine qzg e λds j i=>?_;subst i;obtain⟨a,xs,_,rfl,g,k⟩:=p.seq j h;cases r;obtain⟨f,w,pl,_⟩:=I.list g;obtain⟨o,h1,h2,_⟩:=pl.isList;exact⟨_,PySem.W.kitx_list,⟨o,h1,h2⟩,λz=>nomatch z⟩
 |lst l=>
  simp only[M.tyName]at e;refine qzg e λds j i=>?_;subst i;obtain⟨a,xs,_,rfl,g,k⟩:=p.seq j h;cases r;obtain⟨f,w,pl,_⟩:=I.list g;obtain⟨o,h1,h2,_⟩:=pl.isList;exact⟨_,PySem.W.kitx_list,⟨o,h1,h2⟩,λz=>nomatch z⟩
def rIsi1(K:Qqq)(t:M.Ty):L V->Hp->VK->Prop:=λxs H Q=>∃m st d n x,xs=[x,.ty t.name]/\Rel K m st H/\IsD K m H d x/\M.tyName st d=Y n/\Q (.bl (M.tyIs t n)) H
def qfz(t)(f:t≠.non):qqk X (.builtin "isinstance") (rIsi1 X.K t):=by
 intro pins s σ H xs j Q I r h;obtain⟨m,st,d,n,x,rfl,g,i,e,q⟩:=h;obtain⟨u,w,rfl,b,a⟩:=vals2 r;cases a;obtain⟨k,Z3,p,c⟩:=qix I g i b e;exact PySem.W.kia_one Z3 I.kIn p (qd2 X.K n t f) c λtk=>⟨.bl _,H,I.tok tk,rfl,q⟩
def rIsiN(K:Qqq)(ts:L M.Ty):L V->Hp->VK->Prop:=λxs H Q=>∃m st d n x p,xs=[x,.ref p]/\H p=Y (.tup (ts.map λt=>V.ty t.name))/\Rel K m st H/\IsD K m H d x/\M.tyName st d=Y n/\Q (.bl (ts.any λt=>M.tyIs t n)) H
theorem qy6:∀{a:L M.Ty}{us:L Y8},Vals (a.map λt=>V.ty t.name) us->us=a.map λt=>Value.type t.name
 |[],_,.nil=>rfl
 |t::a,_,.cons r q=>by
  cases r;rw[qy6 q]
  rfl
def qe9(a)(v:∀t∈a,t≠.non):qqk X (.builtin "isinstance") (rIsiN X.K a):=by
 intro pins s σ H xs C Q I r h;obtain⟨m,st,d,n,x,p,rfl,y,A,i,e,q⟩:=h;obtain⟨u,w,rfl,j,b⟩:=vals2 r;cases b;obtain⟨E,Z3,k,o⟩:=qix I A i j e;obtain⟨_,l,g,⟨cls,D,f,sl⟩,h1,h2,nn,c⟩:=I.hok p _ y;have z:=qy6 g;subst z;simp only at h2 c;subst h2 c;exact PySem.W.kia_tup Z3 I.kIn k h1 (qd3 X.K n a v) o λtk=>⟨.bl _,H,I.tok tk,rfl,q⟩
end
end MS
end
section
namespace MS
open PySem PySem.Spec PyProof.Rows L2
noncomputable def qxn(cells:L (Y5×Y7)):L (Y5×Qg)->L (Y5×Y7)->L (Y5×Y7)
 |[],acc=>acc
 |(n,k)::r,acc=>qxn cells r (if k==.free then(match cells.lookup n with|some a=>(n,a)::acc|none=>acc) else acc)
def qeu:∀(names:L (Y5×Qg)) (b:L (Y5×Y7)),(∀x∈names,x.2=.free->∃c,env.cells.lookup x.1=Y c)->
  (forIn names b λx r=>match x,r with
   |(name,kind),cs=>if (kind==.free)=Z then do let a <- cellOf env name; pure (ForInStep.yield ((name,a)::cs)) else pure (ForInStep.yield cs):Sem (L (Y5×Y7)))=pure (qxn env.cells names b):=by
 intro names
 induction names with
 |nil=>intro b _; rfl
 |cons x r e=>
  intro b h;obtain⟨n,k⟩:=x;rw[List.forIn_cons];have hr:=λb=>e b λy f=>h y (Qqu _ f)
  by_cases hk:k=.free
  ·subst hk;obtain⟨c,hc⟩:=h (n,.free) Qq9 rfl;simp only[ cellOf,hc];simp only[pure_bind];refine(hr ((n,c)::b)).trans ?_;have d:=hc;simp[qxn,d]
  ·have hb:(k==NameKind.free)=false:=by simpa using hk
   simp only[hb,pure_bind];refine(hr b).trans ?_;simp[qxn,hb]
def qvl(h:∀x∈a.names,x.2=.free->∃c,env.cells.lookup x.1=Y c):closureFor a env=pure (qxn env.cells a.names []):=by
 unfold closureFor;have:=qeu a.names [] h;simp only[this]
 rfl
theorem qvm(hc:a.lookup x=Y c):∀(names:L (Y5×Qg)) (b:L (Y5×Y7)),((x,NameKind.free)∈names\/b.lookup x=Y c)->(qxn a names b).lookup x=Y c
 |[],b,h=>by
  rcases h with h|h
  ·cases h
  ·exact h
 |(n,k)::r,b,h=>by
  unfold qxn;refine qvm hc r _ ?_
  by_cases hk:k=.free
  ·subst hk;simp only[beq_self_eq_true,if_true]
   by_cases hn:n=x
   ·subst hn;rw[hc];exact .inr (by simp)
   ·rcases h with h|h
    ·rcases Qqy.mp h with e|e
     ·cases e; exact absurd rfl hn
     ·exact .inl e
    ·refine .inr ?_
     split
     ·have:(x==n)=false:=by simpa using Ne.symm hn
      rw[Qzk,this]; exact h
     ·exact h
  ·have hb:(k==NameKind.free)=false:=by simpa using hk
   rw[hb,Z1 Qzz];rcases h with h|h
   ·rcases Qqy.mp h with e|e
    ·cases e; exact absurd rfl hk
    ·exact .inl e
   ·exact .inr h
theorem qqj:∀(names:L (Y5×Qg)) (f:L (Y5×Y7)),(∀x c,f.lookup x=Y c->b.lookup x=Y c)->∀x c,(qxn b names f).lookup x=Y c->b.lookup x=Y c
 |[],f,h,x,c,e=>h x c e
 |(n,k)::r,f,h,x,c,e=>by
  unfold qxn at e;refine qqj r _ ?_ x c e;intro y d q
  by_cases hk:(k==NameKind.free)=Z
  ·rw[Z2 hk]at q
   split at q
   ·rename_i a i
    by_cases g:(y==n)=Z
    ·rw[Qzk,g]at q;rw[eq_of_beq g,i]; exact q
    ·have:(y==n)=false:=by simpa using g
     rw[Qzk,this]at q;exact h y d q
   ·exact h y d q
  ·rw[Z1 hk]at q;exact h y d q
theorem qqw(env:Env):∀(names:L (Y5×Qg)) (x:Y5),(names.map λ(n,k)=>if (k==NameKind.free&&env.scope.kind==.function&&env.kindOf n==Y .cell) then(n,NameKind.cell) else(n,k)).lookup x =
  (names.lookup x).map λk=>if (k==NameKind.free&&env.scope.kind==.function&&env.kindOf x==Y .cell) then NameKind.cell else k
 |[],x=>rfl
 |(n,k)::r,x=>by
  have c:=qqw env r x;rw[Qqp]
  by_cases b:(x==n)=Z
  ·have e:=eq_of_beq b;subst e;dsimp only
   split
   ·rename_i hc;rw[Qzk,b,Qzk,b];dsimp only[oMs];rw[Z2 hc]
   ·rename_i hc;rw[Qzk,b,Qzk,b];dsimp only[oMs];rw[Z1 hc]
  ·have a:(x==n)=false:=by simpa using b
   dsimp only
   split
   ·rw[Qzk,a,Qzk,a]; exact c
   ·rw[Qzk,a,Qzk,a]; exact c
section
def qw3(E:∀e s',o e s'->notedBy (model prog w) A env (λe s'=>R (.error e) s') e s')(I:Y0->Qz->Prop)(turn:∀n s,I n s->wpAny (model prog w) A (pyNext it) (λr d=>match r with
   |none=>R (.ok .next) d
   |some v=>wpAny (model prog w) A (Zh a it v) (λ_ s₀=>wpAny (model prog w) A (assign a env v) (λ_ i=>
     wpAny (model prog w) A (forIn ifs Z λc r=>if r=Z then do let ok <- isTrue c env (Qy c env); pure (ForInStep.yield ok) else pure (ForInStep.yield r)) (λok b=>
      if ok=Z then wpAny (model prog w) A (Qy elt env) (λx g=>wpAny (model prog w) A (call (.builtin "list.append") [D,x]) (λ_ f=>∃m,m<n/\I m f) o g) o b
      else ∃m,m<n/\I m b) o i) o s₀) o d) o s)(n)(h:I n s):Zw (model prog w) A (.compLoop (.ListComp elt [⟨a,p,ifs,0⟩] l pos) 0 it D env) R s:=by
 refine codeAny_loop rfl I (λn s F=>?_) n h;refine wpAny_noted (Qe ?_ (λ_ _ q=>q) E);rw[compTurn_list];refine Qq (wpAny_standAt (Qq (Qe (turn n s F) (λr d k=>?_) λ_ _ z=>z)))
 cases r with
 |none=>exact Qj k
 |some v=>
  refine Qq (Qe k (λ_ s₀ C=>?_) λ_ _ z=>z);refine Qq (Qe C (λ_ i y=>Qq (Qe y (λok b j=>?_) λ_ _ z=>z)) λ_ _ z=>z)
  cases ok with
  |false=>exact Qj ⟨rfl,j⟩
  |true=>
   exact Qq (Qq (Qe j (λx g u=>Qq (Qe u (λ_ f t=>Qj (Qj ⟨rfl,t⟩)) λ_ _ z=>z)) λ_ _ z=>z))
end
def HOk.track(x:HOk P w H h)(d:H a=J)(new:ObjOk P w (upd H a o) h a o):HOk P w (upd H a o) h:=λb u e=>by
 by_cases hb:b=a
 ·subst hb; rw[qzy]at e; cases e; exact new
 ·rw[qzx hb]at e;exact(x b u e).stay (λc v _ q=>q) (λc q=>by rw[qzx (qzi q d)]; exact q) λc xs q=>by rw[qzx (qzi q d)]; exact q
theorem Inv.track(I:Inv X c f H s)(hf:FpOk X c H a)(new:ObjOk X.prog X.w (upd H a o) s.heap a o):Inv X c f (upd H a o) s:=by
 obtain⟨d,k,l,j,i,g⟩:=hf;refine I.step (ch:=[a]) (λb hb=>?_) (λb o _ _ _ e _=>e) (λb o _ _ _ e _=>⟨o.slots,e⟩) (λb o hb e n=>?_) (λb o _ e=>⟨o,e⟩)
  (λb xs e=>by rw[qzx (qzi e d)]; exact e) (λb o u e=>by rw[qzx (qzi e d)]; exact e) (λb ps e=>⟨#[],by rw[qzx (qzi e d),e]; simp⟩) (λm h=>h) (HOk.track I.hok d new) I.bare
 ·have e:b=a:=by simpa using hb
  subst e;exact⟨j,k,i,g⟩
 ·rw[qzx (by simpa using hb)]; exact n
noncomputable def qzm(X:Cx)(N:L Y5)(scope:Scope)(C:Y7)(fp:L Y7)(s:Qz)(H:Hp):Cx:=
 { X with N:=N,s₀:=s,H₀:=H,env:=compEnvC scope (qxn X.env.cells scope.names []) C X.env,outer:=X.stack,ex:=fp,fn:=λ_=>Y6,pn:=[],xe:=λ_ _=>False }
noncomputable def qq6(src:L (Y3 Y0))(σ:L2.St):L2.St:=src.map λo=>o.bind λi=>(σ[i]?).bind id
structure CompScope (X:Cx) (N:L Y5) (src:L (Y3 Y0)) (scope:Scope):Prop where
 kind:scope.kind=.function
 cell:∀y∈scope.names,y.2≠.cell
 free:∀y∈scope.names,y.2=.free->X.env.kindOf y.1=Y .cell\/X.env.kindOf y.1=Y .free
 loc:∀y∈scope.names,y.2=.local->scope.names.lookup y.1=Y .local
 len:src.length=N.length
 src:∀(j i:Y0),src[j]?=Y (Y i)->∃x,N[j]?=Y x/\X.N[i]?=Y x/\scope.names.lookup x=Y .free
section
def mem_lookup{names:L (Y5×Qg)}(h:names.lookup x=Y k):(x,k)∈names:=PySem.mem_of_lookup h
def qw2(S:CompScope X N src a)(I:Inv X pins σ H s):closureFor a X.env=pure (qxn X.env.cells a.names []):=
 qvl λx b hk=>I.ok.has x.1 (S.free x b hk)
def qnf(S:CompScope X N src a)(I:Inv X pins σ H s)(j:s.heap.objs.size<=C)(d:∀b∈fp,FpOk X pins H b)(g:∀b∈fp,b<s.heap.objs.size):(qzm X N a C fp s H).Ok where
 mod:=I.ok.mod
 kind:=S.kind
 glob:=I.ok.glob
 blt:=I.ok.blt
 above:=j
 inj:=λx y c h1 h2=>I.ok.inj x y c (qqj _ [] (λ_ _ z=>nomatch z) x c h1) (qqj _ [] (λ_ _ z=>nomatch z) y c h2)
 has:=λx h=>by
  have e:(qzm X N a C fp s H).env.kindOf x=(a.names.lookup x).map λk=>if (k==NameKind.free&&X.env.scope.kind==.function&&X.env.kindOf x==Y .cell) then NameKind.cell else k:=qqw X.env a.names x
  rw[e]at h
  cases q:a.names.lookup x with
  |none=>rw[q]at h; rcases h with h|h<;>cases h
  |some k=>
   have hk:k=.free:=by
    rw[q]at h;simp only[oMs,Option.some.injEq]at h
    by_cases hc:(k==NameKind.free&&X.env.scope.kind==.function&&X.env.kindOf x==Y .cell)=Z
    ·simp only[Qq0]at hc;exact eq_of_beq hc.1.1
    ·rw[Z1 hc]at h;rcases h with h|h
     ·subst h; exact absurd rfl (S.cell _ (mem_lookup q))
     ·exact h
   subst hk;have i:=mem_lookup q;obtain⟨c,hc⟩:=I.ok.has x (S.free _ i rfl);exact⟨c,qvm hc _ _ (.inl i)⟩
 cab:=λx c h=>by cases h
 hd:=I.ok.hd
 frames:=I.ok.frames
 stk:=.inl rfl
 exf:=λb hb=>⟨Qq4 (Qq3 (g b hb) j),λx c e=>(d b hb).2.2.2.2.1 x c (qqj _ [] (λ_ _ z=>nomatch z) x c e)⟩
 bs:=I.bs
 bsz:=Qzm I.ok.bsz I.sz
 noex:=λb o e hb=>by
  rcases (d b hb).2.2.2.1 with z|z
  ·exact I.ok.noex b o e z
  ·exact absurd (Qq3 (Qqe e) (Qzm I.ok.bsz z)) (Qz7 _)
 exfs:=λb hb hf=>by
  have f:=d b hb;rcases Qqy.mp (I.stkSub b hf) with z|z
  ·exact f.2.1 z
  ·exact f.2.2.1 z
 funs:=I.stack
 frf:=I.stkFree
def qcj(S:CompScope X N src a)(I:Inv X pins σ H s)(D:s.heap.objs.size<=C)(n:∀b∈fp,FpOk X pins H b)(l:∀b∈fp,b<s.heap.objs.size)(kp:∀b o,s.heap.get? b=Y o->h'.get? b=Y o)(ns:h'.Ns C A):Inv (qzm X N a C fp s H) [] (qq6 src σ) H { s with heap:=h',toks:=F }:=by
 have T:=qnf S I D n l;refine⟨T,rfl,I.bare,Un.kept kp,⟨A,ns,λj x v r d hv=>?_⟩,λx c e=>?_,I.hok.fresh D,λx c e=>?_,λp K=>absurd (show p∈([]:L (Y7×Obj)) from K) (by simp),I.hok.kept kp,?_⟩
 ·unfold qq6 at d;rw[Qqb]at d
  cases q:src[j]? with
  |none=>rw[q]at d; cases d
  |some o=>
   rw[q]at d
   cases o with
   |none=>cases d
   |some i=>
    obtain⟨U,E,Q,t⟩:=S.src j i q;have r:N[j]?=Y x:=r;rw[r]at E;cases E;have hi:σ[i]?=Y (Y v):=by
     cases z:σ[i]? with
     |none=>simp[z]at d
     |some w=>
      cases w with
      |none=>simp[z]at d
      |some w=>simpa[z] using d
    obtain⟨V,P,m⟩:=I.loc;have hk:=S.free _ (mem_lookup t) rfl;have g:Vis X.env.scope x:=by
     rcases hk with z|z
     ·exact .inr (.inl z)
     ·exact .inr (.inr z)
    obtain⟨u,G,lk⟩:=m i x v Q hi g;refine⟨u,G,?_⟩;rcases lk with⟨z,_⟩|⟨_,c,hc,f⟩
    ·rcases hk with y|y
     ·rw[y]at z; cases z
     ·rw[y]at z; cases z
    ·refine .inr ⟨?_,c,qvm hc _ _ (.inl (mem_lookup t)),?_⟩
     ·have e:(qzm X N a C fp s H).env.kindOf x=(a.names.lookup x).map λk=>if (k==NameKind.free&&X.env.scope.kind==.function&&X.env.kindOf x==Y .cell) then NameKind.cell else k:=qqw X.env a.names x
      rw[e,t];simp only[oMs]
      by_cases hc:(NameKind.free==NameKind.free&&X.env.scope.kind==.function&&X.env.kindOf x==Y .cell)=Z
      ·rw[Z2 hc]; exact .inl rfl
      ·rw[Z1 hc]; exact .inr rfl
     ·obtain⟨o,h,hd⟩:=f;exact⟨o,kp c o h,hd⟩
 ·have R:=qqj _ [] (λ_ _ z=>nomatch z) x c e;obtain⟨v,o,h,hd⟩:=I.cell x c R;exact⟨v,o,kp c o h,hd⟩
 ·exact I.freeC x c (qqj _ [] (λ_ _ z=>nomatch z) x c e)
 ·unfold qq6;rw[Qqx];exact S.len
end
def qca(X:Cx)(ifs:L Qx)(tt:TT):Prop:=∀(pins:L (Y7×Obj)) (s:Qz) (σ:L2.St) (H:Hp) (Q:Yb->Hp->Prop),Inv X pins σ H s->tt σ H Q->
 wpAny (model X.prog X.w) X.A (forIn ifs Z λc r=>if r=Z then do let ok <- isTrue c X.env (Qy c X.env); pure (ForInStep.yield ok) else pure (ForInStep.yield r)) (TP X pins σ Q) X.xe s
def qf1:qca X [] (λ_ H Q=>Q Z H):=λpins s σ H Q I h=>by
 exact Qj ⟨H,I,h⟩
def qf0(hc:PT X c tc):qca X [c] tc:=λpins s σ H Q I h=>by
 rw[List.forIn_cons];simp only[if_true];refine Qq (Qq (thn (hc pins s σ H Q I h) λb a q=>Qj ?_));exact Qj q
def qk4{c3:L V->Hp->Prop}{RR:Y8->Y7->Result->Qz->Prop}{Ex:Y7->Y7->Y8->Qz->Prop}(hc:X.calm=Z)(I:Inv X t σ H s)(T:Turn X.prog X.w X.K tg Jq fp it tn)(st0:tn 0 s.heap)(A:∀b∈fp,FpOk X t H b)(S:CompScope X N src scope)(hg:∀C,PG (qzm X N scope C fp s H) tg g)(ht:∀C,qca (qzm X N scope C fp s H) ifs tt)(he:∀D C,PE ((qzm X N scope C fp s H).wish (Ex D C)) elt te)(c8:∀D C,s.heap.objs.size<=C->∀e s',Ex D C e s'->notedBy (model X.prog X.w) X.A (compEnvC scope (qxn X.env.cells scope.names []) C X.env) (λe s'=>RR (.ref D) C (.error e) s') e s')(W:Y0->Y0->L V->L2.St->Hp->Prop)(w0:∃k,W 0 k [] (qq6 src σ) H)(step:∀i k f σ H,W i k f σ H->(Jq.stop i H/\f.length<=sizeLine/\c3 f H)\/(Jq.go i H/\f.length<sizeLine/\∀x H',Jq.yld i H x H'->g x σ H' λU H2=>tt U H2 λb H3=>
   if b=Z then te U H3 λv H4=>∃k',k'<k/\W (i+1) k' (f++[v]) U H4 else ∃k',k'<k/\W (i+1) k' f U H3))(c7:∀D C s' H' f,c3 f H'->H' D=J->Inv X t σ (upd H' D (.lst f)) s'->FpOk X t (upd H' D (.lst f)) C->(∃m,s'.heap.Ns C m)->RR (.ref D) C (.ok .next) s'):
  wpAny (model X.prog X.w) X.A (newList []) (λf s₃=>wpAny (model X.prog X.w) X.A (newFunctionEnv scope X.env.globals (qxn X.env.cells scope.names []) [] X.env.qual J .none (Y X.env)) (λa3 b8=>
   Zw (model X.prog X.w) X.A (.compStart (.ListComp elt [⟨tg,a0,ifs,0⟩] scope pos) 0 (.ref it) f { a3 with scope:=relabel scope X.env }) (RR f a3.locals) b8) E s₃) E s:=by
 have c0:∀b∈fp,b<s.heap.objs.size:=λb hb=>by obtain⟨o,e,_⟩:=T.obj 0 _ st0 b hb; exact Qqe e
 refine Qm (wpAny_newFunctionEnv S.cell (by intro y hy; simp at hy) (λa1 l j=>?_) S.kind);generalize a8:s.heap.push { cls:=.type "list",dict:=J,data:=.seq ([]:L Y8).toArray }=H2 at l j ⊢;have hC:H2.objs.size=s.heap.objs.size+1:=by rw[<- a8,Qxq]
 have G:s.heap.objs.size≠H2.objs.size:=by rw[hC]; exact Qq4 (Qzn _)
 have R:s.heap.objs.size<=H2.objs.size:=by rw[hC]; exact Qxd _
 have a5:=λb o e=>j.extBut b o (by rw[hC]; exact Qq4 (Qxu (Qqe e))) (Qqz _ (a8▸Qqz _ e));have a2:=j.extBut _ _ G (Qqz _ (a8▸Qqn _ rfl));generalize Q:s.heap.objs.size=Dd at G R a2;generalize d5:H2.objs.size=Cc at G R l j hC ⊢;have a9:=Nat.le_of_eq Q;have b0:s.heap.objs.size<=Cc:=by rw[Q]; exact R
 have fD:=I.hok.fresh a9;have I1:Inv (qzm X N scope Cc fp s H) [] (qq6 src σ) H { s with heap:=a1,toks:=s.toks+([]:L (Y5×Y8)).length }:=qcj S I b0 A c0 a5 l;have b9:∀b∈fp,b≠Dd:=λb hb=>by rw[<- Q]; exact Qq4 (c0 b hb)
 have b5:∀x c,(qzm X N scope Cc fp s H).env.cells.lookup x=Y c->c≠Dd:=λx c e z=>by
  have e':=qqj _ [] (λ_ _ z=>nomatch z) x c e;obtain⟨v,o,ho,_⟩:=I.cell x c e';rw[z,<- Q]at ho;exact Qz7 _ (Qqe ho)
 have c9:Dd ∉ (qzm X N scope Cc fp s H).fs:=λz=>by
  obtain⟨_,o,ho,_⟩:=I1.ok.funs.mem z;rw[<- Q]at ho;exact Qz7 _ (Qqe ho)
 have P:∀{pl:L (Y7×Obj)}{H':Hp},(∀p∈pl,p.1=Dd)->(∀b∈fp,H' b=J)->∀b∈fp,FpOk (qzm X N scope Cc fp s H) pl H' b:=λ{pl H'} c4 hn b hb=>
  ⟨hn b hb,(I1.ok.exf b hb).1,I1.ok.exfs b hb,.inl hb,(I1.ok.exf b hb).2,λp n=>by
   have c5:=n
   rw[c4 p c5]; exact(b9 b hb).symm⟩
 obtain⟨k0,w0⟩:=w0;have loop:∀s₃:Qz,s₃={ s with heap:=a1,toks:=s.toks+([]:L (Y5×Y8)).length }->
   Zw (model X.prog X.w) X.A (.compLoop (.ListComp elt [⟨tg,a0,ifs,0⟩] scope pos) 0 (.ref it) (.ref Dd) (compEnvC scope (qxn X.env.cells scope.names []) Cc X.env)) (RR (.ref Dd) Cc) s₃:=by
  rintro s₃ rfl;refine qw3 (c8 Dd Cc b0) (λk s'=>∃i f h nn b7 H',Inv (qzm X N scope Cc fp s H) [] b7 H' s'/\tn i s'.heap/\(∀b∈fp,H' b=J)/\W i k f b7 H'/\Vals f h/\s'.heap.get? Dd=Y { cls:=.type "list",data:=.seq h.toArray nn }/\H' Dd=J) ?_ k0
   ⟨0,[],[],0,qq6 src σ,H,I1,T.keep _ _ _ st0 λb _ o e=>a5 b o e,λb hb=>(A b hb).1,w0,.nil,a2,fD⟩
  rintro k s3 ⟨i,f,h,nn,K,H3,I3,t3,c1,w3,rv,c6,a6⟩;have c2:Inv (qzm X N scope Cc fp s H) [(Dd,{ cls:=.type "list",data:=.seq h.toArray nn })] K H3 s3:=I3.pins_of λp n=>by
   have e:p=(Dd,{ cls:=.type "list",data:=.seq h.toArray nn }):=by simpa using n
   subst e
   exact⟨c6,a6,G,c9,λv z=>by
    have z':=z
    cases z'⟩
  rcases step i k f K H3 w3 with⟨stop,hz,d2⟩|⟨go,hz,next⟩
  ·refine thn (T.done (qzm X N scope Cc fp s H) rfl rfl rfl hc i _ s3 K H3 (Ex Dd Cc) c2 (P (λp n=>by rw[Qqc.mp n]) c1) t3 stop) λr s4 ⟨hr,I4⟩=>?_;subst hr;have p4:=I4.pin (Dd,{ cls:=.type "list",data:=.seq h.toArray nn }) (Qqh _ (by simp));have I5:=I.call' I4.os I4.base I4.hok I4.bare λb hb=>⟨(A b hb).2.2.2.1,(A b hb).2.1,(A b hb).2.2.2.2.1,(A b hb).2.2.2.2.2⟩
   have d1:=I.fpOk a9 a6;refine c7 Dd Cc s4 H3 f d2 a6 (Inv.track I5 d1 ⟨hz,h,nn,rv,p4.1⟩) (I.fpOk b0 (by rw[qzx (Ne.symm G)]; exact I4.free)) ?_;obtain⟨m4,n4,_⟩:=I4.loc;exact⟨m4,n4⟩
  ·refine thn (T.item (qzm X N scope Cc fp s H) rfl rfl rfl hc i _ s3 K H3 (Ex Dd Cc) c2 (P (λp n=>by rw[Qqc.mp n]) c1) t3 go) λr s4 ⟨u,hr,h4⟩=>?_;subst hr;refine thn h4 λ_ s5 ⟨x,H5,I5,r5,y5,t5,d0⟩=>?_;have d3:=I5.pinned (P (λp n=>by rw[Qqc.mp n]) d0) (T.obj _ _ t5);refine Qe (hg Cc _ s5 K H5 x u _ d3 r5 (next x H5 y5)) (λ_ s6 ⟨w,H6,I6,q6⟩=>?_) λ_ _ z=>z.elim;refine Qe (ht Cc _ s6 w H6 _ I6 q6) (λb s7 ⟨H7,I7,q7⟩=>?_) λ_ _ z=>z.elim;have a4:∀{b6:L2.St}{H8:Hp}{s8:Qz},Inv (qzm X N scope Cc fp s H) ([(Dd,{ cls:=.type "list",data:=.seq h.toArray nn })]++qv4 fp s5.heap) b6 H8 s8->
     tn (i+1) s8.heap/\(∀b∈fp,H8 b=J)/\s8.heap.get? Dd=Y { cls:=.type "list",data:=.seq h.toArray nn }/\H8 Dd=none:=λ{b6 H8 s8} I8=>by
    refine⟨T.keep _ _ _ t5 λb hb o e=>(I8.pin (b,o) (Qqh _ (Qqh _ (qq4 hb e)))).1,λb hb=>?_,?_,?_⟩
    ·obtain⟨o,e,d⟩:=T.obj _ _ t5 b hb;exact(I8.pin (b,o) (Qqh _ (Qqh _ (qq4 hb e)))).2.1
    ·exact(I8.pin (Dd,_) (Qqh _ (Qq5 _ (by simp)))).1
    ·exact(I8.pin (Dd,{ cls:=.type "list",data:=.seq h.toArray nn }) (Qqh _ (Qq5 _ (by simp)))).2.1
   cases b with
   |false=>
    simp only[Qzw]at q7 ⊢;obtain⟨k',hk,w7⟩:=q7;obtain⟨b1,b2,b3,b4⟩:=a4 I7;exact⟨k',hk,i+1,f,h,nn,w,H7,I7.pins_of λp n=>absurd n (by simp),b1,b2,w7,rv,b3,b4⟩
   |true=>
    simp only[if_true]at q7 ⊢;refine thn (he Dd Cc _ s7 w H7 _ (I7.wish _) q7) λy s8 ⟨v8,H8,I8,r8,k',hk,w8⟩=>?_;have I8:=I8.unwish;obtain⟨b1,b2,b3,b4⟩:=a4 I8;have l1:=rv.length;refine Qu F.slot_list_append ⟨_,b3,rfl⟩ F.entry_list_append (F.args_list_append_2 _ _) (PySem.list_append Dd h.toArray nn y (by rw[Qqw]; lia)) ⟨b3,?_⟩;have q:=PySem.IsL.update b3 (λa=>a.push y);have a7:h.toArray.push y=(h++[y]).toArray:=by simp
    rw[a7]at q;have I9:Inv (qzm X N scope Cc fp s H) [] w H8 s8:=I8.pins_of λp n=>absurd n (by simp);have d4:Inv (qzm X N scope Cc fp s H) [] w H8 { s8 with heap:=s8.heap.update Dd (Obj.mapSeq (·.push y)) }:=
     I9.turned (λb o hb e=>(Qxe s8.heap _ (Ne.symm hb)).trans e) b4 G (.inr a9) b5 λp n=>absurd (show p∈([]:L (Y7×Obj)) from n) (by simp)
    exact⟨k',hk,i+1,f++[v8],h++[y],_,w,H8,d4,T.keep _ _ _ b1 λb hb o e=>(Qxe s8.heap _ (Ne.symm (b9 b hb))).trans e,b2,w8,rv.append (.cons r8 .nil),q,b4⟩
 exact codeAny_compStart_list (loop _ rfl) (T.self _ 0 _ _ _ (T.keep _ _ _ st0 λb _ o e=>a5 b o e) (loop _ rfl))
noncomputable def qlq(src:L (Y3 Y0))(wi:TI)(g:TG)(tt:TT)(te:TE):TE:=λσ H Q=>wi σ H λJq H1=>∃W:Y0->Y0->L V->L2.St->Hp->Prop,(∃k,W 0 k [] (qq6 src σ) H1)/\
 ∀i k acc σ' H',W i k acc σ' H'->(Jq.stop i H'/\acc.length<=sizeLine/\∀p,H' p=J->Q (.ref p) (upd H' p (.lst acc)))\/(Jq.go i H'/\acc.length<sizeLine/\∀x H2,Jq.yld i H' x H2->g x σ' H2 λσ2 H3=>tt σ2 H3 λb H4=>
  if b=Z then te σ2 H4 λv H5=>∃k',k'<k/\W (i+1) k' (acc++[v]) σ2 H5 else ∃k',k'<k/\W (i+1) k' acc σ2 H4)
def ql6(hc:X.calm=Z)(S:CompScope X N src a)(hi:PI X f c m)(A:∀C fp s H,PG (qzm X N a C fp s H) f g)(w:∀C fp s H,qca (qzm X N a C fp s H) ifs n)(E:∀C fp s H,PE (qzm X N a C fp s H) elt p)(hs:∀x,foldedSetIterable c X.env x=pure x):PE X (.ListComp elt [⟨f,c,ifs,0⟩] a pos) (qlq src m g n p):=by
 intro pins s σ H Q I h;rw[eval_ListComp];refine wpAny_comprehension_free rfl hs (qw2 S I) S.kind S.loc (thn (hi pins s σ H _ I h) λv U h1=>thn h1 λu j h2=>?_);obtain⟨it,fp,R,V,H2,e,K,T,i,G,W,q,d⟩:=h2;subst e;refine qk4 hc K T i G S (λC=>A C fp j H2) (λC=>w C fp j H2) (λ_ C=>E C fp j H2) (λ_ _ _ _ _ z=>z.elim) W q d ?_;intro D C s' H' l k t P F y;obtain⟨m',hn⟩:=y;refine⟨m',hn,λh' r=>⟨.ref D,upd H' D (.lst l),?_,rfl,k D t⟩⟩;obtain⟨c0,c1,c2,c3,c4,c5⟩:=F;exact P.turned (λb o hb e=>(r.2 b hb).trans e) c0 c1 c3 c4 c5
def Inv.turnedL{ch:L Y7}(I:Inv X a f H s)(k:∀b o,b ∉ ch->s.heap.get? b=Y o->h'.get? b=Y o)(hf:∀b∈ch,FpOk X a H b):Inv X a f H { s with heap:=h',toks:=t' }:=by
 have d:∀b u,H b=Y u->b ∉ ch:=λb u e z=>by rw[(hf b z).1]at e; cases e
 refine I.step (λb hb=>?_) (λb o _ _ hc e _=>k b o hc e) (λb o _ _ hc e _=>⟨o.slots,k b o hc e⟩) (λ_ _ _ _ n=>n) (λb o hc e=>⟨o,k b o hc e⟩) (λ_ _ e=>e) (λ_ _ _ e=>e) (λb ps e=>⟨#[],by rw[e]; simp⟩) (λm h=>?_) (λb u e=>?_) I.bare
 ·obtain⟨x,p,w,l,j,i⟩:=hf b hb;exact⟨l,p,j,i⟩
 ·obtain⟨o,es,t,g,r⟩:=h;exact⟨o,es,t,k _ o (λz=>(hf _ z).2.1 rfl) g,r⟩
 ·refine(I.hok b u e).stay (λc v hc q=>k c v ?_ q) (λ_ q=>q) λ_ _ q=>q;rcases hc with z|z
  ·rw[z]; exact d b u e
  ·exact d c _ z
inductive RK where
 |lst|tup
noncomputable def RK.It:RK->Heap->Y7->Y7->Y0->Prop
 |.lst,h,it,a,i=>h.IsListIter it a i
 |.tup,h,it,a,i=>h.IsTupleIter it a i
noncomputable def RK.Sq:RK->Heap->Y7->Array Y8->Prop
 |.lst,h,a,xs=>h.IsList a xs
 |.tup,h,a,xs=>h.IsTuple a xs
def RK.It.on{k:RK}(x:k.It h it a i)(e:∀o,h.get? it=Y o->h'.get? it=Y o):k.It h' it a i:=by
 cases k with
 |lst=>exact Heap.IsListIter.at x e
 |tup=>obtain⟨o,b,r⟩:=x; exact⟨o,e o b,r⟩
def RK.Sq.on{k:RK}(x:k.Sq h a xs)(e:∀o,h.get? a=Y o->h'.get? a=Y o):k.Sq h' a xs:=by
 cases k with
 |lst=>exact Heap.IsList.at x e
 |tup=>obtain⟨o,b,r⟩:=x; exact⟨o,e o b,r⟩
def RK.It.obj{k:RK}(x:k.It h it a i):∃o,h.get? it=Y o/\∀v,o.data≠.cell v:=by
 cases k with
 |lst=>obtain⟨o,b,_,d⟩:=x; exact⟨o,b,λv z=>by rw[d]at z; cases z⟩
 |tup=>obtain⟨o,b,_,d⟩:=x; exact⟨o,b,λv z=>by rw[d]at z; cases z⟩
section
def qkz{k:RK}(hi:k.It s.heap it a i)(hs:k.Sq s.heap a xs)(e:xs[i]?=Y x)(f:∀h',k.It h' it a (i+1)->(∀b o,b≠it->s.heap.get? b=Y o->h'.get? b=Y o)->h'.objs.size=s.heap.objs.size->Q x { s with heap:=h' }):wpAny (model prog w) A (Builtin.SmallTypes.nextOf (.ref it)) Q E s:=by
 cases k with
 |lst=>exact wpAny_nextOf_list_item hi hs e λh' n g=>f h' n g.extBut g.1
 |tup=>
  obtain⟨o,d,l,c⟩:=id hi;obtain⟨q,j,_,m,h⟩:=hs;unfold Builtin.SmallTypes.nextOf;refine Qq (Ql (Heap.IsTupleIter.typeIs hi) F.slot_tuple_iterator_next (Qr F.slot_tuple_iterator_next (Heap.IsTupleIter.typeIs hi) F.entry_tuple_iterator_next ?_ (F.args_tuple_iterator_next_1 _)));show wpAny _ _ (field (.ref it) 0 >>= _) _ _ _;refine Qq (Qf d c rfl ?_);rw[Z1 (λz=>nomatch z)];refine Qq (Qf d c rfl ?_);refine Qq (Qi j h ?_);simp only[Int.toNat_natCast,e];refine Qq (wpAny_setField d c (by simp) (Qj ⟨x,rfl,Qj (f _ ?_ (Heap.SameBut.update ..).extBut (Heap.SameBut.update ..).1)⟩));exact⟨_,Qxg _ d (Obj.isFreed_of_fields (Obj.data_mapFields c _)),(Obj.cls_mapFields ..).trans l,by rw[Obj.data_mapFields c]; simp[rawInt]⟩
def qwt{k:RK}(c:A.handled=J)(hi:k.It s.heap it a i)(hs:k.Sq s.heap a xs)(g:xs[i]?=J)(h:∀h' e,(∀b o,b≠it->s.heap.get? b=Y o->h'.get? b=Y o)->(∃o,h'.get? e=Y o/\o.cls=.type "StopIteration")->E (.ref e) { s with heap:=h' }):wpAny (model prog w) A (Builtin.SmallTypes.nextOf (.ref it)) Q E s:=by
 cases k with
 |lst=>exact wpAny_nextOf_list_end c hi hs g λh' e p n=>h h' e p n
 |tup=>
  obtain⟨o,f,r,d⟩:=id hi;obtain⟨q,l,_,m,j⟩:=hs;unfold Builtin.SmallTypes.nextOf;refine Qq (Ql (Heap.IsTupleIter.typeIs hi) F.slot_tuple_iterator_next (Qr F.slot_tuple_iterator_next (Heap.IsTupleIter.typeIs hi) F.entry_tuple_iterator_next ?_ (F.args_tuple_iterator_next_1 _)));show wpAny _ _ (field (.ref it) 0 >>= _) _ _ _;refine Qq (Qf f d rfl ?_);rw[Z1 (λz=>nomatch z)];refine Qq (Qf f d rfl ?_);refine Qq (Qi l j ?_);simp only[Int.toNat_natCast,g];refine Qq (Zi (Qq (wpAny_setField f d (by simp) ?_))); show wpAny _ _ (newExc (.type "StopIteration") [] >>= _) _ _ _;refine Qq ?_; simp only[newExc];refine Qq (Qm ?_ (by size_fits)); refine Qq (wpAny_of_eq (by first|rfl|(simp only[firstArgMember]; rfl)) ?_);refine Qm ?_ (by size_fits); simp only[raiseNew];refine Qq (wpAny_handled ?_)
  first|rw[show A.in1.handled=J from c]|(rw[c])
  refine Qq (Qj (wpAny_throw ?_));exact h _ _ (((Heap.SameBut.update ..).extBut.push _).push _) ⟨_,Qqn _ rfl,by rfl⟩
end
section
def qva(e:IsPair s.heap T a b)(h:∀h',h'.get? T=Y { cls:=.type "tuple",data:=.seq ((#[a,b]:Array Y8).setIfInBounds j x) }->(∀c o,c≠T->s.heap.get? c=Y o->h'.get? c=Y o)->h'.objs.size=s.heap.objs.size->Q () { s with heap:=h' }):
  wpAny (model prog w) A (updateSeq T (·.setIfInBounds j x)) Q E s:=
 wpAny_updateSeq_pair e λh' f d=>h h' f d.extBut d.1
def zip_get{z v:RK}(n1:q<n)(n2:p<n)(hz:IsZip s.heap (n+4) (n+2) (n+3) .none)(S:IsPair s.heap (n+2) (.ref n) (.ref (n+1)))(hO:IsPair s.heap (n+3) a b)(h1:z.It s.heap n q i)(h2:v.It s.heap (n+1) p i)(X:z.Sq s.heap q xs)(W:v.Sq s.heap p ys)(hx:xs[i]?=Y x)(hy:ys[i]?=Y y)(hQ:∀h',IsZip h' (n+4) (n+2) (n+3) (rawInt s.heap.objs.size)->IsPair h' (n+2) (.ref n) (.ref (n+1))->IsPair h' (n+3) x y->z.It h' n q (i+1)->v.It h' (n+1) p (i+1)->IsPair h' s.heap.objs.size x y->
   (∀c o,c≠n+4->c≠n+3->c≠n->c≠n+1->s.heap.get? c=Y o->h'.get? c=Y o)->Q (Y (.ref s.heap.objs.size)) { s with heap:=h' }):
  wpAny (model prog w) A (pyNext (.ref (n+4))) Q E s:=by
 have R:s.TypeIs (.ref (n+4)) "zip":=⟨_,hz,rfl⟩
 unfold pyNext;refine Qq (wpAny_attempt (Ql R F.slot_zip_next (Qr F.slot_zip_next R F.entry_zip_next ?_ (F.args_zip_next_1 _))));show wpAny _ _ (field (.ref (n+4)) 2 >>= _) _ _ _;refine Qq (Qf hz rfl rfl ?_);refine Qq (Qf hz rfl rfl ?_);refine Qq (Qi S rfl ?_);refine Qq ?_;unfold Builtin.SmallTypes.ownedTupleIsFree;refine Qq (Qf hz rfl rfl (Qj ?_));simp only[if_true];refine Qq (Zi ?_);refine Qq (Qf hz rfl rfl ?_);refine Qq (Qs hz (by simp) λg1 u K=>?_)
 replace u:IsZip g1 (n+4) (n+2) (n+3) .ellipsis:=u
 have d:=K.extBut;refine Qq ?_;simp only[List.zipIdx_cons,List.forIn_nil];refine Qq (Qq (Zp ?_)); show wpAny _ _ (Builtin.SmallTypes.nextOf (.ref n) >>= _) _ _ _;refine Qq (qkz (h1.on λo e=>d _ o (by show @Ne Y0 _ _; lia) e) (X.on λo e=>d _ o (by show @Ne Y0 _ _; lia) e) hx λg2 i2 h c2=>Qj ?_);have U:=h _ _ (by show @Ne Y0 _ _; lia) (d _ _ (by show @Ne Y0 _ _; lia) hO);refine Qq (Qi U rfl ?_);refine Qq (qva U λg3 D g c3=>?_)
 replace D:IsPair g3 (n+3) x b:=D
 refine Qq (wpAny_letGo (Qj ?_));refine Qq (Qq (Zp ?_)); show wpAny _ _ (Builtin.SmallTypes.nextOf (.ref (n+1)) >>= _) _ _ _;refine Qq (qkz (h2.on λo e=>g _ o (by show @Ne Y0 _ _; lia) (h _ o (by show @Ne Y0 _ _; lia) (d _ o (by show @Ne Y0 _ _; lia) e))) (W.on λo e=>g _ o (by show @Ne Y0 _ _; lia) (h _ o (by show @Ne Y0 _ _; lia) (d _ o (by show @Ne Y0 _ _; lia) e))) hy λg4 i4 m c4=>Qj ?_);have T:=m _ _ (by show @Ne Y0 _ _; lia) D;refine Qq (Qi T rfl ?_);refine Qq (qva T λf r l c5=>?_)
 replace r:IsPair f (n+3) x y:=r
 refine Qq (wpAny_letGo (Qj (Qj ?_)));refine Qq (Qi r rfl ?_);refine Qq (wpAny_newTuple ?_);have sz:=c5.trans (c4.trans (c3.trans (c2.trans K.1)));have G:=l _ _ (by show @Ne Y0 _ _; lia) (m _ _ (by show @Ne Y0 _ _; lia) (g _ _ (by show @Ne Y0 _ _; lia) (h _ _ (by show @Ne Y0 _ _; lia) u)));have j:∀c o,c≠n+4->c≠n+3->c≠n->c≠n+1->s.heap.get? c=Y o->f.get? c=Y o:=λc o c1 c2 c3 c4 e=>l _ _ c2 (m _ _ c4 (g _ _ c2 (h _ _ c3 (d _ _ c1 e))));have j1:=i2.on λo e=>l _ o (by show @Ne Y0 _ _; lia) (m _ o (by show @Ne Y0 _ _; lia) (g _ o (by show @Ne Y0 _ _; lia) e));have j2:=i4.on λo e=>l _ o (by show @Ne Y0 _ _; lia) e;have P:=Qqe G;refine Qq ?_;unfold Builtin.SmallTypes.ownedTupleHandOut;have V:IsZip (f.push { cls:=.type "tuple",data:=.seq #[x,y] }) (n+4) (n+2) (n+3) .ellipsis:=Qqz _ G;refine Qq (Qs V (by simp) λg7 t I=>?_)
 replace t:IsZip g7 (n+4) (n+2) (n+3) (rawInt f.objs.size):=t
 refine Qs t (by simp) λC k H=>?_
 replace k:IsZip C (n+4) (n+2) (n+3) (rawInt f.objs.size):=k
 have up:∀c o,c≠n+4->f.get? c=Y o->C.get? c=Y o:=λc o c1 e=>H.extBut _ _ c1 (I.extBut _ _ c1 (Qqz _ e));have N:=H.extBut _ _ (Qxn P) (I.extBut _ _ (Qxn P) (Qqn _ rfl));rw[sz]at k N;refine Qj ⟨_,rfl,Qj ?_⟩;rw[sz];exact hQ C k (up _ _ (by lia) (j _ _ (by lia) (by lia) (by lia) (by lia) S)) (up _ _ (by lia) r) (j1.on λo e=>up _ o (by lia) e) (j2.on λo e=>up _ o (by lia) e) N λc o c1 c2 c3 c4 e=>up c o c1 (j c o c1 c2 c3 c4 e)
def qfh{N K:RK}(P:A.handled=J)(n1:u<n)(n2:t<n)(hz:IsZip s.heap (n+4) (n+2) (n+3) .none)(hI:IsPair s.heap (n+2) (.ref n) (.ref (n+1)))(hO:IsPair s.heap (n+3) a b)(S:N.It s.heap n u i)(h2:K.It s.heap (n+1) t i)(I:N.Sq s.heap u xs)(W:K.Sq s.heap t ys)(j:xs[i]?=J\/ys[i]?=J)(hQ:∀h',(∀c o,c≠n+4->c≠n+3->c≠n->c≠n+1->s.heap.get? c=Y o->h'.get? c=Y o)->Q J { s with heap:=h' }):
  wpAny (model prog w) A (pyNext (.ref (n+4))) Q E s:=by
 have R:s.TypeIs (.ref (n+4)) "zip":=⟨_,hz,rfl⟩
 have l:∀(h':Heap) (e:Y7),(∀c o,c≠n+4->c≠n+3->c≠n->c≠n+1->s.heap.get? c=Y o->h'.get? c=Y o)->(∃o,h'.get? e=Y o/\o.cls=.type "StopIteration")->
   wpAny (model prog w) A (do if (<- isInstance (.ref e) (.type "StopIteration")) then pure J else(throw (Value.ref e):Sem (Y3 Y8))) Q E { s with heap:=h' }:=λh' e hk k=>by
  obtain⟨o,f,hc⟩:=k;refine Qq (wpAny_isInstance ⟨o,f,hc⟩ isSubtype_stop ?_);exact Qj (hQ _ hk)
 unfold pyNext;refine Qq (wpAny_attempt (Ql R F.slot_zip_next (Qr F.slot_zip_next R F.entry_zip_next ?_ (F.args_zip_next_1 _))));show wpAny _ _ (field (.ref (n+4)) 2 >>= _) _ _ _;refine Qq (Qf hz rfl rfl ?_);refine Qq (Qf hz rfl rfl ?_);refine Qq (Qi hI rfl ?_);refine Qq ?_;unfold Builtin.SmallTypes.ownedTupleIsFree;refine Qq (Qf hz rfl rfl (Qj ?_));simp only[if_true];refine Qq (Zi ?_);refine Qq (Qf hz rfl rfl ?_);refine Qq (Qs hz (by simp) λg1 m V=>?_)
 replace m:IsZip g1 (n+4) (n+2) (n+3) .ellipsis:=m
 have d:=V.extBut;refine Qq ?_;simp only[List.zipIdx_cons,List.forIn_nil];refine Qq (Qq (Zp ?_)); show wpAny _ _ (Builtin.SmallTypes.nextOf (.ref n) >>= _) _ _ _
 cases v:xs[i]? with
 |none=>
  refine Qq (qwt P (S.on λo e=>d _ o (by show @Ne Y0 _ _; lia) e) (I.on λo e=>d _ o (by show @Ne Y0 _ _; lia) e) v λg2 e g k=>?_);obtain⟨r,f,hc⟩:=k;have C:=g _ _ (by show @Ne Y0 _ _; lia) m;have y:e≠n+4:=λq=>by subst q; rw[C]at f; cases f; simp at hc
  exact Qs C (by simp) λT _ H=>l T e (λc o c1 _ c3 _ q=>H.extBut _ _ c1 (g _ _ c3 (d _ _ c1 q))) ⟨r,H.extBut _ _ y f,hc⟩
 |some x=>
  have X:ys[i]?=none:=by
   rcases j with h|h
   ·rw[v]at h; cases h
   ·exact h
  refine Qq (qkz (S.on λo e=>d _ o (by show @Ne Y0 _ _; lia) e) (I.on λo e=>d _ o (by show @Ne Y0 _ _; lia) e) v λg2 i2 g c2=>Qj ?_);have U:=g _ _ (by show @Ne Y0 _ _; lia) (d _ _ (by show @Ne Y0 _ _; lia) hO);refine Qq (Qi U rfl ?_);refine Qq (qva U λT O3 p c3=>Qq (wpAny_letGo (Qj ?_)));refine Qq (Qq (Zp ?_)); show wpAny _ _ (Builtin.SmallTypes.nextOf (.ref (n+1)) >>= _) _ _ _;refine Qq (qwt P (h2.on λo e=>p _ o (by show @Ne Y0 _ _; lia) (g _ o (by show @Ne Y0 _ _; lia) (d _ o (by show @Ne Y0 _ _; lia) e))) (W.on λo e=>p _ o (by show @Ne Y0 _ _; lia) (g _ o (by show @Ne Y0 _ _; lia) (d _ o (by show @Ne Y0 _ _; lia) e))) X λg4 e D k=>?_);obtain⟨r,f,hc⟩:=k;have z:=D _ _ (by show @Ne Y0 _ _; lia) (p _ _ (by show @Ne Y0 _ _; lia) (g _ _ (by show @Ne Y0 _ _; lia) m));have y:e≠n+4:=λq=>by subst q; rw[z]at f; cases f; simp at hc
  exact Qs z (by simp) λg5 _ G=>l g5 e (λc o c1 c2 c3 c4 q=>G.extBut _ _ c1 (D _ _ c4 (p _ _ c2 (g _ _ c3 (d _ _ c1 q))))) ⟨r,G.extBut _ _ y f,hc⟩
end
noncomputable def RK.itO(k:RK)(a:Y7):Obj:=match k with
 |.lst=>{ cls:=.type "list_iterator",data:=.fields #[.ref a,.int 0 0] }
 |.tup=>{ cls:=.type "tuple_iterator",data:=.fields #[.ref a,.int 0 0] }
def qac{k:RK}(hs:k.Sq s.heap a xs)(b:Q (.ref s.heap.objs.size) { s with heap:=s.heap.push (k.itO a) }):wpAny (model prog w) A (pyIter (.ref a)) Q E s:=by
 cases k with
 |lst=>exact Za hs b
 |tup=>exact wpAny_pyIter_tuple hs b
def row_new{h:Heap}{k:RK}:k.It (h.push (k.itO a)) h.objs.size a 0:=by
 cases k with
 |lst=>exact⟨_,Qqn _ rfl,rfl,rfl⟩
 |tup=>exact⟨_,Qqn _ rfl,rfl,rfl⟩
noncomputable abbrev zh1(k1:RK)(h:Heap)(l1:Y7):Heap:=h.push (k1.itO l1)
noncomputable abbrev zh2(k1 k2:RK)(h:Heap)(l1 l2:Y7):Heap:=(zh1 k1 h l1).push (k2.itO l2)
noncomputable abbrev zh3(k1 k2:RK)(h:Heap)(l1 l2:Y7):Heap:=(zh2 k1 k2 h l1 l2).push { cls:=.type "tuple",data:=.seq #[.ref h.objs.size,.ref (zh1 k1 h l1).objs.size] }
noncomputable abbrev zh4(k1 k2:RK)(h:Heap)(l1 l2:Y7):Heap:=(zh3 k1 k2 h l1 l2).push { cls:=.type "tuple",data:=.seq #[.none,.none] }
noncomputable abbrev zh5(k1 k2:RK)(h:Heap)(l1 l2:Y7):Heap:=(zh4 k1 k2 h l1 l2).push { cls:=.type "zip",data:=.fields #[.none,.bool Y6,.bool Y6,.ref (zh2 k1 k2 h l1 l2).objs.size,.ref (zh3 k1 k2 h l1 l2).objs.size] }
def qfi(f c)(b a)(xs ys):Meets (Zy.«zip.__new__» ⟨[.type "zip",.ref b,.ref a],[]⟩) (λ_ R s=>f.Sq s.heap b xs/\c.Sq s.heap a ys/\R (.ok (.ret (.ref (zh4 f c s.heap b a).objs.size))) { s with heap:=zh5 f c s.heap b a }):=
 .of_wp λprog w A R s h=>by
  obtain⟨l,g,d,tk,os⟩:=s;obtain⟨k,j,h⟩:=h;have i:=sub_zip;have m:=k;have L2:c.Sq (Shared.heap ⟨l.push (f.itO b),g,d,tk,os⟩) a ys:=j.on λo e=>Qqz _ e
  wp_walk using qac m,qac L2
  exact⟨_,rfl,h⟩
def ZipAt(k1 k2:RK)(n l1 l2:Y0)(i:Y0)(h:Heap):Prop:=
 l1<n/\l2<n/\IsZip h (n+4) (n+2) (n+3) .none/\IsPair h (n+2) (.ref n) (.ref (n+1))/\(∃a b,IsPair h (n+3) a b)/\k1.It h n l1 i/\k2.It h (n+1) l2 i
def qe1(r:d.Sq s.heap a xs)(q:f.Sq s.heap b ys)(b1:a<s.heap.objs.size)(b2:b<s.heap.objs.size)(h:∀h',ZipAt d f s.heap.objs.size a b 0 h'->(∀c o,s.heap.get? c=Y o->h'.get? c=Y o)->Q (.ref (s.heap.objs.size+4)) { s with heap:=h' }):wpAny (model prog w) A (call (.type "zip") [.ref a,.ref b]) Q E s:=by
 refine callType_new F.called_zip (by decide) (F.typeCall_zip_2 _ _) (F.newCall_zip_2 _ _) (λobj=>F.args_object_init_3 obj _ _) F.entry_zip_new (qfi d f a b xs ys) ⟨r,q,?_⟩;have j:(zh1 d s.heap a).objs.size=s.heap.objs.size+1:=Qxq ..;have i:(zh2 d f s.heap a b).objs.size=s.heap.objs.size+2:=by rw[Qxq,j]
 have g:(zh3 d f s.heap a b).objs.size=s.heap.objs.size+3:=by rw[Qxq,i]
 have l:(zh4 d f s.heap a b).objs.size=s.heap.objs.size+4:=by rw[Qxq,g]
 have k:(zh5 d f s.heap a b).get? (zh4 d f s.heap a b).objs.size=Y _:=Qqn _ rfl;have m:(zh5 d f s.heap a b).get? (zh3 d f s.heap a b).objs.size=Y _:=Qqz _ (Qqn _ rfl);have n:(zh5 d f s.heap a b).get? (zh2 d f s.heap a b).objs.size=Y _:=Qqz _ (Qqz _ (Qqn _ rfl));have p:f.It (zh5 d f s.heap a b) (zh1 d s.heap a).objs.size b 0:=row_new.on λo e=>Qqz _ (Qqz _ (Qqz _ e));have t:d.It (zh5 d f s.heap a b) s.heap.objs.size a 0:=row_new.on λo e=>Qqz _ (Qqz _ (Qqz _ (Qqz _ e)));rw[i,g,l]at k;rw[j,i]at n;rw[g]at m;rw[j]at p;rw[l];exact⟨⟨_,k,rfl⟩,h _ ⟨b1,b2,k,n,⟨_,_,m⟩,t,p⟩ λc o x=>Qqz _ (Qqz _ (Qqz _ (Qqz _ (Qqz _ x))))⟩
def RK.sq(k:RK)(K:Qqq)(H:Hp)(a:Y7)(xs:L V):Prop:=match k with
 |.lst=>SqL K H a xs
 |.tup=>SqT K H a xs
noncomputable def Itz(K:Qqq)(k1 k2:RK)(a b:Y7):It:=
 ⟨λi H=>∃xs ys x y,k1.sq K H a xs/\k2.sq K H b ys/\xs[i]?=Y x/\ys[i]?=Y y,
  λi H v H'=>∃p x y,v=.ref p/\H p=J/\H'=upd H p (.tup [x,y])/\(∀xs,k1.sq K H a xs->xs[i]?=Y x)/\∀ys,k2.sq K H b ys->ys[i]?=Y y,
  λi H=>∃xs ys,k1.sq K H a xs/\k2.sq K H b ys/\(xs.length<=i\/ys.length<=i)⟩
section
def qko{k:RK}(I:Inv X pins σ H s)(q:k.sq X.K H a xs):∃b,Vals xs b/\k.Sq s.heap a b.toArray:=by
 cases k with
 |lst=>obtain⟨b,c,p,hz⟩:=I.list q; exact⟨b,c,p.isList⟩
 |tup=>obtain⟨b,c,p,hz⟩:=I.tuple q; exact⟨b,c,show s.heap.IsTuple a b.toArray from p⟩
def qdk{k:RK}(I:Inv X pins σ H s)(q:k.sq X.K H a xs)(b:k.sq X.K H a ys):xs=ys:=by
 cases k with
 |lst=>exact I.list_inj q b
 |tup=>exact I.tuple_inj q b
end
noncomputable def fpZ(n:Y0):L Y7:=[n+4,n+2,n+3,n,n+1]
def qfm{K:Qqq}(U T)(n a b):Turn P w K (.Tuple m c pos) (Itz K U T a b) (fpZ n) (n+4) (ZipAt U T n a b) where
 mem:=by simp[fpZ]
 obj:=λi h st e V=>by
  obtain⟨b1,b2,hz,g,⟨x,y,f⟩,h1,h2⟩:=st;simp only[fpZ,Qqy,Qq8,or_false]at V;rcases V with rfl|rfl|rfl|rfl|rfl
  ·exact⟨_,hz,λv z=>nomatch z⟩
  ·exact⟨_,g,λv z=>nomatch z⟩
  ·exact⟨_,f,λv z=>nomatch z⟩
  ·exact h1.obj
  ·exact h2.obj
 keep:=λi h h' st k=>by
  obtain⟨b1,b2,hz,g,⟨x,y,f⟩,h1,h2⟩:=st;exact⟨b1,b2,k _ (by simp[fpZ]) _ hz,k _ (by simp[fpZ]) _ g,⟨x,y,k _ (by simp[fpZ]) _ f⟩,h1.on λo e=>k _ (by simp[fpZ]) o e,h2.on λo e=>k _ (by simp[fpZ]) o e⟩
 item:=by
  intro X R G S hc i pins s σ H E I hf st hg;subst R G S;obtain⟨xs,ys,x,y,r,p,ex,ey⟩:=hg;obtain⟨b1,b2,hz,g,⟨ua,ub,f⟩,h1,h2⟩:=st;obtain⟨vx,C,u⟩:=qko I r;obtain⟨vy,A,t⟩:=qko I p;obtain⟨u1,Q,F⟩:=C.get ex;obtain⟨u2,N,D⟩:=A.get ey;refine zip_get b1 b2 hz g f h1 h2 u t (by simpa using Q) (by simpa using N) λh' a1 a2 a3 a4 a5 a6 kp=>⟨_,rfl,?_⟩
  refine wpAny_letOwnedTupleGo_zip a1 λW c1 c2=>?_;have d:=c2.extBut;have lt:∀b∈fpZ n,b≠s.heap.objs.size:=λb hb z=>by
   have q:b<s.heap.objs.size:=by
    simp only[fpZ,Qqy,Qq8,or_false]at hb;rcases hb with rfl|rfl|rfl|rfl|rfl
    ·exact Qqe hz
    ·exact Qqe g
    ·exact Qqe f
    ·obtain⟨o,e,_⟩:=h1.obj; exact Qqe e
    ·obtain⟨o,e,_⟩:=h2.obj; exact Qqe e
   rw[z]at q;exact Qz7 _ q
  have nz:s.heap.objs.size≠n+4:=λz=>lt (n+4) (by simp[fpZ]) z.symm;have I1:Inv X pins σ H { s with heap:=W,toks:=s.toks }:=Inv.turnedL I (λb o hb e=>d _ _ (λz=>hb (by simp[fpZ,z])) (kp b o (λz=>hb (by simp[fpZ,z])) (λz=>hb (by simp[fpZ,z])) (λz=>hb (by simp[fpZ,z])) (λz=>hb (by simp[fpZ,z])) e)) hf;have fr:=I.hok.fresh (Qqv _);have I2:Inv X pins σ (upd H s.heap.objs.size (.tup [x,y])) { s with heap:=W,toks:=s.toks }:=Inv.track I1 (I.fpOk (Qqv _) fr) ⟨by show 2<=sizeLine; decide,[u1,u2],.cons F (.cons D .nil),⟨_,d _ _ nz a6,rfl,_,rfl⟩⟩;refine⟨.ref s.heap.objs.size,upd H s.heap.objs.size (.tup [x,y]),I2,rfl,⟨_,x,y,rfl,fr,rfl,λzs j=>?_,λzs j=>?_⟩,⟨b1,b2,c1,d _ _ (by show @Ne Y0 _ _; lia) a2,⟨_,_,d _ _ (by show @Ne Y0 _ _; lia) a3⟩,a4.on λo e=>d _ o (by show @Ne Y0 _ _; lia) e,a5.on λo e=>d _ o (by show @Ne Y0 _ _; lia) e⟩,λb hb=>?_⟩
  ·rw[qdk I j r]; exact ex
  ·rw[qdk I j p]; exact ey
  ·rw[qzx (lt b hb)]; exact(hf b hb).1
 done:=by
  intro X R G S hc i pins s σ H E I hf st hg;subst R G S;obtain⟨xs,ys,r,p,l⟩:=hg;obtain⟨b1,b2,hz,g,⟨ua,ub,f⟩,h1,h2⟩:=st;obtain⟨vx,C,u⟩:=qko I r;obtain⟨vy,A,t⟩:=qko I p;have lx:=C.length;have ly:=A.length;refine qfh (I.ok.hd hc) b1 b2 hz g f h1 h2 u t ?_ λh' kp=>⟨rfl,Inv.turnedL I (λb o hb e=>kp b o (λz=>hb (by simp[fpZ,z])) (λz=>hb (by simp[fpZ,z])) (λz=>hb (by simp[fpZ,z])) (λz=>hb (by simp[fpZ,z])) e) hf⟩
  rcases l with h|h
  ·exact .inl (by simp; lia)
  ·exact .inr (by simp; lia)
 self:=λ_ _ _ _ _ st h=>wpAny_pyIter_zip st.2.2.1 h
noncomputable def iZip(K:Qqq)(ta:TA):TI:=λσ H R=>ta σ H λvs H1=>∃(k1 k2:RK) (a b:Y7),vs=[.ref a,.ref b]/\(∃xs,k1.sq K H1 a xs)/\(∃ys,k2.sq K H1 b ys)/\R (Itz K k1 k2 a b) H1
def pi_zip(D:Gl X "zip")(C:X.mg "zip" = J)(E:PA X [a,b] m)(hs:starEach [a,b] X.env=[(Y6,Qy a X.env),(Y6,Qy b X.env)]:=by rfl)(i:starEach [b] X.env=[(Y6,Qy b X.env)]:=by rfl):
  PI X (.Tuple j c f) (.Call (.Name "zip" p) [a,b] [] pos) (iZip X.K m):=by
 intro pins s σ H R I h;refine Call_ (qwe I D C boot_zip (PyProof.Rows.callWith_type1 (thn (E pos pins s σ H _ I h) λK g ⟨vs,H1,k,r1,z⟩=>?_) (by rw[hs,i]) (by rw[i]; rfl)));obtain⟨w,v,a,b,e,⟨xs,y⟩,⟨ys,x⟩,q⟩:=z;subst e
 cases r1 with
 |cons r l=>
  cases l with
  |cons r' l=>
   cases l;cases r;cases r';obtain⟨G,P,t⟩:=qko k y;obtain⟨F,N,n⟩:=qko k x;have la:a<g.heap.objs.size:=by
    cases w<;>(obtain⟨o,e,_⟩:=t; exact Qqe e)
   have A:b<g.heap.objs.size:=by
    cases v<;>(obtain⟨o,e,_⟩:=n; exact Qqe e)
   refine qe1 t n la A λh' st kp=>wpAny_pyIter_zip st.2.2.1 ?_;refine⟨g.heap.objs.size+4,fpZ g.heap.objs.size,_,_,H1,rfl,k.kept kp,qfm w v _ a b,st,λd hd=>?_,q⟩;have u:g.heap.objs.size<=d:=by
    simp only[fpZ,Qqy,Qq8,or_false]at hd;rcases hd with rfl|rfl|rfl|rfl|rfl<;>(show @LE.le Y0 _ _ _; lia)
   exact k.fpOk u (k.hok.fresh u)
section
end
inductive EntOk (prm:Qp):L Q2->L Y5->L Y8->Prop
 |nil:EntOk prm [] [] []
 |cons {k:Y5}{t:Tok}{u:Y8}{es:L Q2}{ks:L Y5}{us:L Y8}(h:EntOk prm es ks us):EntOk prm (⟨PyData.keyHash prm k,.str k t,u⟩::es) (k::ks) (u::us)
structure FDict (prm:Qp) (K:Qqq) (a:Y7) (ks:L Y5) (ds:L M.D):Prop where
 ex:∃(us:L Y8) (vs:L V) (es:Array Q2) (ep:Y0),K.lookup a=Y { cls:=.type "dict",data:=.dict es ep }/\EntOk prm es.toList ks us/\Vals vs us/\∀m H,IsDs K m H ds vs
 nd:ks.Nodup
 ne:(a==Qh)=Y6
noncomputable def kzip{α:Type}(ks:L Y5)(us:L α):L (Key×α):=(ks.map λk=>(Sum.inr k:Key)).zip us
theorem qa5:∀{es}{ks}{us},EntOk w.params es ks us->(∀e∈es,∃k,(mixKind P w).is k e.key=Z/\e.hash=(mixKind P w).hash k)/\PySem.Pairs (mixKind P w) es (kzip ks us)/\(kzip ks us).map (·.1)=ks.map λk=>(Sum.inr k:Key)
 |_,_,_,.nil=>⟨(λe h=>nomatch h),.nil,rfl⟩
 |_,_,_,.cons (k:=k) (t:=t) h=>by
  obtain⟨h1,h2,b⟩:=qa5 h;refine⟨λe a=>?_,?_,?_⟩
  ·rcases Qqy.mp a with q|q
   ·subst q;exact⟨.inr k,qq8 P w k t,rfl⟩
   ·exact h1 e q
  ·exact .cons (qq8 P w k t) rfl h2
  ·exact congrArg (List.cons (Sum.inr k:Key)) b
def qed(I:Inv X b f H s)(h:FDict X.w.params X.K a ks ds):
  ∃(us:L Y8) (vs:L V),s.heap.DictOf (mixKind X.prog X.w) a (kzip ks us)/\Vals vs us/\(∀m H,IsDs X.K m H ds vs)/\ks.length=us.length:=by
 obtain⟨us,vs,es,l,p,d,o,n⟩:=h.ex;obtain⟨h1,h2,k⟩:=qa5 d;refine⟨us,vs,⟨_,es,l,I.kIn a _ p,⟨rfl,rfl,rfl⟩,rfl,λe j=>h1 e (by simpa using j),h2,?_⟩,o,n,?_⟩
 ·rw[k];exact(List.pairwise_map.mpr (h.nd.imp λc i=>c (Sum.inr.inj i)))
 ·have:∀{es:L Q2}{ks:L Y5}{us:L Y8},EntOk X.w.params es ks us->ks.length=us.length:=by
   intro es ks us q
   induction q with
   |nil=>rfl
   |cons _ g=>rw[Qql,Qql,g]
  exact this d
theorem qmt(z):∀(ks:L Y5) (us:L α),((kzip ks us).find? λp=>decide (p.1=Sum.inr z)).map (·.2)=((ks.zip us).find? λq=>q.1==z).map (·.2)
 |[],us=>rfl
 |k::ks,[]=>rfl
 |k::ks,u::us=>by
  have a:=qmt z ks us;show((((Sum.inr k:Key),u)::kzip ks us).find? λp=>decide (p.1=Sum.inr z)).map (·.2)=(((k,u)::ks.zip us).find? λq=>q.1==z).map (·.2);rw[Qzv,Qzv]
  by_cases h:k=z
  ·have h1:decide ((Sum.inr k:Key)=Sum.inr z)=true:=by rw[h]; simp
   have h2:(k==z)=true:=by rw[h]; simp
   simp only[h1,h2]
   rfl
  ·have h1:decide ((Sum.inr k:Key)=Sum.inr z)=false:=Zu λq=>h (Sum.inr.inj q);have h2:(k==z)=false:=by simpa using h
   simp only[h1,h2];exact a
theorem qea{K:Qqq}(z):∀{ks:L Y5}{ds:L M.D}{vs:L V}{us:L Y8},(∀m H,IsDs K m H ds vs)->Vals vs us->ks.length=us.length->
  (((ks.zip ds).find? λq=>q.1==z)=J/\((ks.zip us).find? λq=>q.1==z)=J/\ks.contains z=Y6)\/∃k d v u,((ks.zip ds).find? λq=>q.1==z)=Y (k,d)/\((ks.zip us).find? λq=>q.1==z)=Y (k,u)/\(∀m H,MS.IsD K m H d v)/\RelV v u/\ks.contains z=Z
 |[],ds,vs,us,i,r,h=>.inl ⟨rfl,rfl,rfl⟩
 |k::ks,[],vs,us,i,r,h=>by
  rw[(i [] λ_=>J).nil]at r;cases r;cases h
 |k::ks,d::ds,vs,us,i,r,h=>by
  obtain⟨v,vr,e,_,_⟩:=(i [] λ_=>J).cons;subst e;have j:∀m H,MS.IsD K m H d v:=λm H=>by
   obtain⟨b,a,e,q,_⟩:=(i m H).cons;cases e;exact q
  have g:∀m H,IsDs K m H ds vr:=λm H=>by
   obtain⟨b,a,e,_,q⟩:=(i m H).cons;cases e;exact q
  cases r with
  |cons r1 c=>
   rename_i u us
   by_cases hk:k=z
   ·subst hk;refine .inr ⟨k,d,v,u,by simp,by simp,j,r1,by simp⟩
   ·have h2:(k==z)=false:=by simpa using hk
    have l:(z==k)=false:=by simpa using Ne.symm hk
    have f:=qea z g c (by simpa using h);rw[List.zip_cons_cons,List.zip_cons_cons,Qzv,Qzv,List.contains_cons];simp only[h2,l];exact f
section
def ql2(D:Gl X x)(A:X.mg x=Y (.ref a))(F:FDict X.w.params X.K a ks ds)(hd:(x==("__debug__" : Y5))=Y6)(hb:PE X b tb)(hs:NoSl b):
  PE X (.Subscript (.Name x p0) b pos) (λσ H Q=>tb σ H λy H2=>∃z d,y=.str z/\(∃k,((ks.zip ds).find? λq=>q.1==z)=Y (k,d))/\∀v,(∀m,MS.IsD X.K m H2 d v)->Q v H2):=by
 intro pins s σ H Q I h;refine qc0 PySem.F.slot_dict_getitem.lookup hs (thn (qyf D A (show RelV (.ref a) (.ref a) from rfl) hd pins s σ H (λx H1=>x=.ref a/\tb σ H1 _) I ⟨rfl,h⟩) λu j ⟨T,H1,S,n,ex,r⟩=>?_);subst ex;cases n;refine thn (hb pins j σ H1 _ S r) λW U ⟨y,H2,g,l,z,d,R,⟨k,c⟩,p⟩=>?_;subst R;obtain⟨i,vs,f,o,E,C⟩:=qed g F;refine⟨f.typeIs,?_⟩;rcases qea z E o C with⟨t,_,_⟩|⟨V,d',e,u',P,N,K,G,_⟩
 ·rw[t]at c; cases c
 ·rw[P]at c;cases c;have w:valueAt (kzip ks i) (Sum.inr z)=Y u':=by
   unfold valueAt;rw[qmt,N]
   rfl
  exact wpAny_getItem_of (qkc (k:=.inr z) l) f.mapOf w ⟨e,H2,g.tok _,G,p e λm=>K m H2⟩
def gd_has(I:Inv X c e H s)(k:FDict X.w.params X.K a ks ds)(z):
  ∃d,s.heap.DictOf (mixKind X.prog X.w) a (kzip ks d)/\(valueAt (kzip ks d) (Sum.inr z)).isSome=ks.contains z:=by
 obtain⟨d,vs,n,f,j,i⟩:=qed I k;refine⟨d,n,?_⟩;unfold valueAt;rw[qmt];rcases qea z j f i with⟨_,h,g⟩|⟨q,d',o,p,u,m,t,r,l⟩
 ·rw[h,g]; rfl
 ·rw[m,l]; rfl
def pc_gin(neg)(n:Gl X x)(m:X.mg x=Y (.ref a))(c:FDict X.w.params X.K a ks ds)(hd:(x==("__debug__" : Y5))=Y6)(hb:PE X b tb):
  PC X (if neg then .NotIn else .In) b (.Name x p0) (λσ H Q=>tb σ H λy H2=>∃z,y=.str z/\Q (.bl (ks.contains z != neg)) H2):=by
 intro pins s σ H Q I h;refine thn (hb pins s σ H _ I h) λv i ⟨y,H1,p,e,z,o,l⟩=>?_;subst o;refine thn (qyf n m (show RelV (.ref a) (.ref a) from rfl) hd pins i σ H1 (λx H2=>x=.ref a/\Q (.bl (ks.contains z != neg)) H2) p ⟨rfl,l⟩) λu t ⟨q,H2,d,j,ex,f⟩=>?_;subst ex;cases j;obtain⟨r,g,hs⟩:=gd_has d c z
 cases neg with
 |false=>
  refine wpAny_in_of (qkc (k:=.inr z) e) c.ne g.mapOf ?_;rw[hs];refine⟨.bl _,H2,d.tok _,rfl,?_⟩;simpa using f
 |true=>
  refine wpAny_notIn_of (qkc (k:=.inr z) e) c.ne g.mapOf ?_;rw[hs];refine⟨.bl _,H2,d.tok _,rfl,?_⟩;simpa using f
open M (D Ya Y2 Sl)
def qdd(neg)(j:Gl X x)(i:X.mg x=Y (.ref a))(k:FDict X.w.params X.K a ks ds)(hd:(x==("__debug__" : Y5))=Y6)(hb:PE X b (tD X.K c)):
  PC X (if neg then .NotIn else .In) b (.Name x p0) (tD X.K λτ st=>(c τ st).bind λp=>match p.1 with
   |.str z=>Y (.bl (ks.contains z != neg),p.2)
   |_=>J):=by
 intro pins s σ H Q I h;refine pc_gin neg j i k hd hb pins s σ H Q I ?_;refine h.el λm st τ d st' t o e q=>qzk e λn u l e=>rsI t o l λy m1 H1 b1 f r g=>?_
 cases n with
 |str z=>
  have q:=q.of e;exact⟨z,g.str,q _ m1 H1 b1 f r (mkBl _)⟩
 |_=>exact nn e
def qgh(j:Gl X x)(i:X.mg x=Y (.ref a))(k:FDict X.w.params X.K a ks ds)(hd:(x==("__debug__" : Y5))=Y6)(hb:PE X b (tD X.K c))(hs:NoSl b):
  PE X (.Subscript (.Name x p0) b pos) (tD X.K λτ st=>(c τ st).bind λp=>match p.1 with
   |.str z=>((ks.zip ds).find? λq=>q.1==z).map λq=>(q.2,p.2)
   |_=>J):=by
 refine(ql2 j i k hd hb hs).imp λσ H Q h=>h.el λm st τ d st' u s e q=>qzk e λr A o e=>rsI u s o λy m1 H1 b1 f t g=>?_
 cases r with
 |str z=>
  refine qzg e λw n l=>?_;cases l;exact⟨z,w.2,g.str,⟨w.1,n⟩,λv hv=>q _ m1 H1 b1 f t (hv m1)⟩
 |_=>exact nn e
def qy1{K:Qqq}(hk:M.isKey e=Z)(f:IsKV K m H kvs xs)(i:Rd H a (.dK xs))(g:MS.IsD K m H e y):
  ∃o,DGet H a y o/\((M.dget kvs e=J/\o=J)\/∃d v,M.dget kvs e=Y d/\o=Y v/\MS.IsD K m H d v):=by
 obtain⟨k,c⟩:=qq5 hk;have h:=qmu c g;subst h;refine⟨valV xs k,.inl ⟨xs,k,i,rfl,rfl⟩,?_⟩;rcases f.get c with⟨h1,h2⟩|⟨d,v,h1,h2,j⟩
 ·exact .inl ⟨h1,h2⟩
 ·exact .inr ⟨d,v,h1,h2,j⟩
def qdf(r:X.A.units+1<cLine)(neg)(t:PE X a (tD X.K i))(hb:PE X b (tD X.K f)):
  PC X (if neg then .NotIn else .In) a b (tD X.K λτ st=>(i τ st).bind λp=>(f τ p.2).bind λq=>match q.1 with
   |.loc l=>(M.dicAt q.2 l).bind λkvs=>if M.isKey p.1 then Y (.bl ((M.dget kvs p.1).isSome != neg),q.2) else J
   |_=>J):=by
 have c:∀{σ:L2.St}{H:Hp}{Q:VK},tD X.K (λτ st=>(i τ st).bind λp=>(f τ p.2).bind λq=>match q.1 with
   |.loc l=>(M.dicAt q.2 l).bind λkvs=>if M.isKey p.1 then Y (.bl ((M.dget kvs p.1).isSome != neg),q.2) else J
   |_=>J) σ H Q->tD X.K i σ H λy H1=>tD X.K f σ H1 λx H2=>∃a o,x=.ref a/\DGet H2 a y o/\Q (.bl (o.isSome != neg)) H2:=by
  intro σ H Q h;refine h.el λm st τ d st' U u e q=>qzk e λR W N e=>qzk e λP V K e=>rsI U u N λy m1 H1 b1 n T C=>rsI T (u.mono b1 n) K λz w H2 b2 k R2 A=>?_
  cases P with
  |loc l=>
   refine qzj e λkvs G e=>?_
   split at e
   ·rename_i hk;have q:=q.of e;obtain⟨S,xs,_,rfl,E,j⟩:=R2.dict G A;obtain⟨o,g,hg⟩:=qy1 hk j E (qzw b2 k _ _ C);refine⟨S,o,rfl,g,?_⟩;have F:o.isSome=(M.dget kvs R).isSome:=by
     rcases hg with⟨h1,h2⟩|⟨d,v,h1,h2,_⟩
     ·rw[h1,h2]; rfl
     ·rw[h1,h2]; rfl
    rw[F];exact q _ w H2 (b1.trans b2) (n.trans k) R2 (mkBl _)
   ·exact nn e
  |_=>exact nn e
 cases neg with
 |false=>
  intro pins s σ H Q I h;refine pc_din r t hb pins s σ H Q I ?_;have:=c h;simpa only[tDIn,Bool.bne_false] using this
 |true=>
  intro pins s σ H Q I h;refine qde r t hb pins s σ H Q I ?_;have:=c h;simpa only[qct,Bool.bne_true] using this
def qgi(A:X.A.units+1<cLine)(C:PE X a (tD X.K n))(hb:PE X b (tD X.K k))(hs:NoSl b):
  PE X (.Subscript a b pos) (tD X.K λτ st=>(n τ st).bind λp=>(k τ p.2).bind λq=>match p.1 with
   |.loc l=>(M.dicAt q.2 l).bind λkvs=>if M.isKey q.1 then(M.dget kvs q.1).map λd=>(d,q.2) else J
   |_=>J):=by
 refine(ql5 A C hb hs).imp λσ H Q h=>h.el λm st τ d st' T r e q=>qzk e λP V N e=>qzk e λW U K e=>rsI T r N λy m1 H1 b1 j S u=>rsI S (r.mono b1 j) K λz s H2 b2 i R2 t=>?_
 cases P with
 |loc l=>
  refine qzj e λkvs I e=>?_
  split at e
  ·rename_i hk;refine qzg e λw c G=>?_;cases G;obtain⟨R,xs,_,rfl,E,f⟩:=R2.dict I (qzw b2 i _ _ u);obtain⟨o,g,hg⟩:=qy1 hk f E t;rcases hg with⟨h1,h2⟩|⟨d,v,h1,h2,F⟩
   ·rw[h1]at c; cases c
   ·rw[h1]at c;cases c;subst h2;exact⟨R,v,rfl,g,q _ s H2 (b1.trans b2) (j.trans i) R2 F⟩
  ·exact nn e
 |_=>exact nn e
def ql4(G:X.A.units+1<cLine)(N:PE X a (tD X.K u))(hb:PE X b (tD X.K t))(I:M1 X a "get" f b c):
  PE X (.Call (.Attribute a "get" f) [b] [] c) (tD X.K λτ st=>(u τ st).bind λp=>match p.1 with
   |.loc l=>(M.dicAt p.2 l).bind λ_=>(t τ p.2).bind λq=>(M.dicAt q.2 l).bind λkvs=>if M.isKey q.1 then Y ((M.dget kvs q.1).getD .non,q.2) else J
   |_=>J):=by
 refine(qgl G N hb I).imp λσ H Q h=>h.el λm st τ d st' R0 w e q=>qzk e λd1 s1 V e=>rsI R0 w V λy m1 H1 b1 j A s=>?_
 cases d1 with
 |loc l=>
  refine qzj e λE W e=>qzk e λd2 s2 U e=>qzj e λkvs T e=>?_
  split at e
  ·rename_i hk;have q:=q.of e;obtain⟨a0,C,K,rfl,n,_⟩:=A.dict W s;refine⟨a0,rfl,.inl ⟨_,n⟩,rsI A (w.mono b1 j) U λz r H2 b2 i R2 F=>?_⟩;obtain⟨a',xs,_,S,P,k⟩:=R2.dict T (qzw b2 i _ _ s);cases S;obtain⟨o,g,hg⟩:=qy1 hk k P F;refine⟨o,g,?_⟩;rcases hg with⟨h1,h2⟩|⟨d,v,h1,h2,R⟩
   ·rw[h1]at q;subst h2;exact q _ r H2 (b1.trans b2) (j.trans i) R2 qvb
   ·rw[h1]at q;subst h2;exact q _ r H2 (b1.trans b2) (j.trans i) R2 R
  ·exact nn e
 |_=>exact nn e
end
section
end
section
open M (D Ya Y2 Sl)
end
end MS
end
section
namespace MS
open PySem PySem.Spec PyProof.Rows L2
open M (D Ya Y2 Sl)
section
variable {K:Qqq}{m m1:L Y7}{H1:Hp}
mutual
theorem qez:∀(d:D) (v:V),M.noLoc d=Z->MS.IsD K m1 H1 d v->MS.IsD K m H1 d v
 |.non,_,_,h=>by rw[h.non]; exact qvb
 |.bl _,_,_,h=>by rw[h.bl]; exact mkBl _
 |.int _,_,_,h=>by rw[h.int]; exact mkInt _
 |.str _,_,_,h=>by rw[h.str]; exact mkStr _
 |.tup ds,_,n,h=>by
  obtain⟨a,xs,rfl,q,r⟩:=h.tup;unfold M.noLoc at n;exact qxb q (qj6 ds xs n r)
 |.lst ds,_,n,h=>by
  obtain⟨a,xs,rfl,q,r⟩:=h.lst;unfold M.noLoc at n;exact qb1 q (qj6 ds xs n r)
 |.loc l,_,n,h=>by unfold M.noLoc at n; cases n
theorem qj6:∀(ds:L D) (xs:L V),M.noLocs ds=Z->IsDs K m1 H1 ds xs->IsDs K m H1 ds xs
 |[],_,_,h=>by rw[h.nil]; exact qqy
 |d::ds,_,n,h=>by
  obtain⟨x,r,rfl,q,t⟩:=h.cons;unfold M.noLocs at n;rw[Qq0]at n;exact qzo (qez d x n.1 q) (qj6 ds r n.2 t)
end
mutual
theorem qjb(s:Sub m m1):∀(d:D) (v g:V),MS.IsD K m H d v->MS.IsD K m1 H1 d g->MS.IsD K m H1 d g
 |.non,_,_,_,h=>by rw[h.non]; exact qvb
 |.bl _,_,_,_,h=>by rw[h.bl]; exact mkBl _
 |.int _,_,_,_,h=>by rw[h.int]; exact mkInt _
 |.str _,_,_,_,h=>by rw[h.str]; exact mkStr _
 |.tup ds,_,_,h0,h=>by
  obtain⟨a,xs,rfl,q,r⟩:=h.tup;obtain⟨f,b,_,_,c⟩:=h0.tup;exact qxb q (qqt s ds b xs c r)
 |.lst ds,_,_,h0,h=>by
  obtain⟨a,xs,rfl,q,r⟩:=h.lst;obtain⟨f,b,_,_,c⟩:=h0.lst;exact qb1 q (qqt s ds b xs c r)
 |.loc l,_,_,h0,h=>by
  obtain⟨f,i,_⟩:=h0.loc;obtain⟨a,e,rfl⟩:=h.loc;have:=s l f i;rw[e]at this;cases this;exact qgs i
theorem qqt(s:Sub m m1):∀(ds:L D) (xs a:L V),IsDs K m H ds xs->IsDs K m1 H1 ds a->IsDs K m H1 ds a
 |[],_,_,_,h=>by rw[h.nil]; exact qqy
 |d::ds,_,_,h0,h=>by
  obtain⟨x,r,rfl,q,t⟩:=h.cons;obtain⟨b,e,rfl,f,c⟩:=h0.cons;exact qzo (qjb s d b x f q) (qqt s ds e r c t)
end
theorem qj5(s:Sub m m1):∀(kvs:L (D×D)) (xs a:L (Key×V)),IsKV K m H kvs xs->IsKV K m1 H1 kvs a->IsKV K m H1 kvs a
 |[],_,_,_,h=>h
 |p::r,_,_,⟨i,v0,d,j,g,b,c⟩,⟨k,v,f,e,hk,hv,hr⟩=>⟨k,v,f,e,hk,qjb s _ _ _ b hv,qj5 s r _ _ c hr⟩
theorem qwh(s:Sub m m1):∀(fs:L (Y5×D)) (ys a:L (Y5×V)),IsFs K m H fs ys->IsFs K m1 H1 fs a->IsFs K m H1 fs a
 |[],_,_,_,h=>h
 |p::r,_,_,⟨v0,d,g,b,c⟩,⟨v,f,e,hv,hr⟩=>⟨v,f,e,qjb s _ _ _ b hv,qwh s r _ _ c hr⟩
def qg5(s:Sub m m1)(f:IsC K m H c a)(h:IsC K m1 H1 c a):IsC K m H1 c a:=by
 cases c with
 |lst w ds=>
  cases w with
  |true=>
   obtain⟨xs,e,q⟩:=h;obtain⟨d,_,b⟩:=f;exact⟨xs,e,qqt s _ _ _ b q⟩
  |false=>
   obtain⟨xs,e,q⟩:=h;obtain⟨d,_,b⟩:=f;exact⟨xs,e,qqt s _ _ _ b q⟩
 |dic w kvs=>
  cases w with
  |true=>
   obtain⟨xs,e,q⟩:=h;obtain⟨d,_,b⟩:=f;exact⟨xs,e,qj5 s _ _ _ b q⟩
  |false=>
   obtain⟨o,xs,e,q⟩:=h;obtain⟨_,d,_,b⟩:=f;exact⟨o,xs,e,qj5 s _ _ _ b q⟩
 |obj C fs=>
  obtain⟨dx,ys,e,q⟩:=h;obtain⟨_,g,_,b⟩:=f;exact⟨dx,ys,e,qwh s _ _ _ b q⟩
def pre_at{st st0:Y2}(h:st0.take st.length=st){l:Y0}(e:st[l]?=Y c):st0[l]?=Y c:=by
 have a:=(Qqj.mp e).1;rw[<- h,Qxr,Z2 a]at e;exact e
def Rel.cutBack{st:Y2}(d:Rel K m st H)(g:Rel K m1 st0 H1)(s:Sub m m1)(h:st0.take st.length=st)(t:Tr H1 H2)(f:∀(l:Y0) (c:Ya) (a:Y7),st[l]?=Y c->m[l]?=Y a->Wr c=Z->H2 a=H1 a):Rel K m st H2:=
 ⟨d.len,d.nd,λl c a e b=>qjc (Sub.refl m) t (qg5 s (d.cell l c a e b) (g.cell l c a (pre_at h e) (s l a b))) λw=>f l c a e b w⟩
mutual
theorem qyr(s:Sub m m1):∀(d:D) (v:V),M.lt m.length d=Z->IsD K m1 H d v->IsD K m H d v
 |.non,_,_,h=>h
 |.bl _,_,_,h=>h
 |.int _,_,_,h=>h
 |.str _,_,_,h=>h
 |.tup ds,_,b,h=>by
  unfold M.lt at b;obtain⟨a,xs,rfl,q,r⟩:=h.tup;exact qxb q (qxf s ds xs b r)
 |.lst ds,_,b,h=>by
  unfold M.lt at b;obtain⟨a,xs,rfl,q,r⟩:=h.lst;exact qb1 q (qxf s ds xs b r)
 |.loc l,_,b,h=>by
  unfold M.lt at b;obtain⟨a,e,rfl⟩:=h.loc;have b:l<m.length:=by simpa[Nat.blt_eq] using b
  have f:m[l]?=Y m[l]:=by simp
  have c:=s l _ f;rw[e]at c;cases c;exact qgs f
theorem qxf(s:Sub m m1):∀(ds:L D) (xs:L V),M.lts m.length ds=Z->IsDs K m1 H ds xs->IsDs K m H ds xs
 |[],_,_,h=>h
 |d::ds,_,a,h=>by
  unfold M.lts at a;rw[Qq0]at a;obtain⟨x,r,rfl,q,t⟩:=h.cons;exact qzo (qyr s d x a.1 q) (qxf s ds r a.2 t)
end
theorem qvf(s:Sub m m1):∀(kvs:L (D×D)) (xs:L (Key×V)),(kvs.all λp=>M.lt m.length p.2)=Z->IsKV K m1 H kvs xs->IsKV K m H kvs xs
 |[],_,_,h=>h
 |p::r,_,a,⟨k,v,b,e,hk,hv,hr⟩=>by
  rw[Qzp,Qq0]at a;exact⟨k,v,b,e,hk,qyr s _ _ a.1 hv,qvf s r b a.2 hr⟩
theorem qat(s:Sub m m1):∀(fs:L (Y5×D)) (ys:L (Y5×V)),(fs.all λp=>M.lt m.length p.2)=Z->IsFs K m1 H fs ys->IsFs K m H fs ys
 |[],_,_,h=>h
 |p::r,_,a,⟨v,b,e,hv,hr⟩=>by
  rw[Qzp,Qq0]at a;exact⟨v,b,e,qyr s _ _ a.1 hv,qat s r b a.2 hr⟩
def qm6(s:Sub m m1)(b:M.ltC m.length c=Z)(h:IsC K m1 H c a):IsC K m H c a:=by
 cases c with
 |lst w ds=>
  cases w with
  |true=>obtain⟨xs,e,q⟩:=h; exact⟨xs,e,qxf s _ _ b q⟩
  |false=>obtain⟨xs,e,q⟩:=h; exact⟨xs,e,qxf s _ _ b q⟩
 |dic w kvs=>
  cases w with
  |true=>obtain⟨xs,e,q⟩:=h; exact⟨xs,e,qvf s _ _ b q⟩
  |false=>obtain⟨o,xs,e,q⟩:=h; exact⟨o,xs,e,qvf s _ _ b q⟩
 |obj C fs=>obtain⟨dx,ys,e,q⟩:=h; exact⟨dx,ys,e,qat s _ _ b q⟩
def GcOk(st st0:Y2):Prop:=(st0.take st.length).all (M.ltC st.length)=Z\/st0.take st.length=st
def gc_el{st:Y2}(e:M.gcD st p=q):p=q\/(GcOk st p.2/\M.gcX st.length p=q):=by
 unfold M.gcD at e
 split at e
 ·rename_i h; exact .inr ⟨.inl h,e⟩
 ·split at e
  ·rename_i h; exact .inr ⟨.inr h,e⟩
  ·exact .inl e
def qji{st0:Y2}(e:(st0.take n)[l]?=Y c):l<n/\st0[l]?=Y c:=by
 rw[Qxr]at e
 split at e
 ·rename_i h; exact⟨h,e⟩
 ·exact nn e
def Rel.cut{st:Y2}(i:Rel K m st H)(d:Rel K m1 st0 H1)(s:Sub m m1)(h:GcOk st st0)(t:Tr H1 H2)(g:∀(l:Y0) (c:Ya) (a:Y7),(st0.take st.length)[l]?=Y c->m[l]?=Y a->Wr c=Z->H2 a=H1 a):Rel K m (st0.take st.length) H2:=by
 rcases h with h|h
 ·have n:=i.len;have o:m.length<=m1.length:=by
   rcases Qz1 m1.length m.length with z|z
   ·have f:m[m1.length]?=Y (m[m1.length]'z):=by simp
    have:=(Qqj.mp (s _ _ f)).1
    lia
   ·exact z
  have h1:=d.len;refine⟨by rw[Qza]; lia,λl k a c u r f q p w j=>d.nd l k a c u (s _ _ r) (s _ _ f) (qji q).2 (qji p).2 w j,λl c a e b=>?_⟩;refine qjc (Sub.refl m) t (qm6 s ?_ (d.cell l c a (qji e).2 (s l a b))) λw=>g l c a e b w;have:=Qzj.mp h c (Qqm e);rw[n]; exact this
 ·rw[h];exact i.cutBack d s h t λl c a e b w=>g l c a (by rw[h]; exact e) b w
end
section
def qku(I:Inv X d g H s)(h:H a=Y (.lst xs)):∃o,Inv X d g (upd H a (.frz o (.lst xs))) s:=by
 obtain⟨z,f,n,r,e⟩:=id (I.hok a _ h);refine⟨{ cls:=.type "list",data:=.seq f.toArray n },I.un ⟨λb o q _ _ _=>q,λb o q _ _ _=>⟨o.slots,q⟩,λb o q hn _=>?_,λb o q _=>⟨o,q⟩,λb ys q=>?_,λb o u q=>?_,λb ps q=>⟨#[],?_⟩⟩ ?_⟩
 ·rw[qzx (λz=>by subst z; rw[h]at hn; cases hn)];exact hn
 ·rw[qzx (qzs q h (by intro z; cases z))]; exact q
 ·rw[qzx (qzs q h (by intro z; cases z))]; exact q
 ·rw[qzx (qzs q h (by intro z; cases z)),q]; simp
 ·intro b u q
  by_cases hb:b=a
  ·subst hb;rw[qzy]at q;cases q;exact⟨e,z,f,n,r,e⟩
  ·rw[qzx hb]at q;refine(I.hok b u q).stay (λc v _ w=>w) (λc w=>?_) λc ys w=>?_
   ·rw[qzx (qzs w h (by intro z; cases z))]; exact w
   ·rw[qzx (qzs w h (by intro z; cases z))]; exact w
inductive Di:HO->Prop
 |k (xs:L (Key×V)):Di (.dK xs)
 |t (xs:L (L Key×V)):Di (.dT xs)
def Di.ne(h:Di u):(∀ys,HO.tup ys≠u)/\(∀o v,HO.frz o v≠u)/\(∀p,HO.own p≠u)/\∀ps,HO.tbl ps≠u:=by
 cases h<;>exact⟨λ_ z=>(by cases z),λ_ _ z=>(by cases z),λ_ z=>(by cases z),λ_ z=>(by cases z)⟩
def qm7(i:Di u)(I:Inv X d f H s)(h:H a=Y u):∃o,s.heap.get? a=Y o/\Inv X d f (upd H a (.frz o u)) s:=by
 obtain⟨g,m,l,j⟩:=i.ne;have ok:=I.hok a _ h;obtain⟨o,e⟩:∃o,s.heap.get? a=Y o:=by
  cases i<;>(obtain⟨_,_,vs,_,o,es,n,e,_⟩:=ok; exact⟨o,e⟩)
 have st:∀{b:Y7}{v:HO},ObjOk X.prog X.w H s.heap b v->ObjOk X.prog X.w (upd H a (.frz o u)) s.heap b v:=λk=>k.stay (λc v _ w=>w) (λc w=>by rw[qzx (qzs w h (l _))]; exact w) λc ys w=>by rw[qzx (qzs w h (g _))]; exact w
 refine⟨o,e,I.un ⟨λb o q _ _ _=>q,λb o q _ _ _=>⟨o.slots,q⟩,λb o q hn _=>?_,λb o q _=>⟨o,q⟩,λb ys q=>?_,λb o u q=>?_,λb ps q=>⟨#[],?_⟩⟩ ?_⟩
 ·rw[qzx (λz=>by subst z; rw[h]at hn; cases hn)];exact hn
 ·rw[qzx (qzs q h (g _))]; exact q
 ·rw[qzx (qzs q h (m _ _))]; exact q
 ·rw[qzx (qzs q h (j _)),q]; simp
 ·intro b u q
  by_cases hb:b=a
  ·subst hb;rw[qzy]at q;cases q;exact⟨e,st ok⟩
  ·rw[qzx hb]at q;exact st (I.hok b u q)
def NoFz(X:Cx)(a:Y7):Prop:=∀o u,X.H₀ a≠Y (.frz o u)
def qmc(d:Di u)(I:Inv X b c H s)(h:H a=Y u):NoFz X a:=λo v z=>by
 have:=I.base.frzs a o v z;rw[h]at this;exact absurd (Option.some.inj this).symm (d.ne.2.1 o v)
def qau(I:Inv X e f H s)(i:NoFz X a)(h:H a=Y (.frz o u)):Inv X e f (upd H a u) s:=by
 have ok:=I.hok a _ h;have d:∀{b:Y7},H b=J->(upd H a u) b=none:=λ{b} q=>by
  rw[qzx (λz=>by subst z; rw[h]at q; cases q)];exact q
 have st:∀{b:Y7}{v:HO},ObjOk X.prog X.w H s.heap b v->ObjOk X.prog X.w (upd H a u) s.heap b v:=λk=>k.stay (λc v _ w=>w) (λc w=>by rw[qzx (qzs w h (by intro z; cases z))]; exact w) λc ys w=>by rw[qzx (qzs w h (by intro z; cases z))]; exact w
 refine⟨I.ok,I.os,I.bare,⟨I.base.keep,I.base.slot,λb o q hn j=>d (I.base.free b o q hn j),I.base.there,λb ys q=>?_,λb o u q=>?_,λb ps q=>?_⟩,I.loc,I.cell,d I.free,λx c q=>d (I.freeC x c q),λp l=>?_,?_,I.len⟩
 ·have:=I.base.tups b ys q;rw[qzx (qzs this h (by intro z; cases z))]; exact this
 ·have:=I.base.frzs b o u q
  by_cases hb:b=a
  ·subst hb; exact absurd q (i o u)
  ·rw[qzx hb]; exact this
 ·obtain⟨more,this⟩:=I.base.tbls b ps q;exact⟨more,by rw[qzx (qzs this h (by intro z; cases z))]; exact this⟩
 ·obtain⟨p1,p2,g⟩:=I.pin p l;exact⟨p1,d p2,g⟩
 ·intro b u q
  by_cases hb:b=a
  ·subst hb;rw[qzy]at q;cases q;exact st ok.2
  ·rw[qzx hb]at q;exact st (I.hok b u q)
def Tr.lay(c:H a=Y (.lst xs)):Tr H (upd H a (.frz o (.lst xs))):=
 ⟨λb zs e=>by rw[qzx (qzs e c (by intro z; cases z))]; exact e,λb o u e=>by rw[qzx (qzs e c (by intro z; cases z))]; exact e⟩
def pe_gc(E:PE X p (tD X.K f)):PE X p (tD X.K λτ st=>(f τ st).map λq=>M.gcD st q):=by
 intro pins s σ H Q I h;refine h.el λm st τ d st' k P e q=>?_;obtain⟨⟨y,st0⟩,N,K⟩:=mapD e;refine thn (E pins s σ H (λv H1=>∃m1,Sub m m1/\Tr H H1/\Rel X.K m1 st0 H1/\MS.IsD X.K m1 H1 y v) I (rsI k P N λv m1 H1 b1 g b i=>⟨m1,b1,g,b,i⟩)) λv s1 ⟨x,H1,n,r1,m1,b1,g,b,i⟩=>?_;have plain:(y,st0)=(d,st')->EP X pins σ Q v s1:=λz=>by
  cases z;exact⟨x,H1,n,r1,q x m1 H1 b1 g b i⟩
 rcases gc_el K with z|⟨ok,z⟩
 ·exact plain z
 ·unfold M.gcX at z
  split at z
  ·rename_i hn;cases z;exact⟨x,H1,n,r1,q x m H1 (Sub.refl m) g (k.cut b b1 ok (Tr.refl H1) λ_ _ _ _ _ _=>rfl) (qez _ _ hn i)⟩
  ·split at z
   ·rename_i l hd;simp only at hd
    split at z
    ·rename_i S
     split at z
     ·rename_i ds hc
      split at z
      ·rename_i hn;cases z;subst hd;obtain⟨a,u,rfl⟩:=i.loc;obtain⟨xs,t,C⟩:=b.cell l _ a hc u;obtain⟨o,R⟩:=qku n t;have j:=Tr.lay (o:=o) t;refine⟨.ref a,_,R,r1,q _ m _ (Sub.refl m) (g.trans j) (k.cut b b1 ok j λr c A e G w=>?_) ?_⟩
       ·refine qzx λz=>?_;subst z;have F:=qji e;have:=b.nd r l A c _ (b1 r A G) u F.2 hc w rfl
        lia
       ·exact qb1 (.inl ⟨o,qzy⟩) (qj6 _ _ hn (qzd (Sub.refl m1) j _ _ C))
      ·exact plain z
     ·exact plain z
    ·exact plain z
   ·exact plain z
end
end MS
end
section
namespace MS
open PySem PySem.Spec PyProof.Rows L2
open M (D Ya Y2 Sl)
def qwb(l)(a)(n)(b)(items2)(j)(f)(c)(o:¬(!a.isEmpty&&Builtin.List.listTooLong (a.size+items2.size))=Z)(m:a.size<=sizeLine)(e:a.size+items2.size<=sizeLine+1):
  Meets (Zy.«list.extend» ⟨[.ref l,.ref b],[]⟩) (λ_ R s=>s.heap.get? l=Y { cls:=.type "list",dict:=J,data:=.seq a n,slots:=#[] }/\s.heap.get? b=Y { cls:=.type "list",dict:=f,data:=.seq items2 j,slots:=c }/\R (.ok (.ret Value.none)) { s with heap:=s.heap.update l (Obj.mapSeq λx=>x++items2),toks:=s.toks }):=
 .of_wp λprog w A R s h=>by
  obtain⟨p,g,d,tk,os⟩:=s; obtain⟨i,hb,h⟩:=h; have v:=AutoSeq1.idx_int; have u:=AutoSeq1.sub_tuple_tuple; have t:=AutoSeq1.sub_list_list; have r:=AutoSeq1.sub_tuple_list; have q:=AutoSeq1.sub_list_tuple;have k:(a++items2).size<=sizeLine+1:=by rw[Qjh]; exact e
  wp_walk using (wpAny_updateSeq i rfl),Zj i,Zj hb; exact⟨_,rfl,h⟩
def qwc(l)(a)(n)(b)(items2)(j)(f)(c)(o:¬(!a.isEmpty&&Builtin.List.listTooLong (a.size+items2.size))=Z)(m:a.size<=sizeLine)(e:a.size+items2.size<=sizeLine+1):
  Meets (Zy.«list.extend» ⟨[.ref l,.ref b],[]⟩) (λ_ R s=>s.heap.get? l=Y { cls:=.type "list",dict:=J,data:=.seq a n,slots:=#[] }/\s.heap.get? b=Y { cls:=.type "tuple",dict:=f,data:=.seq items2 j,slots:=c }/\R (.ok (.ret Value.none)) { s with heap:=s.heap.update l (Obj.mapSeq λx=>x++items2),toks:=s.toks }):=
 .of_wp λprog w A R s h=>by
  obtain⟨p,g,d,tk,os⟩:=s; obtain⟨i,hb,h⟩:=h; have v:=AutoSeq1.idx_int; have u:=AutoSeq1.sub_tuple_tuple; have t:=AutoSeq1.sub_list_list; have r:=AutoSeq1.sub_tuple_list; have q:=AutoSeq1.sub_list_tuple;have k:(a++items2).size<=sizeLine+1:=by rw[Qjh]; exact e
  wp_walk using (wpAny_updateSeq i rfl),Zj i,Zj hb; exact⟨_,rfl,h⟩
section
def qbu:MtM X "list.extend" (λx xs H Q=>∃m st a ds d st',Rel X.K m st H/\MS.IsD X.K m H a x/\IsDs X.K m H ds xs/\M.mExtend st a ds=Y (d,st')/\Post X.K m H d st' Q):=by
 intro pins s σ H x xs v us Q I T U h;obtain⟨m,st,a,ds,d,st',D,i1,i2,e,q⟩:=h;unfold M.mExtend at e
 split at e
 ·refine qzj e λa1 e1 e=>qzj e λes N e=>?_
  split at e
  ·rename_i hl;have q:=q.of e;obtain⟨p,ys,S,rfl,j,G,hs⟩:=D.wlist e1 i1;obtain⟨y,rfl,R⟩:=i2.one;have l1:=G.length;have l2:=qql;cases T;obtain⟨u,rfl,P⟩:=U.one;obtain⟨z,c,n,r,a0,o⟩:=I.lstM j
   split at N
   ·rename_i ts;cases N;obtain⟨b,zs,rfl,K,w⟩:=R.tup;cases P;obtain⟨its2,t,⟨⟨C,k,l,g⟩,h1,h2,E,A⟩,_⟩:=I.tuple K;simp only at h2 A;subst h2 A;have W:=w.length;have V:=t.length;have i:c.toArray.size+its2.toArray.size<=sizeLine:=by rw[Qqw,Qqw]; lia
    have f:¬ (!c.toArray.isEmpty&&Builtin.List.listTooLong (c.toArray.size+its2.toArray.size))=true:=by
     rw[qag i,Bool.and_false];exact Qzz
    refine Qu F.slot_list_extend ⟨_,o,rfl⟩ F.entry_list_extend (F.args_list_extend_2 _ _) (qwc p c.toArray n b its2.toArray E k g f (by rw[Qqw]; lia) (by lia)) ⟨o,h1,?_⟩;refine⟨.non,_,I.lset j o (by simp) (r.append t) ?_,rfl,?_⟩
    ·rw[Qqg]; lia
    ·exact q _ m _ (Sub.refl m) (Tr.put j) (D.put hs S j (G.append w)) qvb
   ·obtain⟨b,zs,_,rfl,K,w⟩:=D.seq N R;cases P;obtain⟨its2,t,⟨⟨C,k,l,g⟩,E,h1,h2,h4,A⟩,_⟩:=I.list K;simp only at h2 A;subst h2 A;have W:=w.length;have V:=t.length;have i:c.toArray.size+its2.toArray.size<=sizeLine:=by rw[Qqw,Qqw]; lia
    have f:¬ (!c.toArray.isEmpty&&Builtin.List.listTooLong (c.toArray.size+its2.toArray.size))=true:=by
     rw[qag i,Bool.and_false];exact Qzz
    refine Qu F.slot_list_extend ⟨_,o,rfl⟩ F.entry_list_extend (F.args_list_extend_2 _ _) (qwb p c.toArray n b its2.toArray E k g f (by rw[Qqw]; lia) (by lia)) ⟨o,h1,?_⟩;refine⟨.non,_,I.lset j o (by simp) (r.append t) ?_,rfl,?_⟩
    ·rw[Qqg]; lia
    ·exact q _ m _ (Sub.refl m) (Tr.put j) (D.put hs S j (G.append w)) qvb
  ·exact nn e
 ·exact nn e
def qdm(hu:X.A.units+64<cLine):MtM X "list.index" (λx xs H Q=>∃m st a ds d st',Rel X.K m st H/\MS.IsD X.K m H a x/\IsDs X.K m H ds xs/\M.mIndex st a ds=Y (d,st')/\Post X.K m H d st' Q):=by
 intro pins s σ H x xs v us Q I G N h;obtain⟨m,st,a,ds,d,st',D,W,V,e,q⟩:=h;unfold M.mIndex at e
 split at e
 ·rename_i x0;refine qzj e λf e1 e=>?_
  split at e
  ·rename_i hf;rw[Qq0]at hf;refine qzg e λj e2 e3=>?_;cases e3;obtain⟨y,rfl,U⟩:=V.one;obtain⟨u,rfl,K⟩:=N.one;obtain⟨b,zs,_,rfl,hq,g⟩:=D.seq e1 W;cases G;obtain⟨c,r,⟨⟨cls,dd,C,sl⟩,n,h1,h2,h4,w⟩,hz⟩:=I.list hq;simp only at h2 w;subst h2 w;have l3:=g.length;have l4:=r.length;obtain⟨hj,l,o⟩:=List.findIdx?_eq_some_iff_getElem.mp e2;have a0:(sizeLine:Y0)<2 ^ 40:=by decide
   have i:X.A.in1.units+9<cLine:=by have hz:X.A.in1.units=X.A.units+1:=rfl; lia
   obtain⟨A,t⟩:=qff I X.A.in1 i hf.1 U K;obtain⟨T,k2⟩:=t f zs c hf.2 g r;have at_:∀k (hk:k<c.length),A c[k]=M.eqT f[k] x0:=λk hk=>by
    have z:f[k]?=Y f[k]:=by simp
    obtain⟨E,w1,R⟩:=g.get z;obtain⟨u1,w2,P⟩:=r.get w1;have e5:c[k]=u1:=by
     have:c[k]?=Y c[k]:=by simp
     rw[w2]at this;exact(Option.some.inj this).symm
    rw[e5];obtain⟨_,S⟩:=t [f[k]] [E] [u1] (by simp[Qzj.mp hf.2 _ (Qqm z)]) (qzo R qqy) (.cons P .nil);simpa using S
   refine Qu F.slot_list_index ⟨_,h1,rfl⟩ F.entry_list_index (F.args_list_index_2 _ _) (SeqAt.list_indexAt b c.toArray n dd sl u A j (by rw[Qqw]; lia) (by lia) ?_ ?_) ⟨h1,λy hy=>T y (by simpa using hy),?_⟩
   ·rw[Qjz,at_ j (by lia)];exact l
   ·intro k hk p;rw[Qjz,at_ k (by simpa using hk)];simpa using o k p
   ·exact⟨.int j,H,I.tok _,⟨_,rfl⟩,q.here D (mkInt _)⟩
  ·exact nn e
 ·exact nn e
def qbt:MtM X "list.insert" (λx xs H Q=>∃m st a ds d st',Rel X.K m st H/\MS.IsD X.K m H a x/\IsDs X.K m H ds xs/\M.mInsert st a ds=Y (d,st')/\Post X.K m H d st' Q):=by
 intro pins s σ H x xs v us Q I A C h;obtain⟨m,st,a,ds,d,st',y,E,D,e,q⟩:=h;unfold M.mInsert at e
 split at e
 ·rename_i l i d0;refine qzj e λU T e=>?_
  split at e
  ·rename_i P;have q:=q.of e;obtain⟨p,ys,K,rfl,f,u,hs⟩:=y.wlist T E;obtain⟨W,V,rfl,o,k⟩:=D.two;cases o.int;have l1:=u.length;have l2:=qql;cases A;obtain⟨u1,u2,rfl,j,g⟩:=C.two;obtain⟨t,rfl⟩:=j;obtain⟨z,b,n,r,N,w⟩:=I.lstM f;have G:(sizeLine:Y0)<2 ^ 40:=by decide
   have c:¬ (!Builtin.List.listFitsIndex i)=true:=by
    have h1:=P.1;have h2:i<2 ^ 62:=by lia
    simp only[Builtin.List.listFitsIndex,Bool.not_eq_true',Bool.not_eq_false];have:i<9223372036854775808:=by lia
    have:(-9223372036854775808:B)<=i:=by lia
    simp[*]
   refine Qu F.slot_list_insert ⟨_,w,rfl⟩ F.entry_list_insert (F.args_list_insert_3 _ _ _) (AutoSeq1.list_insert_list_int_val_1 p b.toArray n i t u2 c (by rw[Qqw]; lia)) ⟨w,?_⟩;refine⟨.non,_,I.lset (its':=b.take i.toNat++u2::b.drop i.toNat) f w ?_ ((r.take _).append (.cons g (r.drop _))) ?_,rfl,?_⟩
   ·have S:¬ i<0:=by lia
    have R:min i.toNat b.length=i.toNat:=by lia
    rw[Z1 S,Qqw,R];apply Array.ext';simp;exact Qxf (by rw[Qx4]; lia)
   ·rw[Qqg,Qql,Qza,Qx4]; lia
   ·exact q _ m _ (Sub.refl m) (Tr.put f) (y.put hs K f ((u.take _).append (qzo k (u.drop _)))) qvb
  ·exact nn e
 ·exact nn e
end
section
noncomputable def Itd(a:Y7)(o:Obj)(xs:L (Key×V)):It:=
 ⟨λi H=>H a=Y (.frz o (.dK xs))/\i<xs.length,λi H x H'=>H'=H/\∃p,xs[i]?=Y p/\x=kV p.1,λi H=>H a=Y (.frz o (.dK xs))/\xs.length<=i⟩
def qa4(I:Inv X b d H s)(h:H a=Y (.frz o (.dK xs)))(hd:o.data=.dict es ep):∃vs,KV xs vs/\s.heap.DictAt (mixKind X.prog X.w) a vs ep:=by
 obtain⟨h1,_,_,vs,e,o',g,i,h2,f,c,r⟩:=I.hok a _ h;rw[h1]at h2;cases h2;rw[hd]at c;cases c;exact⟨vs,e,o,es,h1,f,hd,r⟩
def qcf{K:Qqq}(a it)(o)(xs)(hd:o.data=.dict es U):Turn P w K W (Itd a o xs) [it] it (λi h=>h.IsKeyIter it a i xs.length U) where
 mem:=by simp
 obj:=λi h st b hb=>by
  have e:b=it:=by simpa using hb
  subst e;obtain⟨o,e,c,d⟩:=st;exact⟨o,e,λv z=>by rw[d]at z; cases z⟩
 keep:=λi h h' st k=>st.at λo e=>k it (by simp) o e
 item:=by
  intro X x r y hc i pins s σ H E I hf st hg;subst x r y;obtain⟨A,hi⟩:=hg;obtain⟨vs,m,R⟩:=qa4 I A hd;obtain⟨N,G,f2,F,D,C⟩:=hf it (by simp);have n:=m.length;obtain⟨⟨k,u⟩,S⟩:∃q,vs[i]?=Y q:=⟨vs[i]'(by lia),by simp⟩
  have T:xs[i]?=Y xs[i]:=by simp
  have hk:xs[i].1=k:=by
   have f:=congrArg (λl:L Key=>l[i]?) m.keys;simp only[Qqb,S,T,oMs,Option.some.injEq]at f;exact f
  rw[n]at st;refine wpAny_pyNext_dict_item st R S λp h' g st' sb=>?_;have I1:=I.turned (t':=s.toks) (λb o hb e=>(sb.2 b hb).trans e) N G F D C;obtain⟨o1,e,c,d⟩:=id st';rw[<- n]at st';refine⟨p,rfl,qhz e c d (by decide) ⟨kV xs[i].1,H,I1,?_,⟨rfl,xs[i],T,rfl⟩,st',λb hb=>(hf b hb).1⟩⟩;rw[hk];rcases qzh g with⟨j,t,f,Q⟩|⟨z,t,f,Q⟩
  ·subst f Q; exact⟨t,rfl⟩
  ·subst f Q; exact⟨t,rfl⟩
 done:=by
  intro X x r y hc i pins s σ H E I hf st hg;subst x r y;obtain⟨A,hi⟩:=hg;obtain⟨vs,m,R⟩:=qa4 I A hd;obtain⟨N,G,f2,F,D,C⟩:=hf it (by simp);have n:=m.length;rw[n]at st;exact wpAny_pyNext_dict_end (I.ok.hd hc) st R (Qzl.mpr (by lia)) λh' eb=>⟨rfl,I.turned (λb o hb e=>eb b o hb e) N G F D C⟩
 self:=λ_ _ _ _ _ st h=>wpAny_pyIter_keyiter st h
noncomputable def iDict(X:Cx)(tl:TE):TI:=λσ H R=>tl σ H λx H1=>∃a xs,x=.ref a/\H1 a=Y (.dK xs)/\∀o,NoFz X a->R (Itd a o xs) (upd H1 a (.frz o (.dK xs)))
def qlr(m:PE X l tl):PI X j l (iDict X tl):=by
 intro pins s σ H R I h;refine thn (m pins s σ H _ I h) λv c ⟨x,H1,g,r1,a,xs,e,d,q⟩=>?_;subst e;cases r1;obtain⟨o,i,f⟩:=qm7 (.k _) g d;obtain⟨_,lo,vs,k,o',es,p,h2,n,hd,r⟩:=g.hok a _ d;rw[i]at h2;cases h2;have hn:=k.length;refine wpAny_pyIter_dict lo ⟨o,es,i,n,hd,r⟩ ?_;refine⟨c.heap.objs.size,[c.heap.objs.size],_,_,_,rfl,f.kept λb o e=>Qqz _ e,qcf a _ o xs hd,⟨_,Qqn _ rfl,rfl,by rw[hn]; rfl⟩,λb hb=>?_,q o (qmc (.k _) g d)⟩;have e:b=c.heap.objs.size:=by simpa using hb
 subst e;exact f.fpOk (Qqv _) (f.hok.fresh (Qqv _))
noncomputable def thawE(X:Cx)(Dn:Ends):Ends:=
 ⟨λσ H=>∃a o xs,NoFz X a/\H a=Y (.frz o (.dK xs))/\Dn.nx σ (upd H a (.dK xs)),λv H=>∃a o xs,NoFz X a/\H a=Y (.frz o (.dK xs))/\Dn.rt v (upd H a (.dK xs)),λ_ _=>False,λ_ _=>False⟩
def qli(j:PassesOwn (model X.prog X.w) X.A X.env X.xe)(hc:X.calm=Z)(k:PE X l tl)(m:PG X i g)(hb:PSs X body tb)(hs:∀x,foldedSetIterable l X.env x=pure x):
  PS X (.For i l body [] pos) (λf σ H=>tFor (iDict X tl) g tb (thawE X f) σ H):=by
 intro pins s σ H f I h;refine thn (qh4 j hc (qlr k) m hb hs pins s σ H (thawE X f) I h) λn p q=>?_
 cases n with
 |next=>
  obtain⟨b,H1,d,a,o,xs,c,e,q⟩:=q;exact⟨b,_,qau d c e,q⟩
 |ret u=>
  obtain⟨v,b,H1,d,r,a,o,xs,c,e,q⟩:=q;exact⟨v,b,_,qau d c e,r,q⟩
 |brk=>obtain⟨_,_,_,z⟩:=q; exact z.elim
 |cont=>obtain⟨_,_,_,z⟩:=q; exact z.elim
end
end MS
end
section
namespace ST
open PySem SetTable
noncomputable def adv(m:Y0)(p:Probe):Probe:=
 if p.more > 0 then { p with j:=p.j+1,more:=p.more - 1 } else
 { p with j:=(leap m p.i p.perturb).1,more:=runEnd m (leap m p.i p.perturb).1 - (leap m p.i p.perturb).1,i:=(leap m p.i p.perturb).1,perturb:=(leap m p.i p.perturb).2 }
noncomputable def qzp(m:Y0)(h:B):Probe:={ j:=bits h % (m+1),more:=runEnd m (bits h % (m+1)) - bits h % (m+1),i:=bits h % (m+1),perturb:=bits h,dummy:=J }
noncomputable def stp(m:Y0):Y0->Probe->Probe
 |0,p=>p
 |n+1,p=>stp m n (adv m p)
theorem qqf(m):∀(a b:Y0) (p:Probe),stp m (a+b) p=stp m b (stp m a p)
 |0,b,p=>by rw[Qjx]; rfl
 |a+1,b,p=>by rw[Nat.add_right_comm]; exact qqf m a b (adv m p)
def qf4(m n)(p):stp m (n+1) p=adv m (stp m n p):=by rw[qqf]; rfl
noncomputable def runP(m i pt:Y0)(d:Y3 Y0):Probe:={ j:=i,more:=runEnd m i - i,i:=i,perturb:=pt,dummy:=d }
theorem qkn(m):∀(k:Y0) (p:Probe),p.more=k->stp m (k+1) p=runP m (leap m p.i p.perturb).1 (leap m p.i p.perturb).2 p.dummy
 |0,p,h=>by
  show adv m p=_;unfold adv;rw[Z1 (by lia)]; rfl
 |k+1,p,h=>by
  show stp m (k+1) (adv m p)=_;have e:adv m p={ p with j:=p.j+1,more:=p.more - 1 }:=by unfold adv; rw[Z2 (by lia)]
  rw[e,qkn m k _ (by show p.more - 1=k; lia)]
noncomputable def lp(m:Y0):Y0->Y0×Y0->Y0×Y0
 |0,q=>q
 |n+1,q=>lp m n (leap m q.1 q.2)
def more_le(m i):runEnd m i - i<=9:=by unfold runEnd; split<;>lia
theorem qay(m)(d):∀(n i pt:Y0),∃N,N<=10*n/\stp m N (runP m i pt d)=runP m (lp m n (i,pt)).1 (lp m n (i,pt)).2 d
 |0,i,pt=>⟨0,Qqv _,rfl⟩
 |n+1,i,pt=>by
  obtain⟨N,a,e⟩:=qay m d n (leap m i pt).1 (leap m i pt).2;refine⟨(runP m i pt d).more+1+N,?_,?_⟩
  ·have:=more_le m i;show runEnd m i - i+1+N<=_
   lia
  ·rw[qqf,qkn m _ _ rfl];exact e
theorem lp_pt(m):∀(n i pt:Y0),(lp m n (i,pt)).2=pt / 32 ^ n
 |0,i,pt=>by simp[lp]
 |n+1,i,pt=>by
  show(lp m n (leap m i pt)).2=_;have:leap m i pt=((leap m i pt).1,pt / 32):=rfl;rw[this,lp_pt m n,Nat.div_div_eq_div_mul,Nat.pow_succ,Nat.mul_comm]
theorem qiq(m):∀(a b:Y0) (q:Y0×Y0),lp m (a+b) q=lp m b (lp m a q)
 |0,b,q=>by rw[Qjx]; rfl
 |a+1,b,q=>by rw[Nat.add_right_comm]; exact qiq m a b _
theorem lp_le(m):∀(n i pt:Y0),i<=m->(lp m n (i,pt)).1<=m
 |0,i,pt,h=>h
 |n+1,i,pt,h=>by
  exact lp_le m n _ _ (Qxj (Qjj _ (Qxs _)))
noncomputable def lcg(m:Y0):Y0->Y0->Y0
 |0,i=>i
 |n+1,i=>lcg m n ((i*5+1) % (m+1))
theorem qdr(m):∀(n i:Y0),(lp m n (i,0)).1=lcg m n i
 |0,i=>rfl
 |n+1,i=>by
  show(lp m n (leap m i 0)).1=_;have:leap m i 0=((i*5+1) % (m+1),0):=by simp[leap]
  rw[this,qdr m n]; rfl
def onto7:∀i,i<8->∀e,e<8->∃r,r<8/\lcg 7 r i=e:=by decide +kernel
def onto31:∀i,i<32->∀e,e<32->∃r,r<32/\lcg 31 r i=e:=by decide +kernel
def onto(a:m=7\/m=31)(hi:i<=m)(b:e<=m):∃r,r<=m/\lcg m r i=e:=by
 rcases a with rfl|rfl
 ·obtain⟨r,h,q⟩:=onto7 i (by lia) e (by lia); exact⟨r,by lia,q⟩
 ·obtain⟨r,h,q⟩:=onto31 i (by lia) e (by lia); exact⟨r,by lia,q⟩
def qaa(f:m=7\/m=31)(d)(hi:i<=m)(c:pt<2 ^ 64)(g:e<=m):∃n N,n<=m+13/\N<=10*n/\stp m N (runP m i pt d)=runP m e (lp m n (i,pt)).2 d/\(lp m n (i,pt)).1=e:=by
 have hz:(lp m 13 (i,pt)).2=0:=by
  rw[lp_pt]; exact Nat.div_eq_of_lt (Qq3 c (by decide))
 obtain⟨r,hr,j⟩:=onto f (lp_le m 13 i pt hi) g;have b:(lp m (13+r) (i,pt)).1=e:=by
  rw[qiq];have:lp m 13 (i,pt)=((lp m 13 (i,pt)).1,0):=by rw[<- hz]
  rw[this,qdr]; exact j
 obtain⟨N,h,a⟩:=qay m d (13+r) i pt;rw[b]at a;exact⟨13+r,N,by lia,h,a,b⟩
structure Okp (m:Y0) (p:Probe):Prop where
 i:p.i<=m
 pt:p.perturb<2 ^ 64
 more:p.more<=9
 dm:p.dummy=J
def Okp.start(h):Okp m (qzp m h):=by
 refine⟨Qxj (Qjj _ (Qxs _)),?_,more_le _ _,rfl⟩;show bits h<2 ^ 64;unfold bits
 lia
def Okp.next(h:Okp m p):Okp m (adv m p):=by
 unfold adv
 split
 ·exact⟨h.i,h.pt,by have:=h.more; show p.more - 1<=9; lia,h.dm⟩
 ·refine⟨by unfold leap; exact Qxj (Qjj _ (Qxs _)),?_,more_le _ _,h.dm⟩;exact Qxz (Nat.div_le_self _ _) h.pt
theorem Okp.stp:∀(n:Y0){p:Probe},Okp m p->Okp m (stp m n p)
 |0,_,h=>h
 |n+1,_,h=>Okp.stp n h.next
def hits(a:m=7\/m=31)(h:Okp m p)(b:e<=m):∃N,N<10*turns m/\(stp m N p).j=e:=by
 have h1:=(h.stp (p.more+1))
 rw[qkn m _ p rfl]at h1;obtain⟨n,N,hn,d,c,_⟩:=qaa a p.dummy h1.i h1.pt b;refine⟨p.more+1+N,?_,?_⟩
 ·have:=h.more;unfold turns; lia
 ·rw[qqf,qkn m _ p rfl];exact congrArg Probe.j c
def Up(xs:Array Y0):Prop:=∀(i k a b:Y0),i<k->xs[i]?=Y a->xs[k]?=Y b->a<b
theorem qvo(hs:Up xs):∀(b lo hi:Y0),hi<=xs.size->lo<=hi->hi - lo<=b->(∀(i a:Y0),i<lo->xs[i]?=Y a->a<j)->(∀(i a:Y0),hi<=i->xs[i]?=Y a->j<=a)->
  (∀(i a:Y0),i<below.go xs j b lo hi->xs[i]?=Y a->a<j)/\(∀(i a:Y0),below.go xs j b lo hi<=i->xs[i]?=Y a->j<=a)/\below.go xs j b lo hi<=xs.size
 |0,lo,hi,h1,h2,m,g,f=>by
  have:lo=hi:=by lia
  subst this;exact⟨g,f,h1⟩
 |b+1,lo,hi,h1,h2,m,g,f=>by
  unfold below.go
  by_cases d:lo<hi
  ·rw[Z2 d];have l:(lo+hi) / 2<xs.size:=by lia
   have e:=Qq6 l;have n:xs.getD ((lo+hi) / 2) j=xs[(lo+hi) / 2]:=by rw[Qzu,e]; rfl
   simp only[n]
   split
   ·rename_i hc;refine qvo hs b _ _ h1 (by lia) (by lia) (λi a k c=>?_) f;rcases Qz1 i ((lo+hi) / 2) with h|h
    ·exact Nat.lt_trans (hs i _ a _ h c e) hc
    ·have:i=(lo+hi) / 2:=by lia
     subst this;rw[e]at c; cases c; exact hc
   ·rename_i hc;refine qvo hs b _ _ (by lia) (by lia) (by lia) g (λi a k c=>?_);rcases Qz1 ((lo+hi) / 2) i with h|h
    ·have:=hs _ i _ a h e c; lia
    ·have:i=(lo+hi) / 2:=by lia
     subst this;rw[e]at c; cases c; lia
  ·rw[Z1 d];have:lo=hi:=by lia
   subst this;exact⟨g,f,h1⟩
def qx2(hs:Up xs):(∀(i a:Y0),i<below xs j->xs[i]?=Y a->a<j)/\(∀(i a:Y0),below xs j<=i->xs[i]?=Y a->j<=a)/\below xs j<=xs.size:=
 qvo hs xs.size 0 xs.size (Qqv _) (Qz4 _) (by lia) (λi a h=>by lia) λi a h e=>by
  have:=(Qzf.mp e).1; lia
def below_at(hs:Up xs)(h:xs[i]?=Y j):below xs j=i:=by
 obtain⟨b1,b2,b3⟩:=qx2 hs;rcases Qji (below xs j) i with h1|h1|h1
 ·have hb:=Nat.lt_trans h1 (Qzf.mp h).1;have e:=Qq6 hb;have:=b2 _ _ (Qqv _) e;have:=hs _ _ _ _ h1 e h
  lia
 ·exact h1
 ·have:=b1 _ _ h1 h; lia
structure Tb (t:Qw):Prop where
 mask:t.mask=7\/t.mask=31
 dum:t.dummies=#[]
 up:Up t.place
 le:∀(i j:Y0),t.place[i]?=Y j->j<=t.mask
 few:t.place.size<=t.mask
def Occ(t:Qw)(j:Y0):Prop:=∃i:Y0,t.place[i]?=Y j
def qjp(T:Tb t)(h:t.place[i]?=Y j):t.slot j=.live i:=by
 unfold slot;simp only[below_at T.up h,h,beq_self_eq_true,if_true]
def qbf(T:Tb t)(h:¬ Occ t j):t.slot j=.empty:=by
 unfold slot;have:(t.place[below t.place j]?==Y j)=false:=by
  cases e:t.place[below t.place j]?==Y j with
  |false=>rfl
  |true=>exact absurd ⟨_,beq_iff_eq.mp e⟩ h
 have hd:has t.dummies j=false:=by rw[T.dum]; unfold has; simp
 simp[this,hd]
theorem qk0:∀(l:L Y0) (lo:Y0),l.Pairwise (· < ·)->(∀a∈l,lo<=a)->(∀e,lo<=e->e<=m->e∈l)->lo<=m+1->m+1<=lo+l.length
 |[],lo,_,_,c,f=>by
  rcases Qz1 m lo with h|h
  ·simp; lia
  ·exact absurd (c lo (Qqv _) h) (by simp)
 |a::l,lo,h1,h2,c,f=>by
  rcases Qz1 m lo with h|h
  ·lia
  ·obtain⟨p1,p2⟩:=Qxb.mp h1;have d:a=lo:=by
    rcases Qqy.mp (c lo (Qqv _) h) with e|e
    ·exact e.symm
    ·have:=p1 lo e;have:=h2 a Qq9
     lia
   subst d
   have:=qk0 l (a+1) p2 (λb hb=>p1 b hb) (λe i g=>by
    rcases Qqy.mp (c e (by lia) g) with q|q
    ·lia
    ·exact q) (by lia)
   simp only[Qql]
   lia
def Up.pairwise(h:Up xs):xs.toList.Pairwise (· < ·):=by
 rw[Qjm];intro i j hi hj a;exact h i j _ _ a (by rw[<- Qq1,Qqo hi]) (by rw[<- Qq1,Qqo hj])
def some_free(T:Tb t):∃e,e<=t.mask/\¬ Occ t e:=by
 apply Classical.byContradiction;intro hn;have all:=λe b=>Classical.byContradiction λhc=>hn ⟨e,b,hc⟩
 have:=qk0 t.place.toList 0 T.up.pairwise (λa _=>Qz4 _) (λe _ b=>by
  obtain⟨i,hi⟩:=all e b
  exact Qqm (by rw[Qq1]; exact hi)) (Qz4 _)
 have:=T.few;rw[Qzh]at *
 lia
theorem qeb(T:Tb t):∀(b:Y0) (p:Probe) (N:Y0),p.dummy=J->N<b->¬ Occ t (stp t.mask N p).j->
  ∃n,(∀m,m<n->∃i:Y0,t.place[i]?=Y (stp t.mask m p).j/\a i≠h)/\
   ((¬ Occ t (stp t.mask n p).j/\probe.go t a h b p=Y (.empty (stp t.mask n p).j J))\/
    (∃i:Y0,t.place[i]?=Y (stp t.mask n p).j/\a i=h/\probe.go t a h b p=Y (.candidate (stp t.mask n p).j i (stp t.mask (n+1) p))))
 |0,p,N,_,l,_=>by lia
 |b+1,p,N,hd,l,g=>by
  by_cases d:Occ t p.j
  ·obtain⟨i,hi⟩:=d
   by_cases c:a i=h
   ·refine⟨0,λm f=>by lia,.inr ⟨i,hi,c,?_⟩⟩;unfold probe.go;rw[qjp T hi];simp only[c,beq_self_eq_true]
    rfl
   ·cases N with
    |zero=>exact absurd ⟨i,hi⟩ g
    |succ N=>
     have e:(adv t.mask p).dummy=none:=by unfold adv; split<;>exact hd
     obtain⟨n,k,j⟩:=qeb T b (adv t.mask p) N e (by lia) g;have o:probe.go t a h (b+1) p=probe.go t a h b (adv t.mask p):=by
      conv=>lhs; unfold probe.go
      rw[qjp T hi];have:(a i==h)=false:=by simpa using c
      simp only[this,if_false]
      rfl
     refine⟨n+1,λm f=>?_,?_⟩
     ·cases m with
      |zero=>exact⟨i,hi,c⟩
      |succ m=>exact k m (by lia)
     ·rw[o];exact j
  ·refine⟨0,λm f=>by lia,.inl ⟨d,?_⟩⟩;unfold probe.go;rw[qbf T d];rw[hd]; rfl
def qbn(T:Tb t)(b:Okp t.mask p):
  ∃n,(∀m,m<n->∃i:Y0,t.place[i]?=Y (stp t.mask m p).j/\a i≠h)/\
   ((¬ Occ t (stp t.mask n p).j/\t.probe a h p=Y (.empty (stp t.mask n p).j J))\/
    (∃i:Y0,t.place[i]?=Y (stp t.mask n p).j/\a i=h/\t.probe a h p=Y (.candidate (stp t.mask n p).j i (stp t.mask (n+1) p)))):=by
 obtain⟨e,c,hf⟩:=some_free T;obtain⟨N,d,f⟩:=hits T.mask b c;exact qeb T _ p N b.dm d (by rw[f]; exact hf)
section
def qqa(xs:Array α)(p)(x)(b:p<=xs.size)(i):(insertAt xs p x)[i]?=if i<p then xs[i]? else if i=p then Y x else xs[i - 1]?:=by
 unfold insertAt;rw[Array.getElem?_append,Array.getElem?_push,Qj5,Qj5];simp only[Array.size_push,Array.size_extract];have e:min p xs.size=p:=by lia
 simp only[e,Nat.sub_zero,Qjx]
 by_cases h1:i<p
 ·rw[Z2 (by lia),Z1 (by lia),Z2 h1,Z2 h1]
 ·by_cases h2:i=p
  ·subst h2;rw[Z2 (by lia),Z2 rfl,Z1 h1,Z2 rfl]
  ·rw[Z1 (by lia),Z1 h1,Z1 h2]
   by_cases a:i - (p+1)<min xs.size xs.size - p
   ·rw[Z2 a]; congr 1; lia
   ·rw[Z1 a];exact(Qj6 (by lia)).symm
def qjd(xs:Array α)(p)(x)(a:p<=xs.size):(insertAt xs p x).size=xs.size+1:=by
 unfold insertAt;simp only[Qjh,Array.size_push,Array.size_extract]
 lia
def qm8(b:p<=xs.size):y∈(insertAt xs p x).toList↔y∈xs.toList\/y=x:=by
 unfold insertAt;simp only[Array.toList_append,Array.toList_push,Array.toList_extract,Qqs,Qqc,List.extract_eq_drop_take,Nat.sub_zero,List.drop_zero];have e:xs.toList.take p++xs.toList.drop p=xs.toList:=Qz3 p _;have a:(xs.toList.drop p).take (xs.size - p)=xs.toList.drop p:=Qxf (by simp);rw[a]
 conv=>rhs; rw[<- e,Qqs]
 constructor
 ·rintro ((h|h)|h)
  ·exact .inl (.inl h)
  ·exact .inr h
  ·exact .inl (.inr h)
 ·rintro ((h|h)|h)
  ·exact .inl (.inl h)
  ·exact .inr h
  ·exact .inl (.inr h)
end
def Reach(t:Qw)(h:B)(j:Y0):Prop:=∃n,(stp t.mask n (qzp t.mask h)).j=j/\∀m,m<n->Occ t (stp t.mask m (qzp t.mask h)).j
structure SI {α:Type}(t:Qw) (es:Array (B×α)):Prop where
 tb:Tb t
 sz:t.place.size=es.size
 reach:∀(i j:Y0) (e:B×α),t.place[i]?=Y j->es[i]?=Y e->Reach t e.1 j
def qdv(T:Tb t)(j):t.put j=({ t with place:=insertAt t.place (below t.place j) j },below t.place j):=by
 unfold put;have hd:has t.dummies j=false:=by rw[T.dum]; unfold has; simp
 simp only[hd,Qzw,if_false]
def put_ok{es:Array (B×α)}(I:SI t es){x:α}(hj:j<=t.mask)(hf:¬ Occ t j)(hr:Reach t h j)(hs:es.size+1<=t.mask):
  SI (t.put j).1 (insertAt es (t.put j).2 (h,x)):=by
 obtain⟨b1,b2,b3⟩:=qx2 I.tb.up;have l:below t.place j<=es.size:=by rw[<- I.sz]; exact b3
 rw[qdv I.tb];have s:∀j',Occ t j'->Occ { t with place:=insertAt t.place (below t.place j) j } j':=λj' ⟨i,hi⟩=>by
  by_cases h1:i<below t.place j
  ·exact⟨i,by rw[qqa _ _ _ b3,Z2 h1]; exact hi⟩
  ·exact⟨i+1,by rw[qqa _ _ _ b3,Z1 (by lia),Z1 (by lia)]; exact hi⟩
 have o:∀h' j',Reach t h' j'->Reach { t with place:=insertAt t.place (below t.place j) j } h' j':=λh' j' ⟨n,e,q⟩=>⟨n,e,λm u=>s _ (q m u)⟩
 refine⟨⟨I.tb.mask,I.tb.dum,?_,?_,?_⟩,?_,?_⟩
 ·intro i k a b r d hb;have d:=d;have hb:=hb;rw[qqa _ _ _ b3]at d hb;have ne:∀(p c:Y0),t.place[p]?=Y c->c≠j:=λp c e z=>hf ⟨p,by rw[<- z]; exact e⟩
  split at d
  ·split at hb
   ·exact I.tb.up _ _ _ _ r d hb
   ·split at hb
    ·cases hb; exact b1 _ _ (by assumption) d
    ·exact I.tb.up _ _ _ _ (by lia) d hb
  ·split at d
   ·cases d;rw[Z1 (by lia),Z1 (by lia)]at hb;have:=b2 _ _ (by lia) hb;have:=ne _ _ hb
    lia
   ·rw[Z1 (by lia),Z1 (by lia)]at hb;exact I.tb.up _ _ _ _ (by lia) d hb
 ·intro i j' e;have e:=e;rw[qqa _ _ _ b3]at e
  split at e
  ·exact I.tb.le _ _ e
  ·split at e
   ·cases e; exact hj
   ·exact I.tb.le _ _ e
 ·rw[qjd _ _ _ b3,I.sz]; exact hs
 ·rw[qjd _ _ _ b3,qjd _ _ _ l,I.sz]
 ·intro i j' e g f;have g:=g;have f:=f;rw[qqa _ _ _ b3]at g;rw[qqa _ _ _ l]at f
  split at g
  ·rename_i h1;rw[Z2 h1]at f;exact o _ _ (I.reach _ _ _ g f)
  ·rename_i h1;rw[Z1 h1]at f
   split at g
   ·rename_i h2;rw[Z2 h2]at f;cases g; cases f;exact o _ _ hr
   ·rename_i h2;rw[Z1 h2]at f;exact o _ _ (I.reach _ _ _ g f)
def qfg{es:Array (B×α)}(I:SI t es){bad:Y0->Prop}(hb:∀m,m<n->∃i:Y0,t.place[i]?=Y (stp t.mask m (qzp t.mask h)).j/\bad i)(g:¬ Occ t (stp t.mask n (qzp t.mask h)).j):
  ∀(i:Y0) (e:B×α),es[i]?=Y e->e.1=h->bad i:=λi e j o=>by
 have hi:i<t.place.size:=by rw[I.sz]; exact(Qzf.mp j).1
 have c:=Qq6 hi;obtain⟨f,a,d⟩:=I.reach _ _ _ c j;rw[o]at a d;rcases Qji n f with h1|h1|h1
 ·exact absurd (d n h1) g
 ·subst h1; exact absurd ⟨i,by rw[a]; exact c⟩ g
 ·obtain⟨l,k,b⟩:=hb f h1;rw[a]at k;have:l=i:=(below_at I.tb.up k).symm.trans (below_at I.tb.up c);rw[<- this]; exact b
def qhk(c):SI (α:=α) (PySem.SetTable.fresh 0 0 c) #[]:=
 ⟨⟨.inl rfl,rfl,λi k a b _ h=>by simp[PySem.SetTable.fresh]at h,λi j h=>by simp[PySem.SetTable.fresh]at h,by simp[PySem.SetTable.fresh]⟩,rfl,λi j e h=>by simp[PySem.SetTable.fresh]at h⟩
def OcO(ow:Array (Y3 Y0))(j:Y0):Prop:=∃k,ow[j]?=Y (Y k)
def getD_none(hj:j<ow.size):(ow.getD j (Y 0)).isNone=Z↔¬ OcO ow j:=by
 have e:=Qq6 hj;rw[Qzu,e]
 cases h:ow[j] with
 |none=>simp[OcO,e,h]
 |some k=>simp[OcO,e,h]
theorem qvy(m i pt)(d):∀k,k<=runEnd m i - i->(stp m k (runP m i pt d)).j=i+k/\(stp m k (runP m i pt d)).more=runEnd m i - i - k
 |0,_=>⟨rfl,rfl⟩
 |k+1,h=>by
  obtain⟨h1,h2⟩:=qvy m i pt d k (by lia);rw[qf4];have e:adv m (stp m k (runP m i pt d))={ stp m k (runP m i pt d) with j:=(stp m k (runP m i pt d)).j+1,more:=(stp m k (runP m i pt d)).more - 1 }:=by
   conv=>lhs; unfold adv
   rw[Z2 (by lia)]
  rw[e];exact⟨by show(stp m k (runP m i pt d)).j+1=_; lia,by show(stp m k (runP m i pt d)).more - 1=_; lia⟩
def qjr(h:i<=m):i<=runEnd m i/\runEnd m i<=m:=by unfold runEnd; split<;>lia
def qcz(h:(List.range n).find? p=Y k):k<n/\p k=Z/\∀a,a<k->p a=false:=by
 have h1:=List.find?_some h;have h2:=Qxv h;refine⟨Qzr.mp h2,h1,λa hk=>?_⟩;rw[List.find?_range_eq_some]at h;have:=h.2.2 a hk;simpa using this
theorem qec(hs:ow.size=m+1):∀(a i pt b:Y0),i<=m->b<a->¬ OcO ow (lp m b (i,pt)).1->
  ∃n j,layClean.free m ow a i pt=Y j/\(stp m n (runP m i pt J)).j=j/\j<=m/\¬ OcO ow j/\∀k,k<n->OcO ow (stp m k (runP m i pt J)).j
 |0,i,pt,b,_,hn,_=>by lia
 |a+1,i,pt,b,hi,hn,he=>by
  unfold layClean.free;obtain⟨r1,s⟩:=qjr hi
  cases hf:(List.range (runEnd m i+1 - i)).find? λk=>(ow.getD (i+k) (Y 0)).isNone with
  |some k=>
   obtain⟨t,r,q⟩:=qcz hf;refine⟨k,i+k,rfl,(qvy m i pt J k (by lia)).1,by lia,(getD_none (by lia)).mp r,λc hk=>?_⟩;rw[(qvy m i pt J c (by lia)).1];have:=q c hk;apply Classical.byContradiction;intro hc;rw[(getD_none (by lia)).mpr hc]at this;cases this
  |none=>
   have all:=λk hk=>by
    have:=Qje.mp hf k (Qzr.mpr hk);apply Classical.byContradiction;intro hc;exact this ((getD_none (by lia)).mpr hc)
   cases b with
   |zero=>exact absurd (all 0 (by lia)) he
   |succ b=>
    have p:(leap m i pt).1<=m:=Qxj (Qjj _ (Qxs _));obtain⟨n,j,o,l,g,f,d⟩:=qec hs a (leap m i pt).1 (leap m i pt).2 b p (by lia) he;refine⟨(runEnd m i - i)+1+n,j,o,?_,g,f,λk hk=>?_⟩
    ·rw[qqf,qkn m (runEnd m i - i) (runP m i pt J) rfl]; exact l
    ·rcases Qz1 k (runEnd m i - i+1) with h|h
     ·rw[(qvy m i pt J k (by lia)).1]; exact all k (by lia)
     ·have e:k=(runEnd m i - i)+1+(k - (runEnd m i - i+1)):=by lia
      rw[e,qqf,qkn m (runEnd m i - i) (runP m i pt J) rfl];exact d _ (by lia)
structure FI (m:Y0) (ow:Array (Y3 Y0)) (hs:L B):Prop where
 size:ow.size=m+1
 val:∀(j k:Y0),ow[j]?=Y (Y k)->k<hs.length
 sur:∀k,k<hs.length->∃j:Y0,ow[j]?=Y (Y k)
 reach:∀(j k:Y0) (h:B),ow[j]?=Y (Y k)->hs[k]?=Y h->∃n,(stp m n (qzp m h)).j=j/\∀q,q<n->OcO ow (stp m q (qzp m h)).j
 cnt:ow.toList.countP Option.isSome=hs.length
def FI.zero(m):FI m (Array.replicate (m+1) J) [] where
 size:=by simp
 val:=λj k h=>by
  rw[Qjp]at h
  split at h<;>simp at h
 sur:=λk h=>by simp at h
 reach:=λj k x h=>by
  rw[Qjp]at h
  split at h<;>simp at h
 cnt:=by rw[Array.toList_replicate]; simp
def FI.some_free(I:FI m ow hs)(h:hs.length<=m):∃e,e<=m/\¬ OcO ow e:=by
 apply Classical.byContradiction;intro hn;have all:∀x∈ow.toList,Option.isSome x=true:=λx b=>by
  obtain⟨j,hj,e⟩:=Qz0 b;have a:j<ow.size:=by simpa using hj
  have:OcO ow j:=Classical.byContradiction λhc=>hn ⟨j,by have:=I.size; lia,hc⟩;obtain⟨k,hk⟩:=this;rw[Qq6 a]at hk;rw[Array.getElem_toList]at e;rw[<- e,Option.some.inj hk]; rfl
 have:=List.countP_eq_length.mpr all;have d:=I.cnt;have c:=(Qzh).trans I.size
 lia
def FI.more(x:m=7\/m=31)(I:FI m ow hs)(y:hs.length<=m)(h):
  ∃j,layClean.free m ow (turns m) (bits h % (m+1)) (bits h)=Y j/\FI m (ow.setIfInBounds j (Y hs.length)) (hs++[h]):=by
 obtain⟨e,A,hf⟩:=I.some_free y;have ok:=Okp.start (m:=m) h;obtain⟨r,_,w,_,_,l⟩:=qaa x J ok.i ok.pt A;have l:(lp m r (bits h % (m+1),bits h)).1=e:=l;obtain⟨n,j,u,t,E,o,s⟩:=qec I.size (turns m) (bits h % (m+1)) (bits h) r ok.i (by unfold turns; lia) (by rw[l]; exact hf);refine⟨j,u,?_⟩;have hj:j<ow.size:=by rw[I.size]; lia
 have c:∀j',(ow.setIfInBounds j (Y hs.length))[j']?=if j=j' then Y (Y hs.length) else ow[j']?:=λj'=>by
  rw[Array.getElem?_setIfInBounds]
  by_cases h:j=j'
  ·subst h; rw[Z2 rfl,Z2 hj,Z2 rfl]
  ·rw[Z1 h,Z1 h]
 have p:∀j',OcO ow j'->OcO (ow.setIfInBounds j (Y hs.length)) j':=λj' ⟨k,hk⟩=>by
  unfold OcO;rw[c]
  by_cases h:j=j'
  ·exact⟨_,Z2 h⟩
  ·rw[Z1 h]; exact⟨k,hk⟩
 refine⟨by rw[Array.size_setIfInBounds]; exact I.size,λj' k hk=>?_,λk hk=>?_,λj' k h' hk d=>?_,?_⟩
 ·rw[c]at hk;rw[Qqg,Qxh]
  split at hk
  ·cases hk; lia
  ·have:=I.val _ _ hk; lia
 ·rw[Qqg,Qxh]at hk;rcases Qz1 k hs.length with h1|h1
  ·obtain⟨j',b⟩:=I.sur k h1;refine⟨j',?_⟩;rw[c,Z1 (λz=>o (by rw[z]; exact⟨k,b⟩))]; exact b
  ·have:k=hs.length:=by lia
   subst this;exact⟨j,by rw[c,Z2 rfl]⟩
 ·rw[c]at hk
  split at hk
  ·rename_i i;cases hk;rw[Qzd (Qqv _),Nat.sub_self]at d;cases d;exact⟨n,by rw[<- i]; exact t,λq f=>p _ (s q f)⟩
  ·have g:=I.val _ _ hk;rw[Qqr g]at d;obtain⟨v,D,C⟩:=I.reach _ _ _ hk d;exact⟨v,D,λq f=>p _ (C q f)⟩
 ·rw[Array.toList_setIfInBounds,List.countP_set (by simpa using hj)];have a:(ow.toList[j]'(by simpa using hj)).isSome=false:=by
   cases e:ow.toList[j]'(by simpa using hj) with
   |none=>rfl
   |some k=>exact absurd ⟨k,by rw[<- Qq1,Qqo (by simpa using hj),e]⟩ o
  simp only[a,I.cnt];simp
theorem qan(d:m=7\/m=31):∀(l:L B) (ow:Array (Y3 Y0)) (hs:L B),FI m ow hs->hs.length+l.length<=m+1->
  ∃a,l.foldl (λb h=>do let (owner,k) <- b; let j <- layClean.free m owner (turns m) (bits h % (m+1)) (bits h); pure (owner.setIfInBounds j (Y k),k+1)) (Y (ow,hs.length))=Y (a,hs.length+l.length)/\FI m a (hs++l)
 |[],ow,hs,I,_=>⟨ow,rfl,by rw[Qze]; exact I⟩
 |h::l,ow,hs,I,f=>by
  simp only[Qql]at f;obtain⟨j,e,i⟩:=I.more d (by lia) h;obtain⟨a,g,c⟩:=qan d l _ _ i (by simp; lia);refine⟨a,?_,by simpa using c⟩;rw[Qjq];have:(do let (owner,k) <- (Y (ow,hs.length):Y3 (Array (Y3 Y0)×Y0)); let j <- layClean.free m owner (turns m) (bits h % (m+1)) (bits h); pure (owner.setIfInBounds j (Y k),k+1))=Y (ow.setIfInBounds j (Y hs.length),hs.length+1):=by
   show(layClean.free m ow (turns m) (bits h % (m+1)) (bits h)).bind _=_;rw[e]; rfl
  rw[this];have el:hs.length+1=(hs++[h]).length:=by simp
  rw[el,g];simp; lia
def lay_ok(a:m=7\/m=31)(hs)(b:hs.size<=m+1):∃ow,layClean m hs=Y ow/\FI m ow hs.toList:=by
 obtain⟨ow,e,I⟩:=qan a hs.toList _ [] (FI.zero m) (by simpa using b);refine⟨ow,?_,by simpa using I⟩;unfold layClean;rw[<- Array.foldl_toList];exact congrArg (Option.map (·.1)) e
noncomputable def qz4(m:Y0)(ow:Array (Y3 Y0)):L (Y0×Y0):=(List.range (m+1)).filterMap λj=>(ow.getD j J).map (j,·)
def qxc(I:FI m ow hs):q∈qz4 m ow↔ow[q.1]?=Y (Y q.2):=by
 unfold qz4;rw[Qxo];constructor
 ·rintro⟨j,hj,e⟩;have a:j<ow.size:=by rw[I.size]; exact Qzr.mp hj
  rw[Qzu,Qq6 a]at e
  cases h:ow[j] with
  |none=>rw[h]at e; cases e
  |some k=>
   rw[h]at e;cases e;rw[Qq6 a,h]
 ·intro e;have hj:=(Qzf.mp e).1;refine⟨q.1,Qzr.mpr (by rw[<- I.size]; exact hj),?_⟩;rw[Qzu,e]
  rfl
def qmo(m)(ow):(qz4 m ow).Pairwise λa b=>a.1<b.1:=by
 unfold qz4;refine List.Pairwise.filterMap _ (λa f h b hb i c=>?_) (List.pairwise_lt_range)
 cases e:ow.getD a J with
 |none=>rw[e]at hb; cases hb
 |some k=>
  cases d:ow.getD f J with
  |none=>rw[d]at c; cases c
  |some g=>
   rw[e]at hb; rw[d]at c;cases hb; cases c;exact h
def qvd(I:FI m ow hs):(qz4 m ow).length=hs.length:=by
 unfold qz4;rw[List.length_filterMap_eq_countP,<- I.cnt];have e:ow.toList=(List.range (m+1)).map λj=>ow.getD j none:=by
  apply Qjl;intro j;rw[Qq1,Qqb];rcases Qz1 j (m+1) with h|h
  ·rw[Qja h];have hj:j<ow.size:=by rw[I.size]; exact h
   rw[Qq6 hj];show _=Y (ow.getD j J);rw[Qzu,Qq6 hj]; rfl
  ·rw[Qj6 (by rw[I.size]; exact h),Qz2 (by simpa using h)]; rfl
 rw[e,List.countP_map];refine List.countP_congr λj _=>?_;simp
theorem qae{α:Type}(es:Array α):∀(l:L Y0),(∀k∈l,k<es.size)->(l.filterMap λk=>es[k]?).length=l.length/\∀i:Y0,(l.filterMap λk=>es[k]?)[i]?=l[i]?.bind λk=>es[k]?
 |[],_=>⟨rfl,λi=>by simp⟩
 |k::l,h=>by
  obtain⟨h1,h2⟩:=qae es l λa hk=>h a (Qqu _ hk);have hk:=h k Qq9;have e:=Qq6 hk;rw[Qxw,e];refine⟨by simp[h1],λi=>?_⟩
  cases i with
  |zero=>simp[e]
  |succ i=>simp only[Qju]; exact h2 i
def qms{led plain:Yb}(p:m=7\/m=31)(es:Array (B×α))(A:es.size<=m):
  ∃t c,laid m f mv led plain (es.map (·.1))=Y (t,c)/\SI t (c.filterMap (es[·]?))/\(c.filterMap (es[·]?)).size=es.size/\(∀e,e∈(c.filterMap (es[·]?)).toList↔e∈es.toList)/\t.mask=m:=by
 obtain⟨ow,e,I⟩:=lay_ok p (es.map (·.1)) (by rw[Array.size_map]; lia);have d:(es.map (·.1)).toList.length=es.size:=by simp
 have u:∀k∈(qz4 m ow).map (·.2),k<es.size:=λk hk=>by
  obtain⟨q,h,rfl⟩:=Qqk.mp hk;rw[<- d];exact I.val _ _ ((qxc I).mp h)
 obtain⟨p1,p2⟩:=qae es _ u;have tl:(((qz4 m ow).map (·.2)).toArray.filterMap (es[·]?)).toList=((qz4 m ow).map (·.2)).filterMap λk=>es[k]?:=by simp
 have at_:∀i:Y0,(((qz4 m ow).map (·.2)).toArray.filterMap (es[·]?))[i]?=((qz4 m ow)[i]?.map (·.2)).bind λk=>es[k]?:=λi=>by
  rw[<- Qq1,tl,p2,Qqb]
 have pl:∀i:Y0,((qz4 m ow).map (·.1)).toArray[i]?=(qz4 m ow)[i]?.map (·.1):=λi=>by simp
 have s:∀j,OcO ow j->Occ { mask:=m,place:=((qz4 m ow).map (·.1)).toArray,dummies:=#[],finger:=f,led:=led,moves:=mv,plain:=plain } j:=λj ⟨k,hk⟩=>by
  obtain⟨i,hi,e⟩:=Qz0 ((qxc I (q:=(j,k))).mpr hk);refine⟨i,?_⟩;rw[pl,Qqo hi,e]; rfl
 have ns:(((qz4 m ow).map (·.2)).toArray.filterMap (es[·]?)).size=es.size:=by
  rw[<- Qzh,tl,p1,Qqx,qvd I,d]
 refine⟨{ mask:=m,place:=((qz4 m ow).map (·.1)).toArray,dummies:=#[],finger:=f,led:=led,moves:=mv,plain:=plain },((qz4 m ow).map (·.2)).toArray,?_,⟨⟨p,rfl,?_,?_,?_⟩,?_,?_⟩,ns,?_,rfl⟩
 ·unfold laid;rw[e]; rfl
 ·intro i k a b o r hb;rw[pl]at r hb;obtain⟨x,g,rfl⟩:=Qqi.mp r;obtain⟨y,v,rfl⟩:=Qqi.mp hb;obtain⟨h1,D⟩:=Qqj.mp g;obtain⟨h2,C⟩:=Qqj.mp v;have:=Qjm.mp (qmo m ow) i k h1 h2 o;rw[D,C]at this;exact this
 ·intro i j hj;rw[pl]at hj;obtain⟨x,g,rfl⟩:=Qqi.mp hj;have:=(qxc I).mp (Qqm g);have:=(Qzf.mp this).1;rw[I.size]at this;show x.1<=m
  lia
 ·rw[Qqw,Qqx,qvd I,d]; exact A
 ·rw[Qqw,Qqx,qvd I,d,ns]
 ·intro i j x hj g;rw[pl]at hj;rw[at_]at g;obtain⟨q,h,rfl⟩:=Qqi.mp hj;rw[h]at g;have g:es[q.2]?=Y x:=g;have w:=(qxc I).mp (Qqm h);obtain⟨n,G,F⟩:=I.reach q.1 q.2 x.1 w (by rw[Qq1,Array.getElem?_map,g]; rfl);exact⟨n,G,λz hz=>s _ (F z hz)⟩
 ·intro x;rw[tl,Qxo];constructor
  ·rintro⟨k,_,hk⟩;exact Qqm (by rw[Qq1]; exact hk)
  ·intro g;obtain⟨k,hk,E⟩:=Qz0 g;have l:k<(es.map (·.1)).toList.length:=by rw[d]; simpa using hk
   obtain⟨j,hj⟩:=I.sur k l;refine⟨k,Qqk.mpr ⟨(j,k),(qxc I).mpr hj,rfl⟩,?_⟩;rw[<- Qq1,Qqo hk,E]
def qdw(T:Tb t)(b:Okp t.mask p)(c:t.probe a h p=met):
  ∃n,(∀m,m<n->∃i:Y0,t.place[i]?=Y (stp t.mask m p).j/\a i≠h)/\
   ((¬ Occ t (stp t.mask n p).j/\met=Y (.empty (stp t.mask n p).j J))\/
    (∃i:Y0,t.place[i]?=Y (stp t.mask n p).j/\a i=h/\met=Y (.candidate (stp t.mask n p).j i (stp t.mask (n+1) p)))):=by
 subst c;exact qbn T b
theorem SI.fits(I:SI t es):t.fits es.size=true:=by
 unfold SetTable.fits SetTable.fill;rw[I.tb.dum];have:=I.tb.few;simp[I.sz];rw[<- I.sz]; exact this
def Tb.stays(T:Tb t):t.gaveWay=false:=by
 unfold SetTable.gaveWay;rcases T.mask with h|h<;>rw[h]<;>rfl
section
variable {prog:Program}{w:Qk}{A:Qv}{E:Y8->Qz->Prop}{s:Qz}[DecidableEq K]{knd:KeyKind prog w K}
def qkb(n)(h:carriedByValue v=Z):Zb n v=pure false:=by
 cases v with
 |ref a=>simp[carriedByValue]at h
 |_=>unfold Zb; rfl
def qkg(hk:IsTupleKey knd s.heap ks b)(h:Q Y6 s):wpAny (model prog w) A (Zb 8 (.ref b)) Q E s:=by
 have f:=hk.typeIs;obtain⟨o,c,n,e,hc,hd,hi⟩:=hk;unfold Zb;refine Qq (wpAny_typeOf f ?_);refine Qq ?_;refine Qj ?_;simp only[ if_false];refine Qq (Qi e hd ?_);refine Qq ?_;rw[<- Array.forIn_toList];refine wpAny_forIn_list _ (λrest r s'=>r.1=J/\s'=s/\∀v∈rest,carriedByValue v=Z) _ ?_ ?_ _ _ ⟨rfl,rfl,hi.byValue⟩
 ·rintro v rest r s' ⟨hr,rfl,a⟩;rw[qkb _ (a v Qq9)];refine Qq (Qj ?_);simp only[Qzw];exact Qj ⟨rfl,rfl,λu d=>a u (Qqu _ d)⟩
 ·rintro⟨r1,g⟩ s' ⟨hr,rfl,_⟩;simp only at hr;subst hr;exact Qj h
def qih(d:IsTupleKey knd s.heap ks x)(f:∀y∈l,∃b k,y=.ref b/\IsTupleKey knd s.heap k b)(h:Q Y6 s):
  wpAny (model prog w) A (searchCouldBeSeen (.ref x) l) Q E s:=by
 unfold searchCouldBeSeen;refine Qq ?_;refine wpAny_forIn_list _ (λrest r s'=>r.1=J/\s'=s/\∀y∈rest,∃b k,y=.ref b/\IsTupleKey knd s.heap k b) _ ?_ ?_ _ _ ⟨rfl,rfl,f⟩
 ·rintro y rest r s' ⟨hr,rfl,a⟩;obtain⟨b,k,rfl,hb⟩:=a y Qq9;have g:(carriedByValue (Value.ref x)&&carriedByValue (Value.ref b))=false:=rfl;simp only[g,Bool.or_false]
  by_cases e:(x==b)=Z
  ·rw[Z2 e];exact Qj ⟨rfl,rfl,λu c=>a u (Qqu _ c)⟩
  ·rw[Z1 e];refine Qq (wpAny_eqIsQuiet_tuple d ?_);simp only[Qj9,if_false];refine Qq (wpAny_eqIsQuiet_tuple hb ?_);simp only[Qj9,if_false];refine Qq (qkg d ?_);simp only[Qzw];refine Qq (qkg hb ?_);simp only[Qzw];exact Qj ⟨rfl,rfl,λu c=>a u (Qqu _ c)⟩
 ·rintro⟨r1,i⟩ s' ⟨hr,rfl,_⟩;simp only at hr;subst hr;exact Qj h
end
section
def ints_of(h:ItemsAre (intKind prog w) ks vs):∀v∈vs,∃i t,v=.int i t:=by
 induction h with
 |nil=>intro v hv; simp at hv
 |@cons k b ks vs h1 _ a=>
  intro v hv;rcases Qqy.mp hv with rfl|hv
  ·obtain⟨t,e⟩:=Value.isInt_shape (h1);exact⟨k,t,e⟩
  ·exact a v hv
def qbw(hk:IsTupleKey (intKind prog w) s.heap ks b)(h:Q Z s):wpAny (model prog w) A (hashByValue 8 (.ref b)) Q E s:=by
 have g:=hk.typeIs;obtain⟨o,c,n,f,hc,hd,hi⟩:=hk;unfold hashByValue;refine Qq (wpAny_specialOf g F.slot_tuple_hash.lookup ?_);refine Qq (Qi f hd ?_);refine Qq ?_;show wpAny _ _ (forIn c _ _) _ _ s;rw[<- Array.forIn_toList];refine wpAny_forIn_list _ (λrest r s'=>r.1=J/\s'=s/\∀v∈rest,∃i t,v=.int i t) _ ?_ ?_ _ _ ⟨rfl,rfl,ints_of hi⟩
 ·rintro v rest r s' ⟨hr,rfl,a⟩;obtain⟨i,t,rfl⟩:=a v Qq9;have e:hashByValue 7 (.int i t)=pure true:=by simp[hashByValue]
  rw[e];refine Qq (Qj ?_);simp only[ if_false];exact Qj ⟨rfl,rfl,λu d=>a u (Qqu _ d)⟩
 ·rintro⟨r1,j⟩ s' ⟨hr,rfl,_⟩;simp only at hr;subst hr;exact Qj h
def Els(prog:Program)(w:Qk)(h:Heap)(es:Array (B×Y8)):Prop:=∀(i:Y0) (e:B×Y8),es[i]?=Y e->∃b k,e=(tupleKeyHash (intKind prog w) k,.ref b)/\IsTupleKey (intKind prog w) h k b
def Bad(prog:Program)(w:Qk)(h:Heap)(es:Array (B×Y8))(k:L B)(i:Y0):Prop:=∀(e:B×Y8) (b:Y7) (k':L B),es[i]?=Y e->e.2=.ref b->IsTupleKey (intKind prog w) h k' b->k'≠k
theorem qv1(hu:A.units<cLine)(W:s.heap.get? a=Y o)(hd:o.data=.set es ep t)(I:SI t es)(r:Els prog w s.heap es)(U:IsTupleKey (intKind prog w) s.heap k x)(hf:∀n,(∀m,m<n->∃i:Y0,t.place[i]?=Y (stp t.mask m (qzp t.mask (tupleKeyHash (intKind prog w) k))).j/\Bad prog w s.heap es k i)->¬ Occ t (stp t.mask n (qzp t.mask (tupleKeyHash (intKind prog w) k))).j->
   Q (.free (stp t.mask n (qzp t.mask (tupleKeyHash (intKind prog w) k))).j Y6) s)(ht:(∃(i:Y0) (b:Y7) (g:B),es[i]?=Y (g,.ref b)/\IsTupleKey (intKind prog w) s.heap k b)->Q (.there J) s)(N)(hN:¬ Occ t (stp t.mask N (qzp t.mask (tupleKeyHash (intKind prog w) k))).j):
  ∀(d c:Y0) (f:Y3 Probe),f.getD (t.probeStart (tupleKeyHash (intKind prog w) k))=stp t.mask c (qzp t.mask (tupleKeyHash (intKind prog w) k))->c<=N->N - c<d->
   (∀m,m<c->∃i:Y0,t.place[i]?=Y (stp t.mask m (qzp t.mask (tupleKeyHash (intKind prog w) k))).j/\Bad prog w s.heap es k i)->
   wpAny (model prog w) A (Zr a (.ref x) (tupleKeyHash (intKind prog w) k) Z d f) Q E s
 |0,c,_,_,_,X,_=>by lia
 |d+1,c,f,V,hle,X,K=>by
  unfold Zr;refine Qq (Q7 W hd I.fits ?_);dsimp only;rw[I.tb.stays];simp only[Qzw];rw[V];generalize hm:SetTable.probe t _ _ _=met;have S:Okp t.mask (stp t.mask c (qzp t.mask (tupleKeyHash (intKind prog w) k))):=(Okp.start _).stp c;obtain⟨n,p1,p2⟩:=qdw I.tb S hm;have P:∀m,m<n->∃i:Y0,t.place[i]?=Y (stp t.mask (c+m) (qzp t.mask (tupleKeyHash (intKind prog w) k))).j/\Bad prog w s.heap es k i:=λm C=>by
   obtain⟨i,F,T⟩:=p1 m C;refine⟨i,by rw[qqf]; exact F,λe b k' p hb a1 z=>T ?_⟩;obtain⟨b',a5,R,q⟩:=r i e p;have:(es[i]?.map (·.1)).getD 0=tupleKeyHash (intKind prog w) k:=by
    rw[p,R];rw[R]at hb;cases hb;rw[q.inj a1,z]; rfl
   exact this
  have l:∀m,m<c+n->∃i:Y0,t.place[i]?=Y (stp t.mask m (qzp t.mask (tupleKeyHash (intKind prog w) k))).j/\Bad prog w s.heap es k i:=λm C=>by
   rcases Qz1 m c with h|h
   ·exact K m h
   ·obtain⟨i,F,T⟩:=P (m - c) (by lia);rw[show c+(m - c)=m by lia]at F;exact⟨i,F,T⟩
  rw[<- qqf]at p2;rcases p2 with⟨D,rfl⟩|⟨i,D,q2,rfl⟩
  ·dsimp only;exact Qj (hf _ l D)
  ·dsimp only;have hi:i<es.size:=by rw[<- I.sz]; exact(Qzf.mp D).1
   have p:=Qq6 hi;obtain⟨b,k',R,hb⟩:=r i _ p;rw[R]at p;have a6:c+n<N:=by
    rcases Qji (c+n) N with h|h|h
    ·exact h
    ·exact absurd ⟨i,by rw[<- h]; exact D⟩ hN
    ·obtain⟨u,F,_⟩:=l N h;exact absurd ⟨u,F⟩ hN
   have rest:wpAny (model prog w) A (do
     let j <- Q4 [Value.ref b] (eqBool (.ref b) (.ref x))
     let (a4,_,t') <- setState a
     if Z&&j then return .there J
     let Y same:=t'.sameMemory t.moves t.mask|unsupported "set.changed-during-lookup:is-the-new-block-at-the-old-address"
     let v <- match (if same then t'.slot (stp t.mask (c+n) (qzp t.mask (tupleKeyHash (intKind prog w) k))).j else .empty) with
      |.live u=>match a4[u]? with
       |some (_,y')=>do pure (if <- isSame y' (.ref b) then Y u else J)
       |none=>pure J
      |_=>pure J
     match v with
     |none=>rule "set.search.anew"; Zr a (.ref x) (tupleKeyHash (intKind prog w) k) Z d J
     |some u=>if j then return .there (Y u) else Zr a (.ref x) (tupleKeyHash (intKind prog w) k) Z d (Y (stp t.mask (n+1) (stp t.mask c (qzp t.mask (tupleKeyHash (intKind prog w) k)))))) Q E s:=by
    refine Qq (Qn (wpAny_eqBool_tuple hu hb U ?_));refine Qq (Q7 W hd I.fits ?_)
    by_cases hk:k'=k
    ·subst hk;simp only[ if_true];exact Qj (ht ⟨i,b,_,p,hb⟩)
    ·have ek:=Zu hk;simp only[ek,if_false];have em:t.sameMemory t.moves t.mask=Y true:=by unfold SetTable.sameMemory; simp
     rw[em];simp only[if_true];rw[qjp I.tb D];dsimp only;rw[p];refine Qq (wpAny_isSame_ref_self ?_);simp only[if_true];refine Qq (Qj ?_);refine qv1 hu W hd I r U hf ht N hN d (c+n+1) _ ?_ (by lia) (by lia) λm C=>?_
     ·rw[<- qqf]; rfl
     ·rcases Qz1 m (c+n) with h|h
      ·exact l m h
      ·have:m=c+n:=by lia
       subst this;refine⟨i,D,λe b1 k1 H a3 a0 z=>hk ?_⟩;rw[p]at H;cases H;cases a3;rw[hb.inj a0,z]
   have G:∀y∈(es.filter (·.1==tupleKeyHash (intKind prog w) k)).toList.map (·.2),∃b k,y=.ref b/\IsTupleKey (intKind prog w) s.heap k b:=λy hy=>by
    obtain⟨e,h1,rfl⟩:=Qqk.mp hy;have h2:e∈es.toList:=by
     rw[Array.toList_filter]at h1;exact(Qzt.mp h1).1
    obtain⟨u,a2,e1⟩:=Qz0 h2;obtain⟨b',k1,e2,q⟩:=r u e (by rw[<- Qq1,Qqo a2,e1]);exact⟨b',k1,by rw[e2],q⟩
   cases hl:t.led with
   |true=>
    simp only[Qj9,if_false];rw[p];exact rest
   |false=>
    simp only[Bool.not_false];refine Qq (qih U G ?_);simp only[Qzw];rw[p];exact rest
end
section
def TS(prog:Program)(w:Qk)(h:Heap)(a:Y7)(S:L (L B)):Prop:=∃o es ep t,h.get? a=Y o/\o.ExactSet/\o.data=.set es ep t/\SI t es/\Els prog w h es/\es.size=S.length/\
 (∀k,k∈S↔∃g b,(g,Value.ref b)∈es.toList/\IsTupleKey (intKind prog w) h k b)/\(t.mask=7->es.size<=4)
def qd5(g:h.get? a=Y o)(hd:o.data=.set es i t)(hs:Heap.SameBut a h h')(x:IsTupleKey (intKind prog w) h k b):IsTupleKey (intKind prog w) h' k b:=by
 obtain⟨o',c,n,e,hc,d,hi⟩:=x;have f:b≠a:=by
  rintro rfl;obtain rfl:o'=o:=Option.some.inj (e.symm.trans g);rw[hd]at d; exact nomatch d
 exact⟨o',c,n,(hs.2 b f).trans e,hc,d,hi⟩
def qd1:SetTable.sizeAbove (SetTable.grown 5)=32:=by decide
def qgq(f:s.heap.get? a=Y o)(hd:o.data=.set es g t)(I:SI t es)(j:es.size=5)(h:∀h' o' c d,Heap.SameBut a s.heap h'->h'.get? a=Y o'->(o.ExactSet->o'.ExactSet)->o'.data=.set c (g+1) d->SI d c->c.size=es.size->(∀e,e∈c.toList↔e∈es.toList)->d.mask=31->Q () { s with heap:=h' }):
  wpAny (model prog w) A (setRelay a (SetTable.grown 5)) Q E s:=by
 unfold setRelay;refine Qq (Q7 f hd I.fits ?_);dsimp only;rw[Z1 (by rw[qd1]; decide)];obtain⟨d,b,i,m,z,mem,mk⟩:=qms (mv:=t.movedTo (SetTable.sizeAbove (SetTable.grown 5) - 1)) (.inr rfl) es (by lia);have l:t.relaid (es.map (·.1)) (SetTable.grown 5)=Y (d,b):=by
  unfold SetTable.relaid;rw[qd1]at i ⊢;exact i
 rw[l];refine Qq ?_
 change wpAny _ _ (do
  let Y (t,b):=(Y (d,b):Y3 (Qw×Array Y0))|unsupported "internal:set-table-without-room"
  let c:=b.filterMap (es[·]?)
  if c.size != es.size then unsupported "internal:set-table-lost-an-element"
  pure (c,t)) _ _ _
 dsimp only;have k:((b.filterMap (es[·]?)).size != es.size)=false:=by rw[z]; simp
 rw[k];simp only[Qzw];refine Qj ?_;refine wpAny_storeSet_of f hd ?_ (by rw[z,j,Q1]; decide);have hg:(s.heap.update a (Obj.putSet (b.filterMap (es[·]?)) d)).get? a=Y { o with data:=.set (b.filterMap (es[·]?)) (g+1) d }:=by
  have:=Qxg (Obj.putSet (b.filterMap (es[·]?)) d) f (by rw[putSet_of _ _ hd]; rfl);rw[putSet_of _ _ hd]at this; exact this
 exact h _ _ _ _ (Heap.SameBut.update _ a _) hg (λq=>q) rfl m z mem mk
def qm1(h):(qzp m h).j+(qzp m h).more<=m:=by
 have hi:bits h % (m+1)<=m:=Qxj (Qjj _ (Qxs _));obtain⟨r1,a⟩:=qjr hi;show bits h % (m+1)+(runEnd m (bits h % (m+1)) - bits h % (m+1))<=m
 lia
def j_next(h:p.j+p.more<=m):(adv m p).j+(adv m p).more<=m:=by
 unfold adv
 split
 ·show p.j+1+(p.more - 1)<=m; lia
 ·have hi:(leap m p.i p.perturb).1<=m:=Qxj (Qjj _ (Qxs _));obtain⟨r1,a⟩:=qjr hi;show(leap m p.i p.perturb).1+(runEnd m (leap m p.i p.perturb).1 - (leap m p.i p.perturb).1)<=m
  lia
theorem j_stp:∀(n:Y0){p:Probe},p.j+p.more<=m->(stp m n p).j+(stp m n p).more<=m
 |0,_,h=>h
 |n+1,_,h=>j_stp n (j_next h)
def add_ok(hu:A.units<cLine)(hT:TS prog w s.heap a S)(U:IsTupleKey (intKind prog w) s.heap k x)(hl:S.length<=15)(h:∀b h',Heap.SameBut a s.heap h'->TS prog w h' a (if k∈S then S else S++[k])->Q b { s with heap:=h' }):
  wpAny (model prog w) A (setAddHashed a (.ref x) (tupleKeyHash (intKind prog w) k)) Q E s:=by
 have b6:=hT;obtain⟨o,es,ep,t,H,a3,hd,I,y,V,f,h4⟩:=hT;have F:∀{e:B×Y8},e∈es.toList->∃i:Y0,es[i]?=Y e:=λ{e} he=>by
  obtain⟨i,hi,e1⟩:=Qz0 he;exact⟨i,by rw[<- Qq1,Qqo hi,e1]⟩
 unfold setAddHashed setAddHashedIn;refine Qn (Qq (Q7 H hd I.fits ?_));dsimp only;have eb:byScan (.ref x) es=false:=rfl;rw[eb];simp only[Qzw];obtain⟨fr,b2,b3⟩:=some_free I.tb;obtain⟨N,hN,eN⟩:=hits I.tb.mask (Okp.start (tupleKeyHash (intKind prog w) k)) b2;refine Qq ?_;unfold setSearch;refine qv1 hu H hd I y U (λn D u=>?_) (λa8=>?_) N (by rw[eN]; exact b3) 100000 0 J rfl (Qz4 _) ?_ (λm v=>by lia)
 ·-- b9 element is new
  have X:k ∉ S:=λhk=>by
   obtain⟨g,b,v,hb⟩:=(f k).mp hk;obtain⟨i,hi⟩:=F v;obtain⟨b',p,K,b5⟩:=y i _ hi;have e1:=congrArg Prod.fst K;have e2:=Value.ref.inj (congrArg Prod.snd K);subst e2;obtain rfl:=hb.inj b5;exact qfg I D u i _ hi e1 _ b k hi rfl hb rfl
  have b0:es.size+1<=t.mask:=by
   rcases I.tb.mask with q|q
   ·have:=h4 q; lia
   ·lia
  have a0:(stp t.mask n (qzp t.mask (tupleKeyHash (intKind prog w) k))).j<=t.mask:=Qzm (Qjr _ _) (j_stp n (qm1 _));generalize hj:(stp t.mask n (qzp t.mask (tupleKeyHash (intKind prog w) k))).j=j at *;have I1:SI (t.put j).1 (insertAt es (t.put j).2 (tupleKeyHash (intKind prog w) k,Value.ref x)):=put_ok I a0 u ⟨n,hj,λm v=>by obtain⟨i,hi,_⟩:=D m v; exact⟨i,hi⟩⟩ b0;refine Qq (Q7 H hd I.fits ?_);have W:(t.put j).2<=es.size:=by rw[qdv I.tb,<- I.sz]; exact(qx2 I.tb.up).2.2
  have r:(t.put j).1.mask=t.mask:=by rw[qdv I.tb]
  have c:(insertAt es (t.put j).2 (tupleKeyHash (intKind prog w) k,Value.ref x)).size=es.size+1:=qjd _ _ _ W;have z:∀e,e∈(insertAt es (t.put j).2 (tupleKeyHash (intKind prog w) k,Value.ref x)).toList↔e∈es.toList\/e=(tupleKeyHash (intKind prog w) k,Value.ref x):=λe=>qm8 W;have a5:∀(h':Heap) (d:Array (B×Y8)),Heap.SameBut a s.heap h'->(∀e,e∈d.toList↔e∈es.toList\/e=(tupleKeyHash (intKind prog w) k,Value.ref x))->
    Els prog w h' d/\∀p,p∈S++[k]↔∃g b,(g,Value.ref b)∈d.toList/\IsTupleKey (intKind prog w) h' p b:=λh' d R v=>by
   have kp:∀{b:Y7}{p:L B},IsTupleKey (intKind prog w) s.heap p b->IsTupleKey (intKind prog w) h' p b:=λq=>qd5 H hd R q;refine⟨λi e he=>?_,λp=>?_⟩
   ·rcases (v e).mp (Qqm (by rw[Qq1]; exact he)) with q|q
    ·obtain⟨i',G⟩:=F q;obtain⟨b,p,K,hb⟩:=y i' _ G;exact⟨b,p,K,kp hb⟩
    ·exact⟨x,k,q,kp U⟩
   ·constructor
    ·intro hk;rcases Qqs.mp hk with q|q
     ·obtain⟨g,b,q1,q2⟩:=(f p).mp q;exact⟨g,b,(v _).mpr (.inl q1),kp q2⟩
     ·rw[Qqc]at q;subst q;exact⟨_,x,(v _).mpr (.inr rfl),kp U⟩
    ·rintro⟨g,b,q1,q2⟩;rcases (v _).mp q1 with q|q
     ·obtain⟨i',G⟩:=F q;obtain⟨b',c0,K,hb⟩:=y i' _ G;have e2:=Value.ref.inj (congrArg Prod.snd K);subst e2;obtain rfl:=q2.inj (kp hb);exact Qq5 _ ((f p).mpr ⟨g,b,q,hb⟩)
     ·have e2:=Value.ref.inj (congrArg Prod.snd q);subst e2;obtain rfl:=q2.inj (kp U);exact Qqh _ (by simp)
  have C:∀(b:Yb) (l:Qw),SI l (insertAt es (t.put j).2 (tupleKeyHash (intKind prog w) k,Value.ref x))->l.mask=t.mask->
    wpAny (model prog w) A (do
     storeSet a (insertAt es (t.put j).2 (tupleKeyHash (intKind prog w) k,Value.ref x)) l
     if (!Y6&&l.tooFull)=Z then do
      setRelay a (SetTable.grown (es.size+1))
      pure Z
     else pure Z) Q E s:=λb l I2 b1=>by
   refine Qq (wpAny_storeSet_of H hd ?_ (by rw[c,Q1]; lia));have hg:(s.heap.update a (Obj.putSet (insertAt es (t.put j).2 (tupleKeyHash (intKind prog w) k,Value.ref x)) l)).get? a=Y { o with data:=.set (insertAt es (t.put j).2 (tupleKeyHash (intKind prog w) k,Value.ref x)) (ep+1) l }:=by
    have:=Qxg (Obj.putSet (insertAt es (t.put j).2 (tupleKeyHash (intKind prog w) k,Value.ref x)) l) H (by rw[putSet_of _ _ hd]; rfl);rw[putSet_of _ _ hd]at this; exact this
   have R:=Heap.SameBut.update s.heap a (Obj.putSet (insertAt es (t.put j).2 (tupleKeyHash (intKind prog w) k,Value.ref x)) l);obtain⟨fe,fm⟩:=a5 _ _ R z;have a4:l.tooFull=decide ((es.size+1)*5 >= t.mask*3):=by
    unfold SetTable.tooFull SetTable.fill;rw[I2.tb.dum,I2.sz,c,b1]; rfl
   rw[a4]
   by_cases a1:(es.size+1)*5 >= t.mask*3
   ·have m7:t.mask=7:=by
     rcases I.tb.mask with q|q
     ·exact q
     ·lia
    have e5:es.size+1=5:=by have:=h4 m7; lia
    simp only[Zs a1,if_true];rw[e5];refine Qq (qgq hg rfl I2 (by rw[c,e5]) λh' o' d t' a6 a9 a2 b4 I' z' T a7=>Qj ?_);have P:=R.trans a6;obtain⟨b8,b7⟩:=a5 h' d P λe=>(T e).trans (z e);refine h Z h' P ?_;rw[Z1 X];exact⟨o',d,_,t',a9,a2 a3,b4,I',b8,by rw[z',c,V]; simp,b7,λq=>by rw[a7]at q; cases q⟩
   ·simp only[Zu a1,if_false];refine Qj (h Z _ R ?_);rw[Z1 X];exact⟨_,_,_,l,hg,a3,rfl,I2,fe,by rw[c,V]; simp,fm,λq=>by rw[c]; lia⟩
  cases c1:(t.put j).1.plain with
  |true=>
   simp only[if_true];refine Qq (qbw U ?_);simp only[if_true];exact C Z _ I1 r
  |false=>
   simp only[ if_false];refine Qq (Qj ?_);simp only[if_true];exact C Z _ I1 r
 ·-- it is there
  refine Qj ?_;obtain⟨i,b,g,hi,hb⟩:=a8;have hk:=(f k).mpr ⟨g,b,Qqm (by rw[Qq1]; exact hi),hb⟩;have e:s={ s with heap:=s.heap }:=by cases s; rfl
  rw[e];exact h Y6 s.heap (Heap.SameBut.refl a s.heap) (by rw[Z2 hk]; exact b6)
 ·have:t.mask<=31:=by rcases I.tb.mask with q|q<;>lia
  unfold SetTable.turns at hN
  lia
end
end ST
end
section
namespace ST
open PySem SetTable PyProof.Rows
noncomputable def addK(S:L (L B))(k:L B):L (L B):=if k∈S then S else S++[k]
noncomputable def distinct(ks:L (L B)):L (L B):=ks.foldl addK []
def qnn(S)(k):(addK S k).length<=S.length+1:=by unfold addK; split<;>simp
theorem foldK_le:∀(l S:L (L B)),(l.foldl addK S).length<=S.length+l.length
 |[],S=>by simp
 |k::l,S=>by
  have:=foldK_le l (addK S k);have:=qnn S k;rw[Qjq,Qql]; lia
section
variable {prog:Program}{w:Qk}{A:Qv}{R:Result->Qz->Prop}{I:Y7}{fp wr:L Y7}{G:Array GenState->Array GenState->Prop}{n:Y0}{P:Y0->Y8->Prop}{St:Y0->Qz->Prop}
def TS.keeps(x:TS prog w h a S)(hk:∀b o,(b=a\/∃k,IsTupleKey (intKind prog w) h k b)->h.get? b=Y o->h'.get? b=Y o):TS prog w h' a S:=by
 obtain⟨o,es,D,t,y,u,hd,I,j,p,f,C⟩:=x;have kp:∀{b:Y7}{d:L B},IsTupleKey (intKind prog w) h d b->IsTupleKey (intKind prog w) h' d b:=λ{b d} q=>by
  obtain⟨o',c,n,s,r⟩:=id q;exact⟨o',c,n,hk b o' (.inr ⟨d,q⟩) s,r⟩
 refine⟨o,es,D,t,hk a o (.inl rfl) y,u,hd,I,λi e z=>?_,p,λk=>?_,C⟩
 ·obtain⟨b,k,v,q⟩:=j i e z;exact⟨b,k,v,kp q⟩
 ·rw[f k];constructor
  ·rintro⟨g,b,l,m⟩; exact⟨g,b,l,kp m⟩
  ·rintro⟨g,b,l,m⟩;obtain⟨i,hi,F⟩:=Qz0 l;obtain⟨H,d,v,q⟩:=j i (g,.ref b) (by rw[<- Qq1,Qqo hi,F]);have E:=Value.ref.inj (congrArg Prod.snd v);subst E;obtain rfl:=m.inj (kp q);exact⟨g,b,l,q⟩
def qml(hu:A.in1.units<cLine)(W:WalksS prog w A.in1 I fp wr G n P St)(S)(T:S ∉ fp)(r:∀b∈wr,∀s i,St i s->¬ ∃k,IsTupleKey (intKind prog w) s.heap k b)(ks)(hn:ks.length=n)(b0:n<=16)(u:∀i v,P i v->∃b,v=.ref b)(Kp:Qz->Prop)(a4:∀s i b,Kp s->P i (.ref b)->∃k,ks[i]?=Y k/\IsTupleKey (intKind prog w) s.heap k b)(K:∀s s',Kp s->(∀b o,(∃k,IsTupleKey (intKind prog w) s.heap k b)->s.heap.get? b=Y o->s'.heap.get? b=Y o)->Kp s'):
  ∀(k i:Y0) (s:Qz),n - i=k->i<=n->St i s->Kp s->TS prog w s.heap S ((ks.take i).foldl addK [])->
   (∀s',Moved (S::wr) G s s'->TS prog w s'.heap S (distinct ks)->R (.ok (.ret .none)) s')->
   Zw (model prog w) A (.builtin "set.update.loop" ⟨[.ref S,.ref I],[]⟩) R s:=by
 have a7:=λh=>T (W.sub _ h);have d:∀b∈wr,b∈S::wr:=λb hb=>Qqu _ hb
 have p:∀{s s':Qz}{i:Y0}{Lq:L (L B)},St i s->Moved wr G s s'->TS prog w s.heap S Lq->TS prog w s'.heap S Lq:=λ{s s' i Lq} st f x=>x.keeps λb o hb C=>f.heap b o (λhw=>by
  rcases hb with rfl|hb
  ·exact a7 hw
  ·exact r b hw s i st hb) C
 intro k
 induction k with
 |zero=>
  intro i s hk hi a X hS hR;have a5:i=n:=by lia
  subst a5;refine Zk F.entry_set_update_loop ?_;rw[Around.under_plainId F.plain_set_update_loop _];refine Qq (W.done s _ _ a λs' f=>Qj (hR s' (f.mono d) (p a f ?_)));rw[<- hn,Qzo]at hS;exact hS
 |succ k ih=>
  intro i s hk hi a X hS hR;have E:i<n:=by lia
  refine Zk F.entry_set_update_loop ?_;rw[Around.under_plainId F.plain_set_update_loop _];refine Qq (W.item i s _ _ E a λv s' hP y f=>?_);obtain⟨b,rfl⟩:=u i v hP;have g:=K s s' X λj o hb C=>f.heap j o (λhw=>r j hw s i a hb) C;obtain⟨key,N,hb⟩:=a4 s' i b g hP;have V:=p a f hS;refine Qq (Qn ?_);unfold setAdd;refine Qn ?_;refine Qq (wpAny_pyHash_tuple hu hb ?_);have H:((ks.take i).foldl addK []).length<=15:=by
   have:=foldK_le (ks.take i) [];rw[Qza]at this;simp at this
   lia
  have a3:(ks.take (i+1)).foldl addK []=addK ((ks.take i).foldl addK []) key:=by
   rw[List.take_succ,N,Qx0]; rfl
  refine add_ok hu V hb H λ_ h' l a9=>?_;have a8:TS prog w h' S ((ks.take (i+1)).foldl addK []):=by rw[a3]; exact a9
  have a1:∀{j:Y7},(∃k,IsTupleKey (intKind prog w) s'.heap k j)->j≠S:=λ{j} ⟨k',q⟩ z=>by
   obtain⟨o,es,ep,t,C,_,hd,_⟩:=V;obtain⟨o',a2,m,c,_,Q,_⟩:=q;rw[z]at c;obtain rfl:o'=o:=Option.some.inj (c.symm.trans C);rw[hd]at Q; exact nomatch Q
  refine Qj ⟨plainId_quiet F.plain_set_update_loop _,ih (i+1) _ (by lia) E (W.frame _ s' _ _ y (Qjr _ _) λb hb o e=>?_) (K s' _ g λj o a6 c=>(l.2 j (a1 a6)).trans c) a8 λa0 D U=>?_⟩
  ·rw[l.2 b (λh:b=S=>T (by rw[<- h]; exact hb))]; exact e
  ·refine hR a0 (Moved.trans W.gtrans ((f.mono d).then_heap (Qjr _ _) λb o hb e=>?_) D) U;rw[l.2 b (λh:b=S=>hb (by rw[h]; exact Qq9))]; exact e
end
end ST
end
section
namespace ST
open PySem SetTable
def qfn:isSubtype (.type "tuple") (.type "set")=pure false:=by rw[isSubtype_type]; kernel_rfl
def qyy:isSubtype (.type "tuple") (.type "frozenset")=pure false:=by rw[isSubtype_type]; kernel_rfl
noncomputable abbrev bare(led:Yb):Obj:={ cls:=.type "set",dict:=J,data:=.set #[] 0 (.fresh 0 0 led) }
def Cells(prog:Program)(w:Qk)(h:Heap)(items:Array Y8)(ks:L (L B)):Prop:=∀(i:Y0) (v:Y8),items[i]?=Y v->∃b k,v=.ref b/\ks[i]?=Y k/\IsTupleKey (intKind prog w) h k b
section
def qg7(calm:Bq.handled=J)(room:Bq.units+4<cLine)(tup:c.IsTuple l items)(d:Cells prog w c items ks)(W:ks.length=items.size)(V:items.size<=16)(hs:s.heap=c.push (bare a))(done:∀h1 k1,TS prog w h1 c.objs.size (distinct ks)->(∀b o,b<c.objs.size->c.get? b=Y o->h1.get? b=Y o)->Z3 (.done (.ret .none)) { s with heap:=h1,toks:=k1 }):
  wpAny (model prog w) Bq (Zy.«set.__init__» ⟨[.ref c.objs.size,.ref l],[]⟩) Z3 E s:=by
 obtain⟨I,gs,dr,tk,os⟩:=s;subst hs;obtain⟨⟨tc,td,G,P⟩,H,R,nl,Q⟩:=id tup;subst R Q;have t:(c.push (bare a)).get? c.objs.size=Y (bare a):=Qqn _ rfl;have C:=Qqz (bare a) H;have a1:=qfn;have a2:=qyy;have a3:(Value.type "tuple" == Value.type "dict")=false:=by decide
 have a0:Shared.TypeIs ⟨c.push (bare a),gs,dr,tk,os⟩ (.ref c.objs.size) "set":=⟨_,t,rfl⟩
 have g:(c.push (bare a)).IsTuple l items:=⟨_,C,rfl,nl,rfl⟩
 unfold Zy.«set.__init__» noKeywords Builtin.Frozenset.updateFrom;generalize ei:pyIter=D
 wp_walk
 subst ei;refine wpAny_pyIter_tuple g (Qq (wpAny_runValue ?_));have p:=Qqe H;have sz:(c.push (bare a)).objs.size=c.objs.size+1:=Qxq ..;have U:l≠(c.push (bare a)).objs.size:=by rw[sz]; exact Qq4 (Qxu p)
 have T:c.objs.size ∉ [(c.push (bare a)).objs.size,l]:=by
  rw[sz];simp only[Qqy,Qq8,or_false,not_or];exact⟨Qq4 (Qzn _),Qxn p⟩
 refine qml (by show Bq.units+1<cLine; lia) ((Walks.tuple (by simp[calm]) _ l U items).toS) c.objs.size T ?f ks W V (λi v hv=>?isRef)
  (λz=>∀(i:Y0) (b:Y7),items[i]?=Y (.ref b)->∃k,ks[i]?=Y k/\IsTupleKey (intKind prog w) z.heap k b) (λz i b q I=>q i b I) ?stay items.size 0 _ rfl (Qz4 _) ⟨⟨_,Qqn _ rfl,rfl,rfl⟩,?j⟩ ?keys ?empty ?fin
 case isRef=>obtain⟨b,_,e,_⟩:=d i v hv; exact⟨b,e⟩
 case j=>obtain⟨ob,e1,e2⟩:=g; exact⟨ob,Qqz _ e1,e2⟩
 case f=>
  rintro b hb z i ⟨⟨ob,N,_,K⟩,_⟩ ⟨_,n,_,_,h,_,F,_⟩;rw[Qqc.mp hb,N]at h;cases h;rw[K]at F;cases F
 case stay=>
  intro z1 z2 q keep i b hb;obtain⟨k,e,y⟩:=q i b hb;obtain⟨n,it,m,h,r⟩:=id y;exact⟨k,e,n,it,m,keep b n ⟨k,y⟩ h,r⟩
 case keys=>
  intro i b hb;obtain⟨b',k,e,ek,n,it,m,h,r⟩:=d i _ hb;cases e;exact⟨k,ek,n,it,m,Qqz _ (Qqz _ h),r⟩
 case empty=>exact⟨_,#[],0,_,Qqz _ t,⟨rfl,rfl,rfl⟩,rfl,qhk a,λi e he=>by simp at he,rfl,λk=>by simp,λ_=>by simp⟩
 case fin=>
  intro z X q;obtain⟨h1,a4,a5,u,S⟩:=z;obtain⟨m1,rfl,rfl,rfl,_⟩:=X;refine Qj (Qj (done h1 u q λb o hb e=>m1 b o ?_ (Qqz _ (Qqz _ e))));have A:=Qq4 hb;have x:b≠(c.push (bare a)).objs.size:=by rw[sz]; exact Qq4 (Qxu hb)
  simp only[Qqy,Qq8,or_false,not_or];exact⟨A,x⟩
end
section
theorem TS.size(x:TS prog w h a S)(e:S.length<=16):∃o es c t,h.get? a=Y o/\o.ExactSet/\o.data=.set es c t/\t.fits es.size=Z/\(es.size:B)<2 ^ 63/\es.size=S.length:=by
 obtain⟨o,es,c,t,d,b,hd,I,_,hz,_⟩:=x;exact⟨o,es,c,t,d,b,hd,I.fits,by omega,hz⟩
def set_call(calm:A.handled=J)(room:A.units+12<cLine)(tup:s.heap.IsTuple l c)(g:Cells prog w s.heap c ks)(m:ks.length=c.size)(j:c.size<=16)(k:∀h1 f,TS prog w h1 s.heap.objs.size (distinct ks)->(∀b o,b<s.heap.objs.size->s.heap.get? b=Y o->h1.get? b=Y o)->Q (.ref s.heap.objs.size) { s with heap:=h1,toks:=f }):
  wpAny (model prog w) A (call (.type "set") [.ref l]) Q E s:=by
 have e:=F.called_set;obtain⟨_,_,D⟩:=e.mro;have C:=e.made;have y:=e.sub;have x:=e.notType;have v:=e.canCreate;have u:=F.typeCall_set_1 (.ref l);refine wpAny_call (codeAny_of_tree (Qj ⟨Code.quiet_builtin _ (by decide +kernel),Zk F.entry_type_call ?_⟩));rw[Around.under_plain (weight_type_call_type "set" [.ref l] []) rfl]
 repeat (any_goals (first|assumption|wp_step))
 refine Q8 (code_set_new_1 (.ref l) (E:=E) (Q₁:=λob z=>∃d,ob=.ref s.heap.objs.size/\z={ s with heap:=s.heap.push (bare d) }) λd=>⟨d,rfl,rfl⟩) λr z hr=>?_
 match r,hr with
 |.error _,hr=>exact hr
 |.ok .next,hr=>exact hr.elim
 |.ok .brk,hr=>exact hr.elim
 |.ok .cont,hr=>exact hr.elim
 |.ok (.ret ob),hr=>
  obtain⟨d,rfl,rfl⟩:=hr;have h:Shared.TypeIs { s with heap:=s.heap.push (bare d) } (.ref s.heap.objs.size) "set":=⟨_,Qqn _ rfl,rfl⟩
  have t:=e.init.lookup;have p:=e.init.bind (.ref s.heap.objs.size)
  repeat (any_goals (first|assumption|wp_step))
  refine Q8 (codeAny_call_builtin (R:=wants (λr z=>r=.none/\∃h1 f,z={ s with heap:=h1,toks:=f }/\TS prog w h1 s.heap.objs.size (distinct ks)/\∀b o,b<s.heap.objs.size->s.heap.get? b=Y o->h1.get? b=Y o) E) e.init.plain F.entry_set_init (check_set_init_1 h ?_)) λi n a=>?_
  ·exact qg7 (by simp[calm]) (by show A.units+1+1+4<cLine; omega) tup g m j rfl λh1 f q keep=>⟨rfl,h1,f,rfl,q,keep⟩
  ·match i,a with
   |.error _,a=>exact a
   |.ok .next,a=>exact a.elim
   |.ok .brk,a=>exact a.elim
   |.ok .cont,a=>exact a.elim
   |.ok (.ret _),a=>
    obtain⟨rfl,h1,f,rfl,q,keep⟩:=a
    repeat (any_goals (first|assumption|wp_step))
    exact k h1 f q keep
end
end ST
end
section
namespace MS
open PySem PySem.Spec PyProof.Rows L2
noncomputable def setO(a:Y7)(n:Y0):HO:=.ext λh=>∃o es ep t,h.get? a=Y o/\o.ExactSet/\o.data=.set es ep t/\t.fits es.size=Z/\(es.size:B)<2 ^ 63/\es.size=n
def qnp(K:Qqq)(H:Hp):L V->L (L B)->Prop:=Paired λy k=>∃q,y=.ref q/\SqT K H q (k.map V.int)
theorem items_int:∀{k}{a},Vals (k.map V.int) a->ItemsAre (intKind prog w) k a
 |[],_,h=>by cases h; exact .nil
 |i::k,_,h=>by
  cases h with
  |cons r t=>
   obtain⟨b,rfl⟩:=r;exact .cons (intKind_is _ _ _ _) (items_int t)
section
def qi4(I:Inv X a c H s)(h:SqT X.K H q (k.map V.int)):IsTupleKey (intKind X.prog X.w) s.heap k q:=by
 obtain⟨b,r,⟨o,d,hc,n,hd⟩,_⟩:=I.tuple h;exact⟨o,b.toArray,n,d,hc,hd,items_int r⟩
theorem qbx(I:Inv X a d H s):∀{ys}{ks}{c},qnp X.K H ys ks->Vals ys c->
  ∀(i:Y0) (v:Y8),c[i]?=Y v->∃b k,v=.ref b/\ks[i]?=Y k/\IsTupleKey (intKind X.prog X.w) s.heap k b
 |_,_,_,.nil,r,i,v,e=>by cases r; simp at e
 |_,_,_,.cons (b:=k) h t,r,i,v,e=>by
  cases r with
  |cons r1 f=>
   obtain⟨q,rfl,g⟩:=h
   cases i with
   |zero=>
    simp at e;subst e;cases r1;exact⟨q,k,rfl,rfl,qi4 I g⟩
   |succ i=>
    simp only[Qju]at e ⊢;exact qbx I t f i v e
def qe2(calm:X.A.handled=J)(room:X.A.units+64<cLine):qqk X (.type "set") (λxs H Q=>∃p ys ks,xs=[.ref p]/\SqT X.K H p ys/\qnp X.K H ys ks/\ys.length<=16/\∀l,H l=J->Q (.ref l) (upd H l (setO l (ST.distinct ks).length))):=by
 intro pins s σ H xs G Q I r h;obtain⟨p,ys,ks,rfl,x,hc,R,q⟩:=h;obtain⟨u,rfl,m⟩:=vals1 r;cases m;obtain⟨w,r',⟨o,y,a,n,hd⟩,hz⟩:=I.tuple x;have N:=r'.length;have K:=Paired.length hc;refine ST.set_call calm (by lia) ⟨o,y,a,n,hd⟩ (λi v e=>qbx I hc r' i v (by simpa using e)) (by simp; lia) (by simp; lia) λh1 P T keep=>?_;have le:=ST.foldK_le ks []
 obtain⟨g,es,z,t,j,F,E,D,C,A⟩:=T.size (by
  show(ks.foldl ST.addK []).length<=16
  simp at le; lia)
 refine⟨.ref s.heap.objs.size,_,I.laid (λb o e=>keep b o (Qqe e) e) (Qqv _) ?_,rfl,q _ (I.hok.fresh (Qqv _))⟩;exact⟨⟨g,es,z,t,j,F,E,D,C,A⟩,⟨g,j⟩,λh2 S ⟨f,c,d,k,b1,b2⟩ kp=>⟨f,c,d,k,kp f b1,b2⟩⟩
def qe7:qqk X (.builtin "len") (λxs H Q=>∃p n,xs=[.ref p]/\H p=Y (setO p n)/\Q (.int n) H):=by
 intro pins s σ H xs l Q I r h;obtain⟨p,n,rfl,c,q⟩:=h;obtain⟨u,rfl,a⟩:=vals1 r;cases a;obtain⟨⟨o,es,m,t,k,j,i,g,f,d⟩,_⟩:=(I.hok p _ c)
 refine call_len_set k j i g f ?_;exact⟨.int n,H,I.kept (λb o e=>e),⟨_,by rw[d]⟩,q⟩
end
end MS
end
section
namespace MS
open PySem PySem.Spec PyProof.Rows L2
open M (D Y2)
section
theorem qao{K:Qqq}:∀{ds}{xs}{k},IsDs K m H ds xs->(ds.mapM λd=>match d with|.int i=>Y i|_=>J)=Y k->xs=k.map V.int
 |[],xs,k,h,e=>by
  simp at e;subst e;exact Qzs.mp h.length.symm
 |d::ds,xs,k,h,e=>by
  rw[Qj8]at e
  cases d with
  |int i=>
   obtain⟨x,r,rfl,h1,h2⟩:=h.cons
   cases a:(ds.mapM λd=>match d with|M.D.int i=>Y i|_=>J) with
   |none=>rw[a]at e; cases e
   |some b=>
    rw[a]at e;cases e;rw[h1.int,qao h2 a]; rfl
  |_=>exact nn e
theorem qd4{K:Qqq}:∀{ds}{xs}{ks},IsDs K m H ds xs->ds.mapM M.keyD=Y ks->qnp K H xs ks
 |[],xs,ks,h,e=>by
  simp at e;subst e;rw[Qzs.mp h.length.symm];exact .nil
 |d::ds,xs,ks,h,e=>by
  rw[Qj8]at e
  cases d with
  |tup cs=>
   obtain⟨x,r,rfl,h1,h2⟩:=h.cons
   cases a:M.keyD (.tup cs) with
   |none=>rw[a]at e; cases e
   |some k=>
    cases b:ds.mapM M.keyD with
    |none=>rw[a,b]at e; cases e
    |some f=>
     rw[a,b]at e;cases e;obtain⟨c,ys,rfl,i,g⟩:=h1.tup;refine .cons ⟨c,rfl,?_⟩ (qd4 h2 b);rw[<- qao g a]; exact i
  |_=>exact nn e
end
end MS
end
section
namespace MS
open PySem PySem.Spec PyProof.Rows L2
open M (D Ya Y2 Sl E S T Src Fn Out R)
def qbm{E:TI}(hc:X.calm=Z)(S:CompScope X N src c)(hi:PI X l d E)(hg:∀C fp s H,PG (qzm X N c C fp s H) l g)(ht:∀C fp s H,qca (qzm X N c C fp s H) ifs F)(he:∀C fp s H,PE (qzm X N c C fp s H) elt G)(hs:∀x,foldedSetIterable d X.env x=pure x)(hN:X.N.Nodup)(V:X.N[i]?=Y x)(hl:Loc X.env.scope x)(hf:X.fn x=Z\/X.env.scope.names.lookup x=Y .local)(r:swapsWith (.ListComp elt [⟨l,d,ifs,0⟩] c j) (Y (.Name x f)) pos.line X.env=pure Z):
  PS X (.Assign [.Name x f] (.ListComp elt [⟨l,d,ifs,0⟩] c j) pos) (tAsg (qlq src E g F G) (qys i)):=by
 intro pins s σ H D I h;rw[exec_Assign_Name_used _ _ _ _ r];refine Qq (wpAny_standAt (Qq ?_));refine Qq (Qe (wpAny_comprehension_free rfl hs (qw2 S I) S.kind S.loc (thn (hi pins s σ H _ I h) λv s1 h1=>thn h1 λU p h2=>?_)) (λ_ s' hq=>Qj (Qj hq)) λ_ _ e=>e);obtain⟨it,fp,tn,Jq,H2,e,I2,T,m,f2,W,K,k⟩:=h2;subst e;refine qk4 hc I2 T m f2 S (λC=>hg C fp p H2) (λC=>ht C fp p H2) (λ_ C=>he C fp p H2) (λ_ _ _ _ _ z=>z.elim) W K k ?_;intro A C s' H' a0 w R I' fC hm;obtain⟨m',hn⟩:=hm;obtain⟨c0,c1,c2,c3,c4,c5⟩:=fC;refine wpAny_assign_Name (qvr I' hN V hl (show RelV (.ref A) (.ref A) from rfl) (λQ y t=>?_) hf);obtain⟨a,P,ha⟩:=t;have u:C≠a:=by
  rcases ha with z|z
  ·rw[z]; exact c1
  ·exact λq=>c4 x a z q.symm
 exact⟨m',hn.sameBut P u,λh' n=>⟨_,_,y.turned (λb o hb e=>(n.2 b hb).trans e) c0 c1 c3 c4 c5,w A R⟩⟩
noncomputable def iSeq(K:Qqq)(tl:TE):TI:=λσ H R=>tl σ H λx H1=>(∃a,x=.ref a/\(((∃xs,SqL K H1 a xs)/\R (Itl K a) H1)\/((∃xs,SqT K H1 a xs)/\R (Itt K a) H1)))
def pi_seq(m:PE X l tl):PI X i l (iSeq X.K tl):=by
 intro pins s σ H R I h;refine thn (m pins s σ H _ I h) λv d ⟨x,H1,c,r1,k⟩=>?_;obtain⟨a,e,q⟩:=k;subst e;cases r1;rcases q with⟨⟨xs,g⟩,q⟩|⟨⟨xs,g⟩,q⟩
 ·obtain⟨f,j,p,hz⟩:=c.list g;refine Za p.isList ?_;refine⟨d.heap.objs.size,[d.heap.objs.size],_,_,H1,rfl,c.kept λb o e=>Qqz _ e,qce a _,⟨_,Qqn _ rfl,rfl,rfl⟩,λb hb=>?_,q⟩;have e:b=d.heap.objs.size:=by simpa using hb
  subst e;exact c.fpOk (Qqv _) (c.hok.fresh (Qqv _))
 ·obtain⟨f,j,p,hz⟩:=c.tuple g;refine wpAny_pyIter_tuple (p) ?_;refine⟨d.heap.objs.size,[d.heap.objs.size],_,_,H1,rfl,c.kept λb o e=>Qqz _ e,qby a _,⟨_,Qqn _ rfl,rfl,rfl⟩,λb hb=>?_,q⟩;have e:b=d.heap.objs.size:=by simpa using hb
  subst e;exact c.fpOk (Qqv _) (c.hok.fresh (Qqv _))
structure Glo where
 cs:L (Y5×D)
 ds:L (Y5×L Y5×L D)
 /-- a method's place among the functions,its class,its name -/
 ms:L (Y0×Y7×Y5)
 /-- the classes -/
 cl:L (Y5×Y7)
 /-- attributes of instances -/
 ats:L (Y7×Y5)
structure Ctx where
 N:L Y5
 sc:Scope
 fns:L Y5
 glo:Glo
noncomputable def qnl:M.Bq->String
 |.len=>"len"
 |.min=>"min"
 |.tuple=>"tuple"
 |.list=>"list"
 |.all=>"all"
 |.sorted=>"sorted"
 |.any=>"any"
 |.max=>"max"
 |.int=>"int"
noncomputable def bOk:M.Bq->Yb
 |.len=>Z
 |.min=>Z
 |.tuple=>Z
 |.list=>Z
 |.all=>Z
 |.sorted=>Z
 |.any=>Z
 |.max=>Z
 |.int=>Z
noncomputable def qbl(scope sc:Scope):Scope:={ scope with names:=scope.names.map λ(n,k)=>if (k==NameKind.free&&sc.kind==.function&&sc.names.lookup n==Y .cell) then(n,NameKind.cell) else(n,k) }
noncomputable def tlOk(N:L Y5)(sc:Scope)(t:T):Bool:=t.slots.all λi=>match N[i]? with
 |some x=>sc.names.lookup x==Y .local
 |none=>Y6
def qco(h:tlOk N sc t=Z):∀i∈t.slots,∀x,N[i]?=Y x->sc.names.lookup x=Y .local:=by
 intro i hi x a;unfold tlOk at h;have:=Qzj.mp h i hi;rw[a]at this;simpa using this
noncomputable def qgp(x:Y5):Bool:=!x.cps.toList.contains 46
def MTree(pa:Qx)(m:Y5)(apos:Pos)(ps:L Qx)(pos:Pos):Prop:=∀env,∃pl:Sem Yb,Qy (.Call (.Attribute pa m apos) ps [] pos) env=(do
 let ov <- Qy pa env
 Zg apos.atName
 let (f,first) <- Q4 [ov] (Zo ov m pl)
 callWith pos f first (backTo pos (starEach ps env)) (backToKw pos (keywordEach [] env)))
def Star(p:Qx):Prop:=∀es env,starEach (p::es) env=(Y6,Qy p env)::starEach es env
inductive CkTys (c:Ctx):L M.Ty->L Qx->Prop
 |nil:CkTys c [] []
 |cons {t ts ps pos} (ht:t≠.non) (hg:c.sc.names.lookup (Str.ofString t.name)=Y .globalImplicit) (h:CkTys c ts ps):CkTys c (t::ts) (.Name (Str.ofString t.name) pos::ps)
inductive CkTs (c:Ctx):L Y0->L Qx->Prop
 |nil:CkTs c [] []
 |cons {i x pos is es} (hN:c.N[i]?=Y x) (hl:c.sc.names.lookup x=Y .local\/c.sc.names.lookup x=Y .cell) (h:CkTs c is es):CkTs c (i::is) (.Name x pos::es)
inductive CkT (c:Ctx):T->Qx->Prop
 |tup {is es k pos} (h:CkTs c is es):CkT c (.tup is) (.Tuple es k pos)
 |var {i x pos} (hN:c.N[i]?=Y x) (hl:c.sc.names.lookup x=Y .local\/c.sc.names.lookup x=Y .cell):CkT c (.var i) (.Name x pos)
noncomputable def gcOk:Qx->Yb
 |.Call _ _ _ _=>Z
 |.ListComp _ _ _ _=>Z
 |.List _ _=>Z
 |.BinOp _ _ _ _=>Z
 |.Subscript _ _ _=>Z
 |_=>Y6
inductive CkL (R:E->Qx->Prop):L E->L Qx->Prop
 |nil:CkL R [] []
 |cons {e es p ps} (h:R e p) (t:CkL R es ps):CkL R (e::es) (p::ps)
inductive CkP (R:E->Qx->Prop):L E->L (Y3 Qx)->L Qx->Prop
 |nil:CkP R [] [] []
 |cons {k v es pk pv ks vs} (hk:R k pk) (hv:R v pv) (t:CkP R es ks vs):CkP R (k::v::es) (Y pk::ks) (pv::vs)
inductive CkO (R:E->Qx->Prop):Y3 E->Y3 Qx->Prop
 |none:CkO R J J
 |some {e p} (h:R e p):CkO R (Y e) (Y p)
inductive CkI (R:E->Qx->Prop):Ctx->Qx->E->Qx->Prop
 |rng1 {c tg a pa p0 pos} (hg:c.sc.names.lookup ("range" : Y5)=Y .globalImplicit) (ha:R a pa):CkI R c tg (.rng1 a) (.Call (.Name "range" p0) [pa] [] pos)
 |zip {c es k tp a b pa pb p0 pos} (hg:c.sc.names.lookup ("zip" : Y5)=Y .globalImplicit) (ha:R a pa) (hb:R b pb):CkI R c (.Tuple es k tp) (.zip a b) (.Call (.Name "zip" p0) [pa,pb] [] pos)
 |seq {c tg e p} (h:R e p):CkI R c tg e p
noncomputable abbrev inOp(neg:Yb):CmpOp:=if neg then .NotIn else .In
noncomputable abbrev Ctx.inn(c:Ctx)(N:L Y5)(sc:Scope):Ctx:=⟨N,qbl sc c.sc,c.fns,c.glo⟩
structure CpOk (c:Ctx) (sc:Scope) (sr:L (Y3 Y0)) (N:L Y5) (iter:Qx) (t:T):Prop where
 kind:sc.kind=.function
 cell:∀y∈sc.names,y.2≠.cell
 free:∀y∈sc.names,y.2=.free->c.sc.names.lookup y.1=Y .cell\/c.sc.names.lookup y.1=Y .free
 loc:∀y∈sc.names,y.2=.local->sc.names.lookup y.1=Y .local
 len:sr.length=N.length
 src:∀(j i:Y0),sr[j]?=Y (Y i)->∃x,N[j]?=Y x/\c.N[i]?=Y x/\sc.names.lookup x=Y .free
 nd:N.Nodup
 fs:∀env x,foldedSetIterable iter env x=pure x
 tl:tlOk N (qbl sc c.sc) t=Z
noncomputable def boT(op:BoolOp)(pos:Pos):L Qx->Qx
 |[p]=>p
 |ps=>.BoolOp op ps pos
noncomputable def mName:M.Mt->Y5
 |.append=>"append"
 |.extend=>"extend"
 |.index=>"index"
 |.insert=>"insert"
noncomputable def shOk:Qx->Yb
 |.Starred ..=>Y6
 |.Slice ..=>Y6
 |.Set ..=>Y6
 |.SetComp ..=>Y6
 |.DictComp ..=>Y6
 |.Call (.Name _ _) [] _ _=>Y6
 |_=>Z
noncomputable def qv3:E->Yb
 |.rng1 _=>Y6
 |.zip _ _=>Y6
 |_=>Z
inductive CkV:Ctx->E->Y5->Prop
 |var {c i x} (hN:c.N[i]?=Y x) (hv:Vis c.sc x) (hd:(x==("__debug__" : Y5))=Y6) (hcd:(x==("__classdict__" : Y5))=Y6):CkV c (.var i) x
 |glo {c x d} (hg:c.sc.names.lookup x=Y .globalImplicit) (hm:(x,d)∈c.glo.cs) (hd:(x==("__debug__" : Y5))=Y6):CkV c (.glo x d) x
inductive CkG (R:Ctx->E->Qx->Prop):Ctx->E->Qx->Prop
 |nm {c a x pos} (h:CkV c a x):CkG R c a (.Name x pos)
 |int {c i j pos}:CkG R c (.lit (.int i)) (.Constant (.int i) j pos)
 |bl {c i j pos}:CkG R c (.lit (.bl i)) (.Constant (.bool i) j pos)
 |non {c j pos}:CkG R c (.lit .non) (.Constant .none j pos)
 |str {c i j pos}:CkG R c (.lit (.str i)) (.Constant (.str i) j pos)
 |bin {c op a b pa pb pos} (ha:R c a pa) (hb:R c b pb):CkG R c (.bin op a b) (.BinOp pa op pb pos)
 |lenset {c a pa p0 p1 pos1 pos} (hg:c.sc.names.lookup ("len" : Y5)=Y .globalImplicit) (hs:c.sc.names.lookup ("set" : Y5)=Y .globalImplicit) (ha:R c a pa):CkG R c (.lenset a) (.Call (.Name "len" p0) [.Call (.Name "set" p1) [pa] [] pos1] [] pos)
 |neg {c a pa pos} (ha:R c a pa):CkG R c (.neg a) (.UnaryOp .USub pa pos)
 |not {c a pa pos} (ha:R c a pa):CkG R c (.not a) (.UnaryOp .Not pa pos)
 |cmp {c op a b pa pb pos} (ha:R c a pa) (hb:R c b pb):CkG R c (.cmp op a b) (.Compare pa [op] [pb] pos)
 |cmp2 {c op op' a b d pa pb pd pos} (ha:R c a pa) (hb:R c b pb) (hd:R c d pd):CkG R c (.cmp2 op op' a b d) (.Compare pa [op,op'] [pb,pd] pos)
 |tup {c es ps k pos} (h:CkL (R c) es ps):CkG R c (.tup es) (.Tuple ps k pos)
 |lst {c es ps pos} (h:CkL (R c) es ps):CkG R c (.lst es) (.List ps pos)
 |idx {c a b pa pb pos} (ha:R c a pa) (hb:R c b pb):CkG R c (.idx a b) (.Subscript pa pb pos)
 |call {c f x es p ps p0 pos} (hg:c.sc.names.lookup x=Y .globalImplicit) (hf:c.fns[f]?=Y x) (hd:(x==("__debug__" : Y5))=Y6) (hn:qgp x=Z) (h:CkL (R c) es (p::ps)):CkG R c (.call f es) (.Call (.Name x p0) (p::ps) [] pos)
 |bcall {c b es p ps p0 pos} (hg:c.sc.names.lookup (Str.ofString (qnl b))=Y .globalImplicit) (hb:bOk b=Z) (h:CkL (R c) es (p::ps)):CkG R c (.bcall b es) (.Call (.Name (Str.ofString (qnl b)) p0) (p::ps) [] pos)
 |isi1 {c t a pa p0 p1 pos} (hg:c.sc.names.lookup ("isinstance" : Y5)=Y .globalImplicit) (ht:t≠.non) (hgt:c.sc.names.lookup (Str.ofString t.name)=Y .globalImplicit) (ha:R c a pa):CkG R c (.isi a [t] Y6) (.Call (.Name "isinstance" p0) [pa,.Name (Str.ofString t.name) p1] [] pos)
 |isiN {c ts a pa p0 ps k p1 pos} (hl:ts.length<=1000) (hg:c.sc.names.lookup ("isinstance" : Y5)=Y .globalImplicit) (ht:CkTys c ts ps) (ha:R c a pa):CkG R c (.isi a ts Z) (.Call (.Name "isinstance" p0) [pa,.Tuple ps k p1] [] pos)
 |dgt {c a b pa pb apos cpos} (ha:R c a pa) (hb:R c b pb) (hl:(apos.endLine==cpos.line)=Z):CkG R c (.dgt a b) (.Call (.Attribute pa "get" apos) [pb] [] cpos)
 |dic0 {c pos}:CkG R c (.dic []) (.Dict [] [] pos)
 |dic {c es k v ks vs pos} (h:CkP (R c) es (k::ks) (v::vs)) (h15:(k::ks).length<=15):CkG R c (.dic es) (.Dict (k::ks) (v::vs) pos)
 |didx {c a b pa pb pos} (ha:R c a pa) (hb:R c b pb):CkG R c (.didx a b) (.Subscript pa pb pos)
 |gidx {c x ks ds b pb p0 pos} (hg:c.sc.names.lookup x=Y .globalImplicit) (hm:(x,ks,ds)∈c.glo.ds) (hd:(x==("__debug__" : Y5))=Y6) (hb:R c b pb):CkG R c (.gidx x ks ds b) (.Subscript (.Name x p0) pb pos)
 |sli {c a lo hi pa pl ph p2 pos} (ha:R c a pa) (hl:CkO (R c) lo pl) (hh:CkO (R c) hi ph):CkG R c (.sli a lo hi) (.Subscript pa (.Slice pl ph J p2) pos)
 |attr {c C a f pa pos} (ha:R c a pa) (hc:(C,f)∈c.glo.ats):CkG R c (.attr C a f) (.Attribute pa f pos)
 |mcall {c C f m x cn a es pa ps apos pos} (ha:R c a pa) (hf:c.fns[f]?=Y x) (hm:(f,C,m)∈c.glo.ms) (hc:(cn,C)∈c.glo.cl) (h:CkL (R c) es ps) (hn:ps.length<30) (hl:(apos.endLine==pos.line)=Z):CkG R c (.mcall C f m a es) (.Call (.Attribute pa m apos) ps [] pos)
 |new {c C f x cn es p ps p0 pos} (hg:c.sc.names.lookup cn=Y .globalImplicit) (hf:c.fns[f]?=Y x) (hm:(f,C,("__init__" : Y5))∈c.glo.ms) (hc:(cn,C)∈c.glo.cl) (hd:(cn==("__debug__" : Y5))=Y6) (h:CkL (R c) es (p::ps)):CkG R c (.new C f es) (.Call (.Name cn p0) (p::ps) [] pos)
 |and {c a b pa pb r pos} (ha:R c a pa) (hb:R c b (boT .And pos (pb::r))):CkG R c (.and a b) (.BoolOp .And (pa::pb::r) pos)
 |or {c a b pa pb r pos} (ha:R c a pa) (hb:R c b (boT .Or pos (pb::r))):CkG R c (.or a b) (.BoolOp .Or (pa::pb::r) pos)
 |meth {c a k es pa p ps apos cpos} (ha:R c a pa) (h:CkL (R c) es (p::ps)) (hn:(p::ps).length<30) (hl:(apos.endLine==cpos.line)=Z):CkG R c (.meth a k es) (.Call (.Attribute pa (mName k) apos) (p::ps) [] cpos)
 |comp {c t it q elt sr tg iter pq pelt scope pos N} (ok:CpOk c scope sr N iter t) (hi:CkI (R c) c tg it iter) (ht:CkT (c.inn N scope) t tg) (hq:CkO (R (c.inn N scope)) q pq) (he:R (c.inn N scope) elt pelt):CkG R c (.comp t it q elt sr) (.ListComp pelt [⟨tg,iter,pq.toList,0⟩] scope pos)
 |din {c neg a b pa pb pos} (ha:R c a pa) (hb:R c b pb):CkG R c (.din neg a b) (.Compare pa [inOp neg] [pb] pos)
 |gin {c neg x ks ds b pb p0 pos} (hg:c.sc.names.lookup x=Y .globalImplicit) (hm:(x,ks,ds)∈c.glo.ds) (hd:(x==("__debug__" : Y5))=Y6) (hb:R c b pb):CkG R c (.gin neg x ks b) (.Compare pb [inOp neg] [.Name x p0] pos)
inductive CkF (R:Ctx->E->Qx->Prop):Ctx->E->Qx->Prop
 |of {c e p} (hs:shOk p=Z) (hq:qv3 e=Z) (h:CkG R c e p):CkF R c e p
 |gc {c a p} (hs:shOk p=Z) (hq:qv3 a=Z) (hp:gcOk p=Z) (hg:∀b,a≠.gc b) (h:CkG R c a p):CkF R c (.gc a) p
noncomputable def CkN:Y0->Ctx->E->Qx->Prop
 |0=>λ_ _ _=>False
 |j+1=>CkF (CkN j)
abbrev CkE:=CkN 30
mutual
inductive CkS:Ctx->S->Stmt->Prop
 |set {c i e x p pos pos'} (hN:c.N[i]?=Y x) (hl:c.sc.names.lookup x=Y .local\/c.sc.names.lookup x=Y .cell) (h:CkE c e p) (hs:∀env,swapsWith p (Y (.Name x pos')) pos.line env=pure Y6):CkS c (.set (.var i) e) (.Assign [.Name x pos'] p pos)
 |setC {c i e x p pos pos'} (hN:c.N[i]?=Y x) (hl:c.sc.names.lookup x=Y .local\/c.sc.names.lookup x=Y .cell) (h:CkE c e p) (hc:∃elt gs sc q,p=.ListComp elt gs sc q) (hs:∀env:Env,env.scope=c.sc->(swapsWith p (Y (.Name x pos')) pos.line env=pure Y6\/swapsWith p (Y (.Name x pos')) pos.line env=pure Z)):CkS c (.set (.var i) e) (.Assign [.Name x pos'] p pos)
 |dset {c a i e pa pi pe tpos pos} (ha:CkE c a pa) (hi:CkE c i pi) (he:CkE c e pe):CkS c (.dset a i e) (.Assign [.Subscript pa pi tpos] pe pos)
 |expr {c e p pos} (h:CkE c e p) (hs:∀env,swapsWith p J pos.line env=pure Y6):CkS c (.expr e) (.Expr p pos)
 |ret {c e p pos} (h:CkE c e p):CkS c (.ret e) (.Return (Y p) pos)
 |ite {c q a b pq pa pb pos} (hq:CkE c q pq) (ha:CkSs c a pa) (hb:CkSs c b pb):CkS c (.ite q a b) (.If pq pa pb pos)
 |forr {c t it body tg iter pb pos} (ht:CkT c t tg) (hi:CkI (CkE c) c tg it iter) (hs:∀env x,foldedSetIterable iter env x=pure x) (hb:CkSs c body pb):CkS c (.forr t it body) (.For tg iter pb [] pos)
 |setA {c C a f e pa pe tpos pos} (ha:CkE c a pa) (he:CkE c e pe) (hc:(C,f)∈c.glo.ats):CkS c (.setA C a f e) (.Assign [.Attribute pa f tpos] pe pos)
 |ford {c t a body tg pa pb pos} (ht:CkT c t tg) (ha:CkE c a pa) (hb:CkSs c body pb):CkS c (.ford t a body) (.For tg pa pb [] pos)
 |bad {c p}:CkS c .bad p
 |setT {c is e es k p pos tpos} (ht:CkTs c is es) (h:CkE c e p) (hw:∀env,swappedStores [.Tuple es k tpos] p env=pure J):CkS c (.set (.tup is) e) (.Assign [.Tuple es k tpos] p pos)
 |six {c a i e pa pi pe tpos pos} (ha:CkE c a pa) (hi:CkE c i pi) (he:CkE c e pe):CkS c (.six a i e) (.Assign [.Subscript pa pi tpos] pe pos)
inductive CkSs:Ctx->L S->L Stmt->Prop
 |nil {c}:CkSs c [] []
 |cons {c s ss p ps} (h:CkS c s p) (t:CkSs c ss ps):CkSs c (s::ss) (p::ps)
 |doc {c ss x j pos pos' ps} (t:CkSs c ss ps):CkSs c ss (.Expr (.Constant (.str x) j pos) pos'::ps)
end
def qlw(h:shOk p=Z):Star p:=λes env=>by cases p<;>first|rfl|cases h
def CkN.sh(h:CkN j c e p):shOk p=true:=by
 cases j with
 |zero=>cases h
 |succ j=>
  cases h with
  |of hs=>exact hs
  |gc hs=>exact hs
def CkN.star(h:CkN j c e p):Star p:=qlw h.sh
def sh_sw(h:shOk p=Z)(l)(env):swapsWith p (Y (.Subscript a i tp)) l env=pure false:=by
 cases p<;>first|rfl|cases h
def sh_swT(h:shOk p=Z)(l)(env):swapsWith p (Y (.Tuple es k tp)) l env=pure false:=by
 cases p<;>first|rfl|cases h
def sh_swA(h:shOk p=Z)(l)(env):swapsWith p (Y (.Attribute a f tp)) l env=pure false:=by
 cases p<;>first|rfl|cases h
def qly(h:shOk p=Z)(o i):subscripted p Y6 o i=operate [o,i] (Zq o i):=by
 cases p<;>first|rfl|cases h
def qbg(h:shOk p=Z)(a):Zc a p=false:=by
 cases p<;>first|rfl|cases h
def qla(h:shOk p=Z)(env)(x):foldedSetIterable p env x=pure x:=by
 cases p<;>first|rfl|cases h
def qvw(h:shOk p=Z)(a)(env)(w):Q9 p a env w=w:=by
 cases p with
 |Call f ps ks pos=>
  cases f with
  |Name x q=>
   cases ps with
   |nil=>cases h
   |cons _ _=>rfl
  |_=>rfl
 |_=>rfl
theorem qh0:∀{ps},ps.all shOk=Z->(backTo pos (starEach ps env)).all (λx=>!x.1)=Z
 |[],_=>rfl
 |p::r,h=>by
  rw[Qzp,Qq0]at h;have e:backTo pos (starEach (p::r) env)=(Y6,Qy p env)::backTo pos (starEach r env):=by
   cases p<;>first|rfl|cases h.1
  rw[e,Qzp,qh0 h.2]
  rfl
def sh_mt(h:shOk b=Z)(hs:ps.all shOk=Z)(g:ps.length<30)(d:(a.endLine==pos.line)=Z):MTree b m a ps pos:=by
 intro env;refine⟨(do return (<- importBound b env).getD Z),?_⟩
 have e:Qy (.Call (.Attribute b m a) ps [] pos) env=(do
  let c <- Q9 b m env (Qy b env)
  Zg a.atName
  methodCall b m a pos env c (ps.length+0) (backTo pos (starEach ps env)) (backToKw pos (keywordEach [] env))):=rfl
 have f:methodCallForm (ps.length+0) (backTo pos (starEach ps env)) (backToKw pos (keywordEach [] env))=true:=by
  unfold methodCallForm;rw[qh0 hs];simpa[keywordEach,backToKw] using g
 rw[e,qvw h];unfold methodCall calleeOf methodCallPos;rw[f,d]
 rfl
theorem CkL.sh(h:CkL (CkN j c) es ps):ps.all shOk=true:=by
 induction h with
 |nil=>rfl
 |cons h _ t=>rw[Qzp,h.sh,t]; rfl
noncomputable def spN(K:Qqq)(fns:L Fn)(n f:Y0):Sp:=λvs H Q _=>∃m st ds d st',Rel K m st H/\IsDs K m H ds vs/\M.callD fns n f ds st=Y (d,st')/\Post K m H d st' Q
def Lc(K:Qqq)(mg:Y5->Y3 Y8)(glo:Glo)(f:Y0)(x:Y5)(fa:Y7):Prop:=(qgp x=Z->mg x=Y (.ref fa))/\∀C m,(f,C,m)∈glo.ms->Meth K C m fa
def FTab(P:Program)(w:Qk)(K:Qqq)(mg:Y5->Y3 Y8)(base:Heap)(glo:Glo)(fns:L Fn)(names:L Y5)(n:Y0):Prop:=∀(f:Y0) (x:Y5),names[f]?=Y x->∃(fa:Y7) (fd:Qo) (ps:L Y5),
 Lc K mg glo f x fa/\FnOk P w K mg base CX0 (2*n) fa fd ps (spN K fns n f)/\Qzg K (.ref fa)=Z/\Binds K fd ps []
noncomputable abbrev bNm:L Y5:=["len","min","max","tuple","list","all","sorted","isinstance","range","int","bool","str","zip","any","set"]
structure Mo (K:Qqq) (mg:Y5->Y3 Y8) (glo:Glo) (prm:Qp):Prop where
 cls:∀cn C,(cn,C)∈glo.cl->mg cn=Y (.ref C)/\Cls K C/\PySem.W.makesIn K C=Z/\Qzg K (.ref C)=Z
 ats:∀C f,(C,f)∈glo.ats->Cls K C/\NoAttr K C f
 gds:∀x ks ds,(x,ks,ds)∈glo.ds->∃a,mg x=Y (.ref a)/\FDict prm K a ks ds
 glo:∀x d,(x,d)∈glo.cs->∃u v,mg x=Y u/\RelV v u/\∀m H,IsD K m H d v
 no:∀x∈bNm,mg x=J
structure Good (fns:L Fn) (dl:Y0) (c:Ctx) (X:Cx):Prop where
 room:Room (2*dl+1) X.A
 calm:X.calm=Z
 N:X.N=c.N
 sc:X.env.scope=c.sc
 nd:c.N.Nodup
 kind:c.sc.kind=.function
 tab:FTab X.prog X.w X.K X.mg X.base c.glo fns c.fns dl
 mo:Mo X.K X.mg c.glo X.w.params
 xe:X.xe=λ_ _=>False
theorem Good.no{dl:Y0}(G:Good fns dl c X)(h:bNm.contains x=Z):X.mg x=none:=G.mo.no x (List.contains_iff_mem.mp h)
end MS
end
section
namespace MS
open PySem PySem.Spec PyProof.Rows L2
open M (D Ya Y2 Sl E S T Src Fn Out R)
theorem qq7:∀{es}{ps},CkL (CkN j c) es ps->∀(pos:Pos) (env:Env),(backTo pos (starEach ps env)).any (·.1)=Y6
 |_,_,.nil,_,_=>rfl
 |_,_,.cons h t,pos,env=>by
  rw[h.star];show(Y6||(backTo pos (starEach _ env)).any (·.1))=Y6;rw[qq7 t pos env]
  rfl
def Good.gl{dl:Y0}(G:Good fns dl c X)(h:c.sc.names.lookup x=Y .globalImplicit):Gl X x:=by
 show X.env.scope.names.lookup x=_;rw[G.sc]; exact h
def qbi(h:env.scope=sc):relabel a env=qbl a sc:=by
 unfold relabel qbl Env.kindOf;rw[h]
def Good.inner{fns:L Fn}{dl:Y0}{c:Ctx}{X:Cx}(G:Good fns dl c X){N:L Y5}{a:Scope}{C:Y7}{fp:L Y7}{s:Qz}{H:Hp}(hk:a.kind=.function)(b:N.Nodup):Good fns dl ⟨N,qbl a c.sc,c.fns,c.glo⟩ (qzm X N a C fp s H):=
 ⟨G.room,G.calm,rfl,qbi G.sc,b,hk,G.tab,G.mo,rfl⟩
noncomputable def IsRow(K:Qqq)(m:L Y7)(H:Hp)(k:RK)(a:Y7):D->Prop
 |.tup ds=>k=.tup/\∃xs,SqT K H a xs/\IsDs K m H ds xs
 |.loc l=>k=.lst/\m[l]?=Y a
 |.lst ds=>k=.lst/\∃xs,SqF K H a xs/\IsDs K m H ds xs
 |_=>False
def IsRow.mono{K:Qqq}(h:IsRow K m H k a d)(b:Sub m c)(t:Tr H H'):IsRow K c H' k a d:=by
 cases d with
 |tup ds=>obtain⟨e,xs,q,r⟩:=h; exact⟨e,xs,t.sqT q,qzd b t ds xs r⟩
 |loc l=>exact⟨h.1,b l a h.2⟩
 |lst ds=>obtain⟨e,xs,q,r⟩:=h; exact⟨e,xs,t.sqF q,qzd b t ds xs r⟩
 |_=>exact h.elim
theorem IsRow.sq{K:Qqq}{st:Y2}(h:IsRow K m H k a d)(f:Rel K m st H)(e:M.rowAt st d=Y ds):∃xs,k.sq K H a xs/\IsDs K m H ds xs:=by
 cases d with
 |tup es=>
  cases e;obtain⟨rfl,xs,q,r⟩:=h;exact⟨xs,q,r⟩
 |loc l=>
  obtain⟨rfl,c⟩:=h;obtain⟨g,xs,b,z,q,r⟩:=f.list e (qgs c);cases z;exact⟨xs,q,r⟩
 |lst es=>
  cases e;obtain⟨rfl,xs,q,r⟩:=h;exact⟨xs,q.sq,r⟩
 |_=>exact h.elim
def qap{K:Qqq}{st:Y2}(b:MS.IsD K m H d v)(f:Rel K m st H)(e:M.rowAt st d=Y ds):∃k a,v=.ref a/\IsRow K m H k a d/\∃xs,k.sq K H a xs:=by
 cases d with
 |tup es=>
  obtain⟨a,xs,rfl,q,r⟩:=b.tup;exact⟨.tup,a,rfl,⟨rfl,xs,q,r⟩,xs,q⟩
 |loc l=>
  obtain⟨a,xs,c,rfl,q,r⟩:=f.list e b;exact⟨.lst,a,rfl,⟨rfl,c⟩,xs,q⟩
 |lst es=>
  obtain⟨a,xs,rfl,q,r⟩:=b.lst;exact⟨.lst,a,rfl,⟨rfl,xs,q,r⟩,xs,q.sq⟩
 |_=>exact nn e
def IsRow.sq'{K:Qqq}{st:Y2}(h:IsRow K m H .lst a d)(b:Rel K m st H)(e:M.seqAt st d=Y ds):∃xs,SqL K H a xs/\IsDs K m H ds xs:=by
 cases d with
 |loc l=>exact h.sq b e
 |lst l=>exact h.sq b e
 |_=>exact nn e
def qwg{K:Qqq}{st:Y2}(b:MS.IsD K m H d v)(f:Rel K m st H)(e:M.seqAt st d=Y ds):∃a,v=.ref a/\IsRow K m H .lst a d/\∃xs,SqL K H a xs:=by
 cases d with
 |loc l=>
  obtain⟨a,xs,c,rfl,q,r⟩:=f.list e b;exact⟨a,rfl,⟨rfl,c⟩,xs,q⟩
 |lst l=>
  obtain⟨a,xs,rfl,q,r⟩:=b.lst;exact⟨a,rfl,⟨rfl,xs,q,r⟩,xs,q.sq⟩
 |_=>exact nn e
noncomputable def IsSrc(K:Qqq)(m:L Y7)(H:Hp):Src->It->Prop
 |.rng lo n,Jq=>Jq=Itr lo n
 |.tup ds,Jq=>∃a xs,Jq=Itt K a/\SqT K H a xs/\IsDs K m H ds xs
 |.lst d,Jq=>∃a,IsRow K m H .lst a d/\Jq=Itl K a
 |.zip x y,Jq=>∃(k1 k2:RK) (a b:Y7),Jq=Itz K k1 k2 a b/\IsRow K m H k1 a x/\IsRow K m H k2 b y
theorem IsSrc.mono{K:Qqq}(h:IsSrc K m H s Jq)(b:Sub m c)(t:Tr H H'):IsSrc K c H' s Jq:=by
 cases s with
 |rng lo n=>exact h
 |tup ds=>obtain⟨a,xs,e,q,r⟩:=h; exact⟨a,xs,e,t.sqT q,qzd b t ds xs r⟩
 |lst l=>obtain⟨a,e,q⟩:=h; exact⟨a,e.mono b t,q⟩
 |zip x y=>obtain⟨f,d,a,g,e,h1,h2⟩:=h; exact⟨f,d,a,g,e,h1.mono b t,h2.mono b t⟩
def IsSrc.done{K:Qqq}{st:Y2}(h:IsSrc K m H s o)(g:Rel K m st H)(e:s.at st i=Y J):o.stop i H:=by
 cases s with
 |rng lo n=>
  cases h;simp only[Src.at]at e
  split at e
  ·cases e
  ·rename_i q;exact Nat.not_lt.mp q
 |tup ds=>
  obtain⟨a,xs,rfl,q,r⟩:=h;simp only[Src.at,Option.some.injEq]at e;exact⟨xs,q,by rw[<- r.length]; exact Qzl.mp e⟩
 |lst l=>
  obtain⟨a,v,rfl⟩:=h;simp only[Src.at]at e;refine qzg e λds f d=>?_;obtain⟨xs,q,r⟩:=v.sq' g f;exact⟨xs,q,by rw[<- r.length]; exact Qzl.mp d⟩
 |zip x y=>
  obtain⟨z,w,a,b,rfl,h1,h2⟩:=h;simp only[Src.at]at e;refine qzj e λds f e=>qzg e λes d c=>?_;obtain⟨xs,u,r1⟩:=h1.sq g f;obtain⟨ys,t,p⟩:=h2.sq g d;refine⟨xs,ys,u,t,?_⟩;unfold M.pairAt at c;rw[<- r1.length,<- p.length]
  cases k:ds[i]? with
  |none=>exact .inl (Qzl.mp k)
  |some C=>
   cases j:es[i]? with
   |none=>exact .inr (Qzl.mp j)
   |some A=>rw[k,j]at c; cases c
def IsSrc.next{K:Qqq}{st:Y2}(h:IsSrc K m H s C)(A:Rel K m st H)(e:s.at st i=Y (Y d)):C.go i H/\∀x H',C.yld i H x H'->Same H H'/\MS.IsD K m H' d x:=by
 cases s with
 |rng lo n=>
  cases h;simp only[Src.at]at e
  split at e
  ·rename_i q;cases e;refine⟨q,?_⟩;rintro x H' ⟨rfl,rfl⟩;exact⟨λ_ _ z=>z,mkInt _⟩
  ·cases e
 |tup ds=>
  obtain⟨a,xs,rfl,q,r⟩:=h;simp only[Src.at,Option.some.injEq]at e;obtain⟨x,ex,f⟩:=r.get e;refine⟨⟨xs,x,q,ex⟩,?_⟩;rintro y H' ⟨rfl,z⟩;have:=z xs q;rw[ex]at this;cases this;exact⟨λ_ _ z=>z,f⟩
 |lst l=>
  obtain⟨a,T,rfl⟩:=h;simp only[Src.at]at e;refine qzg e λds t k=>?_;obtain⟨xs,q,r⟩:=T.sq' A t;obtain⟨x,ex,f⟩:=r.get k;refine⟨⟨xs,x,q,ex⟩,?_⟩;rintro y H' ⟨rfl,z⟩;have:=z xs q;rw[ex]at this;cases this;exact⟨λ_ _ z=>z,f⟩
 |zip u v=>
  obtain⟨k1,k2,a,b,rfl,h1,h2⟩:=h;simp only[Src.at]at e;refine qzj e λds t e=>qzg e λes k c=>?_;obtain⟨xs,G,r1⟩:=h1.sq A t;obtain⟨ys,F,Q⟩:=h2.sq A k;unfold M.pairAt at c
  cases g:ds[i]? with
  |none=>rw[g]at c; cases c
  |some d1=>
   cases j:es[i]? with
   |none=>rw[g,j]at c; cases c
   |some d2=>
    rw[g,j]at c;cases c;obtain⟨x,ex,f⟩:=r1.get g;obtain⟨y,P,R⟩:=Q.get j;refine⟨⟨xs,ys,x,y,G,F,ex,P⟩,?_⟩;rintro w H' ⟨p,X,W,rfl,S,rfl,V,U⟩;have N:=V xs G;rw[ex]at N;cases N;have I:=U ys F;rw[P]at I;cases I;have E:=qzc (o:=.tup [x,y]) S;exact⟨E,qxb (SqT.of qzy) (qzd (Sub.refl _) (Tr.of_same E) _ _ (qzo f (qzo R qqy)))⟩
noncomputable def tI(K:Qqq)(f:Sl->Y2->Y3 (Src×Y2)):TI:=λσ H R=>∃m st τ s st',Rel K m st H/\SlotOk K m H τ σ/\f τ st=Y (s,st')/\∀m' H' Jq,Sub m m'->Tr H H'->Rel K m' st' H'->IsSrc K m' H' s Jq->R Jq H'
def tI.el{K:Qqq}{P:Prop}(h:tI K f g H Q)(k:∀m st τ s st',Rel K m st H->SlotOk K m H τ g->f τ st=Y (s,st')->(∀m' H' i,Sub m m'->Tr H H'->Rel K m' st' H'->IsSrc K m' H' s i->Q i H')->P):P:=by
 rcases h with⟨m,st,τ,d,st',a,b,c,e⟩
 exact k m st τ d st' a b c e
def _root_.L2.PI.imp(h:PI X a e t)(f:∀σ H R,t' σ H R->t σ H R):PI X a e t':=λpins s σ H Q I q=>h pins s σ H Q I (f σ H Q q)
def PostO(K:Qqq)(m:L Y7)(H:Hp)(o:Out)(st':Y2)(Dn:Ends):Prop:=∀m' H',Sub m m'->Tr H H'->Rel K m' st' H'->match o with
 |.nx τ=>∀σ',SlotOk K m' H' τ σ'->Dn.nx σ' H'
 |.rt d=>∀v,IsD K m' H' d v->Dn.rt v H'
 |.bk τ=>∀σ',SlotOk K m' H' τ σ'->Dn.bk σ' H'
 |.ct τ=>∀σ',SlotOk K m' H' τ σ'->Dn.ct σ' H'
def PostO.mono{K:Qqq}(p:PostO K m H o st' Dn)(s:Sub m a)(t:Tr H b):PostO K a b o st' Dn:=λm' H' s' c r=>p m' H' (s.trans s') (t.trans c) r
noncomputable def tS(K:Qqq)(f:Sl->Y2->Y3 (Out×Y2)):TS:=λDn σ H=>∃m st τ o st',Rel K m st H/\SlotOk K m H τ σ/\f τ st=Y (o,st')/\PostO K m H o st' Dn
def PostO.of{K:Qqq}(q:PostO K m H d s Q)(e:Y (d',a)=Y (d,s)):PostO K m H d' a Q:=by cases e; exact q
def tS.el{K:Qqq}{P:Prop}(h:tS K f i g H)(k:∀m st τ o st',Rel K m st H->SlotOk K m H τ g->f τ st=Y (o,st')->PostO K m H o st' i->P):P:=by
 rcases h with⟨m,st,τ,d,st',a,b,c,e⟩
 exact k m st τ d st' a b c e
structure AllOk (fns:L Fn) (dl n:Y0):Prop where
 e:∀c X,Good fns dl c X->∀{j} e p,CkN j c e p->PE X p (tD X.K λτ st=>(M.rn fns dl n).ev τ st e)
 t:∀c X,Good fns dl c X->∀{j} e p,CkN j c e p->PT X p (tTs X.K λτ st=>(M.rn fns dl n).tst τ st e)
 w:∀c X,Good fns dl c X->∀{j} e op ps pos,CkN j c e (.BoolOp op ps pos)->PW X (.BoolOp op ps pos) (tTs X.K λτ st=>(M.rn fns dl n).tst τ st e)
 s:∀c X,Good fns dl c X->(∀x,X.fn x=Z)->∀ss ps,CkSs c ss ps->PSs X ps (tS X.K λτ st=>(M.rn fns dl n).ex τ st ss)
def qcw(fns)(dl):AllOk fns dl 0 where
 e:=λc X G j e p h pins s σ H Q I q=>by obtain⟨m,st,τ,d,st',_,_,z,_⟩:=q; cases z
 t:=λc X G j e p h pins s σ H Q I q=>by obtain⟨m,st,τ,d,st',_,_,z,_⟩:=q; cases z
 w:=λc X G j e f ps pos h a pins s σ H Q I q=>by obtain⟨m,st,τ,d,st',_,_,z,_⟩:=q; cases z
 s:=λc X G hf b ps h pins s σ H Q I q=>by obtain⟨m,st,τ,d,st',_,_,z,_⟩:=q; cases z
section
variable {fns:L Fn}{dl n j:Y0}{c:Ctx}{X:Cx}
theorem qz1(A:AllOk fns dl n)(G:Good fns dl c X):∀{es}{ps},CkL (CkN j c) es ps->PA X ps (tL X.K λτ st=>M.evs ((M.rn fns dl n).ev τ) es st)
 |_,_,.nil=>pa_nil.imp λ_ _ _ h=>tL_nil h
 |_,_,.cons h t=>(qqs (A.e c X G _ _ h) (qz1 A G t) (h.star _ _)).imp λ_ _ _ q=>
   qi9 q
def CkN.plain(h:CkN j c e p):qv3 e=true:=by
 cases j with
 |zero=>cases h
 |succ j=>
  cases h with
  |of _ a=>exact a
  |gc=>rfl
def qc6(h:qv3 e=Z)(r)(τ)(st):M.src r τ st e=(r.ev τ st e).bind λp=>match p.1 with
   |.tup ds=>Y (.tup ds,p.2)
   |d=>(M.seqAt p.2 d).map λ_=>(.lst d,p.2):=by
 cases e with
 |rng1 _=>cases h
 |zip _ _=>cases h
 |_=>rfl
def qyo(A:AllOk fns dl n)(G:Good fns dl c X)(h:CkI (CkN j c) c P it o):PI X P o (tI X.K λτ st=>M.src (M.rn fns dl n) τ st it):=by
 have seq:∀{e p},CkN j c e p->(∀τ st,M.src (M.rn fns dl n) τ st e=((M.rn fns dl n).ev τ st e).bind λp=>match p.1 with
   |.tup ds=>Y (.tup ds,p.2)
   |d=>(M.seqAt p.2 d).map λ_=>(.lst d,p.2))->PI X P p (tI X.K λτ st=>M.src (M.rn fns dl n) τ st e):=by
  intro e p N w;refine(pi_seq (A.e c X G e p N)).imp λσ H R q=>q.el λm st τ s st' K I f q=>?_;have f:=(w τ st).symm.trans f;refine qzk f λd Q F f=>rsI K I F λx m1 H1 b1 r g t=>?_
  cases d with
  |tup ds=>
   cases f;obtain⟨a,xs,rfl,u,v⟩:=t.tup;exact⟨a,rfl,.inr ⟨⟨xs,u⟩,q m1 H1 _ b1 r g ⟨a,xs,rfl,u,v⟩⟩⟩
  |loc l=>
   refine qzg f λds C z=>?_;cases z;obtain⟨a,rfl,i,xs,u⟩:=qwg t g C;exact⟨a,rfl,.inl ⟨⟨xs,u⟩,q m1 H1 _ b1 r g ⟨a,i,rfl⟩⟩⟩
  |lst l=>
   refine qzg f λds C z=>?_;cases z;obtain⟨a,rfl,i,xs,u⟩:=qwg t g C;exact⟨a,rfl,.inl ⟨⟨xs,u⟩,q m1 H1 _ b1 r g ⟨a,i,rfl⟩⟩⟩
  |_=>exact nn f
 cases h with
 |@rng1 _ a pa p0 pos hg i=>
  refine(qdb (G.gl hg) (G.no rfl) (qz1 A G (.cons i .nil)) (by rw[i.star]; rfl)).imp λσ H R q=>?_;refine q.el λm st τ s st' K I f q=>qzk f λd Q F f=>?_
  cases d with
  |int k=>
   dsimp only at f
   split at f
   ·exact nn f
   ·rename_i hb;cases f;unfold M.big at hb;simp only[Qxa,decide_eq_true_eq]at hb;refine rsI (d:=[.int k]) (st':=st') K I ?_ λxs m1 H1 b1 r g t=>?_
    ·show(((M.rn fns dl n).ev τ st a).bind λp=>(Y (([]:L D),p.2)).bind λq=>Y (p.1::q.1,q.2))=_;rw[F]; rfl
    ·obtain⟨x,rfl,v⟩:=t.one;cases v.int;exact⟨k,rfl,by omega,by omega,q m1 H1 _ b1 r g rfl⟩
  |_=>exact nn f
 |@zip ts k tp a b pa pb p0 pos hg i hb=>
  refine(pi_zip (G.gl hg) (G.no rfl) (qz1 A G (.cons i (.cons hb .nil))) (by rw[i.star,hb.star]; rfl) (by rw[hb.star]; rfl)).imp λσ H R q=>?_;obtain⟨m,st,τ,s,st',K,I,f,q⟩:=q;refine qzk f λd Q F f=>qzk f λd' W C f=>qzj f λds z f=>qzg f λes e5 e6=>?_;cases e6;refine rsI (d:=[d,d']) (st':=W) K I ?_ λxs m1 H1 b1 r g t=>?_
  ·show(((M.rn fns dl n).ev τ st a).bind λp=>(((M.rn fns dl n).ev τ p.2 b).bind λp=>(Y (([]:L D),p.2)).bind λq=>Y (p.1::q.1,q.2)).bind λq=>Y (p.1::q.1,q.2))=_;rw[F];show(((M.rn fns dl n).ev τ Q b).bind λp=>(Y (([]:L D),p.2)).bind λq=>Y (p.1::q.1,q.2)).bind _=_;rw[C]; rfl
  ·obtain⟨x,y,rfl,v,iy⟩:=t.two;obtain⟨T,V,rfl,h1,w1⟩:=qap v g z;obtain⟨S,U,rfl,h2,w2⟩:=qap iy g e5;exact⟨T,S,V,U,rfl,w1,w2,q m1 H1 _ b1 r g ⟨T,S,V,U,rfl,h1,h2⟩⟩
 |@seq _ e p N=>
  exact seq N (qc6 (CkN.plain N) _)
def po_ok(A:AllOk fns dl n)(G:Good fns dl c X)(h:CkO (CkN j c) o p):PO X p (λσ H Q=>∃m st τ l st',Rel X.K m st H/\SlotOk X.K m H τ σ/\M.part (M.rn fns dl n) τ st o=Y (l,st')/\∀m' H',Sub m m'->Tr H H'->Rel X.K m' st' H'->Q l H'):=by
 cases h with
 |none=>
  intro pins s σ H Q I q;obtain⟨m,st,τ,l,st',a,g,e,k⟩:=q;cases e;exact qlp pins s σ H Q I (k m H (Sub.refl m) (Tr.refl H) a)
 |@some e p h=>
  intro pins s σ H Q I q;obtain⟨m,st,τ,l,st',a,g,w,k⟩:=q;refine qzk w λd y u f=>?_
  cases d with
  |int i=>
   cases f;exact qlo (A.e c X G e p h) pins s σ H Q I (rsI a g u λv m' H' b t x r=>⟨i,r.int,k m' H' b t x⟩)
  |_=>exact nn f
noncomputable def gIs:L Y0->TGs
 |[]=>gNil
 |i::is=>gCons (qys i) (gIs is)
noncomputable def gT(K:Qqq):T->TG
 |.var i=>qys i
 |.tup is=>gTup K is.length (gIs is)
theorem qiw{K:Qqq}:∀{is}{ds}{xs}{τ a}{f},IsDs K m H ds xs->SlotOk K m H τ f->M.setIs is ds τ=Y a->(∀b,SlotOk K m H a b->Q b H)->gIs is xs f H Q
 |[],[],xs,τ,a,f,g,S0,e,k=>by
  cases e;exact⟨g.nil,k f S0⟩
 |i::is,d::ds,xs,τ,a,f,g,S0,e,k=>by
  obtain⟨x,r,rfl,q,t⟩:=g.cons;unfold M.setIs at e
  split at e
  ·exact⟨x,r,rfl,qiw t (S0.put q) e k⟩
  ·exact nn e
 |[],_::_,_,_,_,_,_,_,e,_=>by cases e
 |_::_,[],_,_,_,_,_,_,e,_=>by cases e
theorem qv0:∀{is}{ds}{τ a},M.setIs is ds τ=Y a->is.length=ds.length
 |[],[],_,_,_=>rfl
 |i::is,d::ds,τ,a,e=>by
  unfold M.setIs at e
  split at e
  ·rw[Qql,Qql,qv0 e]
  ·exact nn e
 |[],_::_,_,_,e=>by cases e
 |_::_,[],_,_,e=>by cases e
def qhj{K:Qqq}(h:IsD K m H d v)(l:SlotOk K m H τ f)(e:M.setT t d τ=Y τ')(k:∀b,SlotOk K m H τ' b->Q b H):gT K t v f H Q:=by
 cases t with
 |var i=>
  have e:(if i<τ.length then Y (τ.set i (Y d)) else J)=Y τ':=e
  split at e
  ·cases e;exact k _ (l.put h)
  ·exact nn e
 |tup p=>
  cases d with
  |tup ds=>
   obtain⟨a,xs,rfl,o,g⟩:=h.tup;exact⟨a,xs,rfl,o,by rw[<- g.length,qv0 e],qiw g l e k⟩
  |_=>exact nn e
def qjh(G:Good fns dl c X){i:Y0}(h:c.N[i]?=Y x):X.N[i]?=Y x:=by rw[G.N]; exact h
def qfb:Qa ("any" : Y5)=Y (.builtin "any"):=by decide +kernel
def qfc:Qa ("all" : Y5)=Y (.builtin "all"):=by decide +kernel
def qw9:Qa ("int" : Y5)=Y (.type "int"):=by decide +kernel
def qcv:Qa ("bool" : Y5)=Y (.type "bool"):=by decide +kernel
def qfv:Qa ("str" : Y5)=Y (.type "str"):=by decide +kernel
def qw8:Qa ("isinstance" : Y5)=Y (.builtin "isinstance"):=by decide +kernel
def qw6:Qa ("sorted" : Y5)=Y (.builtin "sorted"):=by decide +kernel
def qfw:Qa ("set" : Y5)=Y (.type "set"):=by decide +kernel
def qw7:Qa ("len" : Y5)=Y (.builtin "len"):=by decide +kernel
def qfy:Qa ("min" : Y5)=Y (.builtin "min"):=by decide +kernel
def qfa:Qa ("max" : Y5)=Y (.builtin "max"):=by decide +kernel
def qk6:Qa ("list" : Y5)=Y (.type "list"):=by decide +kernel
def qkk:Qa ("tuple" : Y5)=Y (.type "tuple"):=by decide +kernel
def ty_ok(G:Good fns dl c X){t:M.Ty}(b:t≠.non)(a:c.sc.names.lookup (Str.ofString t.name)=Y .globalImplicit):PE X (.Name (Str.ofString t.name) pos) (tC (.ty t.name)):=by
 cases t with
 |non=>exact absurd rfl b
 |bl=>exact qjs (G.gl a) (G.no rfl) qcv rfl (by decide) (by decide)
 |int=>exact qjs (G.gl a) (G.no rfl) qw9 rfl (by decide) (by decide)
 |str=>exact qjs (G.gl a) (G.no rfl) qfv rfl (by decide) (by decide)
 |tup=>exact qjs (G.gl a) (G.no rfl) qkk rfl (by decide) (by decide)
 |lst=>exact qjs (G.gl a) (G.no rfl) qk6 rfl (by decide) (by decide)
noncomputable def tCs:L V->TA
 |[]=>tNil
 |v::vs=>qlz (tC v) (tCs vs)
theorem qcu:∀(vs:L V) (a:L2.St) (H:Hp) (Q:L V->Hp->Prop),Q vs H->tCs vs a H Q
 |[],_,_,_,h=>h
 |v::vs,a,H,Q,h=>qcu vs a H (λxs H2=>Q (v::xs) H2) h
theorem qhh(G:Good fns dl c X):∀{a}{ps},CkTys c a ps->PA X ps (tCs (a.map λt=>V.ty t.name))/\∀t∈a,t≠.non
 |_,_,.nil=>⟨pa_nil,λ_ h=>nomatch h⟩
 |_,_,.cons b hg h=>by
  obtain⟨h1,h2⟩:=qhh G h;refine⟨qqs (ty_ok G b hg) h1 rfl,λt d=>?_⟩;rcases Qqy.mp d with z|z
  ·rw[z]; exact b
  ·exact h2 t z
end
section
variable {fns:L Fn}{dl n j:Y0}{c:Ctx}{X:Cx}
def qin:UnR X (unaryOp .USub) (rU1 X.K λst d=>match d with|.int i=>Y (.int (-i),st)|_=>J):=by
 intro pins s σ H x v Q I b h;refine h.el λm st a d st' g f e q=>?_
 cases a with
 |int i=>
  have q:=q.of e;exact un_neg pins s σ H x v Q I b ⟨i,f.int,q.here g (mkInt _)⟩
 |_=>exact nn e
def qk3(G:Good fns dl c X)(h:CpOk c scope sr N e t):CompScope X N sr scope:=
 ⟨h.kind,h.cell,λy f hf=>by
  have:=h.free y f hf;show X.env.scope.names.lookup y.1=_\/X.env.scope.names.lookup y.1=_;rw[G.sc]; exact this,h.loc,h.len,λj i q=>by
  obtain⟨x,a,b,d⟩:=h.src j i q
  exact⟨x,a,qjh G b,d⟩⟩
noncomputable def tOpt(K:Qqq)(r:R):Y3 E->TT
 |none=>λ_ H Q=>Q Z H
 |some c=>tTs K λτ st=>r.tst τ st c
def qhl(A:AllOk fns dl n)(G:Good fns dl c X)(h:CkO (CkN j c) q a):qca X a.toList (tOpt X.K (M.rn fns dl n) q):=by
 cases h with
 |none=>exact qf1
 |some h=>exact qf0 (A.t _ _ G _ _ h)
def qg6{K:Qqq}(sr)(h:SlotOk K m H τ f):SlotOk K m H (M.inner sr τ) (qq6 sr f):=by
 refine⟨by unfold M.inner qq6; rw[Qqx,Qqx],λj d e=>?_⟩;unfold M.inner at e;rw[Qqb]at e;unfold qq6;rw[Qqb]
 cases q:sr[j]? with
 |none=>rw[q]at e; cases e
 |some o=>
  rw[q]at e
  cases o with
  |none=>cases e
  |some i=>
   have hi:τ[i]?=Y (Y d):=by
    cases z:τ[i]? with
    |none=>simp[z]at e
    |some w=>
     cases w with
     |none=>simp[z]at e
     |some w=>simpa[z] using e
   obtain⟨v,a,b⟩:=h.at_ i d hi;refine⟨v,?_,b⟩;simp[a]
def comp_W{K:Qqq}{Q:VK}{S:L2.St}(R1:Rel K I G P)(hJ:IsSrc K I P s Jq)(S1:SlotOk K I P C S)(e2:M.loopC s (M.turnC r t q elt) k0 0 [] C G=Y u)(a2:∀l H' a,Sub I l->Tr P H'->Rel K l u.2 H'->IsDs K l H' u.1 a->∀U,H' U=J->Q (.ref U) (upd H' U (.lst a))):
  ∃W:Y0->Y0->L V->L2.St->Hp->Prop,(∃k,W 0 k [] S P)/\
 ∀i k a f H',W i k a f H'->(Jq.stop i H'/\a.length<=sizeLine/\∀p,H' p=J->Q (.ref p) (upd H' p (.lst a)))\/(Jq.go i H'/\a.length<sizeLine/\∀x H2,Jq.yld i H' x H2->gT K t x f H2 λm H3=>tOpt K r q m H3 λb H4=>
  if b=Z then tD K (λτ st=>r.ev τ st elt) m H4 λv H5=>∃k',k'<k/\W (i+1) k' (a++[v]) m H5 else ∃k',k'<k/\W (i+1) k' a m H4):=by
 refine⟨λi' k a f H'=>∃l F A d,Sub I l/\Tr P H'/\Rel K l F H'/\SlotOk K l H' A f/\IsDs K l H' d a/\M.loopC s (M.turnC r t q elt) k i' d A F=Y u,
  ⟨_,I,G,C,[],Sub.refl _,Tr.refl _,R1,S1,qqy,e2⟩,?_⟩
 rintro j k a f H' ⟨l,F,A,d,b2,w,R2,S2,H,e⟩
 cases k with
 |zero=>exact nn e
 |succ k=>
  have e:=e;refine qzj e λo e5 e=>?_;have l1:=H.length;have l2:=qql
  cases o with
  |none=>
   dsimp only at e
   split at e
   ·exact nn e
   ·rename_i hl;cases e;refine .inl ⟨(hJ.mono b2 w).done R2 e5,by lia,λU hp=>?_⟩;exact a2 l H' a b2 w R2 H U hp
  |some d'=>
   dsimp only at e
   split at e
   ·exact nn e
   ·rename_i hl;obtain⟨a1,hy⟩:=(hJ.mono b2 w).next R2 e5;refine .inr ⟨a1,by lia,λx H2 a0=>?_⟩;obtain⟨sm,ix⟩:=hy x H2 a0;have w:=w.trans (Tr.of_same sm);have R2:=R2.same sm;have S2:=S2.mono (Sub.refl _) (Tr.of_same sm);have H:=qzd (Sub.refl _) (Tr.of_same sm) _ _ H;refine qzj e λz h e=>?_;unfold M.turnC at h;refine qzj h λa4 e7 h=>qhj ix S2 e7 λa5 N=>?_
    ·cases q with
     |none=>
      unfold tOpt;dsimp only at h ⊢;refine qzg h λy e8 e9=>?_;cases e9;rw[Z2 rfl];refine rsI R2 N e8 λv m3 H3 b3 g R3 i3=>⟨k,Qzn k,m3,y.2,_,d++[y.1],b2.trans b3,w.trans g,R3,N.mono b3 g,(qzd b3 g _ _ H).append (qzo i3 qqy),e⟩
     |some cq=>
      unfold tOpt;refine qzj h λbb e8 h=>rsI R2 N e8 λm3 H3 b3 g R3=>?_
      cases hb:bb.1 with
      |true=>
       rw[hb,Z2 rfl]at h;rw[Z2 rfl];refine qzg h λy e9 a3=>?_;cases a3;refine rsI R3 (N.mono b3 g) e9 λv m4 H4 b4 t4 R4 i4=>⟨k,Qzn k,m4,y.2,_,d++[y.1],b2.trans (b3.trans b4),w.trans (g.trans t4),R4,N.mono (b3.trans b4) (g.trans t4),(qzd (b3.trans b4) (g.trans t4) _ _ H).append (qzo i4 qqy),e⟩
      |false=>
       rw[hb,Z1 Qzz]at h;cases h;rw[Z1 Qzz];exact⟨k,Qzn k,m3,bb.2,_,d,b2.trans b3,w.trans g,R3,N.mono b3 g,qzd b3 g _ _ H,e⟩
def qcr{K:Qqq}(h:tD K (λτ st=>M.stepEv r τ st (.comp t it q elt sr)) b H Q):
  qlq sr (tI K λτ st=>M.src r τ st it) (gT K t) (tOpt K r q) (tD K λτ st=>r.ev τ st elt) b H Q:=by
 refine h.el λm st τ d st' C i e a=>?_;have e:=e;refine qzj e λp y e=>qzg e λl x w=>rsI C i y λm1 H1 D b1 f A v=>comp_W A v (qg6 sr (i.mono b1 f)) x λs H' z b2 k R2 u o g=>?_;cases w;exact a _ (s++[o]) _ (b1.trans (b2.trans (Sub.app _ _))) (f.trans (k.trans (Tr.of_same (qzc g)))) (R2.new g u) R2.newLoc
theorem qkl(G:Good fns dl c X):∀{is}{es},CkTs c is es->(∀i∈is,∀x,c.N[i]?=Y x->X.fn x=Z\/c.sc.names.lookup x=Y .local)->PGs X es (gIs is)/\(Qt es X.env).length=is.length/\(Qt es X.env).findIdx? (·.1)=J
 |_,_,.nil,_=>⟨qls,rfl,rfl⟩
 |_,_,.cons (i:=i) (x:=x) (pos:=pos) (is:=is) (es:=es) a b h,hf=>by
  obtain⟨h1,h2,d⟩:=qkl G h λj hj=>hf j (Qqu _ hj);have hg:PG X (.Name x pos) (qys i):=qdc (by rw[G.N]; exact G.nd) (qjh G a) (by rw[G.sc]; exact b) (by rw[G.sc]; exact hf i Qq9 x a);refine⟨qgb hg h1 rfl,?_,?_⟩
  ·show(Qt es X.env).length+1=is.length+1;rw[h2]
  ·show List.findIdx? (·.1) ((Y6,assign (.Name x pos) X.env)::Qt es X.env)=J;rw[List.findIdx?_cons,d]
   rfl
def qqr(G:Good fns dl c X)(h:CkT c t a)(hf:∀i∈t.slots,∀x,c.N[i]?=Y x->X.fn x=Z\/c.sc.names.lookup x=Y .local):PG X a (gT X.K t):=by
 cases h with
 |@var i x pos b d=>exact qdc (by rw[G.N]; exact G.nd) (qjh G b) (by rw[G.sc]; exact d) (by rw[G.sc]; exact hf i (by simp[T.slots]) x b)
 |@tup f es k pos h=>
  obtain⟨h1,h2,e⟩:=qkl G h hf;exact pg_tup G.calm h1 h2 e
noncomputable def qis(r:R)(K:Qqq):L E->L (TE×TE)
 |k::v::es=>(tD K λτ st=>r.ev τ st k,tD K λτ st=>r.ev τ st v)::qis r K es
 |_=>[]
noncomputable def twos:L V->L (V×V)
 |x::y::r=>(x,y)::twos r
 |_=>[]
theorem qv7(A:AllOk fns dl n)(G:Good fns dl c X):∀{es}{ks}{vs},CkP (CkN j c) es ks vs->PPs X pos ks vs (qis (M.rn fns dl n) X.K es)/\ks.all (·.isSome)=Z/\ks.length=vs.length
 |_,_,_,.nil=>⟨qln,rfl,rfl⟩
 |_,_,_,.cons hk hv t=>by
  obtain⟨h1,h2,a⟩:=qv7 A G t;refine⟨qgw (A.e c X G _ _ hk) (A.e c X G _ _ hv) h1,?_,?_⟩
  ·rw[Qzp,h2]; rfl
  ·rw[Qql,Qql,a]
theorem qv6{K:Qqq}:∀{es}{ks}{vs}{c}{m}{st st'}{H}{τ}{b}{ds}{Q},CkP (CkN j c) es ks vs->Rel K m st H->SlotOk K m H τ b->M.evs (r.ev τ) es st=Y (ds,st')->
  (∀xs m' H',Sub m m'->Tr H H'->Rel K m' st' H'->IsDs K m' H' ds xs->Q (twos xs) H')->qaq (qis r K es) b H Q
 |_,_,_,c,m,st,st',H,τ,b,ds,Q,.nil,h,S0,e,q=>by
  cases e;exact q [] m H (Sub.refl m) (Tr.refl H) h qqy
 |_,_,_,c,m,st,st',H,τ,b,ds,Q,.cons hk hv t,h,S0,e,q=>by
  have e:=e;refine qzk e λP G v e=>qzj e λw a e=>qzk a λN F s a=>qzj a λu p a=>?_;cases a;cases e;exact rsI h S0 v λx m1 H1 b1 g A o=>rsI A (S0.mono b1 g) s λy I H2 b2 f R2 l=>qv6 t R2 (S0.mono (b1.trans b2) (g.trans f)) p λxs i C b3 d z k=>q (x::y::xs) i C (b1.trans (b2.trans b3)) (g.trans (f.trans d)) z (qzo (qzw (b2.trans b3) (f.trans d) _ _ o) (qzo (qzw b3 d _ _ l) k))
theorem qaf{K:Qqq}:∀{ds}{xs}{kvs},IsDs K m H ds xs->M.pairUp ds=Y kvs->∃ys:L (Key×V),IsKV K m H kvs ys/\twos xs=ys.map λf=>(kV f.1,f.2)
 |[],xs,kvs,b,e=>by
  cases e;rw[b.nil];exact⟨[],rfl,rfl⟩
 |[d],xs,kvs,b,e=>by cases e
 |d::d'::ds,xs,kvs,b,e=>by
  have e:(if M.isKey d then(M.pairUp ds).map ((d,d')::·) else J)=Y kvs:=e
  split at e
  ·rename_i hk;refine qzg e λt r q=>?_;subst q;obtain⟨x,s,rfl,o,l⟩:=b.cons;obtain⟨y,g,rfl,i,h⟩:=l.cons;obtain⟨k,a⟩:=qq5 hk;have p:=qmu a o;subst p;obtain⟨ys,h1,h2⟩:=qaf h r;refine⟨(k,y)::ys,⟨k,y,ys,rfl,a,i,h1⟩,?_⟩;show(kV k,y)::twos g=_;rw[h2]
   rfl
  ·exact nn e
def qvj{K:Qqq}(h:tD K (λτ st=>M.stepEv r τ st (.meth a k es)) o H Q):
  tBM K "list" (λx xs H Q=>∃m st a ds d st',Rel K m st H/\IsD K m H a x/\IsDs K m H ds xs/\M.mfun st k a ds=Y (d,st')/\Post K m H d st' Q) (tD K λτ st=>r.ev τ st a) (tL K λτ st=>M.evs (r.ev τ) es st) o H Q:=by
 refine h.el λm st τ d st' G u b e=>qzk b λi y F b=>?_
 split at b
 ·rename_i f;refine qzj b λq D b=>rsI G u F λv m1 H1 b1 s w t=>⟨?_,rsI w (u.mono b1 s) D λxs z H2 b2 p R2 A=>⟨z,q.2,i,q.1,d,st',R2,qzw b2 p _ _ t,A,b,e.mono (b1.trans b2) (s.trans p)⟩⟩
  have hs:∃ds,M.seqAt y i=Y ds:=by
   cases i with
   |loc l=>exact Qz5.mp ((Bool.true_and _).symm.trans f)
   |lst l=>exact Qz5.mp ((Bool.true_and _).symm.trans f)
   |_=>cases f
  obtain⟨ds,g⟩:=hs;obtain⟨I,xs,_,rfl,C,_⟩:=w.seq g t;exact .inl ⟨rfl,xs,C⟩
 ·exact nn b
def e_ok(A:AllOk fns dl n)(G':Good fns dl c X)(h:CkN j c e p):PE X p (tD X.K λτ st=>M.stepEv (M.rn fns dl n) τ st e):=by
 have G:=G';have hu:=G'.room.units
 cases j with
 |zero=>cases h
 |succ j=>
 cases h with
 |gc hs hq U hg I=>exact(pe_gc (A.e (j:=j+1) c X G _ _ (.of hs hq I))).imp λ_ _ _ h=>h
 |of hs hq h=>
 clear hs hq
 cases h with
 |nm h=>
  cases h with
  |@var i x hN hv hd c5=>
  refine(pe_var (qjh G hN) (by rw[G.sc]; exact hv) hd c5).imp λσ H Q h=>?_;refine h.el λm st τ d st' K P e q=>?_;simp only[M.stepEv]at e
  split at e
  ·rename_i d' c4;cases e;obtain⟨v,a,b⟩:=P.at_ i d c4;exact⟨v,a,q.here K b⟩
  ·exact nn e
  |@glo x d hg hm hd=>
  obtain⟨u,v,h1,h2,h3⟩:=G.mo.glo _ _ hm;exact(qyf (G.gl hg) h1 h2 hd).imp λσ H Q h=>h.el λm st τ d st' K P e q=>by cases e; exact q.here K (h3 m H)
 |int=>exact pe_int.imp λσ H Q h=>h.el λm st τ d st' K P e q=>by cases e; exact q.here K (mkInt _)
 |bl=>exact pe_bl.imp λσ H Q h=>h.el λm st τ d st' K P e q=>by cases e; exact q.here K (mkBl _)
 |non=>exact pe_non.imp λσ H Q h=>h.el λm st τ d st' K P e q=>by cases e; exact q.here K qvb
 |str=>exact pe_str.imp λσ H Q h=>h.el λm st τ d st' K P e q=>by cases e; exact q.here K (mkStr _)
 |@bin op a b T pb pos I hb=>
  exact(pe_op (qmw op) (A.e c X G a T I) (A.e c X G b pb hb)).imp λσ H Q h=>qcs h
 |@lenset a T p0 p1 c9 pos hg hs I=>
  refine(qz6 qe7 (G.gl hg) (G.no rfl) qw7 (qqs (qxa (qe2 G.room.hd G.room.units) (G.gl hs) (G.no rfl) qfw (qqs (A.e c X G a T I) pa_nil (I.star _ _)) (by decide) (by decide) (I.star _ _) rfl) pa_nil rfl) (by decide) (by decide) rfl rfl).imp λσ H Q h=>?_;refine h.el λm st τ d st' K P e g=>qzk e λd1 s1 W e=>qzg e λd2 e2 e3=>?_;cases e3;refine rsI K P W λx m1 H1 b1 R S ix=>?_
  cases d1 with
  |tup ds=>
   obtain⟨ks,k1,k2⟩:=Option.bind_eq_some_iff.mp (e2)
   split at k2
   ·rename_i c7;cases k2;obtain⟨pt,ys,rfl,hq,iy⟩:=ix.tup;refine⟨pt,ys,ks,rfl,hq,qd4 iy k1,by rw[<- iy.length]; exact c7,λl hl=>?_⟩;refine⟨l,_,rfl,qzy,?_⟩;have sm:=qzc (o:=setO l (ST.distinct ks).length) hl;exact g _ m1 _ b1 (R.trans (Tr.of_same sm)) (S.same sm) (mkInt _)
   ·exact nn k2
  |_=>exact nn e2
 |@neg a T pos I=>
  exact(pe_un qin (A.e c X G a T I)).imp λσ H Q h=>tD_un h
 |@not a T pos I=>
  refine(pe_not (A.e c X G a T I)).imp λσ H Q h=>h.el λm st τ d st' K P e q=>qzk e λd1 s1 W e=>rsI K P W λv m1 H1 b1 R S i1=>?_
  cases d1 with
  |bl k=>
   have q:=q.of e;exact⟨k,i1.bl,q _ m1 H1 b1 R S (mkBl _)⟩
  |_=>exact nn e
 |@cmp op a b T pb pos I hb=>
  exact(ql7 (qxs hu op) (A.e c X G a T I) (A.e c X G b pb hb) (qbg hb.sh _)).imp λσ H Q h=>qcs h
 |@cmp2 op b5 a b d T pb pd pos I hb hd=>
  refine(qgm (qxs hu op) (qxs hu b5) (A.e c X G a T I) (A.e c X G b pb hb) (A.e c X G d pd hd) (qbg hd.sh _)).imp λσ H Q h=>h.el λm st τ dd st' K P e q=>qzk e λd1 s1 W e=>qzk e λd2 s2 e2 e=>qzj e λk e3 e=>rsI K P W λx m1 H1 b1 R S i1=>rsI S (P.mono b1 R) e2 λy m2 H2 b2 t2 R2 i2=>
   ⟨m2,s2,d1,d2,.bl k,s2,R2,qzw b2 t2 _ _ i1,i2,by show Option.map _ (M.cmpD s2 op d1 d2)=_; rw[e3]; rfl,λz m3 H3 b3 t3 R3 i3=>⟨k,i3.bl,?_⟩⟩
  cases k with
  |true=>
   rw[Z2 rfl]at e ⊢;exact qzk e λd3 s3 e4 e=>rsI R3 (P.mono (b1.trans (b2.trans b3)) (R.trans (t2.trans t3))) e4 λy' m4 H4 b4 t4 R4 i4=>
    ⟨m4,s3,d2,d3,dd,st',R4,qzw (b3.trans b4) (t3.trans t4) _ _ i2,i4,e,q.mono (b1.trans (b2.trans (b3.trans b4))) (R.trans (t2.trans (t3.trans t4)))⟩
  |false=>
   rw[Z1 Qzz]at e ⊢;have q:=q.of e;exact q _ m3 H3 (b1.trans (b2.trans b3)) (R.trans (t2.trans t3)) R3 (mkBl _)
 |@and a b T pb r pos I hb=>
  have hb:PE X (.BoolOp .And (pb::r) pos) (tD X.K λτ st=>(M.rn fns dl n).ev τ st b):=by
   cases r with
   |nil=>exact qh7 (A.e c X G b pb hb)
   |cons=>exact A.e c X G b _ hb
  refine(pe_and (A.e c X G a T I) hb).imp λσ H Q h=>h.el λm st τ d st' K P e q=>qzk e λd1 s1 W e=>rsI K P W λv m1 H1 b1 R S i1=>?_
  cases d1 with
  |bl k=>
   cases k with
   |true=>exact⟨Z,i1.bl,rsI S (P.mono b1 R) e (q.mono b1 R)⟩
   |false=>cases e; exact⟨Y6,i1.bl,q _ m1 H1 b1 R S (mkBl _)⟩
  |_=>exact nn e
 |@or a b T pb r pos I hb=>
  have hb:PE X (.BoolOp .Or (pb::r) pos) (tD X.K λτ st=>(M.rn fns dl n).ev τ st b):=by
   cases r with
   |nil=>exact qh7 (A.e c X G b pb hb)
   |cons=>exact A.e c X G b _ hb
  refine(pe_or (A.e c X G a T I) hb).imp λσ H Q h=>h.el λm st τ d st' K P e q=>qzk e λd1 s1 W e=>rsI K P W λv m1 H1 b1 R S i1=>?_
  cases d1 with
  |bl k=>
   cases k with
   |false=>exact⟨Y6,i1.bl,rsI S (P.mono b1 R) e (q.mono b1 R)⟩
   |true=>cases e; exact⟨Z,i1.bl,q _ m1 H1 b1 R S (mkBl _)⟩
  |_=>exact nn e
 |@tup es ps k pos hs=>
  refine(qh6 (qz1 A G hs)).imp λσ H Q h=>h.el λm st τ d st' K P e g=>qzj e λp W e=>?_
  split at e
  ·exact nn e
  ·rename_i hl;have g:=g.of e;refine rsI K P W λxs m1 H1 b1 R S ix=>?_;have l1:=ix.length;have l2:=qql;refine⟨by lia,λpp U=>?_⟩;have sm:=qzc (o:=.tup xs) U;exact g _ m1 _ b1 (R.trans (Tr.of_same sm)) (S.same sm) (qxb (SqT.of qzy) (qzd (Sub.refl _) (Tr.of_same sm) _ _ ix))
 |@lst es ps pos hs=>
  refine(pe_lst (qz1 A G hs)).imp λσ H Q h=>h.el λm st τ d st' K P e g=>qzj e λp W e=>?_
  split at e
  ·exact nn e
  ·rename_i hl;have g:=g.of e;refine rsI K P W λxs m1 H1 b1 R S ix=>?_;have l1:=ix.length;have l2:=qql;refine⟨by lia,λpp U=>?_⟩;exact g _ (m1++[pp]) _ (b1.trans (Sub.app _ _)) (R.trans (Tr.of_same (qzc U))) (S.new U ix) S.newLoc
 |@idx a b T pb pos I hb=>
  exact(pe_ix ix_D (A.e c X G a T I) (A.e c X G b pb hb) (qly hb.sh)).imp λσ H Q h=>qcs h
 |@call f x es p ps p0 pos hg hf hd hn hs=>
  obtain⟨fa,fd,a0,hm,F,hk,hb⟩:=G'.tab f x hf;have U:Star p:=by cases hs with|cons h _=>exact h.star
  have ht:(backTo pos (starEach ps X.env)).any (·.1)=false:=by cases hs with|cons _ t=>exact qq7 t pos X.env
  refine(ql8 F (G.room.mono (by lia)) (G.gl hg) (hm.1 hn) hk hb .nil qgo (qz1 A G hs) hd (U _ _) ht).imp λσ H Q h=>?_;refine h.el λm st τ d st' K P e g=>qzj e λq W e=>rsI K P W λxs m1 H1 b1 R S ix=>?_;show spN X.K fns dl f (xs++[]) H1 Q E0;have e:=e;rw[M.runK_call]at e;rw[Qze];exact⟨m1,q.2,q.1,d,st',S,ix,e,g.mono b1 R⟩
 |@bcall b es p ps p0 pos hg d6 hs=>
  have U:Star p:=by cases hs with|cons h _=>exact h.star
  have ht:(backTo pos (starEach ps X.env)).any (·.1)=false:=by cases hs with|cons _ t=>exact qq7 t pos X.env
  have hA:=qz1 A G hs
  cases b with
  |len=>exact(qz6 qe8 (G.gl hg) (G.no rfl) qw7 hA (by decide) (by decide) (U _ _) ht).imp λσ H Q h=>qqe h
  |min=>exact(qz6 (qe3 G.calm) (G.gl hg) (G.no rfl) qfy hA (by decide) (by decide) (U _ _) ht).imp λσ H Q h=>qqe h
  |max=>exact(qz6 (qe5 G.calm) (G.gl hg) (G.no rfl) qfa hA (by decide) (by decide) (U _ _) ht).imp λσ H Q h=>qqe h
  |tuple=>exact(qxa qy4 (G.gl hg) (G.no rfl) qkk hA (by decide) (by decide) (U _ _) ht).imp λσ H Q h=>qqe h
  |list=>exact(qxa (qck G.room.hd) (G.gl hg) (G.no rfl) qk6 hA (by decide) (by decide) (U _ _) ht).imp λσ H Q h=>qqe h
  |any=>exact(qz6 (qfx G.calm) (G.gl hg) (G.no rfl) qfb hA (by decide) (by decide) (U _ _) ht).imp λσ H Q h=>qqe h
  |all=>exact(qz6 (qfj G.calm) (G.gl hg) (G.no rfl) qfc hA (by decide) (by decide) (U _ _) ht).imp λσ H Q h=>qqe h
  |sorted=>exact(qz6 (qw4 G.room.hd) (G.gl hg) (G.no rfl) qw6 hA (by decide) (by decide) (U _ _) ht).imp λσ H Q h=>qqe h
  |int=>exact(qxa qfq (G.gl hg) (G.no rfl) qw9 hA (by decide) (by decide) (U _ _) ht).imp λσ H Q h=>qqe h
 |@isi1 t a T p0 p1 pos hg ht c2 I=>
  refine(qz6 (qfz t ht) (G.gl hg) (G.no rfl) qw8 (qqs (A.e c X G a T I) (qqs (ty_ok G ht c2) pa_nil rfl) (I.star _ _)) (by decide) (by decide) (I.star _ _) rfl).imp λσ H Q h=>?_;refine h.el λm st τ d st' K P e g=>qzk e λd1 s1 W e=>qzg e λnm e2 e3=>?_;cases e3;refine rsI K P W λx m1 H1 b1 R S ix=>⟨m1,s1,d1,nm,x,rfl,S,ix,e2,g _ m1 H1 b1 R S ?_⟩
  have:([t].any λt=>M.tyIs t nm)=M.tyIs t nm:=by simp
  rw[this];exact mkBl _
 |@isiN ts a T p0 ps k p1 pos a6 hg ht I=>
  obtain⟨h1,h2⟩:=qhh G ht;refine(qz6 (qe9 ts h2) (G.gl hg) (G.no rfl) qw8 (qqs (A.e c X G a T I) (qqs (qh6 h1) pa_nil rfl) (I.star _ _)) (by decide) (by decide) (I.star _ _) rfl).imp λσ H Q h=>?_;refine h.el λm st τ d st' K P e g=>qzk e λd1 s1 W e=>qzg e λnm e2 e3=>?_;cases e3;refine rsI K P W λx m1 H1 b1 R S ix=>qcu _ σ H1 _ ⟨?_,λpp U=>?_⟩
  ·rw[Qqx];exact Qx9 (qc8 a6)
  ·have sm:=qzc (o:=.tup (ts.map λt=>V.ty t.name)) U;exact⟨m1,s1,d1,nm,x,pp,rfl,qzy,S.same sm,qzw (Sub.refl _) (Tr.of_same sm) _ _ ix,e2,g _ m1 _ b1 (R.trans (Tr.of_same sm)) (S.same sm) (mkBl _)⟩
 |@meth a k es T p ps apos cpos I hs hn hl=>
  have U:Star p:=by cases hs with|cons h _=>exact h.star
  have ht:(backTo cpos (starEach ps X.env)).any (·.1)=false:=by cases hs with|cons _ t=>exact qq7 t cpos X.env
  have few:((backTo cpos (starEach (p::ps) X.env)).all (λx=>!x.1)&&(backToKw cpos (keywordEach [] X.env)).all (λx=>x.1.isSome)&&decide ((p::ps).length+([]:L Zl).length+(if ([]:L Zl).isEmpty then 0 else 1)<30))=true:=by
   rw[List.all_eq_not_any_not];simp only[Bool.not_not,qq7 hs cpos X.env];exact Zs hn
  have hb:=λx=>qvw I.sh x X.env (Qy T X.env)
  cases k with
  |append=>exact(qgn PySem.F.plainAttrs_list PySem.F.slot_list_append PySem.F.type_list_append qb0 (A.e c X G a _ I) (qz1 A G hs) (hb _) few hl (U _ _) ht).imp λ_ _ _ h=>qvj h
  |extend=>exact(qgn PySem.F.plainAttrs_list PySem.F.slot_list_extend PySem.F.type_list_extend qbu (A.e c X G a _ I) (qz1 A G hs) (hb _) few hl (U _ _) ht).imp λ_ _ _ h=>qvj h
  |index=>exact(qgn PySem.F.plainAttrs_list PySem.F.slot_list_index PySem.F.type_list_index (qdm hu) (A.e c X G a _ I) (qz1 A G hs) (hb _) few hl (U _ _) ht).imp λ_ _ _ h=>qvj h
  |insert=>exact(qgn PySem.F.plainAttrs_list PySem.F.slot_list_insert PySem.F.type_list_insert qbt (A.e c X G a _ I) (qz1 A G hs) (hb _) few hl (U _ _) ht).imp λ_ _ _ h=>qvj h
 |@dic0 pos=>
  refine pe_dnewK.imp λσ H Q h=>h.el λm st τ d st' K P e g=>?_;have e0:M.wdicAt (st++[Ya.dic Z []]) st.length=Y []:=by simp[M.wdicAt]
  have e:(match M.wdicAt (st++[Ya.dic Z []]) st.length with
   |some []=>(M.pairUp []).bind λkvs=>if kvs.length<=15 then Y (D.loc st.length,(st++[Ya.dic Z []]).set st.length (Ya.dic Z (M.dall kvs))) else J
   |_=>J)=Y (d,st'):=e
  rw[e0]at e;have e2:(st++[Ya.dic Z []]).set st.length (.dic Z [])=st++[.dic Z []]:=by simp
  have e:Y (D.loc st.length,(st++[Ya.dic Z []]).set st.length (.dic Z []))=Y (d,st'):=e;rw[e2]at e;have g:=g.of e;intro pp U;exact g _ (m++[pp]) _ (Sub.app _ _) (Tr.of_same (qzc U)) (K.newD U rfl) K.newLoc
 |@dic es k v ks vs pos hP c8=>
  obtain⟨h1,h2,h3⟩:=qv7 A G hP;refine(ql3 h1 h2 h3 (by simp) c8).imp λσ H Q h=>?_;refine h.el λm st τ d st' K P e g=>?_;have e:=e;refine qzj e λp W e=>?_
  split at e
  ·rename_i a9;refine qzj e λkvs e2 e=>?_
   split at e
   ·rename_i hl;have g:=g.of e;intro pp U;have sm:=qzc (o:=.dK []) U;refine qv6 hP (K.newD (kvs:=[]) U rfl) (P.mono (Sub.app _ _) (Tr.of_same sm)) W λxs m1 H1 b1 R S ix=>?_;obtain⟨ys,a8,b7⟩:=qaf ix e2;have a1:=qzw b1 (Tr.refl H1) _ _ (K.newLoc);obtain⟨a',d5,c6,ea,hH,a7,b8⟩:=S.wdict a9 a1;cases ea;have b6:=a7;subst b6;have l1:=a8.length;refine⟨hH,ys,b7,by lia,?_⟩;exact g _ m1 _ ((Sub.app _ _).trans b1) ((Tr.of_same sm).trans (R.trans (Tr.putD hH))) (S.putD b8 c6 hH (a8.merge (rfl))) (qzw (Sub.refl _) (Tr.putD hH) _ _ a1)
   ·exact nn e
  ·exact nn e
 |@didx a b T pb pos I hb=>exact qgi (by lia) (A.e c X G a T I) (A.e c X G b pb hb) (qly hb.sh)
 |@din neg a b T pb pos I hb=>exact qh8 (qdf (by lia) neg (A.e c X G a T I) (A.e c X G b pb hb)) (qbg hb.sh _)
 |@gidx x ks ds b pb p0 pos hg hm hd hb=>
  obtain⟨ad,h1,h2⟩:=G.mo.gds x ks ds hm;exact qgh (G.gl hg) h1 h2 hd (A.e c X G b pb hb) (qly hb.sh)
 |@gin neg x ks ds b pb p0 pos hg hm hd hb=>
  obtain⟨ad,h1,h2⟩:=G.mo.gds x ks ds hm;exact qh8 (qdd neg (G.gl hg) h1 h2 hd (A.e c X G b pb hb)) (by cases neg<;>rfl)
 |@sli a lo hi T pl ph p2 pos I hl hh=>
  refine(qgf sl_D (A.e c X G a T I) (po_ok A G hl) (po_ok A G hh)).imp λσ H Q h=>h.el λm st τ d st' K P e g=>?_;have e:=e;exact qzk e λd1 s1 W e=>qzj e λl e2 e=>qzj e λu e3 e=>rsI K P W λx m1 H1 b1 R S i1=>rsI S (P.mono b1 R) e2 λm2 H2 b2 t2 R2=>rsI R2 (P.mono (b1.trans b2) (R.trans t2)) e3 λm3 H3 b3 t3 R3=>
   ⟨m3,u.2,d1,d,st',R3,qzw (b2.trans b3) (t2.trans t3) _ _ i1,e,g.mono (b1.trans (b2.trans b3)) (R.trans (t2.trans t3))⟩
 |@comp t it q elt sr tg d0 pq a3 b0 pos N ok hi ht hq he=>
  have GI:=λ{C fp s H}=>G.inner (C:=C) (fp:=fp) (s:=s) (H:=H) ok.kind ok.nd;exact(ql6 G.calm (qk3 G ok) (qyo A G hi) (λC fp s H=>qqr GI ht λi c1 x hx=>.inr (qco ok.tl i c1 x hx)) (λC fp s H=>qhl A GI hq) (λC fp s H=>A.e _ _ GI elt a3 he) (ok.fs X.env)).imp λσ H Q h=>qcr h
 |@dgt a b T pb apos cpos I hb hl=>
  exact ql4 (by lia) (A.e c X G a T I) (A.e c X G b pb hb) ⟨qvw I.sh _ _ _,by rw[hb.star]; rfl,hl,by rw[hb.star]; rfl⟩
 |@attr C a f T pos I hc=>
  obtain⟨h1,h2⟩:=G.mo.ats C f hc;refine(pe_fld (A.e c X G a T I) (qvw I.sh _ _ _)).imp λσ H Q h=>h.el λm st τ d st' K P e g=>qzk e λd1 s1 W e=>qzj e λfs e2 e=>qzg e λd2 e3 e4=>?_;cases e4;refine rsI K P W λx m1 H1 b1 R S ix=>?_;obtain⟨l,p,dx,ys,rfl,_,rfl,hH,a2,_⟩:=S.inst e2 ix;rcases a2.get f with⟨z,_⟩|⟨d',v,z1,z2,iv⟩
  ·rw[z]at e3; cases e3
  ·rw[z1]at e3;cases e3;exact⟨p,C,dx,ys,v,rfl,hH,h1,h2,z2,g _ m1 H1 b1 R S iv⟩
 |@mcall C f m' x cn a es T ps apos pos I hf hm hc hs hn c0=>
  obtain⟨fa,fd,a0,hl,F,hk,hb⟩:=G'.tab f x hf;obtain⟨_,hC,_,_⟩:=G.mo.cls cn C hc;have hM:=hl.2 C m' hm;obtain⟨pl,ht⟩:=sh_mt I.sh hs.sh hn c0 X.env;have a4:∀σ H Q,tD X.K (λτ st=>M.stepEv (M.rn fns dl n) τ st (.mcall C f m' a es)) σ H Q->qi8 C m' (spN X.K fns dl f) [] E0 (tD X.K λτ st=>(M.rn fns dl n).ev τ st a) (tL X.K λτ st=>M.evs ((M.rn fns dl n).ev τ) es st) σ H Q:=by
   intro σ H Q h;refine h.el λm st τ d st' K P e g=>qzk e λd1 s1 W e=>qzj e λfs e2 e=>rsI K P W λv m1 H1 b1 R S ix=>?_;obtain⟨l,p,dx,ys,rfl,_,rfl,hH,a2,_⟩:=S.inst e2 ix
   split at e
   ·exact nn e
   ·rename_i a5;refine qzj e λq e3 e=>?_;rcases a2.get m' with⟨_,z⟩|⟨d',v,z1,_,_⟩
    ·refine⟨p,dx,ys,rfl,hH,z,rsI S (P.mono b1 R) e3 λxs m2 H2 b2 t2 R2 i2=>?_⟩;have e:=e;rw[M.runK_call]at e;show spN X.K fns dl f (.ref p::(xs++[])) H2 Q E0;rw[Qze];exact⟨m2,q.2,_,d,st',R2,qzo (qzw b2 t2 _ _ ix) i2,e,g.mono (b1.trans b2) (R.trans t2)⟩
    ·rw[z1]at a5;exact absurd rfl a5
  have hr:Room (2*dl) X.A:=G.room.mono (by lia)
  cases hs with
  |nil=>
   refine(qgg (A.e c X G a T I) hC hM F hr hb .nil qgo ht).imp λσ H Q h=>?_
   ·obtain⟨m,st,τ,d1,s1,K,P,W,k⟩:=a4 σ H Q h;refine rsI K P W λv m1 H1 b1 R S ix=>?_;obtain⟨p,dx,ys,rfl,hH,z,m2,s2,d4,ds,s3,R2,S2,e2,k2⟩:=k v m1 H1 b1 R S ix;cases e2;exact⟨p,dx,ys,rfl,hH,z,k2 [] m2 H1 (Sub.refl _) (Tr.refl _) R2 qqy⟩
  |cons h1 h2=>exact(ql0 (A.e c X G a T I) hC hM F hr hb .nil qgo (qz1 A G (.cons h1 h2)) (h1.star _ _) (qq7 h2 pos X.env) ht).imp a4
 |@new C f x cn es p ps p0 pos hg hf hm hc hd hs=>
  obtain⟨fa,fd,a0,hl,F,hk,hb⟩:=G'.tab f x hf;obtain⟨h1,_,h3,h4⟩:=G.mo.cls cn C hc;have hM:=hl.2 C _ hm;have U:Star p:=by cases hs with|cons h _=>exact h.star
  have ht:(backTo pos (starEach ps X.env)).any (·.1)=false:=by cases hs with|cons _ t=>exact qq7 t pos X.env
  refine(ql1 ⟨h3,hM.at_,hM.fn,h4⟩ F G.room (G.gl hg) h1 hb .nil qgo (qz1 A G hs) hd (U _ _) ht).imp λσ H Q h=>h.el λm st τ d st' K P e g=>qzj e λq W e=>qzj e λw e2 e=>rsI K P W λxs m1 H1 b1 R S ix x dx hx c3 b9=>?_;have e2:=e2;rw[M.runK_call]at e2;obtain⟨sm,R2⟩:=S.newI hx c3 b9;have lc:=S.newLoc (p:=x) (H':=upd (upd H1 dx (.own x)) x (.ins C dx []))
  split at e
  ·rename_i hn;have g:=g.of e;rw[Qze];refine⟨m1++[x],_,_,w.1,w.2,R2,qzo lc (qzd (Sub.app m1 [x]) (Tr.of_same sm) _ _ ix),e2,λv m2 H2 b2 t2 R3 iv=>?_⟩;have hw:w.1=.non:=by
    cases hq:w.1 with
    |non=>rfl
    |_=>rw[hq]at hn; cases hn
   rw[hw]at iv;exact⟨iv.non,g _ m2 H2 (b1.trans ((Sub.app m1 [x]).trans b2)) (R.trans ((Tr.of_same sm).trans t2)) R3 (qzw b2 t2 _ _ lc)⟩
  ·exact nn e
end
section
variable {fns:L Fn}{dl n j:Y0}{c:Ctx}{X:Cx}
def tt_val{K:Qqq}(hr:∀τ st,M.stepTst r τ st e=(r.ev τ st e).bind λp=>(M.truth p.2 p.1).map λk=>(k,p.2))(h:tTs K (λτ st=>M.stepTst r τ st e) b H Q):(tD K λτ st=>r.ev τ st e) b H λx H'=>∃k,TruV K x H' k/\Q k H':=by
 refine h.el λm st τ d st' u t a q=>?_;have a:=(hr τ st).symm.trans a;refine qzk a λw v s a=>qzg a λk o l=>?_;cases l;exact rsI u t s λx m1 H1 b1 g f i=>⟨_,qir f i o,q m1 H1 b1 g f⟩
def tt_bl{K:Qqq}(hr:∀τ st,M.stepTst r τ st e=(f τ st).bind λp=>(M.truth p.2 p.1).map λk=>(k,p.2))(hf:∀τ st d st',f τ st=Y (d,st')->∃k,d=.bl k)(h:tTs K (λτ st=>M.stepTst r τ st e) b H Q):tB (tD K f) b H Q:=by
 refine h.el λm st τ d st' t o a q=>?_;have a:=(hr τ st).symm.trans a;refine qzk a λv u g a=>?_;obtain⟨k,rfl⟩:=hf _ _ _ _ g;have q:=q.of a;exact rsI t o g λx m1 H1 b1 i s l=>⟨_,l.bl,q m1 H1 b1 i s⟩
def din_bl{st:Y2}(h:M.dinR r τ st neg a b=Y (d,st')):∃k,d=.bl k:=by
 unfold M.dinR at h;refine qzk h λp g o h=>qzk h λe f m h=>?_
 cases e with
 |loc l=>
  refine qzj h λkvs i h=>?_
  split at h
  ·cases h; exact⟨_,rfl⟩
  ·exact nn h
 |_=>exact nn h
def gin_bl{st:Y2}(h:M.ginR r τ st neg ks b=Y (d,st')):∃k,d=.bl k:=by
 unfold M.ginR at h;refine qzk h λa e f h=>?_
 cases a with
 |str z=>cases h; exact⟨_,rfl⟩
 |_=>exact nn h
def tt_and{K:Qqq}(h:tTs K (λτ st=>M.stepTst r τ st (.and a b)) g H Q):tAnd (tTs K λτ st=>r.tst τ st a) (tTs K λτ st=>r.tst τ st b) g H Q:=by
 refine h.el λm st τ d st' u k e q=>?_;have e:=e;refine qzj e λp t e=>rsI u k t λm1 H1 b1 f l=>?_
 cases i:p.1 with
 |true=>
  rw[i,Z2 rfl]at e;rw[Z2 rfl];exact rsI l (k.mono b1 f) e λs H2 b2 o R2=>q s H2 (b1.trans b2) (f.trans o) R2
 |false=>
  rw[i,Z1 Qzz]at e;have q:=q.of e;rw[Z1 Qzz];exact q m1 H1 b1 f l
def tt_or{K:Qqq}(h:tTs K (λτ st=>M.stepTst r τ st (.or a b)) g H Q):tOr (tTs K λτ st=>r.tst τ st a) (tTs K λτ st=>r.tst τ st b) g H Q:=by
 refine h.el λm st τ d st' u k e q=>?_;have e:=e;refine qzj e λp t e=>rsI u k t λm1 H1 b1 f l=>?_
 cases i:p.1 with
 |false=>
  rw[i,Z1 Qzz]at e;rw[Z1 Qzz];exact rsI l (k.mono b1 f) e λs H2 b2 o R2=>q s H2 (b1.trans b2) (f.trans o) R2
 |true=>
  rw[i,Z2 rfl]at e;have q:=q.of e;rw[Z2 rfl];exact q m1 H1 b1 f l
def qvt{K:Qqq}(r:SlotOk K m H τ o)(h:SlotOk K b l (τ.set i (Y g)) σ')(s:Sub m b)(t:Tr l k)(hd:∀v,MS.IsD K b l g v->MS.IsD K m k d v):SlotOk K m k (τ.set i (Y d)) σ':=by
 refine⟨by have:=h.len; rwa [Qzq]at this ⊢,λj e a=>?_⟩
 by_cases hj:i=j
 ·subst hj;have hi:i<τ.length:=by
   have:=(Qqj.mp a).1;rwa [Qzq]at this
  rw[Qq2 hi]at a;cases a;obtain⟨v,f,q⟩:=h.at_ i g (Qq2 hi);exact⟨v,f,hd v q⟩
 ·rw[Qqa hj]at a;obtain⟨u,_,p⟩:=r.at_ j e a;obtain⟨v,f,q⟩:=h.at_ j e (by rw[Qqa hj]; exact a);exact⟨v,f,qzw (Sub.refl m) t _ _ (qjb s _ _ _ p q)⟩
def qgv{f:Sl->Y2->Y3 (D×Y2)}(h:PS X p (tS X.K λτ st=>(f τ st).bind λq=>(M.setT (.var i) q.1 τ).map λτ'=>(Out.nx τ',q.2))):
  PS X p (tS X.K λτ st=>((f τ st).map λq=>M.gcD st q).bind λq=>(M.setT (.var i) q.1 τ).map λτ'=>(Out.nx τ',q.2)):=by
 intro pins s σ H Dn I q;refine q.el λm st τ o st' P N e k=>qzk e λd U e1 e=>?_;obtain⟨⟨E,st0⟩,e2,e3⟩:=mapD e1;refine qzg e λτ' y e5=>?_;cases e5;have y:(if i<τ.length then Y (τ.set i (Y d)) else J)=Y τ':=y
 split at y
 case isFalse=>exact nn y
 case isTrue hi=>
  cases y;refine thn (h pins s σ H ⟨λg H1=>∃m1,Sub m m1/\Tr H H1/\Rel X.K m1 st0 H1/\SlotOk X.K m1 H1 (τ.set i (Y E)) g,λ_ _=>False,λ_ _=>False,λ_ _=>False⟩ I (rsI (d:=.nx (τ.set i (Y E))) (st':=st0) P N (by show(f τ st).bind _=_; rw[e2]; show Option.map _ (if i<τ.length then Y (τ.set i (Y E)) else J)=_; rw[Z2 hi]; rfl) λm1 H1 b t R g A=>⟨m1,b,t,R,A⟩)) λfl s2 hf=>?_
  cases fl with
  |next=>
   obtain⟨g,H1,Q,m1,b1,F,r,A⟩:=hf;have plain:(E,st0)=(d,U)->SP X pins Dn .next s2:=λz=>by
    cases z;exact⟨g,H1,Q,k m1 H1 b1 F r g A⟩
   rcases gc_el e3 with z|⟨ok,z⟩
   ·exact plain z
   ·unfold M.gcX at z
    split at z
    ·rename_i hn;cases z;exact⟨g,H1,Q,k m H1 (Sub.refl m) F (P.cut r b1 ok (Tr.refl H1) λ_ _ _ _ _ _=>rfl) g (qvt N A b1 (Tr.refl H1) λv q=>qez _ _ hn q)⟩
    ·split at z
     ·rename_i l hd;simp only at hd
      split at z
      ·rename_i hl
       split at z
       ·rename_i ds hc
        split at z
        ·rename_i hn;cases z;subst hd;obtain⟨a,G⟩:=r.addr hc;obtain⟨xs,T,V⟩:=r.cell l _ a hc G;obtain⟨o,I2⟩:=qku Q T;have C:=Tr.lay (o:=o) T;refine⟨g,_,I2,k m _ (Sub.refl m) (F.trans C) (P.cut r b1 ok C λS c K e ea w=>?_) g (qvt N A b1 C λv q=>?_)⟩
         ·refine qzx λz=>?_;subst z;have W:=qji e;have:=r.nd S l K c _ (b1 S K ea) G W.2 hc w rfl;omega
         ·obtain⟨K,x,rfl⟩:=q.loc;rw[G]at x;cases x;exact qb1 (.inl ⟨o,qzy⟩) (qj6 _ _ hn (qzd (Sub.refl m1) C _ _ V))
        ·exact plain z
       ·exact plain z
      ·exact plain z
     ·exact plain z
  |brk=>obtain⟨_,_,_,z⟩:=hf; exact z.elim
  |cont=>obtain⟨_,_,_,z⟩:=hf; exact z.elim
  |ret u=>obtain⟨_,_,_,_,_,z⟩:=hf; exact z.elim
def w_ok(A:AllOk fns dl n)(G:Good fns dl c X)(h:CkN j c e (.BoolOp i ps pos)):PW X (.BoolOp i ps pos) (tTs X.K λτ st=>M.stepTst (M.rn fns dl n) τ st e):=by
 cases j with
 |zero=>cases h
 |succ j=>
 cases h with
 |gc _ _ l=>cases l
 |of hs k h=>
 clear hs k
 cases h with
 |@and a b f d r pos g hb=>
  refine(pw_and (A.t c X G a f g) ?_).imp λσ H Q h=>tt_and h
  cases r with
  |nil=>exact qlf (A.t c X G b d hb)
  |cons=>exact A.w c X G b _ _ _ hb
 |@or a b f d r pos g hb=>
  refine(pw_or (A.t c X G a f g) ?_).imp λσ H Q h=>tt_or h
  cases r with
  |nil=>exact pw_or1 (A.t c X G b d hb)
  |cons=>exact A.w c X G b _ _ _ hb
def qx7(d:PE X p (tD X.K λτ st=>r.ev τ st e))(a:∀w,isTrue p X.env w=(do let v <- w; Zg p.pos; Q4 [v] (truthy v)))(b:∀τ st,M.stepTst r τ st e=(r.ev τ st e).bind λp=>(M.truth p.2 p.1).map λk=>(k,p.2)):PT X p (tTs X.K λτ st=>M.stepTst r τ st e):=(qgj d a).imp λ_ _ _ h=>tt_val b h
def t_ok(A:AllOk fns dl n)(G':Good fns dl c X)(h:CkN j c e p):PT X p (tTs X.K λτ st=>M.stepTst (M.rn fns dl n) τ st e):=by
 have G:=G';have hu:=G'.room.units;have f:=A.e c X G e p h
 cases j with
 |zero=>cases h
 |succ j=>
 revert f
 cases h with
 |gc hs hq hp hg g=>
  intro f
  cases p with
  |Call=>exact qx7 f (λ_=>rfl) λ_ _=>rfl
  |ListComp=>exact qx7 f (λ_=>rfl) λ_ _=>rfl
  |List=>exact qx7 f (λ_=>rfl) λ_ _=>rfl
  |BinOp=>exact qx7 f (λ_=>rfl) λ_ _=>rfl
  |Subscript=>exact qx7 f (λ_=>rfl) λ_ _=>rfl
  |_=>cases hp
 |of hs hq h=>
 clear hs hq
 cases h with
 |nm h=>
  cases h with
  |var=>exact λf=>qx7 f (λ_=>rfl) λ_ _=>rfl
  |glo=>exact λf=>qx7 f (λ_=>rfl) λ_ _=>rfl
 |@not a u pos g=>
  intro _;refine(pt_not (A.t c X G a u g)).imp λσ H Q h=>h.el λm st τ d st' P r C q=>qzg C λp K I=>?_;cases I;exact rsI P r K λm1 H1 b1 l N=>q m1 H1 b1 l N
 |and g hb=>exact λ_=>(w_ok A G (j:=j+1) (.of rfl rfl (.and g hb))).pt
 |or g hb=>exact λ_=>(w_ok A G (j:=j+1) (.of rfl rfl (.or g hb))).pt
 |@cmp w a b u t pos g hb=>
  intro _;refine(qlg (qxs hu w) (A.e c X G a u g) (A.e c X G b t hb) (qbg hb.sh _)).imp λσ H Q h=>h.el λm st τ d st' P r C q=>qzk C λD s1 K C=>qzk C λi o I C=>qzg C λk e3 e4=>?_;cases e4;exact rsI P r K λx m1 H1 b1 l N i1=>rsI N (r.mono b1 l) I λy V H2 b2 s R2 S=>
   ⟨V,o,D,i,.bl d,o,R2,qzw b2 s _ _ i1,S,by show Option.map _ (M.cmpD o w D i)=_; rw[show M.cmpD o w D i=Y d from e3]; rfl,λz U H3 b3 F T W=>⟨d,W.bl,q U H3 (b1.trans (b2.trans b3)) (l.trans (s.trans F)) T⟩⟩
 |@cmp2 w v a b d u t pd pos g hb hd=>
  intro _;refine(qgk (qxs hu w) (qxs hu v) (A.e c X G a u g) (A.e c X G b t hb) (A.e c X G d pd hd) (qbg hd.sh _)).imp λσ H Q h=>h.el λm st τ dd st' P r e q=>qzk e λD s1 K e=>qzk e λi o I e=>qzj e λk e3 e=>rsI P r K λx m1 H1 b1 l N i1=>rsI N (r.mono b1 l) I λy V H2 b2 s R2 S=>
   ⟨V,o,D,i,.bl k,o,R2,qzw b2 s _ _ i1,S,by show Option.map _ (M.cmpD o w D i)=_; rw[show M.cmpD o w D i=Y k from e3]; rfl,λz U H3 b3 F T W=>⟨k,W.bl,?_⟩⟩
  cases k with
  |true=>
   rw[Z2 rfl]at e ⊢;refine qzk e λd3 R e4 e=>qzg e λk' e5 e6=>?_;cases e6;exact rsI T (r.mono (b1.trans (b2.trans b3)) (l.trans (s.trans F))) e4 λy' m4 H4 b4 t4 R4 i4=>
    ⟨m4,R,i,d3,.bl dd,R,R4,qzw (b3.trans b4) (F.trans t4) _ _ S,i4,by show Option.map _ (M.cmpD R v i d3)=_; rw[show M.cmpD R v i d3=Y dd from e5]; rfl,
     λz m5 H5 b5 t5 R5 i5=>⟨dd,i5.bl,q m5 H5 (b1.trans (b2.trans (b3.trans (b4.trans b5)))) (l.trans (s.trans (F.trans (t4.trans t5)))) R5⟩⟩
  |false=>
   rw[Z1 Qzz]at e ⊢;have q:=q.of e;exact⟨Y6,rfl,q U H3 (b1.trans (b2.trans b3)) (l.trans (s.trans F)) T⟩
 |@din neg a b u t pos g hb=>exact λ_=>(qh2 (qdf (by omega) neg (A.e c X G a u g) (A.e c X G b t hb)) (qbg hb.sh _)).imp λσ H Q h=>tt_bl (λ_ _=>rfl) (λ_ _ _ _ z=>din_bl z) h
 |@gin neg x ks ds b t p0 pos hg hm hd hb=>
  intro _;obtain⟨ad,h1,h2⟩:=G.mo.gds x ks ds hm;exact(qh2 (qdd neg (G.gl hg) h1 h2 hd (A.e c X G b t hb)) (by cases neg<;>rfl)).imp λσ H Q h=>tt_bl (λ_ _=>rfl) (λ_ _ _ _ z=>gin_bl z) h
 |_=>exact λf=>qx7 f (λ_=>rfl) λ_ _=>rfl
def S_nx{K:Qqq}(p:PostO K m H (.nx τ) st' e)(b:Sub m a)(t:Tr H H')(g:Rel K a st' H')(f:SlotOk K a H' τ d):e.nx d H':=p a H' b t g d f
def qc9{K:Qqq}(d:∀Q,(tD K λτ st=>r.ev τ st e) b H Q->g b H Q)(h:tS K (λτ st=>M.stepEx r τ st (.set (.var i) e)) p b H):tAsg g (qys i) p b H:=by
 refine h.el λm st τ o st' y l f q=>qzk f λv z u f=>qzg f λτ' a t=>?_;cases t;have a:(if i<τ.length then Y (τ.set i (Y v)) else J)=Y τ':=a
 split at a
 ·cases a;exact d _ (rsI y l u λx m1 H1 b1 k w s=>S_nx q b1 k w ((l.mono b1 k).put s))
 ·exact nn a
def qdz(R:∀j,j<=n->AllOk fns dl j)(G:Good fns dl c X)(hf:∀x,X.fn x=Z)(hi:c.N[i]?=Y x)(F:c.sc.names.lookup x=Y .local\/c.sc.names.lookup x=Y .cell)(f:CkE c e p)(U:∀a,e≠.gc a)(hc:∃elt P sc q,p=.ListComp elt P sc q)(hs:∀env:Env,env.scope=c.sc->(swapsWith p (Y (.Name x b)) pos.line env=pure Y6\/swapsWith p (Y (.Name x b)) pos.line env=pure Z)):
  PS X (.Assign [.Name x b] p pos) (tS X.K λτ st=>M.stepEx (M.rn fns dl n) τ st (.set (.var i) e)):=by
 have A:=R n (Qqv n);have K:X.N.Nodup:=by rw[G.N]; exact G.nd
 have loc:∀{x:Y5},(c.sc.names.lookup x=Y .local\/c.sc.names.lookup x=Y .cell)->Loc X.env.scope x:=λ{x} h=>by rw[G.sc]; exact h
 rcases hs X.env G.sc with z|z
 ·exact(qh3 K (qjh G hi) (loc F) (A.e c X G e p f) z (.inl (hf x))).imp λD σ H h=>qc9 (λ_ q=>q) h
 ·cases n with
  |zero=>exact λpins s σ H W I q=>by obtain⟨m,st,τ,d,st',_,_,w,_⟩:=q; cases w
  |succ n=>
   have u:=R n (Qxd n);obtain⟨elt,P,sc,q,rfl⟩:=hc
   cases f with
   |gc=>exact(U _ rfl).elim
   |of hs l f=>
   clear hs l
   cases f with
   |@comp t it q g sr tg y V v k cpos N ok hit T l f=>
    have r:=λ{C fp s H}=>G.inner (C:=C) (fp:=fp) (s:=s) (H:=H) ok.kind ok.nd;exact(qbm G.calm (qk3 G ok) (qyo u G hit) (λC fp s H=>qqr r T λi o x S=>.inr (qco ok.tl i o x S)) (λC fp s H=>qhl u r l) (λC fp s H=>u.e _ _ r g _ f) (ok.fs X.env) K (qjh G hi) (loc F) (.inl (hf x)) z).imp λD σ H h=>qc9 (λQ q=>qcr q) h
def sh_six(h:shOk b=Z)(env)(v):assign (.Subscript f b a) env v=(do
    let d <- Q4 [v] (Qy f env)
    let e <- Q4 [v,d] (Qy b env)
    Zg a
    Q4 [v,d,e] (setItem d e v)
    release [v,d,e] []):=by
 cases b<;>first|rfl|cases h
def s1_ok(IH:∀j,j<=n->AllOk fns dl j)(G:Good fns dl c X)(hf:∀x,X.fn x=Z)(h:CkS c s p):PS X p (tS X.K λτ st=>M.stepEx (M.rn fns dl n) τ st s):=by
 have A:=IH n (Qqv n);have hN:X.N.Nodup:=by rw[G.N]; exact G.nd
 have loc:∀{x:Y5},(c.sc.names.lookup x=Y .local\/c.sc.names.lookup x=Y .cell)->Loc X.env.scope x:=λ{x} h=>by rw[G.sc]; exact h
 cases h with
 |@set i e x p pos pos' hi hl Q hs=>exact(qh3 hN (qjh G hi) (loc hl) (A.e c X G e p Q) (hs X.env) (.inl (hf x))).imp λD σ H h=>qc9 (λ_ q=>q) h
 |@setC i e x p pos pos' hi hl Q hc hs=>
  by_cases a9:∃a,e=.gc a
  ·obtain⟨a,rfl⟩:=a9
   cases Q with
   |of _ _ Q=>
    cases Q with
    |nm h=>cases h
   |gc ws wq hp hg ha=>
    cases n with
    |zero=>exact λpins s σ H Dn I q=>by obtain⟨m,st,τ,d,st',_,_,w,_⟩:=q; cases w
    |succ n=>exact(qgv (qdz (λj hj=>IH j (Nat.le_succ_of_le hj)) G hf hi hl (.of ws wq ha) hg hc hs)).imp λ_ _ _ q=>q
  ·exact qdz IH G hf hi hl Q (λa z=>a9 ⟨a,z⟩) hc hs
 |@dset a i e pa pi pe tpos pos ha hi Q=>
  refine(qlm (by have:=G.room.units; omega) (A.e c X G a pa ha) (A.e c X G i pi hi) (A.e c X G e pe Q) (sh_sw Q.sh _ _)).imp λDn σ H h=>?_;refine h.el λm st τ o st' R0 N g q=>qzk g λd1 s1 e1 g=>qzk g λd2 s2 e2 g=>qzk g λd3 s3 e3 g=>?_
  cases d2 with
  |loc l=>
   have g:=g;refine qzj g λkvs F g=>?_
   split at g
   ·rename_i hk;have q:=q.of g;rw[Qq0,decide_eq_true_eq]at hk;obtain⟨k,a8⟩:=qq5 hk.1;refine rsI R0 N e1 λx m1 H1 b1 K V i1=>rsI V (N.mono b1 K) e2 λy m2 H2 b2 u R2 i2=>rsI R2 (N.mono (b1.trans b2) (K.trans u)) e3 λz W H3 b3 P R3 i3=>?_;obtain⟨a',xs,a3,rfl,hH,a7,a6⟩:=R3.wdict F (qzw b3 P _ _ i2);have hz:=qmu a8 i3;subst hz;have l1:=a7.length;have l2:=qql;refine⟨a',_,rfl,DPut.k hH (by omega),?_⟩;have iv:=qzw (b2.trans b3) (u.trans P) _ _ i1;exact S_nx q (b1.trans (b2.trans b3)) (K.trans (u.trans (P.trans (Tr.putD hH)))) (R3.putD a6 a3 hH (a7.put a8 iv)) (N.mono (b1.trans (b2.trans b3)) (K.trans (u.trans (P.trans (Tr.putD hH)))))
   ·exact nn g
  |_=>exact nn g
 |@expr e p pos Q hs=>
  refine(qll (A.e c X G e p Q) (hs X.env)).imp λDn σ H h=>h.el λm st τ o st' R0 N g q=>qzg g λp e1 e2=>?_;cases e2;exact rsI R0 N e1 λx m1 H1 b1 K V i1=>S_nx q b1 K V (N.mono b1 K)
 |@ret e p pos Q=>
  refine(ps_ret (A.e c X G e p Q)).imp λDn σ H h=>h.el λm st τ o st' R0 N g q=>qzg g λp e1 e2=>?_;cases e2;exact rsI R0 N e1 λx m1 H1 b1 K V i1=>q m1 H1 b1 K V x i1
 |@ite q a b pq pa pb pos hq ha hb=>
  refine(ps_if (A.t c X G q pq hq) (A.s c X G hf a pa ha) (A.s c X G hf b pb hb)).imp λDn σ H h=>h.el λm st τ o st' R0 N g r=>qzj g λp e1 g=>rsI R0 N e1 λm1 H1 b1 K V=>?_
  cases hp:p.1 with
  |true=>
   rw[hp,Z2 rfl]at g;rw[Z2 rfl];exact rsI V (N.mono b1 K) g (r.mono b1 K)
  |false=>
   rw[hp,Z1 Qzz]at g;rw[Z1 Qzz];exact rsI V (N.mono b1 K) g (r.mono b1 K)
 |@forr t it body tg b8 pb pos ht hi hs hb=>
   refine(qh4 (by rw[G.xe]; exact PassesOwn.never) G.calm (qyo A G hi) (qqr G ht λi _ x _=>.inl (hf x)) (A.s c X G hf body pb hb) (hs X.env)).imp λDn σ H h=>?_
   refine h.el λm st τ o st' R0 N g r=>qzj g λp e1 g=>rsI R0 N e1 λm1 H1 Jq b1 K V hJ=>⟨λj k a2 H'=>∃m2 U T,Sub m1 m2/\Tr H1 H'/\Rel X.K m2 U H'/\SlotOk X.K m2 H' T a2/\M.loop p.1 (λτ st d=>(M.setT t d τ).bind λE=>(M.rn fns dl n).ex E st body) k j T U=Y (o,st'),
    ⟨_,m1,p.2,τ,Sub.refl _,Tr.refl _,V,N.mono b1 K,g⟩,?_⟩
   rintro j k a2 H' ⟨m2,U,T,b2,u,R2,S2,F⟩
   cases k with
   |zero=>exact nn F
   |succ k=>
    have F:=F;refine qzj F λoo e5 F=>?_
    cases oo with
    |none=>
     have r:=r.of F;exact .inl ⟨(hJ.mono b2 u).done R2 e5,S_nx r (b1.trans b2) (K.trans u) R2 S2⟩
    |some d=>
     obtain⟨b6,hy⟩:=(hJ.mono b2 u).next R2 e5;refine qzj F λz e6 F=>qzj e6 λa0 e7 e6=>.inr ⟨b6,λa1 H3=>∃W a5 a0,Sub m1 W/\Tr H1 H3/\Rel X.K W a5 H3/\SlotOk X.K W H3 a0 a1/\M.loop p.1 (λτ st d=>(M.setT t d τ).bind λE=>(M.rn fns dl n).ex E st body) k (j+1) a0 a5=Y (o,st'),λa1 H3 w3=>⟨k,Qzn k,w3⟩,λx H2 b5=>?_⟩;obtain⟨sm,ix⟩:=hy x H2 b5;have u:=u.trans (Tr.of_same sm);have R2:=R2.same sm;have S2:=S2.mono (Sub.refl _) (Tr.of_same sm);refine qhj ix S2 e7 λa1 S3=>rsI R2 S3 e6 λW H3 b3 P R3=>?_
     cases hz:z.1 with
     |nx R=>
      rw[hz]at F;exact λa4 S4=>⟨W,z.2,R,b2.trans b3,u.trans P,R3,S4,F⟩
     |ct R=>
      rw[hz]at F;exact λa4 S4=>⟨W,z.2,R,b2.trans b3,u.trans P,R3,S4,F⟩
     |bk R=>
      rw[hz]at F;have r:=r.of F;exact λa4 S4=>S_nx r (b1.trans (b2.trans b3)) (K.trans (u.trans P)) R3 S4
     |rt v=>
      rw[hz]at F;have r:=r.of F;exact λw iw=>r W H3 (b1.trans (b2.trans b3)) (K.trans (u.trans P)) R3 w iw
 |bad=>exact λpins s σ H Dn I q=>by obtain⟨m,st,τ,d,st',_,_,z,_⟩:=q; cases z
 |@setT is e es k p pos tpos ht Q hw=>
  refine(qh5 (A.e c X G e p Q) (qqr (t:=.tup is) G (.tup ht) λi _ x _=>.inl (hf x)) (sh_swT (es:=es) (k:=k) (tp:=tpos) Q.sh pos.line X.env) (hw X.env) rfl).imp λDn σ H h=>h.el λm st τ o st' R0 N g q=>qzk g λd1 s1 e1 g=>qzg g λE e2 e3=>?_;cases e3;exact rsI R0 N e1 λx m1 H1 b1 K V i1=>qhj i1 (N.mono b1 K) e2 λa2 S1=>S_nx q b1 K V S1
 |@six a i e pa pi pe tpos pos ha hi Q=>
  refine(qh5 (A.e c X G e pe Q) (pg_sub (A.e c X G a pa ha) (A.e c X G i pi hi) six_D (sh_six hi.sh _)) (sh_sw (a:=pa) (i:=pi) (tp:=tpos) Q.sh pos.line X.env) rfl rfl).imp λDn σ H h=>h.el λm st τ o st' R0 N g q=>qzk g λd1 s1 e1 g=>qzk g λd2 s2 e2 g=>qzk g λd3 s3 e3 g=>qzg g λs4 F e5=>?_;cases e5;exact rsI R0 N e1 λx m1 H1 b1 K V i1=>rsI V (N.mono b1 K) e2 λy m2 H2 b2 u R2 i2=>rsI R2 (N.mono (b1.trans b2) (K.trans u)) e3 λz W H3 b3 P R3 i3=>
   ⟨W,s3,d2,d3,d1,_,R3,qzw b3 P _ _ i2,i3,qzw (b2.trans b3) (u.trans P) _ _ i1,F,λm4 H4 b4 t4 R4=>S_nx q (b1.trans (b2.trans (b3.trans b4))) (K.trans (u.trans (P.trans t4))) R4 (N.mono (b1.trans (b2.trans (b3.trans b4))) (K.trans (u.trans (P.trans t4))))⟩
 |@setA C a f e pa pe tpos pos ha Q hc=>
  obtain⟨h1,h2⟩:=G.mo.ats C f hc;refine(ps_fld (A.e c X G a pa ha) (A.e c X G e pe Q) (sh_swA Q.sh _ _)).imp λDn σ H h=>h.el λm st τ o st' R0 N g q=>qzk g λd1 s1 e1 g=>qzk g λd2 s2 e2 g=>qzj g λfs e3 g=>rsI R0 N e1 λx m1 H1 b1 K V i1=>rsI V (N.mono b1 K) e2 λy m2 H2 b2 u R2 i2=>?_;obtain⟨l,p,dx,ys,rfl,hl,rfl,hH,b0,a6⟩:=R2.inst e3 i2;dsimp only at g
  split at g
  ·rename_i b9;have q:=q.of g;have l1:=b0.length;exact⟨p,C,dx,ys,rfl,hH,h1,h2,by omega,S_nx q (b1.trans b2) (K.trans (u.trans (Tr.putI hH))) (R2.putI a6 hl hH (b0.put (qzw b2 u _ _ i1))) (N.mono (b1.trans b2) (K.trans (u.trans (Tr.putI hH))))⟩
  ·exact nn g
 |@ford t a body tg pa pb pos ht ha hb=>
  refine(qli (by rw[G.xe]; exact PassesOwn.never) G.calm (A.e c X G a pa ha) (qqr G ht λi _ x _=>.inl (hf x)) (A.s c X G hf body pb hb) (qla ha.sh X.env)).imp λDn σ H h=>?_;refine h.el λm st τ o st' R0 N g r=>qzk g λd1 s1 e1 g=>?_
  cases d1 with
  |loc l=>
   have g:=g;refine qzj g λkvs e2 g=>qzj g λw e3 g=>?_
   split at g
   case h_2=>exact nn g
   case h_1 b7 hw=>
   have r:=r.of g;refine rsI R0 N e1 λx m1 H1 b1 K V i1=>?_;obtain⟨a',xs,a3,rfl,hH,a7,a6⟩:=V.wdict e2 i1;refine⟨a',xs,rfl,hH,λob nf=>?_⟩;have R2:=V.ice (o:=ob) a6 a3 hH a7;have ti:=Tr.ice (o:=ob) hH;have IK:=a7.keys;have lk:=IK.length;rw[Qqx]at lk;have fz:∀{H':Hp},Tr (upd H1 a' (.frz ob (.dK xs))) H'->H' a'=Y (.frz ob (.dK xs)):=λu=>u.frz a' ob _ qzy
   refine⟨λj k a2 H'=>∃m2 U T,Sub m1 m2/\Tr (upd H1 a' (.frz ob (.dK xs))) H'/\Rel X.K m2 U H'/\SlotOk X.K m2 H' T a2/\M.loop (.tup (M.keysOf kvs)) (λτ st d=>(M.setT t d τ).bind λE=>(M.rn fns dl n).ex E st body) k j T U=Y w,
    ⟨_,m1,_,τ,Sub.refl _,Tr.refl _,R2,N.mono b1 (K.trans ti),e3⟩,?_⟩
   rintro j k a2 H' ⟨m2,U,T,b2,u,R3,S2,F⟩
   cases k with
   |zero=>exact nn F
   |succ k=>
    have F:(Y (M.keysOf kvs)[j]?:Y3 (Y3 D)).bind (λo=>match o with
     |none=>Y (Out.nx T,U)
     |some d=>((M.setT t d T).bind λE=>(M.rn fns dl n).ex E U body).bind λz=>match z.1 with
      |.nx E=>M.loop (.tup (M.keysOf kvs)) (λτ st d=>(M.setT t d τ).bind λE=>(M.rn fns dl n).ex E st body) k (j+1) E z.2
      |.ct E=>M.loop (.tup (M.keysOf kvs)) (λτ st d=>(M.setT t d τ).bind λE=>(M.rn fns dl n).ex E st body) k (j+1) E z.2
      |.bk E=>Y (.nx E,z.2)
      |.rt v=>Y (.rt v,z.2))=Y w:=F
    rw[oBs]at F
    cases e5:(M.keysOf kvs)[j]? with
    |none=>
     rw[e5]at F;cases F;refine .inl ⟨⟨fz u,by rw[<- lk]; exact Qzl.mp e5⟩,a',ob,xs,nf,fz u,?_⟩;exact S_nx r (b1.trans b2) (K.trans (Tr.thaw hH u)) (R3.thaw hw (b2 l a' a3) (fz u)) (S2.monoW (Sub.refl _) (Tw.thaw (fz u)))
    |some d=>
     rw[e5]at F;have hj:=(Qqj.mp e5).1;refine qzj F λz e6 F=>qzj e6 λa0 e7 e6=>.inr ⟨⟨fz u,by omega⟩,λa1 H3=>∃W a5 a0,Sub m1 W/\Tr (upd H1 a' (.frz ob (.dK xs))) H3/\Rel X.K W a5 H3/\SlotOk X.K W H3 a0 a1/\M.loop (.tup (M.keysOf kvs)) (λτ st d=>(M.setT t d τ).bind λE=>(M.rn fns dl n).ex E st body) k (j+1) a0 a5=Y w,λa1 H3 w3=>⟨k,Qzn k,w3⟩,?_⟩;rintro x H2 ⟨rfl,p,hp,rfl⟩;obtain⟨x',ex,ix⟩:=IK.get e5;rw[Qqb,hp]at ex;cases ex;refine qhj (qzw b2 (ti.trans u) _ _ ix) S2 e7 λa1 S3=>rsI R3 S3 e6 λW H3 b3 P R4=>?_
     cases hz:z.1 with
     |nx R=>
      rw[hz]at F;exact λa4 S4=>⟨W,z.2,R,b2.trans b3,u.trans P,R4,S4,F⟩
     |ct R=>
      rw[hz]at F;exact λa4 S4=>⟨W,z.2,R,b2.trans b3,u.trans P,R4,S4,F⟩
     |bk R=>
      rw[hz]at F;cases F;exact λa4 S4=>⟨a',ob,xs,nf,fz (u.trans P),S_nx r (b1.trans (b2.trans b3)) (K.trans (Tr.thaw hH (u.trans P))) (R4.thaw hw ((b2.trans b3) l a' a3) (fz (u.trans P))) (S4.monoW (Sub.refl _) (Tw.thaw (fz (u.trans P))))⟩
     |rt v=>
      rw[hz]at F;cases F;exact λv' iv=>⟨a',ob,xs,nf,fz (u.trans P),r W _ (b1.trans (b2.trans b3)) (K.trans (Tr.thaw hH (u.trans P))) (R4.thaw hw ((b2.trans b3) l a' a3) (fz (u.trans P))) v' (qqc (Sub.refl _) (Tw.thaw (fz (u.trans P))) _ _ iv)⟩
  |_=>exact nn g
theorem qlx(k:∀j,j<=n->AllOk fns dl j)(G:Good fns dl c X)(hf:∀x,X.fn x=Z):∀{ss}{ps},CkSs c ss ps->PSs X ps (tS X.K λτ st=>M.exs (M.stepEx (M.rn fns dl n)) ss τ st)
 |_,_,.nil=>pss_nil.imp λl σ H h=>by
  refine h.el λm st τ o st' i g a q=>?_;have q:=q.of a;exact q m H (Sub.refl m) (Tr.refl H) i _ g
 |_,_,.doc t=>(qad ps_doc (qlx k G hf t)).imp λl σ H h=>h
 |_,_,.cons h t=>(qad (s1_ok k G hf h) (qlx k G hf t)).imp λl σ H u=>by
  refine u.el λm st τ o st' i g a q=>qzj a λp v a=>rsI i g v λm1 H1 b1 b f=>?_
  cases e:p.1 with
  |nx r=>
   rw[e]at a;exact λs w=>rsI f w a (q.mono b1 b)
  |rt d=>
   rw[e]at a;have q:=q.of a;exact q m1 H1 b1 b f
  |bk d=>
   rw[e]at a;have q:=q.of a;exact q m1 H1 b1 b f
  |ct d=>
   rw[e]at a;have q:=q.of a;exact q m1 H1 b1 b f
end
def allOk(fns)(dl):∀n j,j<=n->AllOk fns dl j:=by
 intro n
 induction n with
 |zero=>intro j h; rw[Nat.le_zero.mp h]; exact qcw fns dl
 |succ n a=>
  intro j h;rcases Qz1 j (n+1) with z|z
  ·exact a j (by omega)
  ·have e:j=n+1:=by omega
   subst e;have A:=a n (Qqv n);exact⟨λc X G _ e p h=>e_ok A G h,λc X G _ e p h=>t_ok A G h,λc X G _ e d ps pos h=>w_ok A G h,λc X G hf b ps h=>qlx a G hf h⟩
structure FText (K:Qqq) (mg:Y5->Y3 Y8) (fns:L Fn) (names:L Y5) (glo:Glo) (f:Y0) (x:Y5):Prop where
 ex:∃(nm:Y5) (fa:Y7) (fd:Qo) (st:Stmt) (N ps:L Y5) (F:Fn),fns[f]?=Y F/\Fun K nm x st fa fd/\Lc K mg glo f x fa/\Binds K fd ps []/\FnScope N ps (qza st)/\CkSs ⟨N,qza st,names,glo⟩ F.body (qzu st)/\F.np=ps.length/\F.nl=N.length
def qiy{K:Qqq}{V:Qo}{st:Stmt}(ih:FTab P w K mg base glo fns names n)(Mg:Mo K mg glo w.params)(hF:fns[f]?=Y F)(l:Fun K nm x st I V)(b:FnScope N ps (qza st))(C:CkSs ⟨N,qza st,names,glo⟩ F.body (qzu st))(t:F.np=ps.length)(u:F.nl=N.length):FnOk P w K mg base CX0 (2*(n+1)) I V ps (spN K fns (n+1) f):=by
 have g:∀{ds:L D}{st0 st':Y2}{d:D},M.callD fns (n+1) f ds st0=Y (d,st')->ds.length=F.np/\((M.Lv fns n).ex (ds.map Y++List.replicate (F.nl - ds.length) J) st0 F.body).bind (λp=>match p.1 with
   |.rt d=>Y (d,p.2)
   |.nx _=>Y (D.non,p.2)
   |_=>J)=Y (d,st'):=λ{ds st0 st' d} e=>by
  have e:M.stepCall fns (M.Lv fns n) f ds st0=Y (d,st'):=e;unfold M.stepCall at e;rw[hF]at e;dsimp only at e
  split at e
  ·rename_i U;exact⟨U,e⟩
  ·exact nn e
 refine l.ok b (λvs H Q E h=>?_) (λS A outer s H vs Q E hr h=>?_)
 ·obtain⟨m,st0,ds,d,st',_,j,e,_⟩:=h;rw[<- j.length,(g e).1,t]
 ·obtain⟨m,st0,ds,d,st',R0,j,e,q⟩:=h;obtain⟨U,e⟩:=g e;refine qzj e λp R a=>?_;obtain⟨k,R⟩:=M.lim1_is R;have G:Good fns n ⟨N,qza st,names,glo⟩ (cxOf CX0 P w K mg base N x (qza st) I S A outer s H E).nox:=⟨hr,rfl,rfl,rfl,b.nd,b.kind,ih,Mg,rfl⟩
  refine⟨_,(allOk fns n k k (Qqv k)).s _ _ G (λ_=>rfl) F.body (qzu st) C,⟨m,st0,ds.map Y++List.replicate (F.nl - ds.length) J,p.1,p.2,R0,⟨?_,λi d0 hi=>?_⟩,R,λm1 H1 b1 T X=>?_⟩⟩
  ·unfold L2.start;rw[Qqg,Qqg,Qqx,Qqx,Qx8,Qx8,u,j.length]
  ·unfold L2.start
   by_cases c:i<ds.length
   ·rw[Qqr (by simpa using c),Qqb]at hi;have e3:ds[i]?=Y d0:=by
     cases z:ds[i]? with
     |none=>rw[z]at hi; cases hi
     |some y=>rw[z]at hi; cases hi; rfl
    obtain⟨v,e4,r⟩:=j.get e3;refine⟨v,?_,r⟩;rw[Qqr (by rw[Qqx,<- j.length]; exact c),Qqb,e4]
    rfl
   ·rw[Qzd (by simpa using c),Qjt]at hi
    split at hi<;>cases hi
  ·cases o:p.1 with
   |rt W=>
    rw[o]at a;cases a;exact λv r=>q v m1 H1 b1 T X r
   |nx a0=>
    rw[o]at a;cases a;exact λa1 S1=>q _ m1 H1 b1 T X qvb
   |bk W=>rw[o]at a; cases a
   |ct W=>rw[o]at a; cases a
def tab_ok{K:Qqq}(T:∀f x,names[f]?=Y x->FText K mg fns names glo f x)(t:Mo K mg glo w.params):
  ∀n,FTab P w K mg base glo fns names n:=by
 intro n
 induction n with
 |zero=>
  intro f x j;obtain⟨nm,l,fd,st,N,ps,F,o,a,k,hb,b,i,c,g⟩:=(T f x j).ex;refine⟨l,fd,ps,k,?_,a.kp,hb⟩;refine⟨λvs H Q E h=>?_,λA outer s H p u vs Q E hr v r hv h=>?_⟩
  ·obtain⟨m,st,ds,d,st',_,_,e,_⟩:=h; cases e
  ·obtain⟨m,st,ds,d,st',_,_,e,_⟩:=h; cases e
 |succ n q=>
  intro f x j;obtain⟨nm,l,fd,st,N,ps,F,o,a,k,hb,b,i,c,g⟩:=(T f x j).ex;exact⟨l,fd,ps,k,qiy q t o a b i c g,a.kp,hb⟩
noncomputable def qlj(K:Qqq):Sp:=λvs H Q _=>∃(a:Y7) (ns:L B),vs=[.ref a]/\SqF K H a (ns.map V.int)/\ns.length<=63/\∀H',Q (.bl Z) H'
def law_sp{K:Qqq}(h:∀ns:L B,ns.length<=63->∃st',M.callD fns n f [.lst (ns.map D.int)] []=Y (.bl Z,st'))(vs)(H)(Q)(E)(q:qlj K vs H Q E):spN K fns n f vs H Q E:=by
 obtain⟨a,ns,rfl,j,g,k⟩:=q;obtain⟨st',e⟩:=h ns g;refine⟨[],[],[.lst (ns.map D.int)],.bl Z,st',⟨rfl,λl r b c t d o m s w p=>?_,λl c b d o=>?_⟩,qzo (qb1 j (qxg ns)) qqy,e,λv m' H' _ _ _ i=>?_⟩
 ·simp at m
 ·simp at d
 ·rw[i.bl]; exact k H'
def qmy{K:Qqq}(b:Only H)(h:SqL K H a xs):SqF K H a xs:=by
 rcases h with (h|⟨o,h⟩)|h
 ·rcases b a with z|⟨ob,ys,z⟩
  ·rw[h]at z; cases z
  ·rw[h]at z; cases z
 ·exact .inl ⟨o,h⟩
 ·exact .inr h
def walk_law{l:PySem.W.OpenLaw}{K:Qp->Qqq}(e:l.most=Y 63)(b:d.params.defaults=[])(hr:Room k Zn)(i:∀(w:Qk) (h:Heap),YP w h->(K w.params).In h)(F:∀(w:Qk) (mg:Y5->Y3 Y8) (c:Y7) (h:Heap),(K w.params).In h->h.Ns mainGlobals mg->mg d.name=Y (.ref c)->
   ∃fd:Qo,(∀(s:Qz) (u:Y8),BindsTo s fd ⟨[u],[]⟩ [(x,u)])/\∀base:Heap,(K w.params).In base->base.Ns mainGlobals mg->FnOk l.prog w (K w.params) mg base CX0 k c fd [x] (qlj (K w.params))):
  PySem.W.WalkO q loose XP YP l.row.toRowW d [] (λf vs=>PySem.call f vs):=
 L2.walk_of e (by decide) b hr i F (λ_ _ a ns g m j=>⟨a,ns,rfl,qmy m j,g,λ_=>rfl⟩) λ_ _ _ _ _ z=>z
def qf3(elt)(a)(sc)(q)(t)(p)(line)(env):swapsWith (.ListComp elt a sc q) (Y (.Name t p)) line env=pure Y6\/swapsWith (.ListComp elt a sc q) (Y (.Name t p)) line env=pure true:=by
 have e:swapsWith (.ListComp elt a sc q) (Y (.Name t p)) line env=pure (env.blockKind==.function&&env.kindOf t==Y .local&&p.line==q.line && !(sc.names.any λ(n,k)=>n==t&&(k==.local||k==.cell))):=rfl;rw[e]
 cases (env.blockKind==.function&&env.kindOf t==Y .local&&p.line==q.line && !(sc.names.any λ(n,k)=>n==t&&(k==.local||k==.cell))) with
 |false=>exact .inl rfl
 |true=>exact .inr rfl
inductive ClK (K:Qqq) (cn:Y5) (C:Y7):Prop
 |mk (a:Qxt K mainGlobals cn=Y (Y (.ref C))) (pg:PySem.W.plainGet K C Str.empty=Z) (hd:PySem.W.hasDictIn K C=Z) (po:PySem.W.plainOver K C=Z) (sa:PySem.W.findIn K (.ref C) "__setattr__" = Y (Y (.builtin "object.__setattr__"))) (mk:PySem.W.makesIn K C=Z) (kp:Qzg K (.ref C)=Z):ClK K cn C
def ClK.cls{K:Qqq}(h:ClK K b C):Cls K C:=by
 cases h with
 |mk a pg hd po sa mk kp=>exact⟨pg,hd,po,sa⟩
def ClK.mo{K:Qqq}(q:ClK K b C)(X:K.In h)(G:h.Ns mainGlobals mg):mg b=Y (.ref C)/\Cls K C/\PySem.W.makesIn K C=Z/\Qzg K (.ref C)=true:=by
 have c:=q.cls
 cases q with
 |mk a pg hd po sa mk kp=>exact⟨Qx3 X G a,c,mk,kp⟩
noncomputable def sq(a b:Y5):Bool:=a.cps.toList==b.cps.toList
def qqo(h:sq a b=Z):a=b:=by
 obtain⟨⟨a⟩⟩:=a;obtain⟨⟨b⟩⟩:=b;have:a=b:=by simpa[sq] using h
 rw[this]
def qyc(a):sq a a=true:=by simp[sq]
def qbd(h:(!sq a b)=Z):(a==b)=false:=by
 cases e:a==b with
 |false=>rfl
 |true=>
  rw[beq_iff_eq]at e;rw[e,qyc]at h;cases h
noncomputable def gd{α:Type}(b:Yb)(x:Y3 α):Y3 α:=bif b then x else J
def gd_iff:gd b x=Y e↔b=Z/\x=Y e:=by cases b<;>simp[gd]
noncomputable def lk:L (Y5×Qg)->Y5->Y3 Qg
 |[],_=>J
 |(y,k)::r,x=>bif sq x y then Y k else lk r x
theorem qwy:∀{l}{x},lk l x=l.lookup x
 |[],_=>rfl
 |(y,k)::r,x=>by
  unfold lk;rw[Qzk]
  cases e:sq x y with
  |true=>rw[qqo e,beq_self_eq_true]; rfl
  |false=>
   have:(x==y)=false:=by
    cases a:x==y with
    |false=>rfl
    |true=>rw[beq_iff_eq]at a; rw[a,qyc]at e; cases e
   rw[this];exact qwy
noncomputable def ixS(x:Y5):L Y5->Y3 Y0
 |[]=>J
 |y::r=>bif sq y x then Y 0 else(ixS x r).map (· + 1)
theorem ixS_eq:∀{N}{i},ixS x N=Y i->N[i]?=Y x
 |[],_,h=>nomatch h
 |y::r,i,h=>by
  unfold ixS at h
  cases e:sq y x with
  |true=>rw[e]at h; cases h; rw[qqo e]; rfl
  |false=>
   rw[e]at h;obtain⟨j,hj,rfl⟩:=Qqi.mp (h);exact(ixS_eq hj :)
noncomputable def kG:Y3 Qg->Yb
 |some .globalImplicit=>Z
 |_=>Y6
noncomputable def kL:Y3 Qg->Yb
 |some .local=>Z
 |some .cell=>Z
 |_=>Y6
noncomputable def kV:Y3 Qg->Yb
 |some .local=>Z
 |some .cell=>Z
 |some .free=>Z
 |_=>Y6
def kG_eq(h:kG o=Z):o=Y .globalImplicit:=by
 unfold kG at h; split at h
 ·rfl
 ·cases h
def kL_eq(h:kL o=Z):o=Y .local\/o=Y .cell:=by
 unfold kL at h; split at h
 ·exact .inl rfl
 ·exact .inr rfl
 ·cases h
def qm0(h:kV o=Z):o=Y .local\/o=Y .cell\/o=Y .free:=by
 unfold kV at h; split at h
 ·exact .inl rfl
 ·exact .inr (.inl rfl)
 ·exact .inr (.inr rfl)
 ·cases h
noncomputable def isG(c:Ctx)(x:Y5):Bool:=kG (lk c.sc.names x)
noncomputable def isL(c:Ctx)(x:Y5):Bool:=kL (lk c.sc.names x)
def qqm(h:isG c x=Z):c.sc.names.lookup x=Y .globalImplicit:=qwy▸kG_eq h
def qas(h:isL c x=Z):c.sc.names.lookup x=Y .local\/c.sc.names.lookup x=Y .cell:=qwy▸kL_eq h
noncomputable def noD(x:Y5):Bool:=!sq x ("__debug__" : Y5)
noncomputable def swOk:Qx->Yb
 |.ListComp ..=>Y6
 |.SetComp ..=>Y6
 |.DictComp ..=>Y6
 |_=>Z
def sw_ok(h:swOk p=Z)(t)(l)(env):swapsWith p t l env=pure false:=by
 cases p<;>first|rfl|cases h
abbrev TrE:=Ctx->Qx->Y3 E
noncomputable def qcl(c:Ctx)(x:Y5):Y3 E:=
 bif isG c x then(c.glo.cs.find? λq=>sq q.1 x).bind λq=>gd (noD x) (Y (.glo q.1 q.2))
 else(ixS x c.N).bind λi=>gd (kV (lk c.sc.names x)&&noD x && !sq x ("__classdict__" : Y5)) (Y (.var i))
noncomputable def trL(f:Qx->Y3 E):L Qx->Y3 (L E)
 |[]=>Y []
 |p::r=>(f p).bind λe=>(trL f r).map (e::·)
noncomputable def trP(f:Qx->Y3 E):L (Y3 Qx)->L Qx->Y3 (L E)
 |[],[]=>Y []
 |some k::ks,v::vs=>(f k).bind λa=>(f v).bind λb=>(trP f ks vs).map λr=>a::b::r
 |_,_=>J
noncomputable def trO(f:Qx->Y3 E):Y3 Qx->Y3 (Y3 E)
 |none=>Y J
 |some p=>(f p).map Y
noncomputable def qhx(c:Ctx):Qx->Y3 (Y5×L Y5×L D)
 |.Name x _=>gd (isG c x&&noD x) (c.glo.ds.find? λq=>sq q.1 x)
 |_=>J
noncomputable def inNeg:CmpOp->Y3 Yb
 |.In=>Y Y6
 |.NotIn=>Y Z
 |_=>J
noncomputable def qi2(o:Y0)(f:Qx->Y3 E)(c:Ctx)(a:Qx)(op:CmpOp)(b:Qx):Y3 E:=
 match inNeg op with
 |some neg=>match qhx c b with
  |some q=>(f a).map λx=>.gin neg q.1 q.2.1 x
  |none=>(f a).bind λx=>(f b).map λy=>bif o==1 then .din neg x y else .cmp op x y
 |none=>(f a).bind λx=>(f b).map λy=>.cmp op x y
noncomputable def qit(o:Y0)(f:Qx->Y3 E)(c:Ctx)(a:Qx):Qx->Y3 E
 |.Slice lo hi J _=>(f a).bind λx=>(trO f lo).bind λl=>(trO f hi).map λh=>.sli x l h
 |b=>match qhx c a with
  |some q=>(f b).map λy=>.gidx q.1 q.2.1 q.2.2 y
  |none=>(f a).bind λx=>(f b).map λy=>bif o==1 then .didx x y else .idx x y
noncomputable def bOf(x:Y5):Y3 M.Bq:=[M.Bq.len,.min,.tuple,.list,.all,.sorted,.any,.int,.max].find? λb=>sq (Str.ofString (qnl b)) x
noncomputable def tyOf(x:Y5):Y3 M.Ty:=[M.Ty.bl,.int,.str,.tup,.lst].find? λt=>sq (Str.ofString t.name) x
noncomputable def qfo(c:Ctx):L Qx->Y3 (L M.Ty)
 |[]=>Y []
 |.Name x _::r=>(tyOf x).bind λt=>gd (isG c x) ((qfo c r).map (t::·))
 |_=>J
noncomputable def mOf(x:Y5):Y3 M.Mt:=[M.Mt.append,.extend,.index,.insert].find? λk=>sq (mName k) x
noncomputable def qi0(f:Qx->Y3 E)(c:Ctx)(a:Qx):Qx->Y3 E
 |.Name x _=>(tyOf x).bind λt=>gd (isG c x) ((f a).map λe=>.isi e [t] Y6)
 |.Tuple ps _ _=>(qfo c ps).bind λts=>gd (decide (ts.length<=1000)) ((f a).map λe=>.isi e ts Z)
 |_=>J
noncomputable def qi1(f:Qx->Y3 E)(c:Ctx)(x:Y5)(p:Qx)(r:L Qx):Y3 E:=
 match ixS x c.fns with
 |some k=>gd (qgp x) ((trL f (p::r)).map (.call k))
 |none=>match c.glo.cl.find? λq=>sq q.1 x with
  |some q=>(c.glo.ms.find? λz=>z.2.1==q.2&&sq z.2.2 ("__init__" : Y5)).bind λz=>gd (c.fns[z.1]?).isSome ((trL f (p::r)).map (.new q.2 z.1))
  |none=>match r with
   |[t]=>bif sq x ("isinstance" : Y5) then qi0 f c p t else(bOf x).bind λb=>gd (bOk b) ((trL f (p::r)).map (.bcall b))
   |_=>(bOf x).bind λb=>gd (bOk b) ((trL f (p::r)).map (.bcall b))
noncomputable def qd0(c:Ctx)(x:Y5):L Qx->Y3 Qx
 |[.Call (.Name y _) [a] [] _]=>gd (sq x ("len" : Y5)&&sq y ("set" : Y5)&&isG c y) (Y a)
 |_=>J
noncomputable def qcn(o:Y0)(f:Qx->Y3 E)(c:Ctx)(a:Qx)(m:Y5)(apos:Pos)(ps:L Qx)(pos:Pos):Y3 E:=
 gd (apos.endLine==pos.line) (bif Nat.ble 3 o then
  (c.glo.ms.find? λz=>z.2.1==o - 3&&sq z.2.2 m).bind λz=>(c.glo.cl.find? λq=>q.2==o - 3).bind λ_=>
   gd ((c.fns[z.1]?).isSome&&decide (ps.length<30)) ((f a).bind λe=>(trL f ps).map λes=>.mcall z.2.1 z.1 z.2.2 e es)
 else match ps with
  |[]=>J
  |p::r=>bif sq m ("get" : Y5) then(f a).bind λe=>(f p).bind λy=>gd r.isEmpty (Y (.dgt e y))
   else(mOf m).bind λk=>gd (decide ((p::r).length<30)) ((f a).bind λe=>(trL f (p::r)).map λes=>.meth e k es))
noncomputable def trT(c:Ctx):Qx->Y3 T
 |.Name x _=>(ixS x c.N).bind λi=>gd (isL c x) (Y (.var i))
 |.Tuple es _ _=>(trTs es).map .tup
 |_=>J
where trTs:L Qx->Y3 (L Y0)
 |[]=>Y []
 |.Name x _::r=>(ixS x c.N).bind λi=>gd (isL c x) ((trTs r).map (i::·))
 |_=>J
noncomputable def trI(f:Qx->Y3 E)(c:Ctx)(tg:Qx):Qx->Y3 E
 |.Call (.Name x p) ps [] pos=>
  bif isG c x&&sq x ("range" : Y5) then match ps with
   |[a]=>(f a).map .rng1
   |_=>J
  else bif isG c x&&sq x ("zip" : Y5) then match ps,tg with
   |[a,b],.Tuple _ _ _=>(f a).bind λx=>(f b).map λy=>.zip x y
   |_,_=>J
  else f (.Call (.Name x p) ps [] pos)
 |e=>f e
noncomputable def ndB:L Y5->Yb
 |[]=>Z
 |x::r=>!(r.any (sq x))&&ndB r
noncomputable def inN(sc:Scope):L Y5:=(sc.names.filter λy=>y.2==.local && !sq y.1 (".0" : Y5)).map (·.1)++(sc.names.filter λy=>y.2==.free).map (·.1)
noncomputable def inS(sc:Scope)(N:L Y5):L (Y3 Y0):=(inN sc).map λx=>bif kV (lk sc.names x) && !kL (lk sc.names x) then ixS x N else J
noncomputable def compOk(c:Ctx)(sc:Scope):Bool:=sc.kind==.function&&sc.names.all (λy=>y.2 != .cell)&&sc.names.all (λy=>y.2 != .free||(kV (lk c.sc.names y.1)&&lk c.sc.names y.1 != Y .local))&&sc.names.all (λy=>y.2 != .local||lk sc.names y.1==Y .local)&&ndB (inN sc)
noncomputable def qaz(R:TrE)(c:Ctx)(elt tg iter:Qx)(ifs:Y3 Qx)(sc:Scope):Y3 E:=
 gd (compOk c sc&&shOk iter) ((trI (R c) c tg iter).bind λi=>(trT (c.inn (inN sc) sc) tg).bind λt=>gd (tlOk (inN sc) (qbl sc c.sc) t)
  ((trO (R (c.inn (inN sc) sc)) ifs).bind λk=>(R (c.inn (inN sc) sc) elt).map λe=>.comp t i k e (inS sc c.N)))
noncomputable def trC:Const->Y3 E
 |.int i=>Y (.lit (.int i))
 |.bool i=>Y (.lit (.bl i))
 |.none=>Y (.lit .non)
 |.str i=>Y (.lit (.str i))
 |_=>J
noncomputable def trU(f:Qx->Y3 E)(a:Qx):UnaryOp->Y3 E
 |.USub=>(f a).map .neg
 |.Not=>(f a).map .not
 |_=>J
noncomputable def bo:BoolOp->E->E->E
 |.And=>.and
 |.Or=>.or
noncomputable def trBo(f:Qx->Y3 E)(op:BoolOp)(pos:Pos):L Qx->Y3 E
 |[a,b]=>(f a).bind λx=>(f b).map λy=>bo op x y
 |a::b::d::r=>(f a).bind λx=>(f (.BoolOp op (b::d::r) pos)).map λy=>bo op x y
 |_=>J
noncomputable def trCp(o:Y0)(f:Qx->Y3 E)(c:Ctx)(a:Qx):L CmpOp->L Qx->Y3 E
 |[op],[b]=>qi2 o f c a op b
 |[op,op'],[b,d]=>(f a).bind λx=>(f b).bind λy=>(f d).map λz=>.cmp2 op op' x y z
 |_,_=>J
noncomputable def trCl(o:Y0)(f:Qx->Y3 E)(c:Ctx)(pos:Pos):Qx->L Qx->L Zl->Y3 E
 |.Name x _,p::r,[]=>gd (isG c x&&noD x) (match qd0 c x (p::r) with
  |some a=>(f a).map .lenset
  |none=>qi1 f c x p r)
 |.Attribute a m apos,ps,[]=>qcn o f c a m apos ps pos
 |_,_,_=>J
noncomputable def trDi(o:Y0)(f:Qx->Y3 E):L (Y3 Qx)->L Qx->Y3 E
 |[],[]=>Y (.dic [])
 |k::ks,v::vs=>gd (decide ((k::ks).length<=15)) ((trP f (k::ks) (v::vs)).map .dic)
 |_,_=>J
noncomputable def trLc(o:Y0)(R:TrE)(c:Ctx)(elt:Qx)(sc:Scope):L Comprehension->Y3 E
 |[⟨tg,iter,[],k⟩]=>gd (k==0) (qaz R c elt tg iter J sc)
 |[⟨tg,iter,[q],k⟩]=>gd (k==0) (qaz R c elt tg iter (Y q) sc)
 |_=>J
noncomputable def trX(o:Y0)(R:TrE)(c:Ctx):Qx->Y3 E
 |.Name x _=>qcl c x
 |.Constant k _ _=>trC k
 |.BinOp a op b _=>(R c a).bind λx=>(R c b).map λy=>.bin op x y
 |.UnaryOp op a _=>trU (R c) a op
 |.BoolOp op ps pos=>trBo (R c) op pos ps
 |.Compare a os bs _=>trCp o (R c) c a os bs
 |.Tuple ps _ _=>(trL (R c) ps).map .tup
 |.List ps _=>(trL (R c) ps).map .lst
 |.Subscript a b _=>qit o (R c) c a b
 |.Call g ps ks pos=>trCl o (R c) c pos g ps ks
 |.Attribute a f _=>gd (Nat.ble 3 o) ((c.glo.ats.find? λz=>z.1==o - 3&&sq z.2 f).bind λz=>(R c a).map λe=>.attr z.1 e z.2)
 |.Dict ks vs _=>trDi o (R c) ks vs
 |.ListComp elt gs sc _=>trLc o R c elt sc gs
 |_=>J
noncomputable def isGc:E->Yb
 |.gc _=>Z
 |_=>Y6
noncomputable def pk(p:Pos):Nat:=(p.line*1000+p.col)*1000+p.endCol
noncomputable def trF(o:Y0->Y0)(R:TrE):TrE:=λc p=>gd (shOk p) (match o (pk p.pos) with
 |n=>(trX (n / 2) R c p).bind λe=>gd (qv3 e) (Y (bif (n % 2==1)&&gcOk p && !isGc e then .gc e else e)))
noncomputable def trE(o:Y0->Y0):Y0->TrE
 |0=>λ_ _=>J
 |n+1=>trF o (trE o n)
def mD{α c:Type}{o:Y3 α}{f:α->c}{b:c}(h:o.map f=Y b):∃a,o=Y a/\f a=b:=Qqi.mp h
def aD(h:(a&&b)=Z):a=Z/\b=true:=(Qq0 _ _).mp h
def bDk{α c:Type}{o:Y3 α}{f:α->Y3 c}{b:c}{P:Prop}(h:o.bind f=Y b)(k:∀a,o=Y a->f a=Y b->P):P:=qzj h k
def mDk{α c:Type}{o:Y3 α}{f:α->c}{b:c}{P:Prop}(h:o.map f=Y b)(k:∀a,o=Y a->f a=b->P):P:=qzg h k
def gDk{x:Y3 α}{e:α}{P:Prop}(h:gd b x=Y e)(k:b=Z->x=Y e->P):P:=k (gd_iff.mp h).1 (gd_iff.mp h).2
def aDk{P:Prop}(h:(a&&b)=Z)(k:a=Z->b=Z->P):P:=k ((Qq0 _ _).mp h).1 ((Qq0 _ _).mp h).2
def fD{α:Type}{p:α->Yb}{l:L α}{a:α}(h:l.find? p=Y a):a∈l/\p a=true:=⟨Qxv h,List.find?_some h⟩
def TrO(Q:Ctx->E->Qx->Prop)(R:TrE):Prop:=∀{c:Ctx}{p:Qx}{e:E},R c p=Y e->Q c e p
abbrev Fo(Q:Ctx->E->Qx->Prop)(c:Ctx)(f:Qx->Y3 E):Prop:=∀{p:Qx}{e:E},f p=Y e->Q c e p
def qiv(h:inNeg a=Y neg):a=inOp neg:=by cases a<;>first|(cases h; done)|(cases h; rfl)
def qci(h:qcl c x=Y e):CkV c e x:=by
 unfold qcl at h
 cases g:isG c x with
 |true=>
  rw[g]at h;refine bDk h λq b h=>gDk h λhd h=>?_;cases h;obtain⟨d,a⟩:=fD b;cases qqo a;exact .glo (qqm g) d (qbd hd)
 |false=>
  rw[g]at h;refine bDk h λi hi h=>gDk h λhd h=>?_;cases h;refine aDk hd λhd h2=>aDk hd λhd h1=>?_;rw[qwy]at hd;exact .var (ixS_eq hi) (qm0 hd) (qbd h1) (qbd h2)
section
variable (hf:Fo Q c f)
include hf
theorem qx4:∀{ps}{es},trL f ps=Y es->CkL (Q c) es ps
 |[],_,h=>by cases h; exact .nil
 |p::r,es,h=>by
  refine bDk h λe b h=>?_;obtain⟨t,a,rfl⟩:=mD h;exact .cons (hf b) (qx4 a)
theorem qhn:∀{ks}{vs}{es},trP f ks vs=Y es->CkP (Q c) es ks vs
 |[],[],_,h=>by cases h; exact .nil
 |some k::ks,v::vs,es,h=>by
  refine bDk h λa e h=>bDk h λb hb h=>?_;obtain⟨t,d,rfl⟩:=mD h;exact .cons (hf e) (hf hb) (qhn d)
 |none::_,_,_,h=>by unfold trP at h; cases h
 |some _::_,[],_,h=>by unfold trP at h; cases h
 |[],_::_,_,h=>by unfold trP at h; cases h
theorem qch(h:trO f p=Y e):CkO (Q c) e p:=by
 cases p with
 |none=>cases h; exact .none
 |some p=>
  obtain⟨e,a,rfl⟩:=mD h;exact .some (hf a)
theorem qa3(h:qhx c b=Y q):∃pos,b=.Name q.1 pos/\c.sc.names.lookup q.1=Y .globalImplicit/\(q.1,q.2.1,q.2.2)∈c.glo.ds/\(q.1==("__debug__" : Y5))=false:=by
 unfold qhx at h
 split at h
 ·rename_i x pos;refine gDk h λh1 h=>aDk h1 λh1 h2=>?_;obtain⟨d,a⟩:=fD h;have:=qqo a;subst this;exact⟨pos,rfl,qqm h1,d,qbd h2⟩
 ·exact nn h
theorem qft(h:qi2 o f c a d b=Y e):CkG Q c e (.Compare a [d] [b] pos):=by
 have plain:∀{d e},((f a).bind λx=>(f b).map λy=>E.cmp d x y)=Y e->CkG Q c e (.Compare a [d] [b] pos):=λ{d e} h=>by
  refine bDk h λx g h=>?_;obtain⟨y,i,rfl⟩:=mD h;exact .cmp (hf g) (hf i)
 unfold qi2 at h
 split at h
 ·rename_i neg hn
  split at h
  ·rename_i q k;obtain⟨p0,rfl,h1,h2,l⟩:=qa3 hf k;obtain⟨x,g,rfl⟩:=mD h;rw[qiv hn];exact .gin h1 h2 l (hf g)
  ·cases j:o==1 with
   |false=>
    rw[j]at h;exact plain h
   |true=>
    rw[j]at h;refine bDk h λx g h=>?_;obtain⟨y,i,rfl⟩:=mD h;rw[qiv hn];exact .din (hf g) (hf i)
 ·exact plain h
theorem qfp(h:qit o f c a b=Y e):CkG Q c e (.Subscript a b pos):=by
 unfold qit at h
 split at h
 ·refine bDk h λx d h=>bDk h λl j h=>?_;obtain⟨k,hk,rfl⟩:=mD h;exact .sli (hf d) (qch hf j) (qch hf hk)
 ·split at h
  ·rename_i q i;obtain⟨p0,rfl,h1,h2,m⟩:=qa3 hf i;obtain⟨x,d,rfl⟩:=mD h;exact .gidx h1 h2 m (hf d)
  ·refine bDk h λx d h=>?_;obtain⟨y,g,rfl⟩:=mD h
   cases n:o==1 with
   |false=>exact .idx (hf d) (hf g)
   |true=>exact .didx (hf d) (hf g)
omit hf in
theorem qcd(h:tyOf x=Y t):t≠.non/\Str.ofString t.name=x:=by
 obtain⟨h1,h2⟩:=fD h;refine⟨?_,qqo h2⟩;rintro rfl;simp at h1
omit hf in
theorem qy8:∀{ps}{b},qfo c ps=Y b->CkTys c b ps
 |[],_,h=>by cases h; exact .nil
 |p::r,b,h=>by
  unfold qfo at h
  split at h
  ·rename_i a; cases a
  ·rename_i a;cases a;refine bDk h λt e h=>gDk h λg h=>?_;obtain⟨b,d,rfl⟩:=mD h;obtain⟨h1,rfl⟩:=qcd e;exact .cons h1 (qqm g) (qy8 d)
  ·exact nn h
theorem qfr(g:c.sc.names.lookup ("isinstance" : Y5)=Y .globalImplicit)(h:qi0 f c a t=Y e):CkG Q c e (.Call (.Name "isinstance" p0) [a,t] [] pos):=by
 unfold qi0 at h
 split at h
 ·refine bDk h λt b h=>gDk h λi h=>?_;obtain⟨e,d,rfl⟩:=mD h;obtain⟨h1,rfl⟩:=qcd b;exact .isi1 g h1 (qqm i) (hf d)
 ·refine bDk h λj b h=>gDk h λi h=>?_;obtain⟨e,d,rfl⟩:=mD h;exact .isiN (of_decide_eq_true i) g (qy8 b) (hf d)
 ·exact nn h
theorem bc_ok(g:isG c x=Z)(h:((bOf x).bind λb=>gd (bOk b) ((trL f (p::ps)).map (.bcall b)))=Y e):CkG Q c e (.Call (.Name x p0) (p::ps) [] pos):=by
 refine bDk h λb hb h=>gDk h λh1 h=>?_;obtain⟨es,a,rfl⟩:=mD h;have:=qqo (fD hb).2;subst this;exact .bcall (qqm g) h1 (qx4 hf a)
theorem qfs(g:isG c x=Z)(hd:noD x=Z)(h:qi1 f c x p r=Y e):CkG Q c e (.Call (.Name x p0) (p::r) [] pos):=by
 unfold qi1 at h
 split at h
 ·rename_i k hk;refine gDk h λh1 h=>?_;obtain⟨es,d,rfl⟩:=mD h;exact .call (qqm g) (ixS_eq hk) (qbd hd) h1 (qx4 hf d)
 ·split at h
  ·rename_i q l;refine bDk h λz hz h=>gDk h λh1 h=>?_;obtain⟨es,d,rfl⟩:=mD h;obtain⟨y,i⟩:=Qz5.mp h1;obtain⟨m,j⟩:=fD l;obtain⟨b,a⟩:=fD hz;refine aDk a λn hb=>?_;have:=qqo j;subst this;obtain⟨v,w,u⟩:=z;have s:=qqo hb;have o:=eq_of_beq n;subst s o;exact .new (qqm g) i b m (qbd hd) (qx4 hf d)
  ·split at h
   ·rename_i t
    cases hi:sq x ("isinstance" : Y5) with
    |true=>
     rw[hi]at h;have:=qqo hi;subst this;exact qfr hf (qqm g) h
    |false=>rw[hi]at h; exact bc_ok hf g h
   ·exact bc_ok hf g h
omit hf in
theorem qdu(h:qd0 c x ps=Y a):x=("len" : Y5)/\∃q b,ps=[.Call (.Name "set" q) [a] [] b]/\c.sc.names.lookup ("set" : Y5)=Y .globalImplicit:=by
 unfold qd0 at h
 split at h
 ·rename_i y q d b;refine gDk h λh1 h=>?_;cases h;refine aDk h1 λh1 g=>?_;have h1:=aD h1;have:=qqo h1.2;subst this;exact⟨qqo h1.1,q,b,rfl,qqm g⟩
 ·exact nn h
theorem qcm(h:qcn o f c a m b ps pos=Y e):CkG Q c e (.Call (.Attribute a m b) ps [] pos):=by
 unfold qcn at h;refine gDk h λn h=>?_
 cases t:Nat.ble 3 o with
 |true=>
  rw[t]at h;refine bDk h λz hz h=>bDk h λq v h=>gDk h λh1 h=>aDk h1 λh1 h2=>bDk h λx d h=>?_;obtain⟨es,s,rfl⟩:=mD h;obtain⟨y,i⟩:=Qz5.mp h1;obtain⟨w,g⟩:=fD hz;obtain⟨l,j⟩:=fD v;refine aDk g λA hb=>?_;obtain⟨G,H,F⟩:=z;obtain⟨I,K⟩:=q;have D:=qqo hb;have C:=eq_of_beq A;have u:=eq_of_beq j;subst D;rw[<- C]at u;subst u;exact .mcall (hf d) i w l (qx4 hf s) (of_decide_eq_true h2) n
 |false=>
  rw[t]at h
  split at h
  ·exact nn h
  ·rename_i p r _
   cases hg:sq m ("get" : Y5) with
   |true=>
    cases qqo hg;rw[hg]at h;refine bDk h λx d h=>bDk h λy i h=>?_
    cases r with
    |nil=>
     cases h;exact .dgt (hf d) (hf i) n
    |cons N r=>exact nn h
   |false=>
    rw[hg]at h;refine bDk h λk hk h=>gDk h λhn h=>bDk h λx d h=>?_;obtain⟨es,s,rfl⟩:=mD h;have:=qqo (fD hk).2;subst this;exact .meth (hf d) (qx4 hf s) (of_decide_eq_true hn) n
omit hf in
theorem qya:∀{es}{is},trT.trTs c es=Y is->CkTs c is es
 |[],_,h=>by cases h; exact .nil
 |p::r,is,h=>by
  unfold trT.trTs at h
  split at h
  ·rename_i a; cases a
  ·rename_i a;cases a;refine bDk h λi hi h=>gDk h λg h=>?_;obtain⟨d,b,rfl⟩:=mD h;exact .cons (ixS_eq hi) (qas g) (qya b)
  ·exact nn h
omit hf in
theorem qcg(h:trT c p=Y t):CkT c t p:=by
 unfold trT at h
 split at h
 ·refine bDk h λi hi h=>gDk h λg h=>?_;cases h;exact .var (ixS_eq hi) (qas g)
 ·obtain⟨a,hi,rfl⟩:=mD h;exact .tup (qya hi)
 ·exact nn h
theorem qho(h:trI f c b p=Y e):CkI (Q c) c b e p:=by
 unfold trI at h
 split at h
 ·rename_i x q ps pos
  cases hr:isG c x&&sq x ("range" : Y5) with
  |true=>
   rw[hr]at h;refine aDk hr λg a=>?_;have:=qqo a;subst this
   split at h
   ·obtain⟨x,a,rfl⟩:=mD h;exact .rng1 (qqm g) (hf a)
   ·exact nn h
  |false=>
   rw[hr]at h
   cases hr:isG c x&&sq x ("zip" : Y5) with
   |true=>
    rw[hr]at h;refine aDk hr λg a=>?_;have:=qqo a;subst this;dsimp only[cond]at h
    split at h
    ·refine bDk h λx a h=>?_;obtain⟨y,d,rfl⟩:=mD h;exact .zip (qqm g) (hf a) (hf d)
    ·exact nn h
   |false=>
    rw[hr]at h;exact .seq (hf h)
 ·exact .seq (hf h)
end
theorem qai:∀{l},ndB l=Z->l.Nodup
 |[],_=>.nil
 |x::r,h=>by
  refine aDk h λh1 h2=>Qzy.mpr ⟨λa=>?_,qai h2⟩;rw[Qx5.mpr ⟨x,a,qyc x⟩]at h1;cases h1
def qvp{R:TrE}(s:TrO Q R)(h:qaz R c elt u a ifs sc=Y e):CkG Q c e (.ListComp elt [⟨u,a,ifs.toList,0⟩] sc pos):=by
 unfold qaz at h;refine gDk h λb h=>aDk b λb q=>aDk b λb C=>aDk b λb D=>aDk b λb F=>aDk b λh1 h2=>bDk h λi hi h=>bDk h λt w h=>gDk h λp h=>?_;have hk:=eq_of_beq h1;have f:=λy g=>by
  have:=Qzj.mp h2 y g;simpa using this
 have d:∀y∈sc.names,y.2=.free->c.sc.names.lookup y.1=Y .cell\/c.sc.names.lookup y.1=Y .free:=λy g e=>by
  have:=Qzj.mp F y g;rw[e]at this;refine aDk (this) λo hb=>?_;rw[qwy]at o hb;rcases qm0 o with z|z|z
  ·rw[z]at hb; cases hb
  ·exact .inl z
  ·exact .inr z
 have m:∀y∈sc.names,y.2=.local->sc.names.lookup y.1=Y .local:=λy g e=>by
  have:=Qzj.mp D y g;rw[e]at this;rw[<- qwy];exact eq_of_beq (this)
 have n:(inS sc c.N).length=(inN sc).length:=by unfold inS; rw[Qqx]
 have l:∀(j i:Y0),(inS sc c.N)[j]?=Y (Y i)->∃x,(inN sc)[j]?=Y x/\c.N[i]?=Y x/\sc.names.lookup x=Y .free:=λj i hj=>by
  unfold inS at hj;rw[Qqb]at hj;refine mDk hj λx v hj=>⟨x,v,?_⟩
  cases hb:kV (lk sc.names x) && !kL (lk sc.names x) with
  |false=>rw[hb]at hj; cases hj
  |true=>
   rw[hb]at hj;refine aDk hb λo hb=>⟨ixS_eq hj,?_⟩
   rw[<- qwy];rcases qm0 o with z|z|z
   ·rw[z]at hb; cases hb
   ·rw[z]at hb; cases hb
   ·exact z
 have hs:=λenv x=>qla q env x;have ok:CpOk c sc (inS sc c.N) (inN sc) a t:=⟨hk,f,d,m,n,l,qai C,hs,p⟩
 refine bDk h λk r h=>?_;obtain⟨e,A,rfl⟩:=mD h;exact .comp ok (qho (s) hi) (qcg w) (qch s r) (s A)
def bo_ok(h:Q c x p)(k:Q c y (boT a pos (q::r))):CkG Q c (bo a x y) (.BoolOp a (p::q::r) pos):=by
 cases a with
 |And=>exact .and h k
 |Or=>exact .or h k
def trX_ok{R:TrE}(d:TrO Q R)(v:shOk p=Z)(h:trX o R c p=Y e):CkG Q c e p:=by
 cases p with
 |Name x q=>
  exact .nm (qci h)
 |Constant k _ _=>
  cases k with
  |int i=>cases h; exact .int
  |bool i=>cases h; exact .bl
  |none=>cases h; exact .non
  |str i=>cases h; exact .str
  |_=>exact nn h
 |BinOp a m b q=>
  refine bDk h λx j h=>?_;obtain⟨y,l,rfl⟩:=mD h;exact .bin (d j) (d l)
 |UnaryOp m a q=>
  cases m with
  |USub=>
   obtain⟨x,j,rfl⟩:=mD h;exact .neg (d j)
  |Not=>
   obtain⟨x,j,rfl⟩:=mD h;exact .not (d j)
  |_=>exact nn h
 |BoolOp m ps q=>
  have h:trBo (R c) m q ps=Y e:=h;unfold trBo at h
  split at h
  ·refine bDk h λx j h=>?_;obtain⟨y,l,rfl⟩:=mD h;exact bo_ok (d j) (d l)
  ·refine bDk h λx j h=>?_;obtain⟨y,l,rfl⟩:=mD h;exact bo_ok (d j) (d l)
  ·exact nn h
 |Compare a os bs q=>
  have h:trCp o (R c) c a os bs=Y e:=h;unfold trCp at h
  split at h
  ·exact qft d h
  ·refine bDk h λx j h=>bDk h λy l h=>?_;obtain⟨z,hz,rfl⟩:=mD h;exact .cmp2 (d j) (d l) (d hz)
  ·exact nn h
 |Tuple ps _ _=>
  obtain⟨x,j,rfl⟩:=mD h;exact .tup (qx4 d j)
 |List ps _=>
  obtain⟨x,j,rfl⟩:=mD h;exact .lst (qx4 d j)
 |Subscript a b _=>exact qfp d h
 |Call g ps ks q=>
  have h:trCl o (R c) c q g ps ks=Y e:=h;unfold trCl at h
  split at h
  ·refine gDk h λh1 h=>aDk h1 λg hd=>?_
   split at h
   ·rename_i a r;obtain⟨x,j,rfl⟩:=mD h;obtain⟨rfl,q,u,e,hs⟩:=qdu r;cases e;exact .lenset (qqm g) hs (d j)
   ·exact qfs d g hd h
  ·exact qcm d h
  ·exact nn h
 |Attribute a f _=>
  refine gDk h λw h=>bDk h λz hz h=>?_;obtain⟨x,j,rfl⟩:=mD h;obtain⟨s,n⟩:=fD hz;refine aDk n λr hb=>?_;have:=qqo hb;subst this;exact .attr (d j) s
 |Dict ks vs _=>
  have h:trDi o (R c) ks vs=Y e:=h;unfold trDi at h
  split at h
  ·cases h;exact .dic0
  ·refine gDk h λh1 h=>?_;obtain⟨x,j,rfl⟩:=mD h;exact .dic (qhn d j) (of_decide_eq_true h1)
  ·exact nn h
 |ListComp elt t sc _=>
  have h:trLc o R c elt sc t=Y e:=h;unfold trLc at h
  split at h
  ·refine gDk h λh1 h=>?_;cases eq_of_beq h1;exact qvp (ifs:=J) d h
  ·refine gDk h λh1 h=>?_;cases eq_of_beq h1;exact qvp (ifs:=Y _) d h
  ·exact nn h
 |_=>exact nn h
def trF_ok{R:TrE}(g:TrO Q R):TrO (CkF Q) (trF o R):=λ{c p e} h=>by
 unfold trF at h;refine gDk h λa h=>bDk h λx f h=>gDk h λd h=>?_;cases h;have k:=trX_ok g a f
 cases hc:(o (pk p.pos) % 2==1)&&gcOk p && !isGc x with
 |false=>exact .of a d k
 |true=>
  refine aDk hc λh1 h2=>aDk h1 λ_ h1=>.gc a d h1 (λb e=>?_) k;rw[e]at h2;cases h2
theorem qy9:∀n,TrO (CkN n) (trE o n)
 |0=>λh=>nomatch h
 |n+1=>trF_ok (qy9 n)
noncomputable def qik:Qx->Yb
 |.ListComp ..=>Z
 |_=>Y6
noncomputable def noTup:Qx->Yb
 |.Tuple ..=>Y6
 |_=>Z
noncomputable def qi3(o:Y0->Y0)(f:Qx->Y3 E)(c:Ctx)(p:Qx):Qx->Y3 S
 |.Name x _=>(ixS x c.N).bind λi=>gd (isL c x) ((f p).map λe=>.set (.var i) e)
 |.Tuple es _ _=>gd (noTup p) ((trT.trTs c es).bind λis=>(f p).map λe=>.set (.tup is) e)
 |.Subscript a i tp=>(f p).bind λe=>(f a).bind λx=>(f i).map λy=>bif o (pk tp) / 2==1 then .dset x y e else .six x y e
 |.Attribute a m tp=>(f p).bind λe=>gd (Nat.ble 3 (o (pk tp) / 2)) ((c.glo.ats.find? λz=>z.1==o (pk tp) / 2 - 3&&sq z.2 m).bind λz=>(f a).map λx=>.setA z.1 x z.2 e)
 |_=>J
noncomputable def trS1(o:Y0->Y0)(f:Qx->Y3 E)(Bq:L Stmt->L S)(c:Ctx):Stmt->Y3 S
 |.Assign [t] p _=>qi3 o f c p t
 |.Expr p _=>gd (swOk p) ((f p).map .expr)
 |.Return (Y p) _=>(f p).map .ret
 |.If q a b _=>(f q).map λe=>.ite e (Bq a) (Bq b)
 |.For tg it b [] pos=>gd (shOk it) ((trT c tg).bind λt=>bif o (pk pos) / 2==1 then(f it).map λe=>.ford t e (Bq b) else(trI f c tg it).map λe=>.forr t e (Bq b))
 |_=>J
noncomputable def qm4:Stmt->Yb
 |.Expr (.Constant (.str _) _ _) _=>Z
 |_=>Y6
noncomputable def trSL(g:Stmt->S):L Stmt->L S
 |[]=>[]
 |p::r=>bif qm4 p then trSL g r else g p::trSL g r
noncomputable def trSs(o:Y0->Y0)(f:TrE)(c:Ctx):Y0->L Stmt->L S
 |0,ps=>trSL (λ_=>.bad) ps
 |n+1,ps=>trSL (λp=>(trS1 o (f c) (trSs o f c n) c p).getD .bad) ps
theorem qvx(a:∀p,CkS c (g p) p):∀ps,CkSs c (trSL g ps) ps
 |[]=>.nil
 |p::r=>by
  unfold trSL
  cases hd:qm4 p with
  |false=>exact .cons (a p) (qvx a r)
  |true=>
   unfold qm4 at hd
   split at hd
   ·exact .doc (qvx a r)
   ·cases hd
def qfu(hf:Fo CkE c f)(h:qi3 o f c p t=Y s):CkS c s (.Assign [t] p pos):=by
 unfold qi3 at h
 split at h
 ·rename_i x d;refine bDk h λi hi h=>gDk h λn h=>?_;obtain⟨e,b,rfl⟩:=mD h
  cases hc:qik p with
  |true=>
   unfold qik at hc
   split at hc
   ·exact .setC (ixS_eq hi) (qas n) (hf b) ⟨_,_,_,_,rfl⟩ λenv _=>qf3 _ _ _ _ _ _ _ env
   ·cases hc
  |false=>
   refine .set (ixS_eq hi) (qas n) (hf b) λenv=>sw_ok ?_ _ _ _;have:=(hf b).sh
   cases p<;>first|rfl|(cases hc; done)|(cases this; done)
 ·rename_i es k d;refine gDk h λhn h=>bDk h λr hi h=>?_;obtain⟨e,b,rfl⟩:=mD h;refine .setT (qya hi) (hf b) λenv=>?_
  cases p<;>first|rfl|cases hn
 ·rename_i a i d;refine bDk h λe b h=>bDk h λx g h=>?_;obtain⟨y,l,rfl⟩:=mD h
  cases o (pk d) / 2==1 with
  |true=>exact .dset (hf g) (hf l) (hf b)
  |false=>exact .six (hf g) (hf l) (hf b)
 ·rename_i a m d;refine bDk h λe b h=>gDk h λ_ h=>bDk h λz hz h=>?_;obtain⟨x,g,rfl⟩:=mD h;obtain⟨q,j⟩:=fD hz;refine aDk j λ_ hb=>?_;have:=qqo hb;subst this;exact .setA (hf g) (hf b) q
 ·exact nn h
def qiu(hf:Fo CkE c f)(d:∀ps,CkSs c (Bq ps) ps)(h:trS1 o f Bq c p=Y s):CkS c s p:=by
 unfold trS1 at h
 split at h
 ·exact qfu hf h
 ·refine gDk h λh1 h=>?_;obtain⟨e,a,rfl⟩:=mD h;exact .expr (hf a) λenv=>sw_ok h1 _ _ _
 ·obtain⟨e,a,rfl⟩:=mD h;exact .ret (hf a)
 ·obtain⟨e,a,rfl⟩:=mD h;exact .ite (hf a) (d _) (d _)
 ·rename_i tg it b pos;refine gDk h λh1 h=>bDk h λt g h=>?_
  cases i:o (pk pos) / 2==1 with
  |true=>
   rw[i]at h;obtain⟨e,a,rfl⟩:=mD h;exact .ford (qcg g) (hf a) (d _)
  |false=>
   rw[i]at h;obtain⟨e,a,rfl⟩:=mD h;exact .forr (qcg g) (qho hf a) (λenv x=>qla h1 _ _) (d _)
 ·exact nn h
theorem qvq(hf:TrO CkE f):∀n ps,CkSs c (trSs o f c n ps) ps
 |0,ps=>qvx (λ_=>.bad) ps
 |n+1,ps=>qvx (λp=>by
  cases h:trS1 o (f c) (trSs o f c n) c p with
  |none=>exact .bad
  |some s=>exact qiu (hf) (qvq hf n) h) ps
noncomputable def argN(st:Stmt):L Y5:=(qqi st).args.map (·.arg)
noncomputable def locN(st:Stmt):L Y5:=argN st++((qza st).names.filter λy=>kL (Y y.2) && !((argN st).any (sq y.1))).map (·.1)
noncomputable def trFn(o:Y0->Y0)(names:L Y5)(glo:Glo)(st:Stmt):Fn:=
 ⟨(argN st).length,(locN st).length,trSs o (trE o 30) ⟨locN st,qza st,names,glo⟩ 12 (qzu st)⟩
noncomputable def scOk(st:Stmt):Bool:=(qza st).kind==.function && !(qza st).isCoroutine && !(qza st).isGenerator&&ndB (locN st)&&(argN st).all (λx=>kL (lk (qza st).names x))&&(qza st).names.all (λy=>y.2 != .free)
def qdx{st:Stmt}(h:scOk st=Z):FnScope (locN st) (argN st) (qza st):=by
 refine aDk h λh c=>aDk h λh d=>aDk h λh e=>aDk h λh f=>aDk h λh1 h2=>?_;refine⟨eq_of_beq h1,by simpa using h2,by simpa using f,qai e,by unfold locN; rw[List.take_left],λx b=>?_,λy a=>?_⟩
 ·have:=kL_eq (Qzj.mp d x b);rwa [qwy]at this
 ·simpa using Qzj.mp c y a
abbrev Orc:=L (Y0×L Y0)
abbrev Rw:=Y3 Y7×Y5×Y5×Stmt×Orc
noncomputable def orc:Orc->Y0->Y0
 |[],_=>0
 |(v,l)::r,k=>bif l.any (k.beq ·) then v else orc r k
noncomputable def msT:Y0->L Rw->L (Y0×Y7×Y5)
 |_,[]=>[]
 |n,(Y C,m,_)::r=>(n,C,m)::msT (n+1) r
 |n,(J,_)::r=>msT (n+1) r
noncomputable def fnsT(names:L Y5)(glo:Glo)(t:L Rw):L Fn:=t.map λr=>trFn (orc r.2.2.2.2) names glo r.2.2.2.1
def ms_mem:∀{n},q∈msT n t->∃k r,q.1=n+k/\t[k]?=Y r/\r.1=Y q.2.1/\r.2.1=q.2.2:=by
 induction t with
 |nil=>exact λh=>nomatch h
 |cons a t b=>
  obtain⟨C,m,z⟩:=a;intro n h;have up:q∈msT (n+1) t->∃k r,q.1=n+k/\((C,m,z)::t)[k]?=Y r/\r.1=Y q.2.1/\r.2.1=q.2.2:=λh=>by
   obtain⟨k,r,e,w⟩:=b h;exact⟨k+1,r,by lia,w⟩
  cases C with
  |none=>exact up h
  |some C=>
   rcases Qqy.mp h with rfl|h
   ·exact⟨0,_,rfl,rfl,rfl,rfl⟩
   ·exact up h
abbrev Bd(r:Rw):Prop:=∀(kV doc pm:Y8) (an:Y3 Y7) (cdv ct:Y8) (us:L Y8),us.length=(argN r.2.2.2.1).length->bindArgs (PySem.W.fnOf r.2.1 r.2.2.1 (qqi r.2.2.2.1) (qzu r.2.2.2.1) (qza r.2.2.2.1) .none kV doc pm an cdv ct) ⟨us,[]⟩=pure ((argN r.2.2.2.1).zip us)
inductive RwK (K:Qqq):Rw->Prop
 |fn {x:Y5}{st:Stmt}{o:Orc}{f:Y7}{od an:Y3 Y7}{sl:Array (Y3 Y8)}{oc kV dc pm cd ct:Y8}(a:Qxt K mainGlobals x=Y (Y (.ref f))) (l:K.lookup f=Y ⟨oc,od,.func (PySem.W.fnOf x x (qqi st) (qzu st) (qza st) .none kV dc pm an cd ct),sl⟩) (c:PySem.W.codeIn K cd x=Z) (k:Qzg K (.ref f)=Z):RwK K (J,x,x,st,o)
 |me {C:Y7}{m x:Y5}{st:Stmt}{o:Orc}{f:Y7}{od an:Y3 Y7}{sl:Array (Y3 Y8)}{oc kV dc pm cd ct:Y8}(a:PySem.W.findIn K (.ref C) m=Y (Y (.ref f))) (fn:PySem.W.isFn K (.ref f)=Z) (l:K.lookup f=Y ⟨oc,od,.func (PySem.W.fnOf m x (qqi st) (qzu st) (qza st) .none kV dc pm an cd ct),sl⟩) (c:PySem.W.codeIn K cd x=Z) (k:Qzg K (.ref f)=Z):RwK K (Y C,m,x,st,o)
noncomputable def rwOk(r:Rw):Bool:=scOk r.2.2.2.1&&(r.1.isNone||(qgp r.2.2.1).not)
def qf2{K:Qqq}(X:K.In h)(G:h.Ns mainGlobals mg)(d:glo.ms=msT 0 t)(hs:∀r∈t,RwK K r)(hb:∀r∈t,Bd r)(hc:t.all rwOk=Z)(f)(x)(e:(t.map (·.2.2.1))[f]?=Y x):FText K mg (fnsT (t.map (·.2.2.1)) glo t) (t.map (·.2.2.1)) glo f x:=by
 rw[Qqb]at e;obtain⟨r,hr,rfl⟩:=mD e;have i:=Qqm hr;have g:(fnsT (t.map (·.2.2.1)) glo t)[f]?=Y (trFn (orc r.2.2.2.2) (t.map (·.2.2.1)) glo r.2.2.2.1):=by
  unfold fnsT;rw[Qqb,hr]
  rfl
 have d:∀C m,(f,C,m)∈glo.ms->r.1=Y C/\r.2.1=m:=λC m w=>by
  rw[d]at w;obtain⟨k,r',e,h1,h2⟩:=ms_mem w;obtain rfl:f=k:=e.trans (Qjx k);cases hr.symm.trans h1;exact h2
 refine aDk (Qzj.mp hc r i) λh1 h2=>?_;have b:=hb r i;have s:=qdx h1
 cases hs r i with
 |fn a l c k=>exact⟨_,_,_,_,_,_,_,g,qwn l c k,⟨λ_=>Qx3 X G a,λC m w=>nomatch (d C m w).1⟩,(qwn l c k).binds b,s,qvq (qy9 30) 12 _,rfl,rfl⟩
 |@me C m x st o f p an sl q kV dc n u ct a fn l c k=>
  refine⟨_,_,_,_,_,_,_,g,qwn l c k,⟨λz=>?_,λC m w=>?_⟩,(qwn l c k).binds b,s,qvq (qy9 30) 12 _,rfl,rfl⟩
  ·have h2:=h2;rw[z]at h2;cases h2
  ·obtain⟨e,j⟩:=d C m w;cases e;cases j;exact⟨a,fn,k⟩
structure Vof (K:Qqq) (u:Y8) (d:D):Prop where
 ex:∃v,RelV v u/\∀m H,IsD K m H d v
structure Vsf (K:Qqq) (us:L Y8) (ds:L D):Prop where
 ex:∃vs,Vals vs us/\∀m H,IsDs K m H ds vs
structure Enf (prm:Qp) (K:Qqq) (es:L Q2) (ks:L Y5) (ds:L D):Prop where
 ex:∃us vs,EntOk prm es ks us/\Vals vs us/\∀m H,IsDs K m H ds vs
def vInt{K:Qqq}:Vof K (.int i t) (.int i):=⟨.int _,⟨_,rfl⟩,λm H=>mkInt _⟩
def vStr{K:Qqq}:Vof K (.str s t) (.str s):=⟨.str _,⟨_,rfl⟩,λm H=>mkStr _⟩
def vNil{K:Qqq}:Vsf K [] []:=⟨[],.nil,λ_ _=>qqy⟩
def vCons{K:Qqq}:Vof K u d->Vsf K us ds->Vsf K (u::us) (d::ds)
 |⟨v,a,b⟩,⟨vs,c,e⟩=>⟨v::vs,.cons a c,λm H=>qzo (b m H) (e m H)⟩
def vTup{K:Qqq}{gd:Y3 Y7}(h:K.lookup a=Y ⟨.type "tuple",gd,.seq vs.toArray e,b⟩)(q:Vsf K vs ds)(n:Nat.ble vs.length sizeLine=Z):Vof K (.ref a) (.tup ds):=by
 obtain⟨vs,c,d⟩:=q;exact⟨.ref _,rfl,λm H=>qxb (.inr ⟨_,_,_,h,rfl,rfl,Nat.le_of_ble_eq_true n,c⟩) (d m H)⟩
def eNil{K:Qqq}:Enf a K [] [] []:=⟨[],[],.nil,.nil,λ_ _=>qqy⟩
def eCons{K:Qqq}:Vof K u d->Enf g K es ks ds->Enf g K (⟨PyData.keyHash g k,.str k t,u⟩::es) (k::ks) (d::ds)
 |⟨v,a,b⟩,⟨us,vs,e,c,f⟩=>⟨_,v::vs,.cons e,.cons a c,λm H=>qzo (b m H) (f m H)⟩
inductive GlK (K:Qqq) (q:Y5×D):Prop
 |mk {v:Y8}(g:Qxt K mainGlobals q.1=Y (Y v)) (h:Vof K v q.2):GlK K q
inductive GdK (prm:Qp) (K:Qqq) (q:Y5×L Y5×L D):Prop
 |mk {a:Y7}{es:L Q2}{ep:Y0}(g:Qxt K mainGlobals q.1=Y (Y (.ref a))) (l:K.lookup a=Y { cls:=.type "dict",data:=.dict es.toArray ep }) (h:Enf prm K es q.2.1 q.2.2) (n:(a==Qh)=Y6):GdK prm K q
noncomputable def gloOk(g:Glo):Bool:=(g.ats.all λq=>g.cl.any λz=>z.2==q.1)&&g.ds.all λq=>ndB q.2.1
def glo_mo{K:Qqq}(X:K.In h)(G:h.Ns mainGlobals mg)(hc:gloOk glo=Z)(r:∀q∈glo.ds,GdK prm K q)(p:∀q∈glo.cs,GlK K q)(j:∀q∈glo.cl,ClK K q.1 q.2)(o:∀q∈glo.ats,PySem.W.findIn K (.ref q.1) q.2=Y J)(z:∀x∈bNm,Qxt K mainGlobals x=Y J):Mo K mg glo prm:=by
 refine aDk hc λc1 c2=>⟨λs C i=>(j _ i).mo X G,λC f i=>⟨?_,o _ i⟩,λx ks ds i=>?_,λx d i=>?_,λx i=>PySem.W.mg_none_of X G (z x i)⟩
 ·obtain⟨y,m,e⟩:=Qx5.mp (Qzj.mp c1 _ i);have e:=eq_of_beq e;subst e;exact(j _ m).cls
 ·cases r _ i with
  |mk g l q n=>
   obtain⟨k,vs,e,c,d⟩:=q.ex;exact⟨_,Qx3 X G g,⟨k,vs,_,_,l,e,c,d⟩,qai (Qzj.mp c2 _ i),n⟩
 ·cases p _ i with
  |mk g q=>
   obtain⟨v,a,b⟩:=q.ex;exact⟨_,v,Qx3 X G g,a,b⟩
def law_mk{l:PySem.W.OpenLaw}{K:Qqq}{st:Stmt}(X:K.In h)(G:h.Ns mainGlobals mg)(d:mg x=Y (.ref e))(hi:t[i]?=Y (J,x,x,st,o))(m:argN st=[y])(p:glo.ms=msT 0 t)(hb:∀r∈t,Bd r)(hc:(t.all rwOk&&gloOk glo)=Z)(ok:∀ns:L B,ns.length<=63->∃st',M.callD (fnsT (t.map (·.2.2.1)) glo t) (n+1) i [.lst (ns.map D.int)] []=Y (.bl Z,st'))(hs:∀r∈t,RwK K r)(E:∀q∈glo.ds,GdK w.params K q)(C:∀q∈glo.cs,GlK K q)(A:∀q∈glo.cl,ClK K q.1 q.2)(u:∀q∈glo.ats,PySem.W.findIn K (.ref q.1) q.2=Y J)(z:∀x∈bNm,Qxt K mainGlobals x=Y J):∃fd:Qo,(∀(s:Qz) (v:Y8),BindsTo s fd ⟨[v],[]⟩ [(y,v)])/\∀base:Heap,K.In base->base.Ns mainGlobals mg->FnOk l.prog w K mg base CX0 (2*(n+1)) e fd [y] (qlj K):=by
 refine aDk hc λc1 c2=>?_;have f:=glo_mo X G c2 E C A u z;have T:=qf2 X G p hs hb c1;have j:=Qqm hi;have b:=hb _ j;have s:=qdx (aD (Qzj.mp c1 _ j)).1
 cases hs _ j with
 |fn a g c k=>
  cases d.symm.trans (Qx3 X G a);have F:=λbase=>(qiy (P:=l.prog) (base:=base) (tab_ok T f _) f (by unfold fnsT; rw[Qqb,hi]; rfl) (qwn g c k) s (qvq (qy9 30) 12 _) rfl rfl).imp (law_sp ok);have b:=b;dsimp only[Bd]at b;rw[m]at F b;exact⟨_,λs v=>.of_eq (b _ _ _ _ _ _ [v] rfl),λbase _ _=>F base⟩
end MS
end
open M.D renaming int->O,loc->Y1,tup->Y9,lst->Yc
open M.Ya renaming lst->Y4
open M.E renaming var->Yd
section
namespace K18
open PySem L2 MS
open M (D Fn)
noncomputable abbrev tF(x:Y5)(i:Y0)(l:Orc):Rw:=(J,x,x,top i,l)
noncomputable abbrev tM(C:Y7)(m x:Y5)(i j:Y0)(l:Orc):Rw:=(Y C,m,x,cb (top i) j,l)
noncomputable def tab:L Rw:=[tF "inside" 14 [],
 tF "has_one" 15 [(1,[27015052])],
 tF "can_part" 16 [],
 tF "parted" 17 [],
 tF "counted" 20 [],
 tF "through" 21 [(1,[50011030])],
 tM 191 "__init__" "Claim.__init__" 23 0 [(388,[55008018,56008019,57008017,58008017,59008019,60008018])],
 tM 191 "piece" "Claim.piece" 23 1 [(388,[63042051,63054063,64008020,64023034])],
 tM 191 "state" "Claim.state" 23 3 [(388,[71011021,73017026,75011022])],
 tM 273 "__init__" "Claims.__init__" 24 0 [(552,[81008017,82008017,83008016])],
 tM 273 "names" "Claims.names" 24 1 [(552,[86020029])],
 tM 273 "named" "Claims.named" 24 2 [(2,[89011032,91015030]),(552,[89023032,91015024])],
 tM 273 "standing" "Claims.standing" 24 3 [(552,[94033041,94045054]),(2,[94045060]),(388,[94045071])],
 tM 273 "stake" "Claims.stake" 24 4 [(552,[97008017,97059068,98008037]),(2,[97008022]),(1,[97070075])],
 tM 273 "vest" "Claims.vest" 24 5 [(552,[101016025,104012020]),(2,[101016031]),(388,[102011027,102054066,103012024])],
 tM 273 "vest_all" "Claims.vest_all" 24 6 [(553,[107020032]),(552,[108012042])],
 tM 273 "change" "Claims.change" 24 7 [(2,[112011032,114016031]),(552,[112023032,114016025,118019039,121033042]),(388,[115011027,120012022,121012022,121044054,123012023,125012023])],
 tM 273 "part" "Claims.part" 24 8 [(552,[129016025,134008017,136012020,136028036]),(2,[129016034,134008022]),(388,[130024036,133008020,134025056,135011023])],
 tF "bounds" 34 [],
 tF "fits" 35 [],
 tF "all_fit" 36 [(1,[160015079]),(2,[160028039])],
 tF "is_cell" 37 [(1,[162040072])],
 tF "good_steps" 38 [(1,[164040081])],
 tF "good_outcrops" 39 [(1,[168015059])],
 tF "sound_vein" 40 [],
 tF "numbers_agree" 41 [],
 tF "sound" 42 [(1,[184011049])],
 tF "check_district" 66 [],
 tF "check_day" 67 [],
 tM 642 "__init__" "Field.__init__" 68 0 [(1290,[263008019,264008017,265008016,266008018,267008019,268008019,269008016,270008018]),(4,[269019021])],
 tM 642 "enter" "Field.enter" 68 1 [(1290,[274021032,276018026,278008016,279015032])],
 tM 642 "answer" "Field.answer" 68 2 [(1290,[283019040,285019040,287019041,289019039,291019039,292015026,292034042]),(552,[292015049])],
 tM 642 "enter_vein" "Field.enter_vein" 68 3 [(1290,[295008018,295019027,296008019,296029037]),(2,[295008028]),(552,[296008047])],
 tM 642 "enter_join" "Field.enter_join" 68 4 [(2,[302011033,302037060,306011030,308008025]),(1290,[302023033,302050060,306019030,308008019])],
 tM 642 "enter_stake" "Field.enter_stake" 68 5 [(2,[313008048,314028044]),(1290,[313020030,314028038,315008019,315026034]),(552,[315008065])],
 tM 642 "today" "Field.today" 68 11 [(1290,[345015023])],
 tM 642 "size" "Field.size" 68 12 [(1290,[348015026])],
 tM 642 "term" "Field.term" 68 13 [(1290,[351015024])],
 tM 642 "veins" "Field.veins" 68 14 [(1290,[354020030])],
 tM 642 "claims" "Field.claims" 68 15 [(1290,[357015026]),(552,[357015034])],
 tM 642 "vein" "Field.vein" 68 16 [(2,[360011033,362015031]),(1290,[360023033,362015025])],
 tM 642 "joined" "Field.joined" 68 17 [(2,[365011033]),(1290,[365023033,367015026])],
 tM 642 "claim" "Field.claim" 68 18 [(1290,[370016027]),(552,[370016039]),(388,[371016027,371029041,371043053,371055067,371069080])],
 tM 642 "state" "Field.state" 68 19 [(1290,[374015026,374045053]),(552,[374015038]),(388,[374015054])],
 tM 642 "years" "Field.years" 68 20 [(1290,[377020031]),(552,[377020043]),(388,[377020048])],
 tM 642 "standing" "Field.standing" 68 21 [(1290,[380015026,380036044]),(552,[380015045])],
 tM 642 "entries" "Field.entries" 68 22 [(1290,[383020030])],
 tF "_law_draw" 70 [],
 tF "_law_same" 71 [(1,[407024118,407025077])],
 tF "_law_size" 72 [(1,[416017101,417017111,417030111])],
 tF "_law_term" 73 [(1,[421011085])],
 tF "_law_rect" 74 [(1,[423013127,423020126,424013131,424020130])],
 tF "_law_steps" 75 [(1,[427017125,427018039])],
 tF "_law_outs" 76 [(1,[433072085])],
 tF "_law_who" 77 [(1,[439054073])],
 tF "_law_pick" 78 [],
 tF "_law_vein" 79 [(1,[445075124])],
 tF "_law_claim_fact" 80 [(1,[453011129])],
 tF "_law_fact" 81 [(1,[456017100,457017111])],
 tF "_law_in" 82 [],
 tF "_law_model" 83 [(2,[470004028,471004028,472004029])],
 tF "_law_state" 84 [(2,[475017042,475017053,478007029]),(1,[480011033])],
 tF "_law_vest" 85 [(2,[482017042,482017053,484024046,485008030]),(1,[483007045,483068135])],
 tF "_law_standing" 86 [(2,[487039061]),(1,[487065103])],
 tF "_law_enter_part" 87 [(2,[489015037,490015040,490015059,498004029,498004039,500008030,500038060])],
 tF "_law_enter_claim" 88 [(2,[503007057,503032057,505017042,505017061,511024046,511049072,512029051,516024046]),(1,[506007053])],
 tF "_law_enter_join" 89 [(2,[519007056,519032056,519060109,519085109,523007052,523028052,525004028,525004047])],
 tF "_law_enter" 90 [(2,[528004026,534008032,534008042,535032057,538008033,538008043,538097120,539037061,540049073,540049089]),(1,[535025058,539030062])],
 tF "_law_due" 91 [(1,[543017049,544017050,548032072,549026064,551028058]),(2,[543024048,544024049,545021043,545045068,545070093,546026050,546026066,547026050,548032057,548032068,550026051,550026062,551060083])],
 tF "_law_look" 92 [(1291,[553017035,554017036,559027054,560027054,561029050,561052072]),(1290,[555022040,555042059,555061078,556027058,557027060,558027054]),(1,[556026092,557026094,558026083,559026083,560026083,561028073])],
 tF "_law_pieces" 93 [],
 tF "_law_parting" 94 [(1291,[569017036,571018045,574025044,582059086,584025046,586022049]),(1290,[570018045,572015036,573007049,574073100,579022049]),(1,[571017074,574015057,574062142,574072129,579011117,579021091,579067090,579080090,579093116,579106116,584015057,586021091,586067090,586080090,586093127,586106127])],
 tF "_law_parts_fact" 95 [(1,[589017111])],
 tF "law" 96 [(1290,[608012054]),(1,[611021042])]]
noncomputable def names:L Y5:=tab.map (·.2.2.1)
noncomputable def glo:Glo:=⟨[("COINS",.tup [.int 1,.int 1000000]),("DAYS",.tup [.int 1,.int 400]),("DEPTHS",.tup [.int 0,.int 12]),("FOLK",.tup [.int 1,.int 40]),("LEFT",.int 0),("LENGTHS",.tup [.int 1,.int 24]),("LINES",.tup [.int 1,.int 23]),("LOW",.int 3),("MOST_COLUMNS",.int 16),("RIGHT",.int 2),("SIDES",.tup [.int 0,.int 1]),("STEPS",.tup [.int 0,.int 4]),("TERMS",.tup [.int 1,.int 400]),("TOP",.int 1)],[("ASKS",["join","stake","work","sell","part","give","dig","pay"],[.tup [.str "day",.str "day",.str "below"],.tup [.str "folk",.str "x",.str "y",.str "x",.str "y"],.tup [.str "day"],.tup [.str "day",.str "folk"],.tup [.str "day",.str "side",.str "line",.str "folk"],.tup [.str "day"],.tup [.str "folk",.str "x",.str "y",.str "x",.str "y",.str "floor",.str "coins"],.tup [.str "folk",.str "folk",.str "coins"]])],msT 0 tab,[("Claim",191),("Claims",273),("Field",642)],[(191,"days"),(191,"given"),(191,"ground"),(191,"last"),(191,"owner"),(191,"vested"),(273,"book"),(273,"row"),(273,"year"),(642,"day"),(642,"debts"),(642,"dug"),(642,"extent"),(642,"found"),(642,"joints"),(642,"staked"),(642,"year")]⟩
noncomputable def fns:L Fn:=fnsT names glo tab
end K18
end
section
namespace K18
open PySem (Str)
open M
noncomputable abbrev sO(x:String):D:=.str (Str.ofString x)
structure Cl where
 nm:B
 j:Y0
 o:B
 g:B×B×B×B
 ds:L B
 la:B
 v:Y3 B
 gv:Y3 B
noncomputable def oD:Y3 B->D
 |none=>.non
 |some i=>.int i
noncomputable def rD(g:B×B×B×B):D:=.tup [.int g.1,.int g.2.1,.int g.2.2.1,.int g.2.2.2]
noncomputable def Cl.cel(c:Cl)(x:D):Ya:=.obj 191 [("owner",.int c.o),("ground",rD c.g),("days",x),("last",.int c.la),("vested",oD c.v),("given",oD c.gv)]
noncomputable abbrev Cl.cell(c:Cl):Ya:=c.cel (.loc (c.j+8))
noncomputable def Cl.dl(c:Cl):Ya:=.lst Z (c.ds.map .int)
structure Zt where
 s:D
 dg:L (D×D)
 es:L D
noncomputable def FS(sz:Zt)(T d:B)(fo jo bo:L (D×D))(ro:L D)(rest:Y2):Y2:=
 .obj 642 [("extent",sz.s),("year",.int T),("day",.int d),("found",.loc 1),("joints",.loc 2),("staked",.loc 3),("dug",.loc 6),("debts",.loc 7)]::.dic Z fo::.dic Z jo::.obj 273 [("year",.int T),("book",.loc 4),("row",.loc 5)]::.dic Z bo::.lst Z ro::.dic Z sz.dg::.lst Z sz.es::rest
def isN(h:o=J):isNon (oD o)=true:=by rw[h]; rfl
def isS(h:o=Y x):isNon (oD o)=false:=by rw[h]; rfl
def nnN(h:o=J):(!isNon (oD o))=false:=by rw[h]; rfl
def nnS(h:o=Y x):(!isNon (oD o))=true:=by rw[h]; rfl
section
variable {sz:Zt}{T d:B}{fo jo bo:L (D×D)}{ro:L D}{rest:Y2}
noncomputable def stW(c:Cl)(day:B):String:=if c.gv.isSome then "given" else if c.la<day then "fallen" else if c.v.isNone then "unvested" else "stands"
def qc5(m){S:Y2}(c)(day)(h:S[p]?=Y (c.cel y)):callD fns (m+1) 8 [Y1 p,O day] S=Y (sO (stW c day),S):=by
 unfold stW
 cases hg:c.gv with
 |some x=>
  exact qzz 0 [] 1 (λq=>_/\_/\q) [.r (c.cel y),.b Z] ⟨h,nnS hg,rfl⟩
 |none=>
  by_cases a:c.la<day
  ·rw[Z2 a];exact qzz 0 [] 1 (λq=>_/\_/\_/\_/\q) [.r (c.cel y),.b Y6,.r (c.cel y),.b Z] ⟨h,nnN hg,h,Zs a,rfl⟩
  ·rw[Z1 a]
   cases hv:c.v with
   |none=>exact qzz 0 [] 1 (λq=>_/\_/\_/\_/\_/\_/\q) [.r (c.cel y),.b Y6,.r (c.cel y),.b Y6,.r (c.cel y),.b Z] ⟨h,nnN hg,h,Zu a,h,isN hv,rfl⟩
   |some x=>exact qzz 0 [] 1 (λq=>_/\_/\_/\_/\_/\_/\q) [.r (c.cel y),.b Y6,.r (c.cel y),.b Y6,.r (c.cel y),.b Y6] ⟨h,nnN hg,h,Zu a,h,isS hv,rfl⟩
def qq1(m)(c)(day)(h:rest[c.j+1]?=Y c.cell):callD fns (m+1) 8 [Y1 (c.j+9),O day] (FS sz T d fo jo bo ro rest)=Y (sO (stW c day),FS sz T d fo jo bo ro rest):=qc5 m c day h
end
noncomputable def cD(p:B×B):D:=.tup [.int p.1,.int p.2]
noncomputable def inB(g:B×B×B×B)(p:B×B):Bool:=decide (g.1<=p.1)&&decide (p.1<=g.2.2.1)&&(decide (g.2.1<=p.2)&&decide (p.2<=g.2.2.2))
def qej(hf:f=0\/f=59)(m)(st)(g)(p):callD fns (m+1) f [rD g,cD p] st=Y (.bl (inB g p),st):=by
 unfold inB
 by_cases h1:g.1<=p.1
 ·by_cases h2:p.1<=g.2.2.1
  ·by_cases a:g.2.1<=p.2
   ·by_cases b:p.2<=g.2.2.2
    ·rw[Zs h1,Zs h2,Zs a,Zs b];rcases hf with rfl|rfl<;>exact qzz 0 [] 1 (λq=>_/\_/\_/\_/\q) [.b Z,.b Z,.b Z,.b Z] ⟨Zs h1,Zs h2,Zs a,Zs b,rfl⟩
    ·rw[Zs h1,Zs h2,Zs a,Zu b];rcases hf with rfl|rfl<;>exact qzz 0 [] 1 (λq=>_/\_/\_/\_/\q) [.b Z,.b Z,.b Z,.b Y6] ⟨Zs h1,Zs h2,Zs a,Zu b,rfl⟩
   ·rw[Zs h1,Zs h2,Zu a,Bool.false_and];rcases hf with rfl|rfl<;>exact qzz 0 [] 1 (λq=>_/\_/\_/\q) [.b Z,.b Z,.b Y6] ⟨Zs h1,Zs h2,Zu a,rfl⟩
  ·rw[Zs h1,Zu h2];rcases hf with rfl|rfl<;>exact qzz 0 [] 1 (λq=>_/\_/\q) [.b Z,.b Y6] ⟨Zs h1,Zu h2,rfl⟩
 ·rw[Zu h1];rcases hf with rfl|rfl<;>exact qzz 0 [] 1 (λq=>_/\q) [.b Y6] ⟨Zu h1,rfl⟩
def qex(m)(st)(g)(p):callD fns (m+1) 0 [rD g,cD p] st=Y (.bl (inB g p),st):=qej (.inl rfl) m st g p
theorem asB:∀bs:L Yb,asBools (bs.map .bl)=Y bs
 |[]=>rfl
 |b::r=>by show(asBools (r.map .bl)).map (b::·)=_; rw[asB r]; rfl
def nlB(bs:L Yb):noLocs (bs.map .bl)=true:=qz9 λ_ _=>rfl
def qyb(h:τ[i]?=Y (Y q))(a:rowAt st q=Y ds):∃s,src (RL c) τ st (.var i)=Y (s,st)/\(∀i,s.at st i=Y ds[i]?)/\s.size st=ds.length:=by
 have e:=qjk c τ st (.var i) (q,st) (by show(match τ[i]? with|some (Y d)=>Y (d,st)|_=>J)=_; rw[h])
 cases q with
 |tup xs=>
  cases a;exact⟨.tup ds,by show((RL c).ev τ st (.var i)).bind _=_; rw[e]; rfl,λi=>rfl,rfl⟩
 |lst xs=>
  have a:=a;exact⟨.lst (.lst xs),by show((RL c).ev τ st (.var i)).bind _=_; rw[e]; rfl,qxp a,qz5 a⟩
 |loc l=>
  have a:seqAt st (Y1 l)=Y ds:=a;exact⟨.lst (Y1 l),by show((RL c).ev τ st (.var i)).bind _=_; rw[e]; show(seqAt st (Y1 l)).map _=_; rw[a]; rfl,qxp a,qz5 a⟩
 |_=>cases a
def qz0{α:Type}(xs:L α)(f g:α->D)(h:τ[i]?=Y (Y q))(j:rowAt st q=Y (xs.map f))(l:xs.length<lim)(a:inner sr τ=J::rst)(m:∀x∈xs,(RL c).ev (Y (f x)::rst) st elt=Y (g x,st)):
  stepEv (RL c) τ st (.comp (.var 0) (Yd i) J elt sr)=Y (Y1 st.length,st++[Y4 Z (xs.map g)]):=by
 obtain⟨s,h1,h2,n⟩:=qyb h j;refine qa9 h1 h2 n a (by simp) (by simpa using l) λk d e hd hg=>?_;rw[Qqb]at hd hg;obtain⟨x,b,rfl⟩:=Qqi.mp hd;rw[b]at hg;cases hg;exact m x (Qqm b)
noncomputable def hasB(g:B×B×B×B)(ps:L (B×B)):Bool:=ps.any (inB g)
def has_ok(m)(a:rowAt st q=Y (ps.map cD))(b:ps.length<lim):callD fns (m+2) 1 [rD g,q] st=Y (.bl (hasB g ps),st):=by
 have h1:=qz0 (c:=callD fns (m+1)) (τ:=[Y (rD g),Y q]) (i:=1) (elt:=.call 0 [Yd 1,Yd 0]) (sr:=[J,Y 0]) ps cD (λp=>.bl (inB g p)) rfl a b rfl λp _=>qzb 0 [0] 1 (λq=>_/\q) [.c (.bl (inB g p),st)] ⟨qex m st g p,rfl⟩;have e:ps.map (λp=>D.bl (inB g p))=(ps.map (inB g)).map .bl:=by rw[Qqf]; rfl
 rw[e]at h1;have d:bfun st .any [Yc ((ps.map (inB g)).map .bl)]=Y (.bl (hasB g ps),st):=by
  show(asBools _).map _=_;rw[asB];simp[hasB,List.any_map,Function.comp_def]
 exact qzz 0 [] 2 (λq=>_/\_/\_/\q) [.c (Y1 st.length,st++[Y4 Z ((ps.map (inB g)).map .bl)]),.l ((ps.map (inB g)).map .bl),.c (.bl (hasB g ps),st)] ⟨h1,qzv (st:=st) (nlB (ps.map (inB g))),d,rfl⟩
def gl{c:Ya}:(st++[c])[st.length]?=Y c:=by simp
def sl{c:Ya}:(st++[c]).set st.length c'=st++[c']:=by simp
def for_of(P:Y0->Sl->Y2->Prop)(h:τ[i]?=Y (Y q))(r:P 0 τ st)(n:∀k a st',P k a st'->rowAt st' q=Y ds)(hs:∀k a st' d,ds[k]?=Y d->P k a st'->∃b f,((setT t d a).bind λm=>(RL c).ex m st' body)=Y (.nx b,f)/\P (k+1) b f):
  ∃a st',stepEx (RL c) τ st (.forr t (.var i) body)=Y (.nx a,st')/\P ds.length a st':=by
 have e:=qjk c τ st (.var i) (q,st) (by show(match τ[i]? with|some (Y d)=>Y (d,st)|_=>J)=_; rw[h]);have g:∀s:Src,src (RL c) τ st (.var i)=Y (s,st)->s.size st=ds.length->(∀k a st',P k a st'->s.at st' k=Y ds[k]?)->∃a st',stepEx (RL c) τ st (.forr t (.var i) body)=Y (.nx a,st')/\P ds.length a st':=λs h1 h2 u=>by
  obtain⟨a,st',p,o⟩:=qvc P (λ_ _=>False) r h2 u (λk a st' d hd j=>by
   obtain⟨b,f,p,o⟩:=hs k a st' d hd j
   exact .inl ⟨b,f,.inl p,o⟩)
  refine⟨a,st',?_,o.resolve_right id⟩;show(src (RL c) τ st (.var i)).bind _=_;rw[h1];exact p
 have h1:=n 0 τ st r
 cases q with
 |tup xs=>
  cases h1;exact g (.tup ds) (by show((RL c).ev τ st (.var i)).bind _=_; rw[e]; rfl) rfl λk a st' _=>rfl
 |lst xs=>
  exact g (.lst (.lst xs)) (by show((RL c).ev τ st (.var i)).bind _=_; rw[e]; rfl) (qz5 h1) λk a st' j=>qxp (show seqAt st' (.lst xs)=_ from n k a st' j) k
 |loc l=>
  have h1:seqAt st (Y1 l)=Y ds:=h1;exact g (.lst (Y1 l)) (by show((RL c).ev τ st (.var i)).bind _=_; rw[e]; show(seqAt st (Y1 l)).map _=_; rw[h1]; rfl) (qz5 h1) λk a st' j=>qxp (show seqAt st' (Y1 l)=_ from n k a st' j) k
 |_=>cases h1
def qyn(h:ks≠[]):idxD (st++[.lst w (ks.map O)]) (Y1 st.length) (O (-1))=Y (O (ks.getLast h)):=by
 have a:=Qxm.mpr h;show(seqAt (st++[.lst w (ks.map O)]) (Y1 st.length)).bind _=_;have:seqAt (st++[.lst w (ks.map O)]) (Y1 st.length)=Y (ks.map O):=by show listAt _ _=_; unfold listAt; rw[gl]
 rw[this];show atI (ks.map D.int) (-1)=_;unfold atI ixN;rw[Z1 (by decide),Z2 (by simp; lia)];simp only[oBs,Qqx];rw[show(-1+(ks.length:B)).toNat=ks.length - 1 by lia,Qqb,List.getLast_eq_getElem,Qqo (by lia)]
 rfl
noncomputable def chS(T:B)(ks:L B)(x:B):L Int:=if h:ks=[] then [x] else if x<=ks.getLast h+T then ks++[x] else ks
def chS_ne(T)(ks)(x):chS T ks x≠[]:=by
 unfold chS
 split
 ·exact List.cons_ne_nil _ _
 ·rename_i h
  split
  ·simp
  ·exact h
theorem qif{T:B}:∀{xs ks},xs≠[]\/ks≠[]->xs.foldl (chS T) ks≠[]
 |[],_,h=>h.resolve_left λz=>z rfl
 |x::r,ks,_=>qif (xs:=r) (.inr (chS_ne T ks x))
def qcx(m){T:B}{xs:L B}(y:xs.length<1000)(v:∀r,rowAt (st++r) q=Y (xs.map O)):callD fns (m+1) 4 [O T,q] st=Y (Y1 st.length,st++[Y4 Z ((xs.foldl (chS T) []).map O)]):=by
 obtain⟨f,st',h1,k,o,ks,rfl,rfl,u,z⟩:=for_of (c:=callD fns m) (i:=1) (t:=.var 3) (body:=[.ite (.or (.not (.var 2)) (.cmp .LtE (.var 3) (.bin .Add (.idx (.var 2) (.neg (.lit (O 1)))) (.var 0)))) [.expr (.meth (.var 2) .append [.var 3])] []])
  (λk f st'=>k<=xs.length/\∃o ks,f=[Y (O T),Y q,Y (Y1 st.length),o]/\st'=st++[Y4 Z ((ks:L B).map O)]/\ks=(xs.take k).foldl (chS T) []/\ks.length<=k)
  rfl ⟨Qz4 _,J,[],rfl,rfl,rfl,Qqv _⟩ (λk f st' h=>by obtain⟨_,o,ks,_,rfl,_⟩:=h; exact v _) (λk f st' d hd h=>by
   obtain⟨hk,o,ks,rfl,rfl,h1,h2⟩:=h;rw[Qqb]at hd;obtain⟨x,n,rfl⟩:=Qqi.mp hd;have j:=(Qqj.mp n).1;have tk:(xs.take (k+1)).foldl (chS T) []=chS T ks x:=by rw[List.take_succ,n,Qx0,<- h1]; rfl
   have g:(ks.map D.int).length<lim:=by simp; unfold lim; lia
   have s:(st++[Ya.lst Z (ks.map O)]).set st.length (Y4 Z (ks.map O++[O x]))=st++[Y4 Z ((ks++[x]).map O)]:=by rw[sl]; simp
   have l:=gl (st:=st) (c:=Y4 Z (ks.map O))
   by_cases e:ks=[]
   ·subst e;exact⟨[Y (O T),Y q,Y (Y1 st.length),Y (O x)],(st++[Ya.lst Z []]).set st.length (Y4 Z [O x]),qqx 0 [] 0 (λq=>_/\_/\_/\_/\q) [.r (Y4 Z []),.k,.r (Y4 Z []),.r (Y4 Z []),.b Z] ⟨l,l,l,Zs g,rfl⟩,j,Y (O x),[x],rfl,sl,tk.symm,by simp⟩
   ·have p:(!(ks.map D.int).isEmpty)=true:=by cases ks with|nil=>exact absurd rfl e|cons a b=>rfl
    by_cases hc:x<=ks.getLast e+T
    ·exact⟨[Y (O T),Y q,Y (Y1 st.length),Y (O x)],(st++[Ya.lst Z (ks.map O)]).set st.length (Y4 Z (ks.map O++[O x])),qqx 0 [] 0 (λq=>_/\_/\_/\_/\_/\_/\_/\q) [.r (Y4 Z (ks.map O)),.b Z,.i (O (ks.getLast e)),.b Z,.r (Y4 Z (ks.map O)),.r (Y4 Z (ks.map O)),.b Z] ⟨l,p,qyn (st:=st) (w:=Z) e,Zs hc,l,l,Zs g,rfl⟩,j,Y (O x),ks++[x],rfl,s,by rw[tk]; unfold chS; rw[dif_neg e,Z2 hc],by simp; lia⟩
    ·exact⟨[Y (O T),Y q,Y (Y1 st.length),Y (O x)],st++[Y4 Z (ks.map O)],qqx 0 [] 0 (λq=>_/\_/\_/\_/\q) [.r (Y4 Z (ks.map O)),.b Z,.i (O (ks.getLast e)),.b Y6] ⟨l,p,qyn (st:=st) (w:=Z) e,Zu hc,rfl⟩,j,Y (O x),ks,rfl,rfl,by rw[tk]; unfold chS; rw[dif_neg e,Z1 hc],by lia⟩)
 rw[Qqx,Qzo]at u;rw[<- u];exact qzz 0 [] 1 (λq=>_/\q) [.s (.nx [Y (O T),Y q,Y (Y1 st.length),o],st++[Y4 Z (ks.map O)])] ⟨h1,rfl⟩
def nlI(ks:L B):noLocs (ks.map O)=true:=qz9 λ_ _=>rfl
noncomputable def thr(T:B)(xs:L B):Int:=(xs.foldl (chS T) []).getLast?.getD 0+T
def qki(m){T:B}(a:xs≠[])(c:xs.length<1000)(b:∀r,rowAt (st++r) q=Y (xs.map O)):callD fns (m+2) 5 [O T,q] st=Y (O (thr T xs),st):=by
 have h2:=qcx m (T:=T) c b;have h1:=qif (T:=T) (xs:=xs) (ks:=[]) (.inl a);unfold thr;generalize xs.foldl (chS T) []=ks at h1 h2;rw[Qjw h1];have e:idxD st (.lst (ks.map O)) (O (-1))=Y (O (ks.getLast h1)):=by
  have:=qyn (st:=[]) (w:=Z) h1;exact this
 exact qzz 0 [4] 2 (λq=>_/\_/\_/\q) [.c (Y1 st.length,st++[Y4 Z (ks.map O)]),.l (ks.map O),.i (O (ks.getLast h1))] ⟨h2,qzv (st:=st) (nlI ks),e,rfl⟩
noncomputable def ik(st:Y2)(C:Y0)(F:L (Y5×D)):Y0->Y2
 |0=>st++[.obj C (F.take 0)]
 |k+1=>(ik st C F k).set st.length (.obj C (F.take (k+1)))
theorem qnz:∀k,ik st C F k=st++[.obj C (F.take k)]
 |0=>rfl
 |k+1=>by show(ik st C F k).set _ _=_; rw[qnz k,sl]
def ik_at(k):(ik st C F k)[st.length]?=Y (.obj C (F.take k)):=by rw[qnz k,gl]
noncomputable def clF(o:B)(g:B×B×B×B)(dl:D)(la:B):L (Y5×D):=[("owner",.int o),("ground",rD g),("days",dl),("last",.int la),("vested",.non),("given",.non)]
def cinit(m)(st)(o la)(g)(dl):callD fns (m+1) 6 [Y1 st.length,O o,rD g,dl,O la] (st++[.obj 191 []])=Y (.non,st++[.obj 191 (clF o g dl la)]):=by
 have h:=λk=>ik_at (st:=st) (C:=191) (F:=clF o g dl la) k;exact qjf 0 [] 1 (.non,ik st 191 (clF o g dl la) 6) (λq=>_/\_/\_/\_/\_/\_/\q) [.r (.obj 191 ((clF o g dl la).take 0)),.r (.obj 191 ((clF o g dl la).take 1)),.r (.obj 191 ((clF o g dl la).take 2)),.r (.obj 191 ((clF o g dl la).take 3)),.r (.obj 191 ((clF o g dl la).take 4)),.r (.obj 191 ((clF o g dl la).take 5))] ⟨h 0,h 1,h 2,h 3,h 4,h 5,by rw[qnz]; rfl⟩
structure InvK (K:Cl->Ya) (Bq:Y0) (rest:Y2) (cs:L Cl):Prop where
 lo:∀c∈cs,Bq<=c.j
 at_:∀c∈cs,rest[c.j]?=Y c.dl/\rest[c.j+1]?=Y (K c)
 pw:cs.Pairwise λa b=>a.j+1<b.j
 ne:∀c∈cs,c.ds≠[]/\c.ds.length<900
 nd:(cs.map (·.nm)).Nodup
abbrev Inv:=InvK Cl.cell
noncomputable def qzq(cs:L Cl):L (D×D):=cs.map λc=>(.int c.nm,.loc (c.j+9))
def InvK.inj{Bq:Y0}(h:InvK K Bq rest cs)(g:a∈cs)(hb:b∈cs)(e:a.nm=b.nm):a=b:=by
 have:=h.nd;clear h
 induction cs with
 |nil=>cases g
 |cons c r i=>
  rw[Qqp,Qzy]at this;rcases Qqy.mp g with rfl|f<;>rcases Qqy.mp hb with rfl|d
  ·rfl
  ·exact absurd (Qqk.mpr ⟨b,d,e.symm⟩) this.1
  ·exact absurd (Qqk.mpr ⟨a,f,e⟩) this.1
  ·exact i f d this.2
def qw1(a)(r)(n):dget (qzq (a::r)) (O n)=bif a.nm==n then Y (Y1 (a.j+9)) else dget (qzq r) (O n):=by
 unfold dget qzq;rw[Qqp,Qzv];show Option.map _ (match (a.nm==n) with|true=>_|false=>_)=_;cases a.nm==n<;>rfl
def qen(h:∀c∈cs,c.nm≠n):dget (qzq cs) (O n)=none:=by
 induction cs with
 |nil=>rfl
 |cons c r a=>
  rw[qw1,beq_false_of_ne (h c (.head _))];exact a λc hc=>h c (.tail _ hc)
def qa7(h:c∈cs)(b:(cs.map (·.nm)).Nodup):dget (qzq cs) (O c.nm)=Y (Y1 (c.j+9)):=by
 induction cs with
 |nil=>cases h
 |cons a r d=>
  rw[qw1];rw[Qqp,Qzy]at b;rcases Qqy.mp h with rfl|h'
  ·rw[beq_self_eq_true]; rfl
  ·rw[beq_false_of_ne λe=>b.1 (Qqk.mpr ⟨c,h',e.symm⟩)];exact d h' b.2
def InvK.get{Bq:Y0}(h:InvK K Bq rest cs)(hc:c∈cs):dget (qzq cs) (O c.nm)=Y (Y1 (c.j+9)):=qa7 hc h.nd
def InvK.apart{Bq:Y0}(h:InvK K Bq rest cs)(g:a∈cs)(hb:b∈cs)(e:a.nm≠b.nm):a.j+1<b.j\/b.j+1<a.j:=by
 have:=h.pw;clear h
 induction cs with
 |nil=>cases g
 |cons c r i=>
  rw[Qxb]at this;rcases Qqy.mp g with rfl|f<;>rcases Qqy.mp hb with rfl|d
  ·exact absurd rfl e
  ·exact .inl (this.1 b d)
  ·exact .inr (this.1 a f)
  ·exact i f d this.2
noncomputable def upd(cs:L Cl)(c':Cl):L Cl:=cs.map λx=>if x.nm=c'.nm then c' else x
def qqd(hc:c∈cs)(a:(cs.map (·.nm)).Nodup)(e:c'.nm=c.nm)(j:c'.j=c.j):qzq (upd cs c')=qzq cs:=by
 unfold qzq upd;rw[Qqf];refine Qzb λx f=>?_;show(D.int (if x.nm=c'.nm then c' else x).nm,D.loc ((if x.nm=c'.nm then c' else x).j+9))=_
 by_cases h:x.nm=c'.nm
 ·have g:x=c:=by
   have:∀{l:L Cl},(l.map (·.nm)).Nodup->x∈l->c∈l->x.nm=c.nm->x=c:=λ{l} a f hc e=>by
    induction l with
    |nil=>cases f
    |cons y r i=>
     rw[Qqp,Qzy]at a;rcases Qqy.mp f with rfl|b<;>rcases Qqy.mp hc with rfl|d
     ·rfl
     ·exact absurd (Qqk.mpr ⟨c,d,e.symm⟩) a.1
     ·exact absurd (Qqk.mpr ⟨x,b,e⟩) a.1
     ·exact i a.2 b d
   exact this a f hc (h.trans e)
  rw[Z2 h,e,j,g]
 ·rw[Z1 h]
def qxv:(upd cs c').map (·.nm)=cs.map (·.nm):=by
 unfold upd;rw[Qqf];refine Qzb λx _=>?_;show(if x.nm=c'.nm then c' else x).nm=x.nm
 by_cases h:x.nm=c'.nm
 ·rw[Z2 h,h]
 ·rw[Z1 h]
def InvK.put{Bq:Y0}(h:InvK K Bq rest cs)(hc:c∈cs)(e:c'.nm=c.nm)(g:c'.j=c.j)(hd:c'.ds≠[]/\c'.ds.length<900):InvK K Bq ((rest.set c.j c'.dl).set (c.j+1) (K c')) (upd cs c'):=by
 have lt:=(Qqj.mp (h.at_ c hc).2).1;refine⟨λx f=>?_,λx f=>?_,?_,λx f=>?_,by rw[qxv]; exact h.nd⟩
 ·obtain⟨y,d,rfl⟩:=Qqk.mp f
  by_cases hn:y.nm=c'.nm
  ·rw[Z2 hn,g]; exact h.lo c hc
  ·rw[Z1 hn]; exact h.lo y d
 ·obtain⟨y,d,rfl⟩:=Qqk.mp f
  by_cases hn:y.nm=c'.nm
  ·rw[Z2 hn,g];constructor
   ·rw[Qqa (by lia),Qq2 (by lia)]
   ·rw[Qq2 (by rw[Qzq]; lia)]
  ·rw[Z1 hn];have:=h.at_ y d;rcases h.apart d hc (λz=>hn (z.trans e.symm)) with z|z
   ·exact⟨by rw[Qqa (by lia),Qqa (by lia)]; exact this.1,by rw[Qqa (by lia),Qqa (by lia)]; exact this.2⟩
   ·exact⟨by rw[Qqa (by lia),Qqa (by lia)]; exact this.1,by rw[Qqa (by lia),Qqa (by lia)]; exact this.2⟩
 ·unfold upd;rw[List.pairwise_map];have i:∀y∈cs,(if y.nm=c'.nm then c' else y).j=y.j:=λy d=>by
   by_cases hn:y.nm=c'.nm
   ·rw[Z2 hn,g,h.inj d hc (hn.trans e)]
   ·rw[Z1 hn]
  refine List.Pairwise.imp_of_mem (λ{a b} j hb z=>?_) h.pw;rw[i a j,i b hb];exact z
 ·obtain⟨y,d,rfl⟩:=Qqk.mp f
  by_cases hn:y.nm=c'.nm
  ·rw[Z2 hn]; exact hd
  ·rw[Z1 hn]; exact h.ne y d
def InvK.cell{Bq:Y0}(h:InvK K Bq rest cs)(hc:c∈cs)(e:c'.nm=c.nm)(a:c'.j=c.j)(hd:c'.ds=c.ds):InvK K Bq (rest.set (c.j+1) (K c')) (upd cs c'):=by
 have:=h.put hc e a (hd▸h.ne c hc);have lt:=(Qqj.mp (h.at_ c hc).2).1;have z:rest.set c.j c'.dl=rest:=by
  apply Qjl;intro i
  by_cases hi:c.j=i
  ·subst hi;rw[Qq2 (by lia),(h.at_ c hc).1];unfold Cl.dl;rw[hd]
  ·rw[Qqa hi]
 rwa [z]at this
def InvK.more{Bq:Y0}(h:InvK K Bq rest cs)(r):InvK K Bq (rest++r) cs:=
 ⟨h.lo,λc hc=>⟨by rw[Qqr (Qqj.mp (h.at_ c hc).1).1]; exact(h.at_ c hc).1,by rw[Qqr (Qqj.mp (h.at_ c hc).2).1]; exact(h.at_ c hc).2⟩,h.pw,h.ne,h.nd⟩
def InvK.add{Bq:Y0}(h:InvK K Bq rest cs)(c)(g:c.j=rest.length)(f:∀x∈cs,x.nm≠c.nm)(hd:c.ds≠[]/\c.ds.length<900)(i:Bq<=rest.length):InvK K Bq (rest++[c.dl,K c]) (cs++[c]):=by
 have m:=h.more [c.dl,K c];refine⟨λx d=>?_,λx d=>?_,?_,λx d=>?_,?_⟩
 ·rcases Qqs.mp d with d|d
  ·exact h.lo x d
  ·cases Qqc.mp d; lia
 ·rcases Qqs.mp d with d|d
  ·exact m.at_ x d
  ·cases Qqc.mp d;rw[g];constructor<;>simp
 ·rw[List.pairwise_append];refine⟨h.pw,Qj0 ..,λa e b hb=>?_⟩;cases Qqc.mp hb;have:=(Qqj.mp (h.at_ a e).2).1
  lia
 ·rcases Qqs.mp d with d|d
  ·exact h.ne x d
  ·cases Qqc.mp d; exact hd
 ·rw[Qqd,Qxk];refine⟨h.nd,by simp,λa e b hb=>?_⟩;obtain⟨x,d,rfl⟩:=Qqk.mp e;simp only[Qqp,Qxp,Qqc]at hb;subst hb;exact f x d
def qje(d:∀x∈cs,x.nm≠c.nm):dput (qzq cs) (O c.nm) (Y1 (c.j+9))=qzq (cs++[c]):=by
 unfold dput;have:(qzq cs).any (λp=>eqT p.1 (O c.nm))=false:=by
  rw[Qjf];intro p b;obtain⟨x,a,rfl⟩:=Qqk.mp b;show ¬ (x.nm==c.nm)=Z;simpa using d x a
 rw[this];simp[qzq]
def take_set{Bq:Y0}{rest:Y2}(h:Bq<=i):(rest.set i c).take Bq=rest.take Bq:=by
 apply Qjl;intro k;rw[Qxr,Qxr]
 by_cases hk:k<Bq
 ·rw[Z2 hk,Z2 hk,Qqa (by lia)]
 ·rw[Z1 hk,Z1 hk]
def qk9{R:L Cl}(e:c'.nm=c.nm)(h:((A++c::R).map (·.nm)).Nodup):upd (A++c::R) c'=A++c'::R:=by
 rw[Qqd,Qqp,Qxk,Qzy]at h;have a:∀x∈A,x.nm≠c'.nm:=λx d=>by
  rw[e];exact h.2.2 _ (Qqk.mpr ⟨x,d,rfl⟩) _ (Qq9 ..)
 have b:∀x∈R,x.nm≠c'.nm:=λx d z=>h.2.1.1 (Qqk.mpr ⟨x,d,by rw[z,e]⟩);unfold upd;rw[Qqd,Qqp,Z2 e.symm];have g:A.map (λx=>if x.nm=c'.nm then c' else x)=A:=by
  conv=>rhs; rw[<- Qjb A]
  exact Qzb λx d=>Z1 (a x d)
 have f:R.map (λx=>if x.nm=c'.nm then c' else x)=R:=by
  conv=>rhs; rw[<- Qjb R]
  exact Qzb λx d=>Z1 (b x d)
 rw[g,f]
noncomputable abbrev rowD(ro:L B):L D:=ro.map .int
section
variable {sz:Zt}{T d:B}{fo jo:L (D×D)}{ro:L B}{rest:Y2}{cs:L Cl}{Bq:Y0}
noncomputable abbrev FC(sz:Zt)(T d:B)(fo jo:L (D×D))(cs:L Cl)(ro:L B)(rest:Y2):Y2:=FS sz T d fo jo (qzq cs) (rowD ro) rest
def qzr(c)(day):(stW c day = "unvested"/\c.v=J/\c.gv=J/\day<=c.la)\/(stW c day = "stands"/\c.v≠J/\c.gv=J/\day<=c.la)\/(stW c day = "given"/\c.gv≠J)\/(stW c day = "fallen"/\c.la<day/\c.gv=J):=by
 unfold stW
 cases hg:c.gv with
 |some x=>exact .inr (.inr (.inl ⟨rfl,by simp⟩))
 |none=>
  by_cases a:c.la<day
  ·exact .inr (.inr (.inr ⟨by simp[a],a,rfl⟩))
  ·cases hv:c.v with
   |none=>exact .inl ⟨by simp[a],rfl,rfl,by lia⟩
   |some x=>exact .inr (.inl ⟨by simp[a],by simp,rfl,by lia⟩)
noncomputable def hit(day:B)(ps:L (B×B))(c:Cl):Bool:=decide (stW c day = "unvested")&&hasB c.g ps
noncomputable def vst(day:B)(ps:L (B×B))(c:Cl):Cl:=if hit day ps c then { c with v:=Y day } else c
def qcc(m)(I:Inv Bq rest cs)(hc:c∈cs)(day)(f:rowAt (FC sz T d fo jo cs ro rest) q=Y (ps.map cD))(i:ps.length<lim)(hr:ro.length<1000):
  callD fns (m+3) 14 [Y1 3,O c.nm,O day,q] (FC sz T d fo jo cs ro rest)=Y (.non,if hit day ps c then FC sz T d fo jo cs (ro++[c.nm]) (rest.set (c.j+1) (vst day ps c).cell) else FC sz T d fo jo cs ro rest):=by
 have hs:=qq1 (sz:=sz) (T:=T) (d:=d) (fo:=fo) (jo:=jo) (bo:=qzq cs) (ro:=rowD ro) (m+1) c day (I.at_ c hc).2;have hg:=I.get hc;have b:=has_ok m (g:=c.g) f i;have a:=(I.at_ c hc).2;have no:∀w,stW c day=w->(w = "stands"\/w = "given"\/w = "fallen")->hit day ps c=false:=λw e h=>by
  unfold hit;rw[e];rcases h with rfl|rfl|rfl<;>rfl
 rcases qzr c day with⟨e,h1,h2,j⟩|⟨e,_⟩|⟨e,_⟩|⟨e,_⟩
 ·rw[e]at hs;have hi:hit day ps c=hasB c.g ps:=by unfold hit; rw[e]; rfl
  cases hb:hasB c.g ps with
  |true=>
   rw[hb]at hi b;have hv:vst day ps c={ c with v:=Y day }:=by unfold vst; rw[hi]; rfl
   rw[hi,Z2 rfl,hv];have el:rowD (ro++[c.nm])=rowD ro++[O c.nm]:=by simp
   unfold FC;rw[el];exact qzz 8 [8,1] 3 (λq=>_/\_/\_/\_/\_/\_/\_/\q) [.q (Y (Y1 (c.j+9))),.r c.cell,.c (sO "unvested",FC sz T d fo jo cs ro rest),.r c.cell,.c (.bl Z,FC sz T d fo jo cs ro rest),.r c.cell,.b Z] ⟨hg,a,hs,a,b,a,Zs (show(rowD ro).length<lim by simp; unfold lim; lia),rfl⟩
  |false=>
   rw[hb]at hi b;rw[hi,Z1 (by simp)];exact qzz 8 [8,1] 3 (λq=>_/\_/\_/\_/\_/\q) [.q (Y (Y1 (c.j+9))),.r c.cell,.c (sO "unvested",FC sz T d fo jo cs ro rest),.r c.cell,.c (.bl Y6,FC sz T d fo jo cs ro rest)] ⟨hg,a,hs,a,b,rfl⟩
 ·rw[no _ e (.inl rfl),Z1 (by simp)];rw[e]at hs;exact qzz 8 [8,1] 3 (λq=>_/\_/\_/\q) [.q (Y (Y1 (c.j+9))),.r c.cell,.c (sO "stands",FC sz T d fo jo cs ro rest)] ⟨hg,a,hs,rfl⟩
 ·rw[no _ e (.inr (.inl rfl)),Z1 (by simp)];rw[e]at hs;exact qzz 8 [8,1] 3 (λq=>_/\_/\_/\q) [.q (Y (Y1 (c.j+9))),.r c.cell,.c (sO "given",FC sz T d fo jo cs ro rest)] ⟨hg,a,hs,rfl⟩
 ·rw[no _ e (.inr (.inr rfl)),Z1 (by simp)];rw[e]at hs;exact qzz 8 [8,1] 3 (λq=>_/\_/\_/\q) [.q (Y (Y1 (c.j+9))),.r c.cell,.c (sO "fallen",FC sz T d fo jo cs ro rest)] ⟨hg,a,hs,rfl⟩
def qj9{ds:L D}(P:Y0->Sl->Y2->Prop)(m:src (RL c) τ st it=Y (s,st))(l:s.size st=ds.length)(j:∀k a st',P k a st'->s.at st' k=Y ds[k]?)(n:P 0 τ st)(hs:∀k a st' d,ds[k]?=Y d->P k a st'->∃b e,((setT t d a).bind λf=>(RL c).ex f st' body)=Y (.nx b,e)/\P (k+1) b e):
  ∃a st',stepEx (RL c) τ st (.forr t it body)=Y (.nx a,st')/\P ds.length a st':=by
 obtain⟨a,st',h,g⟩:=qvc P (λ_ _=>False) n l j (λk a st' d hd i=>by
  obtain⟨b,e,h,g⟩:=hs k a st' d hd i
  exact .inl ⟨b,e,.inl h,g⟩)
 refine⟨a,st',?_,g.resolve_right id⟩;show(src (RL c) τ st it).bind _=_;rw[m];exact h
def qzn(day)(ps)(c):(vst day ps c).nm=c.nm/\(vst day ps c).j=c.j/\(vst day ps c).ds=c.ds:=by
 unfold vst;cases hit day ps c<;>exact⟨rfl,rfl,rfl⟩
noncomputable def rvF(K:Cl->Ya)(day:B)(ps:L (B×B))(r:Y2)(c:Cl):Y2:=if hit day ps c then r.set (c.j+1) (K (vst day ps c)) else r
def qil(m)(I:Inv Bq rest cs)(day)(ps)(y:ps.length<lim)(hr:ro.length+cs.length<1000):
  (∀sz:Zt,callD fns (m+4) 15 [Y1 3,O day,.tup (ps.map cD)] (FC sz T d fo jo cs ro rest)=Y (.non,FC sz T d fo jo (cs.map (vst day ps)) (ro++(cs.filter (hit day ps)).map (·.nm)) (cs.foldl (rvF Cl.cell day ps) rest)))/\Inv Bq (cs.foldl (rvF Cl.cell day ps) rest) (cs.map (vst day ps))/\(cs.foldl (rvF Cl.cell day ps) rest).take Bq=rest.take Bq/\(cs.foldl (rvF Cl.cell day ps) rest).length=rest.length:=by
 have f:∀sz:Zt,callD fns (m+4) 15 [Y1 3,O day,.tup (ps.map cD)] (FC sz T d fo jo cs ro rest)=Y (.non,FC sz T d fo jo (cs.map (vst day ps)) (ro++(cs.filter (hit day ps)).map (·.nm)) (cs.foldl (rvF Cl.cell day ps) rest))/\Inv Bq (cs.foldl (rvF Cl.cell day ps) rest) (cs.map (vst day ps))/\(cs.foldl (rvF Cl.cell day ps) rest).take Bq=rest.take Bq/\(cs.foldl (rvF Cl.cell day ps) rest).length=rest.length:=λsz=>by
  have bk:∀A R:L Cl,qzq (A.map (vst day ps)++R)=qzq (A++R):=λA R=>by
   unfold qzq;rw[Qqd,Qqd,Qqf]
   congr 1
   exact Qzb λc _=>by
    show(D.int (vst day ps c).nm,D.loc ((vst day ps c).j+9))=_;rw[(qzn day ps c).1,(qzn day ps c).2.1]
  have keys:keysOf (qzq cs)=cs.map λc=>D.int c.nm:=by unfold keysOf qzq; rw[Qqf]; rfl
  have s:(RL (callD fns (m+3))).ev [Y (Y1 3),Y (O day),Y (.tup (ps.map cD)),J] (FC sz T d fo jo cs ro rest) (.gc (.mcall 273 10 "names" (.var 0) []))=Y (.lst (cs.map λc=>D.int c.nm),FC sz T d fo jo cs ro rest):=by
   have g:=qzv (st:=FC sz T d fo jo cs ro rest) (ds:=keysOf (qzq cs)) (by rw[keys]; exact qz9 λ_ _=>rfl);rw[<- keys];exact qzb 8 [] 3 (λq=>_/\q) [.l (keysOf (qzq cs))] ⟨g,rfl⟩
  obtain⟨a,st',h1,o,r',h2,v,j,n,C,l⟩:=qj9 (it:=.gc (.mcall 273 10 "names" (.var 0) [])) (ds:=cs.map λc=>D.int c.nm) (t:=.var 3) (body:=[.expr (.mcall 273 14 "vest" (.var 0) [.var 3,.var 1,.var 2])])
   (λk a st'=>∃o r',a=[Y (Y1 3),Y (O day),Y (.tup (ps.map cD)),o]/\st'=FC sz T d fo jo ((cs.take k).map (vst day ps)++cs.drop k) (ro++((cs.take k).filter (hit day ps)).map (·.nm)) r'/\Inv Bq r' ((cs.take k).map (vst day ps)++cs.drop k)/\r'.take Bq=rest.take Bq/\r'.length=rest.length/\r'=(cs.take k).foldl (rvF Cl.cell day ps) rest)
   (by show((RL (callD fns (m+3))).ev _ _ _).bind _=_; rw[s]; rfl) (by simp[Src.size,seqAt]) (λk a st' h=>rfl) ⟨J,rest,rfl,by simp,by simpa using I,rfl,rfl,rfl⟩ (λk a st' x u h=>by
    obtain⟨o,r',rfl,rfl,e,j,n,l⟩:=h;rw[Qqb]at u;obtain⟨c,hc,rfl⟩:=Qqi.mp u;have hk:=(Qqj.mp hc).1;have i:=(Qqj.mp hc).2;have dr:cs.drop k=c::cs.drop (k+1):=by rw[Qjn hk,i]
    have tk:cs.take (k+1)=cs.take k++[c]:=by rw[Qzx hk,i]
    rw[dr]at e ⊢;have r:c∈(cs.take k).map (vst day ps)++c::cs.drop (k+1):=by simp
    have p:(ro++((cs.take k).filter (hit day ps)).map (·.nm)).length<1000:=by
     have:=Qzc (hit day ps) (cs.take k);rw[Qqg,Qqx];rw[Qza]at this
     lia
    have hv:=qcc (sz:=sz) (T:=T) (d:=d) (fo:=fo) (jo:=jo) m e r day (q:=.tup (ps.map cD)) rfl y p;generalize z:(if hit day ps c=Z then _ else _:Y2)=w at hv;refine⟨[Y (Y1 3),Y (O day),Y (.tup (ps.map cD)),Y (O c.nm)],w,qqx 8 [14] 3 (λq=>_/\q) [.c (.non,w)] ⟨hv,rfl⟩,Y (O c.nm),if hit day ps c then r'.set (c.j+1) (vst day ps c).cell else r',rfl,?_,?_,?_,?_,by rw[tk,Qx0,<- l]; rfl⟩
    ·rw[<- z]
     cases b:hit day ps c with
     |true=>
      have hb:qzq ((cs.take (k+1)).map (vst day ps)++cs.drop (k+1))=qzq ((cs.take k).map (vst day ps)++c::cs.drop (k+1)):=by rw[bk,bk,Qz3,<- dr,Qz3]
      rw[Z2 rfl,Z2 rfl];unfold FC;rw[hb,tk,Qxx,Qqd];simp[b]
     |false=>
      rw[Z1 (by simp),Z1 (by simp),tk,Qqd,Qxx,Qqd];have:vst day ps c=c:=by unfold vst; rw[b]; rfl
      simp[b,this]
    ·rw[tk,Qqd,Qq7];show Inv Bq _ (List.map (vst day ps) (cs.take k)++vst day ps c::cs.drop (k+1))
     cases b:hit day ps c with
     |true=>
      have:=e.cell r (qzn day ps c).1 (qzn day ps c).2.1 (qzn day ps c).2.2;rwa [qk9 (qzn day ps c).1 e.nd]at this
     |false=>
      have:vst day ps c=c:=by unfold vst; rw[b]; rfl
      rw[this];exact e
    ·cases b:hit day ps c with
     |true=>
      rw[Z2 rfl,take_set (by have:=e.lo c r; lia)];exact j
     |false=>exact j
    ·cases b:hit day ps c with
     |true=>rw[Z2 rfl,Qzq]; exact n
     |false=>exact n)
  simp only[Qqx,Qzo,List.drop_length,Qze]at v j l;subst h2 v;rw[<- l];exact⟨qzz 8 [] 4 (λq=>_/\q) [.s (.nx [Y (Y1 3),Y (O day),Y (.tup (ps.map cD)),o],FC sz T d fo jo (cs.map (vst day ps)) (ro++(cs.filter (hit day ps)).map (·.nm)) r')] ⟨h1,rfl⟩,j,n,C⟩
 exact⟨λsz=>(f sz).1,(f ⟨.non,[],[]⟩).2⟩
end
section
variable {sz:Zt}{T d:B}{fo jo:L (D×D)}{ro:L B}{rest:Y2}{cs:L Cl}{Bq:Y0}
theorem set2{b:Ya}:∀{rest},(rest++[a,b]).set (rest.length+1) c=rest++[a,c]
 |[]=>rfl
 |x::r=>congrArg (x::·) (set2)
def bk1(e:c'.nm=c.nm)(a:c'.j=c.j):qzq (cs++[c'])=qzq (cs++[c]):=by simp[qzq,e,a]
def qia(bo)(r)(s):(FS sz T d fo jo bo r s).length=s.length+8:=by simp[FS]
def qf6(m)(I:Inv Bq rest cs)(t:Bq<=rest.length)(dy o)(g)(l:∀bo r,rowAt (FS sz T d fo jo bo (rowD ro) (rest++r)) q=Y (ps.map cD))(n:ps.length<lim)(hr:ro.length+cs.length<900)(h:∀x∈cs,x.nm≠dy)(u:thr T [dy]=a):
  callD fns (m+4) 13 [Y1 3,O dy,O o,rD g,q] (FC sz T d fo jo cs ro rest)=Y (.non,FC sz T d fo jo (cs++[vst dy ps ⟨dy,rest.length,o,g,[dy],a,J,J⟩]) (ro++if hit dy ps ⟨dy,rest.length,o,g,[dy],a,J,J⟩ then [dy] else []) (rest++[Y4 Z [O dy],(vst dy ps ⟨dy,rest.length,o,g,[dy],a,J,J⟩).cell]))/\
   Inv Bq (rest++[Y4 Z [O dy],(vst dy ps ⟨dy,rest.length,o,g,[dy],a,J,J⟩).cell]) (cs++[vst dy ps ⟨dy,rest.length,o,g,[dy],a,J,J⟩]):=by
 have j:=qki (m+1) (st:=FC sz T d fo jo cs ro (rest++[Y4 Z [O dy]])) (T:=T) (q:=Yc [O dy]) (xs:=[dy]) (by simp) (by simp) (λr=>rfl);rw[u]at j;generalize hc:(⟨dy,rest.length,o,g,[dy],a,J,J⟩:Cl)=c;have c1:c.nm=dy:=by rw[<- hc]
 have c2:c.j=rest.length:=by rw[<- hc]
 have c3:c.dl=Y4 Z [O dy]:=by rw[<- hc]; rfl
 have c4:c.cell=.obj 191 (clF o g (Y1 (rest.length+8)) a):=by rw[<- hc]; rfl
 have b:=I.add c c2 (by rw[c1]; exact h) (by rw[<- hc]; simp) t;have V:=qzn dy ps c;have e:=cinit (m+2) (FC sz T d fo jo cs ro (rest++[Y4 Z [O dy]])) o a g (Y1 (rest.length+8));have hv:=qcc m b (c:=c) (by simp) dy (l _ _) n (by lia);have i:FS sz T d fo jo (dput (qzq cs) (O dy) (Y1 (FC sz T d fo jo cs ro (rest++[Y4 Z [O dy]])).length)) (rowD ro) (rest++[Y4 Z [O dy]]++[.obj 191 (clF o g (Y1 (rest.length+8)) a)])=FC sz T d fo jo (cs++[c]) ro (rest++[c.dl,c.cell]):=by
  have:(FC sz T d fo jo cs ro (rest++[Y4 Z [O dy]])).length=c.j+9:=by rw[qia,c2]; simp
  rw[this,<- c1,qje (by rw[c1]; exact h),c1,<- c3,<- c4];simp
 rw[c1,<- i]at hv;have hg:=qzv (st:=FC sz T d fo jo cs ro (rest++[Y4 Z [O dy]])) (ds:=[O dy]) rfl;generalize s:(if hit dy ps c=Z then _ else _:Y2)=k at hv;have f:decide ((qzq cs).length<lim)=true:=Zs (by unfold qzq lim; rw[Qqx]; lia);have run:callD fns (m+4) 13 [Y1 3,O dy,O o,rD g,q] (FC sz T d fo jo cs ro rest)=Y (.non,k):=
  qzz 8 [5,6,14] 4 (λq=>_/\_/\_/\_/\_/\q) [.l [O dy],.c (O a,FC sz T d fo jo cs ro (rest++[Y4 Z [O dy]])),.c (.non,FC sz T d fo jo cs ro (rest++[Y4 Z [O dy]])++[.obj 191 (clF o g (Y1 (rest.length+8)) a)]),.b Z,.c (.non,k)] ⟨hg,j,e,f,hv,rfl⟩
 rw[run,<- s];rw[i]
 cases p:hit dy ps c with
 |true=>
  have:=b.cell (by simp) V.1 V.2.1 V.2.2;rw[qk9 V.1 b.nd,c2,set2]at this;rw[c3]at this;refine⟨?_,this⟩;rw[Z2 rfl,Z2 rfl,c2,set2,c3];unfold FC;rw[bk1 V.1 V.2.1]
 |false=>
  have:vst dy ps c=c:=by unfold vst; rw[p]; rfl
  rw[this,<- c3];refine⟨?_,b⟩;rw[Z1 (by simp),Z1 (by simp),Qze]
end
def over(day:B)(c:Cl):Prop:=c.gv≠J\/c.la<day
def Ow(c:Cl):Prop:=1<=c.o/\c.o<=40
inductive Op (day:B):L Cl->L B->L Cl->L B->Prop
 |same {cs ro}:Op day cs ro cs ro
 |upd {cs ro c c'} (hc:c∈cs) (hn:c'.nm=c.nm) (hv:c'.v=c.v) (hw:Ow c'):Op day cs ro (upd cs c') ro
 |vein {cs ro} (ps:L (B×B)):Op day cs ro (cs.map (vst day ps)) (ro++(cs.filter (hit day ps)).map (·.nm))
 |stake {cs ro c} (ps:L (B×B)) (hn:c.nm=day) (hv:c.v=J) (hw:Ow c):Op day cs ro (cs++[vst day ps c]) (ro++if hit day ps c then [day] else [])
 |part0 {cs ro c c' p} (hc:c∈cs) (hn:c'.nm=c.nm) (hv:c'.v=c.v) (hw:Ow c') (pw:Ow p) (pn:p.nm=day) (pv:p.v=c.v) (h:c.v=J):Op day cs ro (K18.upd cs c'++[p]) ro
 |part1 {cs ro c c' p A R} (hc:c∈cs) (hn:c'.nm=c.nm) (hv:c'.v=c.v) (hw:Ow c') (pw:Ow p) (pn:p.nm=day) (hr:ro=A++c.nm::R):Op day cs ro (K18.upd cs c'++[p]) (A++c.nm::day::R)
noncomputable def Cl.z(c:Cl):Cl:={ c with j:=0 }
def qk8(cs)(c):(upd cs c).map Cl.z=upd (cs.map Cl.z) c.z:=by
 unfold upd;rw[Qqf,Qqf];refine Qzb λx _=>?_
 show(if x.nm=c.nm then c else x).z=if x.nm=c.nm then c.z else x.z
 split<;>rfl
noncomputable def cutG(g:B×B×B×B)(s l:B):Y3 ((B×B×B×B)×(B×B×B×B)):=
 if s=0 then if g.1<l/\l<=g.2.2.1 then Y ((g.1,g.2.1,l - 1,g.2.2.2),(l,g.2.1,g.2.2.1,g.2.2.2)) else J
 else if g.2.1<l/\l<=g.2.2.2 then Y ((g.1,g.2.1,g.2.2.1,l - 1),(g.1,l,g.2.2.1,g.2.2.2)) else J
inductive Tr (T day:B) (zs:L Cl) (ro:L B):D->String->L Cl->L B->Prop
 |no {n w r} (h:∀c∈zs,c.nm≠n):Tr T day zs ro (.tup (sO w::.int n::r)) "noclaim" zs ro
 |over {c w r} (hc:c∈zs) (ho:over day c):Tr T day zs ro (.tup (sO w::.int c.nm::r)) "ended" zs ro
 |work {c} (hc:c∈zs) (ho:¬ K18.over day c):Tr T day zs ro (.tup [sO "work",.int c.nm]) "good" (upd zs { c with ds:=c.ds++[day],la:=day+T }) ro
 |give {c} (hc:c∈zs) (ho:¬ K18.over day c):Tr T day zs ro (.tup [sO "give",.int c.nm]) "good" (upd zs { c with gv:=Y day }) ro
 |sell {c o} (hc:c∈zs) (ho:¬ K18.over day c):Tr T day zs ro (.tup [sO "sell",.int c.nm,.int o]) "good" (upd zs { c with o:=o }) ro
 |nocut {c s l o} (hc:c∈zs) (ho:¬ K18.over day c) (hs:s=0\/s=1) (h:cutG c.g s l=J):Tr T day zs ro (.tup [sO "part",.int c.nm,.int s,.int l,.int o]) "nocut" zs ro
 |part {c s l o a b ro'} (hc:c∈zs) (ho:¬ K18.over day c) (hs:s=0\/s=1) (h:cutG c.g s l=Y (a,b)) (hr:c.v=J/\ro'=ro\/∃x A R,c.v=Y x/\ro=A++c.nm::R/\c.nm ∉ A/\ro'=A++c.nm::day::R):Tr T day zs ro (.tup [sO "part",.int c.nm,.int s,.int l,.int o]) "good" (upd zs { c with g:=a }++[⟨day,0,o,b,c.ds,c.la,c.v,J⟩]) ro'
def Fz(cs:L Cl)(r r':Y2):Prop:=∀i,i<r.length->(∀c∈cs,i≠c.j/\i≠c.j+1)->r'[i]?=r[i]?
def Fz.refl:Fz cs r r:=λ_ _ _=>rfl
def Fz.cell(hc:c∈cs)(x):Fz cs r (r.set (c.j+1) x):=λi _ h=>Qqa λe=>(h c hc).2 e.symm
def Fz.app(h:Fz cs r a)(b:a.length=r.length)(X):Fz cs r (a++X):=λi hi hc=>by rw[Qqr (by lia)]; exact h i hi hc
def ix1:idxD st (Y9 (a::b::r)) (O 1)=Y b:=by
 show atI (a::b::r) 1=_;unfold atI ixN;rw[Z2 (by decide),Z2 (by simp; lia)]
 rfl
section
variable {sz:Zt}{T d:B}{fo jo:L (D×D)}{ro:L B}{rest:Y2}{cs:L Cl}{Bq:Y0}
def chg_no(m)(day n)(w)(r)(e:∀c∈cs,c.nm≠n):callD fns (m+1) 16 [Y1 3,O day,Y9 (sO w::O n::r)] (FC sz T d fo jo cs ro rest)=Y (sO "noclaim",FC sz T d fo jo cs ro rest):=
 qzz 8 [] 1 (λq=>_/\_/\q) [.i (O n),.q J] ⟨ix1 (st:=FC sz T d fo jo cs ro rest) (a:=sO w) (b:=O n) (r:=r),qen e,rfl⟩
def qhc(m)(I:Inv Bq rest cs)(day)(w)(r)(hc:c∈cs)(g:over day c):callD fns (m+2) 16 [Y1 3,O day,Y9 (sO w::O c.nm::r)] (FC sz T d fo jo cs ro rest)=Y (sO "ended",FC sz T d fo jo cs ro rest):=by
 have hs:=qq1 (sz:=sz) (T:=T) (d:=d) (fo:=fo) (jo:=jo) (bo:=qzq cs) (ro:=rowD ro) m c day (I.at_ c hc).2;have hg:=I.get hc;have f:=(I.at_ c hc).2;rcases qzr c day with⟨e,h1,h2,h⟩|⟨e,h1,h2,h⟩|⟨e,_⟩|⟨e,_⟩
 ·rcases g with z|z
  ·exact absurd h2 z
  ·lia
 ·rcases g with z|z
  ·exact absurd h2 z
  ·lia
 ·rw[e]at hs;exact qzz 8 [8] 2 (λq=>_/\_/\_/\_/\_/\q) [.i (O c.nm),.q (Y (Y1 (c.j+9))),.q (Y (Y1 (c.j+9))),.r c.cell,.c (sO "given",FC sz T d fo jo cs ro rest)] ⟨ix1 (st:=FC sz T d fo jo cs ro rest) (a:=sO w) (b:=O c.nm) (r:=r),hg,hg,f,hs,rfl⟩
 ·rw[e]at hs;exact qzz 8 [8] 2 (λq=>_/\_/\_/\_/\_/\q) [.i (O c.nm),.q (Y (Y1 (c.j+9))),.q (Y (Y1 (c.j+9))),.r c.cell,.c (sO "fallen",FC sz T d fo jo cs ro rest)] ⟨ix1 (st:=FC sz T d fo jo cs ro rest) (a:=sO w) (b:=O c.nm) (r:=r),hg,hg,f,hs,rfl⟩
def qjz(a:¬ over day c):stW c day = "unvested"\/stW c day = "stands":=by
 rcases qzr c day with⟨e,_⟩|⟨e,_⟩|⟨_,e⟩|⟨_,e,_⟩
 ·exact .inl e
 ·exact .inr e
 ·exact absurd (.inl e) a
 ·exact absurd (.inr e) a
def qhd(m)(I:Inv Bq rest cs)(day)(hc:c∈cs)(b:¬ over day c):callD fns (m+2) 16 [Y1 3,O day,Y9 [sO "give",O c.nm]] (FC sz T d fo jo cs ro rest)=Y (sO "good",FC sz T d fo jo cs ro (rest.set (c.j+1) { c with gv:=Y day:Cl }.cell)):=by
 have hs:=qq1 (sz:=sz) (T:=T) (d:=d) (fo:=fo) (jo:=jo) (bo:=qzq cs) (ro:=rowD ro) m c day (I.at_ c hc).2;have hg:=I.get hc;have a:=(I.at_ c hc).2;rcases qjz b with e|e
 ·rw[e]at hs;exact qzz 8 [8] 2 (λq=>_/\_/\_/\_/\_/\q) [.q (Y (Y1 (c.j+9))),.q (Y (Y1 (c.j+9))),.r c.cell,.c (sO "unvested",FC sz T d fo jo cs ro rest),.r c.cell] ⟨hg,hg,a,hs,a,rfl⟩
 ·rw[e]at hs;exact qzz 8 [8] 2 (λq=>_/\_/\_/\_/\_/\q) [.q (Y (Y1 (c.j+9))),.q (Y (Y1 (c.j+9))),.r c.cell,.c (sO "stands",FC sz T d fo jo cs ro rest),.r c.cell] ⟨hg,hg,a,hs,a,rfl⟩
def qhb(m)(I:Inv Bq rest cs)(day o)(hc:c∈cs)(b:¬ over day c):callD fns (m+2) 16 [Y1 3,O day,Y9 [sO "sell",O c.nm,O o]] (FC sz T d fo jo cs ro rest)=Y (sO "good",FC sz T d fo jo cs ro (rest.set (c.j+1) { c with o:=o:Cl }.cell)):=by
 have hs:=qq1 (sz:=sz) (T:=T) (d:=d) (fo:=fo) (jo:=jo) (bo:=qzq cs) (ro:=rowD ro) m c day (I.at_ c hc).2;have hg:=I.get hc;have a:=(I.at_ c hc).2;rcases qjz b with e|e
 ·rw[e]at hs;exact qzz 8 [8] 2 (λq=>_/\_/\_/\_/\_/\q) [.q (Y (Y1 (c.j+9))),.q (Y (Y1 (c.j+9))),.r c.cell,.c (sO "unvested",FC sz T d fo jo cs ro rest),.r c.cell] ⟨hg,hg,a,hs,a,rfl⟩
 ·rw[e]at hs;exact qzz 8 [8] 2 (λq=>_/\_/\_/\_/\_/\q) [.q (Y (Y1 (c.j+9))),.q (Y (Y1 (c.j+9))),.r c.cell,.c (sO "stands",FC sz T d fo jo cs ro rest),.r c.cell] ⟨hg,hg,a,hs,a,rfl⟩
def qha(m)(I:Inv Bq rest cs)(day)(hc:c∈cs)(j:¬ over day c)(n:c.ds.length<899)(k:thr T (c.ds++[day])=g):callD fns (m+3) 16 [Y1 3,O day,Y9 [sO "work",O c.nm]] (FC sz T d fo jo cs ro rest)=Y (sO "good",FC sz T d fo jo cs ro ((rest.set c.j { c with ds:=c.ds++[day],la:=g:Cl }.dl).set (c.j+1) { c with ds:=c.ds++[day],la:=g:Cl }.cell)):=by
 have hs:=qq1 (sz:=sz) (T:=T) (d:=d) (fo:=fo) (jo:=jo) (bo:=qzq cs) (ro:=rowD ro) (m+1) c day (I.at_ c hc).2;have hg:=I.get hc;obtain⟨b,f⟩:=I.at_ c hc;have lt:=(Qqj.mp b).1;have a:(rest.set c.j (Y4 Z (c.ds.map O++[O day])))[c.j+1]?=Y c.cell:=by rw[Qqa (by lia)]; exact f
 have h:(c.ds.map D.int).length<lim:=by rw[Qqx]; unfold lim; lia
 have i:=qki m (T:=T) (q:=Y1 (c.j+8)) (xs:=c.ds++[day]) (by simp) (by simp; lia) (λr=>by
  show listAt _ _=_;unfold listAt;have:(FC sz T d fo jo cs ro (rest.set c.j (Y4 Z (c.ds.map O++[O day])))++r)[c.j+8]?=((rest.set c.j (Y4 Z (c.ds.map O++[O day])))++r)[c.j]?:=rfl;rw[this,Qqr (by rw[Qzq]; exact lt),Qq2 lt]
  simp)
 rw[k]at i;have l:({ c with ds:=c.ds++[day],la:=g:Cl }).dl=Y4 Z (c.ds.map O++[O day]):=by unfold Cl.dl; simp
 rw[l];rcases qjz j with e|e
 ·rw[e]at hs;exact qzz 8 [8,5] 3 (λq=>_/\_/\_/\_/\_/\_/\_/\_/\_/\_/\_/\q) [.q (Y (Y1 (c.j+9))),.q (Y (Y1 (c.j+9))),.r c.cell,.c (sO "unvested",FC sz T d fo jo cs ro rest),.r c.cell,.r c.dl,.r c.dl,.b Z,.r c.cell,.c (O g,FC sz T d fo jo cs ro (rest.set c.j (Y4 Z (c.ds.map O++[O day])))),.r c.cell] ⟨hg,hg,f,hs,f,b,b,Zs h,a,i,a,rfl⟩
 ·rw[e]at hs;exact qzz 8 [8,5] 3 (λq=>_/\_/\_/\_/\_/\_/\_/\_/\_/\_/\_/\q) [.q (Y (Y1 (c.j+9))),.q (Y (Y1 (c.j+9))),.r c.cell,.c (sO "stands",FC sz T d fo jo cs ro rest),.r c.cell,.r c.dl,.r c.dl,.b Z,.r c.cell,.c (O g,FC sz T d fo jo cs ro (rest.set c.j (Y4 Z (c.ds.map O++[O day])))),.r c.cell] ⟨hg,hg,f,hs,f,b,b,Zs h,a,i,a,rfl⟩
end
section
variable {sz:Zt}{T d:B}{fo jo:L (D×D)}{ro:L B}{rest:Y2}{cs:L Cl}{Bq:Y0}
def ga(X){S:Y2}{p:Y0}(h:S[p]?=Y c):(S++X)[p]?=Y c:=by rw[Qqr (Qqj.mp h).1]; exact h
def pieceG(m){S:Y2}(c:Cl)(hc:S[p]?=Y (c.cel (Y1 q)))(hd:S[q]?=Y c.dl)(o)(g):callD fns (m+2) 7 [Y1 p,O o,rD g] S=Y (Y1 (S.length+1),S++[c.dl,(⟨0,0,o,g,[],c.la,c.v,J⟩:Cl).cel (Y1 S.length)]):=by
 have a:=cinit m (S++[c.dl]) o c.la g (Y1 S.length);have b:=gl (st:=S++[c.dl]) (c:=.obj 191 (clF o g (Y1 S.length) c.la));refine qjf 0 [6] 2 (Y1 (S++[c.dl]).length,(S++[c.dl]++[Ya.obj 191 (clF o g (Y1 S.length) c.la)]).set (S++[c.dl]).length ((⟨0,0,o,g,[],c.la,c.v,J⟩:Cl).cel (Y1 S.length))) (λq=>_/\_/\_/\_/\_/\_/\q) [.r (c.cel (Y1 q)),.r c.dl,.r (c.cel (Y1 q)),.c (.non,S++[c.dl]++[.obj 191 (clF o g (Y1 S.length) c.la)]),.r (c.cel (Y1 q)),.r (.obj 191 (clF o g (Y1 S.length) c.la))] ⟨hc,hd,ga [c.dl] hc,a,ga [.obj 191 (clF o g (Y1 S.length) c.la)] (ga [c.dl] hc),b,?_⟩;rw[sl];simp
def qgy(m){c:Cl}(a:rest[c.j]?=Y c.dl)(b:rest[c.j+1]?=Y c.cell)(nm o)(g):callD fns (m+2) 7 [Y1 (c.j+9),O o,rD g] (FC sz T d fo jo cs ro rest)=Y (Y1 (rest.length+9),FC sz T d fo jo cs ro (rest++[c.dl,(⟨nm,rest.length,o,g,c.ds,c.la,c.v,J⟩:Cl).cell])):=by
 have:=pieceG m (S:=FC sz T d fo jo cs ro rest) (p:=c.j+9) (q:=c.j+8) c b a o g;rw[qia]at this;exact this
noncomputable def cuD:Y3 ((B×B×B×B)×(B×B×B×B))->D
 |some p=>.tup [rD p.1,rD p.2]
 |none=>.non
def qdg(m)(g)(s line)(hs:s=0\/s=1)(st):callD fns (m+2) 3 [rD g,O s,O line] st=Y (cuD (cutG g s line),st):=by
 unfold cutG;rcases hs with rfl|rfl
 ·rw[Z2 rfl]
  by_cases h1:g.1<line
  ·by_cases h2:line<=g.2.2.1
   ·rw[Z2 ⟨h1,h2⟩];exact qzz 0 [] 2 (λq=>_/\_/\q) [.b Z,.b Z,.k] ⟨Zs h1,Zs h2,rfl⟩
   ·rw[Z1 λz=>h2 z.2];exact qzz 0 [] 2 (λq=>_/\_/\q) [.b Z,.b Y6] ⟨Zs h1,Zu h2,rfl⟩
  ·rw[Z1 λz=>h1 z.1];exact qzz 0 [] 2 (λq=>_/\q) [.b Y6] ⟨Zu h1,rfl⟩
 ·rw[Z1 (by decide)]
  by_cases h1:g.2.1<line
  ·by_cases h2:line<=g.2.2.2
   ·rw[Z2 ⟨h1,h2⟩];exact qzz 0 [] 2 (λq=>_/\_/\q) [.b Z,.b Z,.k] ⟨Zs h1,Zs h2,rfl⟩
   ·rw[Z1 λz=>h2 z.2];exact qzz 0 [] 2 (λq=>_/\_/\q) [.b Z,.b Y6] ⟨Zs h1,Zu h2,rfl⟩
  ·rw[Z1 λz=>h1 z.1];exact qzz 0 [] 2 (λq=>_/\q) [.b Y6] ⟨Zu h1,rfl⟩
def qek(X:L D)(y z)(Z3):(X++y::Z3).take (X.length+1)++z::(X++y::Z3).drop (X.length+1)=X++y::z::Z3:=by
 induction X with
 |nil=>rfl
 |cons x r a=>exact congrArg (x::·) a
def eqI(a b):eqT (O a) (O b)=(a==b):=rfl
def qab{R:L B}(h:n ∉ A)(st:Y2):(if flat 9 (O n)&&flats 9 (rowD (A++n::R)) then((rowD (A++n::R)).findIdx? λy=>eqT y (O n)).map λ(j:Y0)=>(D.int (j:B),st) else J)=Y (O (A.length:B),st):=by
 have f:∀l:L B,flats 9 (rowD l)=true:=λl=>by
  induction l with
  |nil=>rfl
  |cons a r b=>show(flat 9 (O a)&&flats 9 (rowD r))=Z; rw[b]; rfl
 rw[f,show flat 9 (O n)=Z from rfl,Qx2,Z2 rfl];have:(rowD (A++n::R)).findIdx? (λy=>eqT y (O n))=Y A.length:=by
  induction A with
  |nil=>show(if (n==n)=Z then _ else _)=_; simp
  |cons a r b=>
   have c:(a==n)=false:=by simp only[Qqy,not_or]at h; simpa using λe=>h.1 e.symm
   show List.findIdx? _ (D.int a::rowD (r++n::R))=_;rw[List.findIdx?_cons];rw[eqI,c];simp only[Qzw,if_false];rw[b (λz=>h (Qqu _ z))]
   rfl
 rw[this]
 rfl
def ql9(m)(I:Inv Bq rest cs)(hB:Bq<=rest.length)(day line o s)(hs:s=0\/s=1)(hc:c∈cs)(hw:Ow c)(S:1<=o/\o<=40)(hr:ro.length+cs.length<900)(hn:∀x∈cs,x.nm≠day)(hv:c.v≠J->∃A R,ro=A++c.nm::R/\c.nm ∉ A)(u:¬ over day c):
  ∃w cs' ro' rest',(∀sz:Zt,callD fns (m+3) 17 [Y1 3,O day,Y9 [sO "part",O c.nm,O s,O line,O o]] (FC sz T d fo jo cs ro rest)=Y (sO w,FC sz T d fo jo cs' ro' rest'))/\Inv Bq rest' cs'/\Op day cs ro cs' ro'/\rest'.take Bq=rest.take Bq/\rest.length<=rest'.length/\(∀c∈cs',∃x,x.ds.length<=c.ds.length/\c.ds.length<=x.ds.length+1/\x∈cs)/\Tr T day (cs.map Cl.z) ro (Y9 [sO "part",O c.nm,O s,O line,O o]) w (cs'.map Cl.z) ro'/\Fz cs rest rest':=by
 have hg:=I.get hc;have hz:c.z∈cs.map Cl.z:=Qqk.mpr ⟨c,hc,rfl⟩;obtain⟨U,j⟩:=I.at_ c hc;have C:=qdg m c.g s line hs
 cases l:cutG c.g s line with
 |none=>
  rw[l]at C;exact⟨"nocut",cs,ro,rest,λsz=>qzz 8 [3] 3 (λq=>_/\_/\_/\q) [.q (Y (Y1 (c.j+9))),.r c.cell,.c (.non,FC sz T d fo jo cs ro rest),.k] ⟨hg,j,C (FC sz T d fo jo cs ro rest),rfl⟩,I,.same,rfl,Qqv _,λc hc=>⟨c,by lia,by lia,hc⟩,.nocut (c:=c.z) hz u hs l,.refl⟩
 |some q=>
  obtain⟨a,b⟩:=q;rw[l]at C;have Jq:=I.cell (c':={ c with g:=a }) hc rfl rfl rfl;have lt:=(Qqj.mp j).1;have k1:(rest.set (c.j+1) ({ c with g:=a }:Cl).cell)[c.j]?=Y ({ c with g:=a }:Cl).dl:=by rw[Qqa (by lia)]; exact U
  have r:(rest.set (c.j+1) ({ c with g:=a }:Cl).cell)[c.j+1]?=Y ({ c with g:=a }:Cl).cell:=Qq2 (by lia);have h:=λsz:Zt=>qgy (sz:=sz) (T:=T) (d:=d) (fo:=fo) (jo:=jo) (cs:=cs) (ro:=ro) (m:=m) (c:={ c with g:=a }) k1 r day o b;have V:=qqd (c':={ c with g:=a }) hc I.nd rfl rfl;generalize k:rest.set (c.j+1) ({ c with g:=a }:Cl).cell=r1 at Jq k1 r h;have a0:r1.length=rest.length:=by rw[<- k,Qzq]
  have P:r1.take Bq=rest.take Bq:=by rw[<- k]; exact take_set (by have:=I.lo c hc; lia)
  generalize f:(⟨day,r1.length,o,b,({ c with g:=a }:Cl).ds,({ c with g:=a }:Cl).la,({ c with g:=a }:Cl).v,J⟩:Cl)=p at h;have p1:p.nm=day:=by rw[<- f]
  have p2:p.j=r1.length:=by rw[<- f]
  have p3:p.dl=({ c with g:=a }:Cl).dl:=by rw[<- f]; rfl
  have p4:p.v=c.v:=by rw[<- f]
  have X:Ow p:=by rw[<- f]; exact S
  have E:∀x∈upd cs { c with g:=a },x.nm≠p.nm:=λx hx=>by
   have:x.nm∈(upd cs { c with g:=a }).map (·.nm):=Qqk.mpr ⟨x,hx,rfl⟩;rw[qxv]at this;obtain⟨y,t,e⟩:=Qqk.mp this;rw[<- e,p1];exact hn y t
  have W:=Jq.add p p2 E (by rw[<- f]; exact I.ne c hc) (by lia);rw[p3]at W;have n:dput (qzq cs) (O day) (Y1 (r1.length+9))=qzq (upd cs { c with g:=a }++[p]):=by
   rw[<- qje E,V,p1,p2]
  have tk:(r1++[({ c with g:=a }:Cl).dl,p.cell]).take Bq=rest.take Bq:=by rw[Qz9 (by lia),P]
  have ln:rest.length<=(r1++[({ c with g:=a }:Cl).dl,p.cell]).length:=by rw[Qqg]; lia
  have N:(r1++[({ c with g:=a }:Cl).dl,p.cell])[c.j+1]?=Y ({ c with g:=a }:Cl).cell:=by rw[Qqr (by lia)]; exact r
  have K:decide ((qzq cs).length<lim)=true:=Zs (by unfold qzq lim; rw[Qqx]; lia);have H:∀y∈upd cs { c with g:=a }++[p],∃x,x.ds.length<=y.ds.length/\y.ds.length<=x.ds.length+1/\x∈cs:=λy t=>by
   rcases Qqs.mp t with t|t
   ·obtain⟨z,hz,rfl⟩:=Qqk.mp t
    by_cases e:z.nm=({ c with g:=a }:Cl).nm
    ·rw[Z2 e]; exact⟨c,Qqv _,Qxd _,hc⟩
    ·rw[Z1 e]; exact⟨z,Qqv _,Qxd _,hz⟩
   ·cases Qqc.mp t;exact⟨c,by rw[<- f]; exact Qqv _,by rw[<- f]; exact Qxd _,hc⟩
  have fz:Fz cs rest (r1++[({ c with g:=a }:Cl).dl,p.cell]):=by rw[<- k]; exact(Fz.cell hc _).app (Qzq ..) _
  have v:(upd cs { c with g:=a }++[p]).map Cl.z=upd (cs.map Cl.z) { c.z with g:=a }++[⟨day,0,o,b,c.ds,c.la,c.v,J⟩]:=by rw[Qqd,qk8,<- f]; rfl
  cases i:c.v with
  |none=>
   refine⟨"good",upd cs { c with g:=a }++[p],ro,r1++[({ c with g:=a }:Cl).dl,p.cell],λsz=>?_,W,.part0 hc rfl rfl hw X p1 p4 i,tk,ln,H,by rw[v]; exact .part (c:=c.z) hz u hs l (.inl ⟨i,rfl⟩),fz⟩;rw[<- k]at h r N n ⊢;unfold FC;rw[<- n];exact qzz 8 [3,7] 3 (λq=>_/\_/\_/\_/\_/\_/\_/\_/\_/\q) [.q (Y (Y1 (c.j+9))),.r c.cell,.c (Y9 [rD a,rD b],FC sz T d fo jo cs ro rest),.k,.r c.cell,.r ({ c with g:=a }:Cl).cell,.c (Y1 ((rest.set (c.j+1) ({ c with g:=a }:Cl).cell).length+9),FC sz T d fo jo cs ro (rest.set (c.j+1) ({ c with g:=a }:Cl).cell++[({ c with g:=a }:Cl).dl,p.cell])),.b Z,.r ({ c with g:=a }:Cl).cell,.b Y6] ⟨hg,j,C (FC sz T d fo jo cs ro rest),j,r,h sz,K,N,nnN i,rfl⟩
  |some x=>
   obtain⟨A,R,e,hA⟩:=hv (by rw[i]; simp);refine⟨"good",upd cs { c with g:=a }++[p],A++c.nm::day::R,r1++[({ c with g:=a }:Cl).dl,p.cell],λsz=>?_,W,.part1 hc rfl rfl hw X p1 e,tk,ln,H,by rw[v]; exact .part (c:=c.z) hz u hs l (.inr ⟨x,A,R,i,e,hA,rfl⟩),fz⟩;rw[<- k]at h r N n ⊢;have G:=qab (R:=R) hA (FS sz T d fo jo (dput (qzq cs) (O day) (Y1 ((rest.set (c.j+1) ({ c with g:=a }:Cl).cell).length+9))) (rowD ro) (rest.set (c.j+1) ({ c with g:=a }:Cl).cell++[({ c with g:=a }:Cl).dl,p.cell]));rw[<- e]at G;have F:(rowD ro).length=ro.length:=by simp
   have a1:ro.length=A.length+(R.length+1):=by rw[e]; simp
   have hok:decide (0<=(A.length:B)+1/\(A.length:B)+1<=(rowD ro).length/\(rowD ro).length<lim)=true:=Zs ⟨by lia,by rw[F]; lia,by rw[F]; unfold lim; lia⟩;have Q:(rowD ro).take ((A.length:B)+1).toNat++O day::(rowD ro).drop ((A.length:B)+1).toNat=rowD (A++c.nm::day::R):=by
    rw[show((A.length:B)+1).toNat=(rowD A).length+1 by simp,e];have:=qek (rowD A) (O c.nm) (O day) (rowD R);simpa[rowD] using this
   unfold FC;rw[<- n,<- Q];exact qzz 8 [3,7] 3 (λq=>_/\_/\_/\_/\_/\_/\_/\_/\_/\_/\_/\q) [.q (Y (Y1 (c.j+9))),.r c.cell,.c (Y9 [rD a,rD b],FC sz T d fo jo cs ro rest),.k,.r c.cell,.r ({ c with g:=a }:Cl).cell,.c (Y1 ((rest.set (c.j+1) ({ c with g:=a }:Cl).cell).length+9),FC sz T d fo jo cs ro (rest.set (c.j+1) ({ c with g:=a }:Cl).cell++[({ c with g:=a }:Cl).dl,p.cell])),.b Z,.r ({ c with g:=a }:Cl).cell,.b Z,.c (O (A.length:B),FS sz T d fo jo (dput (qzq cs) (O day) (Y1 ((rest.set (c.j+1) ({ c with g:=a }:Cl).cell).length+9))) (rowD ro) (rest.set (c.j+1) ({ c with g:=a }:Cl).cell++[({ c with g:=a }:Cl).dl,p.cell])),.b Z] ⟨hg,j,C (FC sz T d fo jo cs ro rest),j,r,h sz,K,N,nnS i,G,hok,rfl⟩
end
structure RowI (day:B) (cs:L Cl) (ro:L B):Prop where
 in1:∀n∈ro,∃c∈cs,c.nm=n
 in2:∀c∈cs,c.v≠J->c.nm∈ro
 le:∀c∈cs,c.nm<=day
 ow:∀c∈cs,Ow c
noncomputable def voD(vs:L (B×D×L (B×B))):L (D×D):=vs.map λv=>(.int v.1,.tup [v.2.1,.tup (v.2.2.map cD)])
def ChI(T:B)(c:Cl):Prop:=c.ds.foldl (chS T) []=c.ds/\c.la=thr T c.ds
def qcp{T:B}(a:ds≠[])(hf:ds.foldl (chS T) []=ds)(hd:day<=thr T ds):(ds++[day]).foldl (chS T) []=ds++[day]/\thr T (ds++[day])=day+T:=by
 unfold thr at hd;rw[hf,Qjw a]at hd;have hd:day<=ds.getLast a+T:=hd;have e:(ds++[day]).foldl (chS T) []=ds++[day]:=by
  rw[Qx0,hf];show chS T ds day=_;unfold chS;rw[dif_neg a,Z2 hd]
 refine⟨e,?_⟩;unfold thr;rw[e];simp
section
variable {sz:Zt}{T d:B}{fo jo:L (D×D)}{ro:L B}{rest:Y2}{cs:L Cl}{Bq:Y0}
def qv9(h:Op day cs ro cs' ro'):(∀c∈cs',(∃x∈cs,x.nm=c.nm)\/c.nm=day)/\cs'.length<=cs.length+1/\ro'.length+cs.length<=ro.length+cs'.length+cs.length:=by
 have e:∀(cs:L Cl) b,(upd cs b).length=cs.length:=λcs b=>by unfold upd; simp
 have un:∀(cs:L Cl) b,∀c∈upd cs b,∃x∈cs,x.nm=c.nm:=λcs b c hc=>by
  have:c.nm∈(upd cs b).map (·.nm):=Qqk.mpr ⟨c,hc,rfl⟩;rw[qxv]at this;exact Qqk.mp this
 cases h with
 |same=>exact⟨λc hc=>.inl ⟨c,hc,rfl⟩,by lia,by lia⟩
 |upd hc hn hv f=>exact⟨λc hc=>.inl (un _ _ c hc),by rw[e]; lia,by rw[e]; lia⟩
 |vein ps=>
  refine⟨λc hc=>?_,by simp,?_⟩
  ·obtain⟨x,a,rfl⟩:=Qqk.mp hc;exact .inl ⟨x,a,(qzn day ps x).1.symm⟩
  ·have:=Qzc (hit day ps) cs;simp
   lia
 |@stake c ps hn hv f=>
  refine⟨λx a=>?_,by simp,?_⟩
  ·rcases Qqs.mp a with a|a
   ·exact .inl ⟨x,a,rfl⟩
   ·cases Qqc.mp a;exact .inr ((qzn day ps c).1.trans hn)
  ·split<;>simp<;>lia
 |@part0 c b p hc hn hv f pw pn g h=>
  refine⟨λx a=>?_,by simp[e],by simp[e]<;>lia⟩;rcases Qqs.mp a with a|a
  ·exact .inl (un _ _ x a)
  ·cases Qqc.mp a; exact .inr pn
 |@part1 c b p A R hc hn hv f pw pn hr=>
  subst hr;refine⟨λx a=>?_,by simp[e],by simp[e]; lia⟩;rcases Qqs.mp a with a|a
  ·exact .inl (un _ _ x a)
  ·cases Qqc.mp a; exact .inr pn
inductive CF':D->Prop
 |work (n:B):CF' (.tup [sO "work",.int n])
 |give (n:B):CF' (.tup [sO "give",.int n])
 |sell (n o:B) (ho:1<=o/\o<=40):CF' (.tup [sO "sell",.int n,.int o])
 |part (n s l o:B) (hs:s=0\/s=1) (ho:1<=o/\o<=40):CF' (.tup [sO "part",.int n,.int s,.int l,.int o])
def qa2(cs:L Cl)(n):(∀c∈cs,c.nm≠n)\/∃c∈cs,c.nm=n:=by
 by_cases h:∃c∈cs,c.nm=n
 ·exact .inr h
 ·exact .inl λc hc e=>h ⟨c,hc,e⟩
theorem qwx{n:B}:∀{l},n∈l->∃A R,l=A++n::R/\n ∉ A
 |a::r,h=>by
  by_cases e:a=n
  ·exact⟨[],r,by rw[e]; rfl,by simp⟩
  ·rcases Qqy.mp h with z|z
   ·exact absurd z.symm e
   ·obtain⟨A,R,rfl,b⟩:=qwx z;exact⟨a::A,R,rfl,by simp only[Qqy,not_or]; exact⟨λq=>e q.symm,b⟩⟩
def qkj(m)(I:Inv Bq rest cs)(H:Bq<=rest.length)(j day)(hd:j<day)(hr:ro.length+cs.length<900)(F:∀c∈cs,c.ds.length<899)(Rw:RowI j cs ro)(u:∀c∈cs,ChI T c)(hf:CF' f):
  ∃w cs' ro' rest',(∀sz:Zt,callD fns (m+4) 16 [Y1 3,O day,f] (FC sz T d fo jo cs ro rest)=Y (sO w,FC sz T d fo jo cs' ro' rest'))/\Inv Bq rest' cs'/\Op day cs ro cs' ro'/\rest'.take Bq=rest.take Bq/\rest.length<=rest'.length/\(∀c∈cs',∃x,x.ds.length<=c.ds.length/\c.ds.length<=x.ds.length+1/\(x∈cs))/\Tr T day (cs.map Cl.z) ro f w (cs'.map Cl.z) ro'/\Fz cs rest rest':=by
 have A:∀{c:Cl},c∈cs->c.z∈cs.map Cl.z:=λh=>Qqk.mpr ⟨_,h,rfl⟩;have self:∀c∈cs,∃x,x.ds.length<=c.ds.length/\c.ds.length<=x.ds.length+1/\x∈cs:=λc hc=>⟨c,by lia,by lia,hc⟩
 have b:∀{c v:Cl},c∈cs->c.ds.length<=v.ds.length->v.ds.length<=c.ds.length+1->∀y∈upd cs v,∃x,x.ds.length<=y.ds.length/\y.ds.length<=x.ds.length+1/\x∈cs:=λ{c v} hc h1 h2 y G=>by
  obtain⟨z,hz,rfl⟩:=Qqk.mp G
  by_cases e:z.nm=v.nm
  ·rw[Z2 e]; exact⟨c,h1,h2,hc⟩
  ·rw[Z1 e]; exact self z hz
 have no:∀n w r,(∀c∈cs,c.nm≠n)->∃t cs' ro' rest',(∀sz:Zt,callD fns (m+4) 16 [Y1 3,O day,Y9 (sO w::O n::r)] (FC sz T d fo jo cs ro rest)=Y (sO t,FC sz T d fo jo cs' ro' rest'))/\Inv Bq rest' cs'/\Op day cs ro cs' ro'/\rest'.take Bq=rest.take Bq/\rest.length<=rest'.length/\(∀c∈cs',∃x,x.ds.length<=c.ds.length/\c.ds.length<=x.ds.length+1/\(x∈cs))/\Tr T day (cs.map Cl.z) ro (Y9 (sO w::O n::r)) t (cs'.map Cl.z) ro'/\Fz cs rest rest':=λn w r h=>
  ⟨"noclaim",cs,ro,rest,λ_=>chg_no (m+3) day n w r h,I,.same,rfl,Qqv _,self,.no λc hc=>by obtain⟨x,E,rfl⟩:=Qqk.mp hc; exact h x E,.refl⟩
 have C:∀c w r,c∈cs->over day c->∃t cs' ro' rest',(∀sz:Zt,callD fns (m+4) 16 [Y1 3,O day,Y9 (sO w::O c.nm::r)] (FC sz T d fo jo cs ro rest)=Y (sO t,FC sz T d fo jo cs' ro' rest'))/\Inv Bq rest' cs'/\Op day cs ro cs' ro'/\rest'.take Bq=rest.take Bq/\rest.length<=rest'.length/\(∀c∈cs',∃x,x.ds.length<=c.ds.length/\c.ds.length<=x.ds.length+1/\(x∈cs))/\Tr T day (cs.map Cl.z) ro (Y9 (sO w::O c.nm::r)) t (cs'.map Cl.z) ro'/\Fz cs rest rest':=λc w r h a=>
  ⟨"ended",cs,ro,rest,λ_=>qhc (m+2) I day w r h a,I,.same,rfl,Qqv _,self,.over (c:=c.z) (A h) a,.refl⟩
 cases hf with
 |work n=>
  rcases qa2 cs n with h|⟨c,hc,rfl⟩
  ·exact no n _ _ h
  ·by_cases a:over day c
   ·exact C c _ _ hc a
   ·have h:=λsz:Zt=>qha (sz:=sz) (T:=T) (d:=d) (fo:=fo) (jo:=jo) (ro:=ro) (m+1) I day hc a (F c hc) (qcp (I.ne c hc).1 (u c hc).1 (by rw[<- (u c hc).2]; unfold over at a; lia)).2;refine⟨"good",upd cs { c with ds:=c.ds++[day],la:=day+T },ro,_,?_,I.put hc rfl rfl ⟨by simp,by have:=F c hc; simp; lia⟩,.upd hc rfl rfl (Rw.ow c hc),?_,?_,b hc (by simp) (by simp),by rw[qk8]; exact .work (c:=c.z) (A hc) a,?_⟩
    ·intro sz;unfold FC;rw[qqd (c':={ c with ds:=c.ds++[day],la:=day+T }) hc I.nd rfl rfl];exact h sz
    ·rw[take_set (by have:=I.lo c hc; lia),take_set (I.lo c hc)]
    ·simp
    ·exact λi _ h=>by rw[Qqa λe=>(h c hc).2 e.symm,Qqa λe=>(h c hc).1 e.symm]
 |give n=>
  rcases qa2 cs n with h|⟨c,hc,rfl⟩
  ·exact no n _ _ h
  ·by_cases a:over day c
   ·exact C c _ _ hc a
   ·refine⟨"good",upd cs { c with gv:=Y day },ro,_,?_,I.cell hc rfl rfl rfl,.upd hc rfl rfl (Rw.ow c hc),take_set (by have:=I.lo c hc; lia),by simp,b hc (Qqv _) (by simp),by rw[qk8]; exact .give (c:=c.z) (A hc) a,Fz.cell hc _⟩;intro sz;unfold FC;rw[qqd (c':={ c with gv:=Y day }) hc I.nd rfl rfl];exact qhd (m+2) I day hc a
 |sell n o k=>
  rcases qa2 cs n with h|⟨c,hc,rfl⟩
  ·exact no n _ _ h
  ·by_cases a:over day c
   ·exact C c _ _ hc a
   ·refine⟨"good",upd cs { c with o:=o },ro,_,?_,I.cell hc rfl rfl rfl,.upd hc rfl rfl k,take_set (by have:=I.lo c hc; lia),by simp,b hc (Qqv _) (by simp),by rw[qk8]; exact .sell (c:=c.z) (A hc) a,Fz.cell hc _⟩;intro sz;unfold FC;rw[qqd (c':={ c with o:=o }) hc I.nd rfl rfl];exact qhb (m+2) I day o hc a
 |part n s l o hs k=>
  rcases qa2 cs n with h|⟨c,hc,rfl⟩
  ·exact no n _ _ h
  ·by_cases a:over day c
   ·exact C c _ _ hc a
   ·obtain⟨w,cs',ro',rest',h1,h2,S,R,Q,P,N,K⟩:=ql9 (T:=T) (d:=d) (fo:=fo) (jo:=jo) m I H day l o s hs hc (Rw.ow c hc) k hr (λx E e=>by have:=Rw.le x E; lia) (λhv=>qwx (Rw.in2 c hc hv)) a;have hg:=I.get hc;have p:=(I.at_ c hc).2;refine⟨w,cs',ro',rest',λsz=>?_,h2,S,R,Q,P,N,K⟩;have h1:=h1 sz;have g:=qq1 (sz:=sz) (T:=T) (d:=d) (fo:=fo) (jo:=jo) (bo:=qzq cs) (ro:=rowD ro) (m+2) c day p;rcases qjz a with e|e
    ·rw[e]at g;exact qzz 8 [8,17] 4 (λq=>_/\_/\_/\_/\_/\q) [.q (Y (Y1 (c.j+9))),.q (Y (Y1 (c.j+9))),.r c.cell,.c (sO "unvested",FC sz T d fo jo cs ro rest),.c (sO w,FC sz T d fo jo cs' ro' rest')] ⟨hg,hg,p,g,h1,rfl⟩
    ·rw[e]at g;exact qzz 8 [8,17] 4 (λq=>_/\_/\_/\_/\_/\q) [.q (Y (Y1 (c.j+9))),.q (Y (Y1 (c.j+9))),.r c.cell,.c (sO "stands",FC sz T d fo jo cs ro rest),.c (sO w,FC sz T d fo jo cs' ro' rest')] ⟨hg,hg,p,g,h1,rfl⟩
end
inductive Jn (fo jo:L (D×D)) (a b f:B):String->L (D×D)->Prop
 |nv1 (h:dget fo (.int a)=J):Jn fo jo a b f "novein" jo
 |nv2 {x} (h:dget fo (.int a)=Y x) (h2:dget fo (.int b)=J):Jn fo jo a b f "novein" jo
 |ord {x y} (h:dget fo (.int a)=Y x) (h2:dget fo (.int b)=Y y) (h3:a<=b):Jn fo jo a b f "order" jo
 |joi {x y z} (h:dget fo (.int a)=Y x) (h2:dget fo (.int b)=Y y) (h3:¬ a<=b) (h4:dget jo (.int a)=Y z):Jn fo jo a b f "joined" jo
 |good {x y} (h:dget fo (.int a)=Y x) (h2:dget fo (.int b)=Y y) (h3:¬ a<=b) (h4:dget jo (.int a)=J):Jn fo jo a b f "good" (dput jo (.int a) (.tup [.int b,.int f]))
theorem fz_rv:∀{l:L Cl},(∀c∈l,c∈cs)->∀r:Y2,Fz cs r (l.foldl (rvF K day ps) r)/\(l.foldl (rvF K day ps) r).length=r.length
 |[],_,r=>⟨.refl,rfl⟩
 |c::l,h,r=>by
  obtain⟨h1,h2⟩:=fz_rv (λx a=>h x (.tail _ a)) (rvF K day ps r c);have e:(rvF K day ps r c).length=r.length:=by
   unfold rvF
   split
   ·exact Qzq ..
   ·rfl
  refine⟨λi hi hc=>?_,h2.trans e⟩;refine(h1 i (by lia) hc).trans ?_;unfold rvF
  split
  ·exact Fz.cell (h c (.head _)) _ i hi hc
  ·rfl
def qii(day)(ps)(c):(vst day ps c).z=vst day ps c.z:=by
 unfold vst
 show(if hit day ps c then _ else c).z=if hit day ps c then _ else _
 split<;>rfl
def qhg(day)(ps)(cs:L Cl):(cs.map (vst day ps)).map Cl.z=(cs.map Cl.z).map (vst day ps)/\(cs.filter (hit day ps)).map (·.nm)=((cs.map Cl.z).filter (hit day ps)).map (·.nm):=by
 constructor
 ·rw[Qqf,Qqf];exact Qzb λc _=>qii day ps c
 ·rw[Qjk,Qqf]
  rfl
section
variable {sz:Zt}{T d:B}{fo jo:L (D×D)}{ro:L B}{rest:Y2}{cs:L Cl}{Bq:Y0}
def day_ok(m)(st)(day)(b:1<=day)(a:day<=400):callD fns (m+2) 28 [O day] st=Y (.non,st):=
 qzz 0 [] 2 (λq=>_/\_/\q) [.b Z,.b Z] ⟨Zs b,Zs a,rfl⟩
def qxl(m){S:Y2}(c:1<=day)(b:day<=400)(hd:d<day)(hs:callD fns (m+6) 26 [sz.s,f] (FC sz T d fo jo cs ro rest)=Y (.bl Z,FC sz T d fo jo cs ro rest))(a:callD fns (m+6) 31 [Y1 0,f] (FC sz T day fo jo cs ro rest)=Y (v,S)):
  callD fns (m+7) 30 [Y1 0,O day,f] (FC sz T d fo jo cs ro rest)=Y (v,S):=
 qzz 8 [28,26,31] 7 (λq=>_/\_/\_/\_/\q) [.c (.non,FC sz T d fo jo cs ro rest),.c (.bl Z,FC sz T d fo jo cs ro rest),.b Y6,.c (v,S)] ⟨day_ok (m+4) (FC sz T d fo jo cs ro rest) day c b,hs,Zu (show ¬ day<=d by lia),a,rfl⟩
def qyw(m){S:Y2}(hf:CF' f)(h:callD fns (m+4) 16 [Y1 3,O d,f] (FC sz T d fo jo cs ro rest)=Y (v,S)):callD fns (m+5) 31 [Y1 0,f] (FC sz T d fo jo cs ro rest)=Y (v,S):=by
 cases hf with
 |work n=>exact qzz 8 [16] 5 (λq=>_/\q) [.c (v,S)] ⟨h,rfl⟩
 |give n=>exact qzz 8 [16] 5 (λq=>_/\q) [.c (v,S)] ⟨h,rfl⟩
 |sell n o _=>exact qzz 8 [16] 5 (λq=>_/\q) [.c (v,S)] ⟨h,rfl⟩
 |part n s l o hs _=>exact qzz 8 [16] 5 (λq=>_/\q) [.c (v,S)] ⟨h,rfl⟩
def qbv(m)(a b f)(hj:jo.length<1000):∃w jo',(∀sz:Zt,callD fns (m+2) 31 [Y1 0,Y9 [sO "join",O a,O b,O f]] (FC sz T d fo jo cs ro rest)=Y (sO w,FC sz T d fo jo' cs ro rest))/\Jn fo jo a b f w jo'/\jo'.length<=jo.length+1/\(jo'=jo\/(b<a/\(dget fo (O b)).isSome/\jo'=dput jo (O a) (Y9 [O b,O f]))):=by
 have g:decide (jo.length<lim)=true:=Zs (by unfold lim; lia);have dl:∀v,(dput jo (O a) v).length<=jo.length+1:=λv=>by unfold dput; split<;>simp
 cases h1:dget fo (O a) with
 |none=>exact⟨"novein",jo,λsz=>qzz 8 [] 2 (λq=>_/\q) [.q J] ⟨h1,rfl⟩,.nv1 h1,by lia,.inl rfl⟩
 |some x=>
  cases h2:dget fo (O b) with
  |none=>exact⟨"novein",jo,λsz=>qzz 8 [] 2 (λq=>_/\_/\q) [.q (Y x),.q J] ⟨h1,h2,rfl⟩,.nv2 h1 h2,by lia,.inl rfl⟩
  |some y=>
   by_cases c:a<=b
   ·exact⟨"order",jo,λsz=>qzz 8 [] 2 (λq=>_/\_/\_/\q) [.q (Y x),.q (Y y),.b Z] ⟨h1,h2,Zs c,rfl⟩,.ord h1 h2 c,by lia,.inl rfl⟩
   ·cases e:dget jo (O a) with
    |some z=>exact⟨"joined",jo,λsz=>qzz 8 [] 2 (λq=>_/\_/\_/\_/\q) [.q (Y x),.q (Y y),.b Y6,.q (Y z)] ⟨h1,h2,Zu c,e,rfl⟩,.joi h1 h2 c e,by lia,.inl rfl⟩
    |none=>exact⟨"good",dput jo (O a) (Y9 [O b,O f]),λsz=>qzz 8 [] 2 (λq=>_/\_/\_/\_/\_/\q) [.q (Y x),.q (Y y),.b Y6,.q J,.b Z] ⟨h1,h2,Zu c,e,g,rfl⟩,.good h1 h2 c e,dl _,.inr ⟨by lia,rfl,rfl⟩⟩
def qk2(h:∀p∈kvs,eqT p.1 (O n)=Y6):dput kvs (O n) v=kvs++[(O n,v)]:=by
 unfold dput;have:kvs.any (λp=>eqT p.1 (O n))=false:=by
  rw[Qjf];intro p a;rw[h p a];simp
 rw[this];simp
def qy5(h:∀v∈vs,v.1≠n)(s)(ps):dput (voD vs) (O n) (Y9 [s,Y9 (ps.map cD)])=voD (vs++[(n,s,ps)]):=by
 rw[qk2 λp a=>?_]
 ·simp[voD]
 ·obtain⟨v,hv,rfl⟩:=Qqk.mp a;show(v.1==n)=Y6;simpa using h v hv
def qhf(m)(I:Inv Bq rest cs)(s)(ps)(vs)(hv:∀v∈vs,v.1≠d)(a:vs.length<1000)(e:ps.length<1000)(hr:ro.length+cs.length<1000):
  (∀sz:Zt,callD fns (m+6) 31 [Y1 0,Y9 [sO "vein",s,Y9 (ps.map cD)]] (FC sz T d (voD vs) jo cs ro rest)=Y (sO "good",FC sz T d (voD (vs++[(d,s,ps)])) jo (cs.map (vst d ps)) (ro++(cs.filter (hit d ps)).map (·.nm)) (cs.foldl (rvF Cl.cell d ps) rest)))/\Inv Bq (cs.foldl (rvF Cl.cell d ps) rest) (cs.map (vst d ps))/\(cs.foldl (rvF Cl.cell d ps) rest).take Bq=rest.take Bq/\(cs.foldl (rvF Cl.cell d ps) rest).length=rest.length:=by
 obtain⟨h1,h2,c,b⟩:=qil (T:=T) (d:=d) (fo:=voD (vs++[(d,s,ps)])) (jo:=jo) m I d ps (by unfold lim; lia) hr;refine⟨λsz=>?_,h2,c,b⟩;have h1:=h1 sz;have hb:decide ((voD vs).length<lim)=true:=Zs (by unfold voD lim; rw[Qqx]; lia);rw[<- qy5 hv]at h1 ⊢;exact qzz 8 [15] 6 (λq=>_/\_/\q) [.b Z,.c (.non,FC sz T d (dput (voD vs) (O d) (Y9 [s,Y9 (ps.map cD)])) jo (cs.map (vst d ps)) (ro++(cs.filter (hit d ps)).map (·.nm)) (cs.foldl (rvF Cl.cell d ps) rest))] ⟨hb,h1,rfl⟩
end
section
variable {sz:Zt}{T d:B}{jo:L (D×D)}{ro:L B}{rest:Y2}{cs:L Cl}{Bq:Y0}
noncomputable def FSf(sz:Zt)(T d:B)(fo jo bo:L (D×D))(ro:L D)(rest:Y2):Y2:=
 .obj 642 [("extent",sz.s),("year",.int T),("day",.int d),("found",.loc 1),("joints",.loc 2),("staked",.loc 3),("dug",.loc 6),("debts",.loc 7)]::.dic Y6 fo::.dic Z jo::.obj 273 [("year",.int T),("book",.loc 4),("row",.loc 5)]::.dic Z bo::.lst Z ro::.dic Z sz.dg::.lst Z sz.es::rest
def thr1(T d):thr T [d]=d+T:=by
 unfold thr;show((chS T [] d).getLast?.getD 0)+T=_;unfold chS;rw[dif_pos rfl]
 rfl
theorem qkh:∀{vs}{v},v∈vs->(vs.map (·.1)).Nodup->dget (voD vs) (O v.1)=Y (Y9 [v.2.1,Y9 (v.2.2.map cD)])
 |a::r,v,h,hn=>by
  unfold dget voD;rw[Qqp,Qzv];show Option.map _ (match (a.1==v.1) with|true=>_|false=>_)=_;rw[Qqp,Qzy]at hn;rcases Qqy.mp h with rfl|h'
  ·simp
  ·have e:(a.1==v.1)=false:=by
    rw[beq_eq_false_iff_ne];exact λe=>hn.1 (Qqk.mpr ⟨v,h',e.symm⟩)
   rw[e];exact qkh h' hn.2
def qfe(m)(I:Inv Bq rest cs)(K:Bq<=rest.length)(o)(w:1<=o/\o<=40)(g)(vs)(t:(vs.map (·.1)).Nodup)(G:vs.length<1000)(i:∀v∈vs,v.2.2.length<=16)(hr:ro.length+cs.length<900)(H:∀x∈cs,x.nm≠d):
  ∃cs' ro' rest',(∀sz:Zt,callD fns (m+6) 31 [Y1 0,.tup [sO "stake",O o,O g.1,O g.2.1,O g.2.2.1,O g.2.2.2]] (FC sz T d (voD vs) jo cs ro rest)=Y (sO "good",FC sz T d (voD vs) jo cs' ro' rest'))/\Inv Bq rest' cs'/\Op d cs ro cs' ro'/\rest'.take Bq=rest.take Bq/\rest.length<=rest'.length/\(∀c∈cs',c∈cs\/c.ds.length=1)/\cs'.map Cl.z=cs.map Cl.z++[vst d (vs.flatMap (·.2.2)) ⟨d,0,o,g,[d],d+T,J,J⟩]/\ro'=ro++(if hit d (vs.flatMap (·.2.2)) ⟨d,0,o,g,[d],d+T,J,J⟩ then [d] else [])/\Fz cs rest rest':=by
 have keys:keysOf (voD vs)=vs.map λv=>D.int v.1:=by unfold keysOf voD; rw[Qqf]; rfl
 have n:∀k,((vs.take k).flatMap (·.2.2)).length<=16*k:=λk=>by
  rw[List.length_flatMap];have:∀l:L (B×D×L (B×B)),(∀v∈l,v.2.2.length<=16)->(l.map λv=>v.2.2.length).sum<=16*l.length:=λl=>by
   induction l with
   |nil=>intro _; simp
   |cons a r F=>
    intro h;have h1:=h a (Qq9 ..);have h2:=F λv hv=>h v (Qqu _ hv);simp only[Qqp,List.sum_cons,Qql]
    lia
  have h:=this (vs.take k) λv hv=>i v (List.mem_of_mem_take hv);have:(vs.take k).length<=k:=by rw[Qza]; lia
  lia
 obtain⟨ps,e⟩:∃ps,vs.flatMap (·.2.2)=ps:=⟨_,rfl⟩
 have u:ps.length<lim:=by
  have:=n vs.length;rw[Qzo,e]at this;unfold lim
  lia
 have all:∀sz:Zt,callD fns (m+6) 31 [Y1 0,.tup [sO "stake",O o,O g.1,O g.2.1,O g.2.2.1,O g.2.2.2]] (FC sz T d (voD vs) jo cs ro rest)=Y (sO "good",FC sz T d (voD vs) jo (cs++[vst d ps ⟨d,(rest++[Ya.lst Z (ps.map cD)]).length,o,g,[d],thr T [d],J,J⟩]) (ro++if hit d ps ⟨d,(rest++[Ya.lst Z (ps.map cD)]).length,o,g,[d],thr T [d],J,J⟩ then [d] else []) (rest++[Y4 Z (ps.map cD)]++[Y4 Z [O d],(vst d ps ⟨d,(rest++[Ya.lst Z (ps.map cD)]).length,o,g,[d],thr T [d],J,J⟩).cell]))/\Inv Bq (rest++[Y4 Z (ps.map cD)]++[Y4 Z [O d],(vst d ps ⟨d,(rest++[Ya.lst Z (ps.map cD)]).length,o,g,[d],thr T [d],J,J⟩).cell]) (cs++[vst d ps ⟨d,(rest++[Ya.lst Z (ps.map cD)]).length,o,g,[d],thr T [d],J,J⟩]):=λsz=>by
  obtain⟨b,st',h1,h2⟩:=qvc (f:=λτ st x=>(setT (.var 3) x τ).bind λb=>(RL (callD fns (m+4))).ex b st [.expr (.meth (.var 2) .extend [.idx (.didx (.attr 642 (.var 0) "found") (.var 3)) (.lit (O 1))])]) (s:=.tup (keysOf (voD vs))) (ds:=vs.map λv=>D.int v.1) (st:=FSf sz T d (voD vs) jo (qzq cs) (rowD ro) (rest++[Y4 Z []]))
   (λk b st'=>∃x,b=[Y (Y1 0),Y (.tup [sO "stake",O o,O g.1,O g.2.1,O g.2.2.1,O g.2.2.2]),Y (Y1 (rest.length+8)),x]/\st'=FSf sz T d (voD vs) jo (qzq cs) (rowD ro) (rest++[Y4 Z (((vs.take k).flatMap (·.2.2)).map cD)])) (λ_ _=>False)
   ⟨J,rfl,by simp⟩ (by simp[Src.size,keys]) (λk b st' _=>by rw[keys]; rfl) (λk b st' x C h=>by
    obtain⟨y,rfl,rfl⟩:=h;rw[Qqb]at C;obtain⟨v,hv,rfl⟩:=Qqi.mp C;have hk:=(Qqj.mp hv).1;have z:=(Qqj.mp hv).2;have tk:vs.take (k+1)=vs.take k++[v]:=by rw[Qzx hk,z]
    have hg:=qkh (Qqm hv) t;have E:=gl (st:=rest) (c:=Y4 Z (((vs.take k).flatMap (·.2.2)).map cD))
    have hb:decide ((((vs.take k).flatMap (·.2.2)).map cD).length+(v.2.2.map cD).length<=lim)=true:=Zs (by
     have:=n k;have:=i v (Qqm hv);rw[Qqx,Qqx];unfold lim
     lia)
    refine .inl ⟨[Y (Y1 0),Y (.tup [sO "stake",O o,O g.1,O g.2.1,O g.2.2.1,O g.2.2.2]),Y (Y1 (rest.length+8)),Y (O v.1)],FSf sz T d (voD vs) jo (qzq cs) (rowD ro) ((rest++[Ya.lst Z (((vs.take k).flatMap (·.2.2)).map cD)]).set rest.length (Y4 Z (((vs.take k).flatMap (·.2.2)).map cD++v.2.2.map cD))),.inl (qqx 8 [] 4 (λq=>_/\_/\_/\_/\q) [.r (Y4 Z (((vs.take k).flatMap (·.2.2)).map cD)),.q (Y (.tup [v.2.1,.tup (v.2.2.map cD)])),.r (Y4 Z (((vs.take k).flatMap (·.2.2)).map cD)),.b Z] ⟨E,hg,E,hb,rfl⟩),Y (O v.1),rfl,?_⟩;rw[sl,tk]
    simp)
  obtain⟨x,rfl,rfl⟩:=h2.resolve_right id;rw[Qqx,Qzo]at h1;rw[e]at h1;have j:stepEx (RL (callD fns (m+4))) [Y (Y1 0),Y (.tup [sO "stake",O o,O g.1,O g.2.1,O g.2.2.1,O g.2.2.2]),Y (Y1 (rest.length+8)),J] (FC sz T d (voD vs) jo cs ro (rest++[Y4 Z []])) (.ford (.var 3) (.attr 642 (.var 0) "found") [.expr (.meth (.var 2) .extend [.idx (.didx (.attr 642 (.var 0) "found") (.var 3)) (.lit (O 1))])])=Y (.nx [Y (Y1 0),Y (.tup [sO "stake",O o,O g.1,O g.2.1,O g.2.2.1,O g.2.2.2]),Y (Y1 (rest.length+8)),x],FC sz T d (voD vs) jo cs ro (rest++[Y4 Z (ps.map cD)])):=by
   have P:(RL (callD fns (m+4))).ev [Y (Y1 0),Y (.tup [sO "stake",O o,O g.1,O g.2.1,O g.2.2.1,O g.2.2.2]),Y (Y1 (rest.length+8)),J] (FC sz T d (voD vs) jo cs ro (rest++[Y4 Z []])) (.attr 642 (.var 0) "found")=Y (Y1 1,FC sz T d (voD vs) jo cs ro (rest++[Y4 Z []])):=qzb 8 [] 4 (λq=>q) [] rfl;show((RL (callD fns (m+4))).ev _ _ _).bind _=_;rw[P];show((loop (.tup (keysOf (voD vs))) _ ((voD vs).length+1) 0 _ (FSf sz T d (voD vs) jo (qzq cs) (rowD ro) (rest++[Y4 Z []]))).bind _)=_;have:(voD vs).length+1=(Src.tup (keysOf (voD vs))).size (FSf sz T d (voD vs) jo (qzq cs) (rowD ro) (rest++[Y4 Z []]))+1:=by simp[Src.size,keysOf]
   rw[this,h1]
   rfl
  have ⟨A,N⟩:=qf6 (sz:=sz) (T:=T) (d:=d) (fo:=voD vs) (jo:=jo) (ro:=ro) m (I.more [Y4 Z (ps.map cD)]) (by simp; lia) d o g (q:=Y1 (rest.length+8)) (λbo r=>by
   show listAt _ _=_;unfold listAt;have:(FS sz T d (voD vs) jo bo (rowD ro) (rest++[Y4 Z (ps.map cD)]++r))[rest.length+8]?=(rest++[Ya.lst Z (ps.map cD)]++r)[rest.length]?:=rfl;rw[this]
   simp) u hr H rfl
  have p:∀cs' ro' rest',callD fns (m+4) 13 [Y1 3,O d,O o,rD g,Y1 (rest.length+8)] (FC sz T d (voD vs) jo cs ro (rest++[Y4 Z (ps.map cD)]))=Y (.non,FC sz T d (voD vs) jo cs' ro' rest')->callD fns (m+6) 31 [Y1 0,.tup [sO "stake",O o,O g.1,O g.2.1,O g.2.2.1,O g.2.2.2]] (FC sz T d (voD vs) jo cs ro rest)=Y (sO "good",FC sz T d (voD vs) jo cs' ro' rest'):=λcs' ro' rest' A=>
   qzz 8 [13] 6 (λq=>_/\_/\q) [.s (.nx [Y (Y1 0),Y (.tup [sO "stake",O o,O g.1,O g.2.1,O g.2.2.1,O g.2.2.2]),Y (Y1 (rest.length+8)),x],FC sz T d (voD vs) jo cs ro (rest++[Y4 Z (ps.map cD)])),.c (.non,FC sz T d (voD vs) jo cs' ro' rest')] ⟨j,A,rfl⟩
  exact⟨p _ _ _ A,N⟩
 refine⟨_,_,_,λsz=>(all sz).1,(all ⟨.non,[],[]⟩).2,.stake ps rfl rfl w,?_,?_,?_,?_,?_,?_⟩
 ·rw[Qq7,Qz9 K]
 ·simp
 ·intro c hc;rcases Qqs.mp hc with hc|hc
  ·exact .inl hc
  ·cases Qqc.mp hc;rw[(qzn _ _ _).2.2];exact .inr rfl
 ·rw[Qqd,Qxc,qii,e,thr1]
  rfl
 ·rw[e,thr1]
  rfl
 ·rw[Qq7];exact Fz.refl.app rfl _
end
noncomputable def stB(cs:L Cl)(day:B)(n:B):Bool:=match cs.find? λc=>c.nm==n with
 |some c=>decide (stW c day = "stands")
 |none=>Y6
def qvs(d:(cs.map (·.nm)).Nodup)(hc:c∈cs)(day):stB cs day c.nm=decide (stW c day = "stands"):=by
 have:cs.find? (λx=>x.nm==c.nm)=Y c:=by
  induction cs with
  |nil=>cases hc
  |cons a r f=>
   rw[Qqp,Qzy]at d;rw[Qzv];rcases Qqy.mp hc with rfl|b
   ·simp
   ·have e:(a.nm==c.nm)=false:=by
     rw[beq_eq_false_iff_ne];exact λe=>d.1 (Qqk.mpr ⟨c,b,e.symm⟩)
    rw[e];exact f d.2 b
 unfold stB;rw[this]
structure Pl where
 a:Y0
 f:Y0
 j:Y0
 s:Y0
 b:Y0
 r:Y0
 T:D
 g:D
 e:D
 bo:L (D×D)
noncomputable abbrev Pl.fc(p:Pl)(sz:D)(d:B):Ya:=.obj 642 [("extent",sz),("year",p.T),("day",.int d),("found",.loc p.f),("joints",.loc p.j),("staked",.loc p.s),("dug",p.g),("debts",p.e)]
noncomputable abbrev Pl.sc(p:Pl):Ya:=.obj 273 [("year",p.T),("book",.loc p.b),("row",.loc p.r)]
structure FA (p:Pl) (sz:D) (d:B) (fo jo:L (D×D)) (cs:L Cl) (ro:L B) (S:Y2):Prop where
 hf:S[p.a]?=Y (p.fc sz d)
 hv:S[p.f]?=Y (.dic Z fo)
 hj:S[p.j]?=Y (.dic Z jo)
 hs:S[p.s]?=Y p.sc
 hb:S[p.b]?=Y (.dic Z p.bo)
 hr:S[p.r]?=Y (.lst Z (rowD ro))
 hc:∀c∈cs,∃q y,dget p.bo (.int c.nm)=Y (.loc q)/\S[q]?=Y (c.cel (.loc y))/\S[y]?=Y c.dl
 hk:keysOf p.bo=cs.map λc=>.int c.nm
section
variable {p:Pl}{sz:D}{d:B}{fo jo:L (D×D)}{ro:L B}{S:Y2}{cs:L Cl}
def FA.app(A:FA p sz d fo jo cs ro S)(X):FA p sz d fo jo cs ro (S++X):=⟨ga X A.hf,ga X A.hv,ga X A.hj,ga X A.hs,ga X A.hb,ga X A.hr,λc hc=>by obtain⟨q,y,h1,h2,a⟩:=A.hc c hc; exact⟨q,y,h1,ga X h2,ga X a⟩,A.hk⟩
def qvk(m)(A:FA p sz d fo jo cs ro S)(nd:(cs.map (·.nm)).Nodup)(g:∀n∈ro,∃c∈cs,c.nm=n)(l:ro.length<1000):callD fns (m+3) 45 [Y1 p.a] S=Y (Y1 S.length,S++[Y4 Z (rowD (ro.filter (stB cs d)))]):=by
 have f:listAt S p.r=Y (rowD ro):=by unfold listAt; rw[A.hr]
 have j:(RL (callD fns (m+1))).ev [Y (Y1 p.s),Y (O d)] S (.attr 273 (.var 0) "row")=Y (Y1 p.r,S):=qzb 0 [] 1 (λq=>_/\q) [.r p.sc] ⟨A.hs,rfl⟩;have h:=qxx (it:=.attr 273 (.var 0) "row") (elt:=.var 0) (c:=.cmp .Eq (.mcall 191 8 "state" (.didx (.attr 273 (.var 2) "book") (.var 0)) [.var 1]) (.lit (sO "stands"))) (sr:=[J,Y 1,Y 0]) (p:=λx=>match x with|O n=>stB cs d n|_=>Y6) (s:=.lst (Y1 p.r)) id
  (by show((RL (callD fns (m+1))).ev _ _ _).bind _=_; rw[j]; show(listAt S p.r).map _=_; rw[f]; rfl) (qxp f) (qz5 f) rfl (by simp; unfold lim; lia)
  (λi x k=>by
   rw[Qqb]at k;obtain⟨n,hn,rfl⟩:=Qqi.mp k;obtain⟨c,hc,rfl⟩:=g n (Qqm hn);obtain⟨q,y,hg,b,_⟩:=A.hc c hc;have a:=qc5 m c d b;show _=Y (stB cs d c.nm,_);rw[qvs nd hc];rcases qzr c d with⟨e,_⟩|⟨e,_⟩|⟨e,_⟩|⟨e,_⟩<;>rw[e]at a ⊢
   ·exact qze 0 [8] 1 (λq=>_/\_/\_/\_/\_/\q) [.r p.sc,.r (.dic Z p.bo),.q (Y (Y1 q)),.r (c.cel (Y1 y)),.c (sO "unvested",S)] ⟨A.hs,A.hb,hg,b,a,rfl⟩
   ·exact qze 0 [8] 1 (λq=>_/\_/\_/\_/\_/\q) [.r p.sc,.r (.dic Z p.bo),.q (Y (Y1 q)),.r (c.cel (Y1 y)),.c (sO "stands",S)] ⟨A.hs,A.hb,hg,b,a,rfl⟩
   ·exact qze 0 [8] 1 (λq=>_/\_/\_/\_/\_/\q) [.r p.sc,.r (.dic Z p.bo),.q (Y (Y1 q)),.r (c.cel (Y1 y)),.c (sO "given",S)] ⟨A.hs,A.hb,hg,b,a,rfl⟩
   ·exact qze 0 [8] 1 (λq=>_/\_/\_/\_/\_/\q) [.r p.sc,.r (.dic Z p.bo),.q (Y (Y1 q)),.r (c.cel (Y1 y)),.c (sO "fallen",S)] ⟨A.hs,A.hb,hg,b,a,rfl⟩)
  (λi x _ _=>qjk _ _ _ _ _ rfl)
 have e:((rowD ro).filter λx=>match x with|O n=>stB cs d n|_=>Y6).map id=rowD (ro.filter (stB cs d)):=by
  rw[Qjb];unfold rowD;rw[Qjk]
  rfl
 rw[e]at h;exact qzz 0 [] 3 (λq=>_/\_/\_/\_/\q) [.r (p.fc sz d),.r p.sc,.r (p.fc sz d),.c (Y1 S.length,S++[Y4 Z (rowD (ro.filter (stB cs d)))])] ⟨A.hf,A.hs,A.hf,h,rfl⟩
noncomputable abbrev clT(c:Cl):D:=.tup [.int c.o,rD c.g,.int c.la,oD c.v,oD c.gv]
def qbq(m)(A:FA p sz d fo jo cs ro S)(hc:c∈cs):callD fns (m+2) 42 [Y1 p.a,O c.nm] S=Y (clT c,S):=by
 obtain⟨q,y,hg,h,_⟩:=A.hc c hc;exact qzz 0 [] 2 (λq=>_/\_/\_/\_/\_/\_/\_/\_/\_/\_/\_/\_/\_/\q) [.r (p.fc sz d),.r p.sc,.r p.sc,.r (.dic Z p.bo),.q (Y (Y1 q)),.r p.sc,.r (.dic Z p.bo),.q (Y (Y1 q)),.r (c.cel (Y1 y)),.r (c.cel (Y1 y)),.r (c.cel (Y1 y)),.r (c.cel (Y1 y)),.r (c.cel (Y1 y))] ⟨A.hf,A.hs,A.hs,A.hb,hg,A.hs,A.hb,hg,h,h,h,h,h,rfl⟩
def qwo(m)(A:FA p sz d fo jo cs ro S)(hc:c∈cs):callD fns (m+2) 43 [Y1 p.a,O c.nm] S=Y (sO (stW c d),S):=by
 obtain⟨q,y,hg,h,_⟩:=A.hc c hc;exact qzz 0 [8] 2 (λq=>_/\_/\_/\_/\_/\_/\_/\_/\_/\_/\_/\q) [.r (p.fc sz d),.r p.sc,.r p.sc,.r (.dic Z p.bo),.q (Y (Y1 q)),.r p.sc,.r (.dic Z p.bo),.q (Y (Y1 q)),.r (c.cel (Y1 y)),.r (p.fc sz d),.c (sO (stW c d),S)] ⟨A.hf,A.hs,A.hs,A.hb,hg,A.hs,A.hb,hg,h,A.hf,qc5 m c d h,rfl⟩
def qwm(m)(A:FA p sz d fo jo cs ro S)(hc:c∈cs):callD fns (m+2) 44 [Y1 p.a,O c.nm] S=Y (Y1 S.length,S++[c.dl]):=by
 obtain⟨q,y,hg,h,h2⟩:=A.hc c hc;exact qzz 0 [] 2 (λq=>_/\_/\_/\_/\_/\_/\_/\_/\_/\_/\q) [.r (p.fc sz d),.r p.sc,.r p.sc,.r (.dic Z p.bo),.q (Y (Y1 q)),.r p.sc,.r (.dic Z p.bo),.q (Y (Y1 q)),.r (c.cel (Y1 y)),.r c.dl] ⟨A.hf,A.hs,A.hs,A.hb,hg,A.hs,A.hb,hg,h,h2,rfl⟩
end
noncomputable abbrev P0(T:B)(cs:L Cl):Pl:=⟨0,1,2,3,4,5,.int T,.loc 6,.loc 7,qzq cs⟩
def qee{T:B}{Bq:Y0}(I:Inv Bq rest cs):FA (P0 T cs) sz.s d fo jo cs ro (FC sz T d fo jo cs ro rest):=⟨rfl,rfl,rfl,rfl,rfl,rfl,λc hc=>⟨c.j+9,c.j+8,I.get hc,(I.at_ c hc).2,(I.at_ c hc).1⟩,by show(qzq cs).map _=_; unfold qzq; rw[Qqf]; rfl⟩
def qhv{cs a:L Cl}(e:a.map (·.nm)=cs.map (·.nm))(h:∃c∈cs,c.nm=n):∃c∈a,c.nm=n:=by
 have:=Qqk.mpr h;rw[<- e]at this;exact Qqk.mp this
def qeh{p:Cl}(h:∃c∈cs,c.nm=n):∃c∈cs++[p],c.nm=n:=by
 obtain⟨c,hc,e⟩:=h;exact⟨c,Qq5 _ hc,e⟩
def qx3{Q:Cl->Prop}(h:∀c∈cs,Q c)(a:Q p):∀c∈cs++[p],Q c:=λc hc=>by
 rcases Qqs.mp hc with hc|hc
 ·exact h c hc
 ·cases Qqc.mp hc; exact a
def qq0{Q:Cl->Prop}(h:∀c∈cs,Q c)(b:Q c'):∀c∈upd cs c',Q c:=λc hc=>by
 obtain⟨y,a,rfl⟩:=Qqk.mp hc
 by_cases z:y.nm=c'.nm
 ·rw[Z2 z]; exact b
 ·rw[Z1 z]; exact h y a
def vst_o(day)(ps)(c):(vst day ps c).o=c.o:=by
 unfold vst;cases hit day ps c<;>rfl
def qv8(hd:q<day)(R:RowI q cs ro)(h:Op day cs ro i ro'):RowI day i ro':=by
 have b:∀c∈i,c.nm<=day:=λc hc=>by
  rcases (qv9 h).1 c hc with⟨x,a,e⟩|e
  ·have:=R.le x a; lia
  ·lia
 have un:∀{c f:Cl},c∈cs->f.nm=c.nm->f.v=c.v->∀x∈upd cs f,x.v≠J->x.nm∈ro:=λ{c f} hc e hv=>qq0 R.in2 λz=>by rw[e]; exact R.in2 c hc (by rw[<- hv]; exact z)
 have l:∀{f:Cl},∀n∈ro,∃c∈upd cs f,c.nm=n:=λ{f} n hn=>qhv qxv (R.in1 n hn)
 cases h with
 |same=>exact⟨R.in1,R.in2,b,R.ow⟩
 |@upd c f hc e hv g=>exact⟨l,un hc e hv,b,qq0 R.ow g⟩
 |vein ps=>
  have nm:(cs.map (vst day ps)).map (·.nm)=cs.map (·.nm):=by
   rw[Qqf];exact Qzb λc _=>(qzn day ps c).1
  refine⟨λn a=>?_,λx a d=>?_,b,λx a=>?_⟩
  ·rcases Qqs.mp a with a|a
   ·exact qhv nm (R.in1 n a)
   ·obtain⟨c,hc,e⟩:=Qqk.mp a;exact qhv nm ⟨c,(Qzt.mp hc).1,e⟩
  ·obtain⟨y,j,rfl⟩:=Qqk.mp a;rw[(qzn day ps y).1]
   cases k:hit day ps y with
   |true=>exact Qqh _ (Qqk.mpr ⟨y,Qzt.mpr ⟨j,k⟩,rfl⟩)
   |false=>
    have:vst day ps y=y:=by unfold vst; rw[k]; rfl
    rw[this]at d;exact Qq5 _ (R.in2 y j d)
  ·obtain⟨y,j,rfl⟩:=Qqk.mp a;unfold Ow;rw[vst_o];exact R.ow y j
 |@stake c ps e hv g=>
  have o:=(qzn day ps c).1.trans e;refine⟨λn a=>?_,λx a d=>?_,b,qx3 R.ow (by unfold Ow; rw[vst_o]; exact g)⟩
  ·rcases Qqs.mp a with a|a
   ·exact qeh (R.in1 n a)
   ·split at a
    ·exact⟨_,Qqh _ (.head _),o.trans (Qqc.mp a).symm⟩
    ·cases a
  ·rcases Qqs.mp a with a|a
   ·exact Qq5 _ (R.in2 x a d)
   ·cases Qqc.mp a
    cases k:hit day ps c with
    |true=>exact Qqh _ (by rw[o,Z2 rfl]; exact .head _)
    |false=>
     have:vst day ps c=c:=by unfold vst; rw[k]; rfl
     rw[this]at d;exact absurd hv d
 |@part0 c f p hc e hv g pw pn r m=>exact⟨λn a=>qeh (l n a),qx3 (un hc e hv) (λz=>absurd (r.trans m) z),b,qx3 (qq0 R.ow g) pw⟩
 |@part1 c f p A Q hc e hv g pw pn hr=>
  subst hr;have ext:∀n,n∈A++c.nm::Q->n∈A++c.nm::day::Q:=λn z=>by
   simp only[Qqs,Qqy]at z ⊢;rcases z with z|z|z
   ·exact .inl z
   ·exact .inr (.inl z)
   ·exact .inr (.inr (.inr z))
  refine⟨λn a=>?_,qx3 (λx a z=>ext _ (un hc e hv x a z)) (λ_=>by rw[pn]; simp),b,qx3 (qq0 R.ow g) pw⟩;have:n=day\/n∈A++c.nm::Q:=by
   simp only[Qqs,Qqy]at a ⊢;rcases a with z|z|z|z
   ·exact .inr (.inl z)
   ·exact .inr (.inr (.inl z))
   ·exact .inl z
   ·exact .inr (.inr (.inr z))
  rcases this with rfl|z
  ·exact⟨p,Qqh _ (.head _),pn⟩
  ·exact qeh (l n z)
theorem qww{ds:L D}{S:Y2}(g:D->Y3 D)(P:Sl->Prop)(b:∀i,it.at S i=Y ds[i]?)(j:ds.length<lim)(hf:∀τ d,d∈ds->P τ->∃a,f τ S d=Y (g d,a,S)/\P a):
  ∀(k i:Y0) (τ:Sl),i+k=ds.length->P τ->loopC it f (k+1) i ((ds.take i).filterMap g) τ S=Y (ds.filterMap g,S)
 |0,i,τ,h,p=>by
  have e:i=ds.length:=by lia
  subst e;rw[loopC,b,Qz2 (Qqv _),Qzo];simp only[oBs];rw[Z1 (by have:=Qjs g ds; lia)]
 |k+1,i,τ,h,p=>by
  have hi:i<ds.length:=by lia
  obtain⟨a,m,l⟩:=hf τ ds[i] (Qxl hi) p;rw[loopC,b,Qqo hi];simp only[oBs];rw[Z1 (by have:=Qjs g (ds.take i); rw[Qza]at this; lia),m];have c:=qww g P b j hf k (i+1) a (by lia) l;rw[Qzx hi,List.filterMap_append]at c;simp only[oBs]
  cases hg:g ds[i] with
  |none=>simpa[hg] using c
  |some x=>simpa[hg] using c
def qxm{ds:L D}(g:D->Y3 D)(P:Sl->Prop)(hs:src (RL c) τ st it=Y (s,st))(b:∀i,s.at st i=Y ds[i]?)(hz:s.size st=ds.length)(e:ds.length<lim)(f:P (inner sr τ))(hf:∀τ d,d∈ds->P τ->∃a,turnC (RL c) t test elt τ st d=Y (g d,a,st)/\P a):
  stepEv (RL c) τ st (.comp t it test elt sr)=Y (Y1 st.length,st++[Y4 Z (ds.filterMap g)]):=by
 show((src (RL c) τ st it).bind λp=>(loopC p.1 (turnC (RL c) t test elt) (p.1.size p.2+1) 0 [] (inner sr τ) p.2).map λq=>alloc q.2 (Y4 Z q.1))=_;rw[hs];simp only[oBs,hz];have:=qww g P b e hf ds.length 0 (inner sr τ) (by lia) f;rw[Qj7,List.filterMap_nil]at this;rw[this]
 rfl
def qvz(h:setT t d τ=Y a)(b:(RL c).ev a st elt=Y (x,st)):turnC (RL c) t J elt τ st d=Y (Y x,a,st):=by
 unfold turnC;rw[h];simp only[oBs,b,oMs]
def turn_if(h:setT t d τ=Y a)(e:(RL c).tst a st q=Y (b,st))(f:b=Z->(RL c).ev a st elt=Y (x,st)):turnC (RL c) t (Y q) elt τ st d=Y (if b then Y x else J,a,st):=by
 unfold turnC;rw[h];simp only[oBs,e]
 cases b with
 |false=>rfl
 |true=>rw[Z2 rfl,f rfl]; rfl
noncomputable def szD(W H P:B):D:=.tup [.int W,.int H,.int P]
noncomputable def bD(W H P:B):L (D×D):=[(sO "day",.tup [.int 1,.int 400]),(sO "folk",.tup [.int 1,.int 40]),(sO "x",.tup [.int 0,.int (W - 1)]),(sO "y",.tup [.int 0,.int (H - 1)]),(sO "floor",.tup [.int 0,.int P]),(sO "below",.tup [.int 1,.int P]),(sO "side",.tup [.int 0,.int 1]),(sO "line",.tup [.int 1,.int 23]),(sO "step",.tup [.int 0,.int 4]),(sO "coins",.tup [.int 1,.int 1000000])]
def Fit(W H P:B)(p:B×String):Prop:=∃lo hi,dget (bD W H P) (sO p.2)=Y (.tup [.int lo,.int hi])/\lo<=p.1/\p.1<=hi
def qny(m)(st)(b:lo<=v)(a:v<=hi):callD fns (m+1) 19 [O v,Y9 [O lo,O hi]] st=Y (.bl Z,st):=
 qzz 0 [] 1 (λq=>_/\_/\q) [.b Z,.b Z] ⟨Zs b,Zs a,rfl⟩
def qfk(m)(st)(W H P):callD fns (m+1) 18 [szD W H P] st=Y (Y1 st.length,st++[.dic Z (bD W H P)]):=
 qjf 0 [] 1 (Y1 st.length,(st++[Ya.dic Z []]).set st.length (.dic Z (bD W H P))) (λq=>_/\q) [.r (.dic Z [])] ⟨gl (st:=st) (c:=.dic Z []),by rw[sl]⟩
def qjq(m)(st)(d:L (B×String))(v:d.length<1000)(hf:∀p∈d,Fit W H P p):callD fns (m+2) 20 [szD W H P,.tup (d.map λp=>sO p.2),.tup (d.map λp=>O p.1)] st=Y (.bl Z,st++[.dic Z (bD W H P)]):=by
 have h1:(!((((d.map λp=>D.int p.1).length:Y0):B)==((d.map λp=>sO p.2).length:Y0)))=false:=by simp
 have j:∀i,pairAt (d.map λp=>D.int p.1) (d.map λp=>sO p.2) i=(d.map λp=>D.tup [O p.1,sO p.2])[i]?:=λi=>by
  unfold pairAt;rw[Qqb,Qqb,Qqb];cases d[i]?<;>rfl
 have h:=qxm (t:=.tup [0,1]) (it:=.zip (.var 2) (.var 1)) (sr:=[J,J,Y 3]) (λ_=>Y (.bl Z)) (λτ=>∃a b,τ=[a,b,Y (Y1 st.length)])
  (by
   have s:(RL (callD fns (m+1))).ev [Y (szD W H P),Y (.tup (d.map λp=>sO p.2)),Y (.tup (d.map λp=>O p.1)),Y (Y1 st.length)] (st++[.dic Z (bD W H P)]) (.var 2)=Y (.tup (d.map λp=>O p.1),st++[.dic Z (bD W H P)]):=qjk _ _ _ _ _ rfl;have u:(RL (callD fns (m+1))).ev [Y (szD W H P),Y (.tup (d.map λp=>sO p.2)),Y (.tup (d.map λp=>O p.1)),Y (Y1 st.length)] (st++[.dic Z (bD W H P)]) (.var 1)=Y (.tup (d.map λp=>sO p.2),st++[.dic Z (bD W H P)]):=qjk _ _ _ _ _ rfl;show((RL (callD fns (m+1))).ev _ _ (.var 2)).bind _=_;rw[s];show((RL (callD fns (m+1))).ev _ _ (.var 1)).bind _=_;rw[u]
   rfl) (λi=>by rw[<- j]; rfl) (by simp[Src.size,rowAt]) (by simp; unfold lim; lia) ⟨J,J,rfl⟩ (λτ x l f=>by
   obtain⟨a,b,rfl⟩:=f;obtain⟨p,f,rfl⟩:=Qqk.mp l;obtain⟨lo,hi,hg,n,g⟩:=hf p f;refine⟨[Y (O p.1),Y (sO p.2),Y (Y1 st.length)],?_,Y (O p.1),Y (sO p.2),rfl⟩;have:=qzb (fns:=fns) (k:=m) (τ:=[Y (O p.1),Y (sO p.2),Y (Y1 st.length)]) (st:=st++[.dic Z (bD W H P)]) (e:=.call 19 [.var 0,.didx (.var 2) (.var 1)]) (r:=(.bl Z,st++[.dic Z (bD W H P)])) 0 [19] 1 (λq=>_/\_/\_/\q) [.r (.dic Z (bD W H P)),.q (Y (.tup [O lo,O hi])),.c (.bl Z,st++[.dic Z (bD W H P)])] ⟨gl (st:=st) (c:=.dic Z (bD W H P)),hg,qny m (st++[.dic Z (bD W H P)]) n g,rfl⟩
   exact qvz rfl this)
 have o:(d.map λp=>D.tup [O p.1,sO p.2]).filterMap (λ_=>Y (D.bl Z))=(d.map λ_=>Z).map .bl:=by
  rw[Qxy,Qqf];exact Qxi▸rfl
 rw[o]at h;have g:bfun (st++[.dic Z (bD W H P)]) .all [.lst ((d.map λ_=>Z).map .bl)]=Y (.bl Z,st++[.dic Z (bD W H P)]):=by
  show(asBools _).map _=_;rw[asB];exact congrArg (λb=>Y (D.bl b,_)) (by simp)
 exact qzz 0 [18] 2 (λq=>_/\_/\_/\_/\_/\q) [.b Y6,.c (Y1 st.length,st++[.dic Z (bD W H P)]),.c (Y1 (st++[Ya.dic Z (bD W H P)]).length,st++[.dic Z (bD W H P)]++[Y4 Z ((d.map λ_=>Z).map .bl)]),.l ((d.map λ_=>Z).map .bl),.c (.bl Z,st++[.dic Z (bD W H P)])] ⟨h1,qfk m st W H P,h,qzv (st:=st++[.dic Z (bD W H P)]) (nlB (d.map λ_=>Z)),g,rfl⟩
def tkl{c:Ya}:(st++[c]).take st.length=st:=by simp
def gB(st:Y2)(c):noLoc (.bl Z)=Z/\(st++[c]).take st.length=st:=⟨rfl,tkl⟩
section
def qcq(b:1<=n)(a:n<=400):Fit W H P (n,"day"):=⟨1,400,by kernel_rfl,b,a⟩
def qef(b:1<=n)(a:n<=40):Fit W H P (n,"folk"):=⟨1,40,by kernel_rfl,b,a⟩
def f_x(a:0<=n)(b:n<W):Fit W H P (n,"x"):=⟨0,W - 1,by kernel_rfl,a,by simp; lia⟩
def f_y(a:0<=n)(b:n<H):Fit W H P (n,"y"):=⟨0,H - 1,by kernel_rfl,a,by simp; lia⟩
def qnb(b:1<=n)(a:n<=P):Fit W H P (n,"below"):=⟨1,P,by kernel_rfl,b,a⟩
def f_side(b:0<=n)(a:n<=1):Fit W H P (n,"side"):=⟨0,1,by kernel_rfl,b,a⟩
def f_line(b:1<=n)(a:n<=23):Fit W H P (n,"line"):=⟨1,23,by kernel_rfl,b,a⟩
def f_step(b:0<=n)(a:n<=4):Fit W H P (n,"step"):=⟨0,4,by kernel_rfl,b,a⟩
def s_work(m)(st)(b:1<=n)(a:n<=400):callD fns (m+3) 26 [szD W H P,Y9 [sO "work",O n]] st=Y (.bl Z,st):=
 qzz 0 [20] 3 (λq=>_/\_/\q) [.c (.bl Z,st++[.dic Z (bD W H P)]),.g] ⟨qjq m st (W:=W) (H:=H) (P:=P) [(n,"day")] (by simp) (by simp only[Qqc,forall_eq]; exact qcq b a),gB st (.dic Z (bD W H P)),rfl⟩
def s_give(m)(st)(b:1<=n)(a:n<=400):callD fns (m+3) 26 [szD W H P,Y9 [sO "give",O n]] st=Y (.bl Z,st):=
 qzz 0 [20] 3 (λq=>_/\_/\q) [.c (.bl Z,st++[.dic Z (bD W H P)]),.g] ⟨qjq m st (W:=W) (H:=H) (P:=P) [(n,"day")] (by simp) (by simp only[Qqc,forall_eq]; exact qcq b a),gB st (.dic Z (bD W H P)),rfl⟩
def s_sell(m)(st)(d:1<=n)(c:n<=400)(b:1<=o)(a:o<=40):callD fns (m+3) 26 [szD W H P,Y9 [sO "sell",O n,O o]] st=Y (.bl Z,st):=
 qzz 0 [20] 3 (λq=>_/\_/\q) [.c (.bl Z,st++[.dic Z (bD W H P)]),.g] ⟨qjq m st (W:=W) (H:=H) (P:=P) [(n,"day"),(o,"folk")] (by simp) (by simp only[Qqy,Qq8,or_false,forall_eq_or_imp,forall_eq]; exact⟨qcq d c,qef b a⟩),gB st (.dic Z (bD W H P)),rfl⟩
def s_part(m)(st)(h:1<=n)(g:n<=400)(f:0<=s)(e:s<=1)(d:1<=l)(c:l<=23)(b:1<=o)(a:o<=40):callD fns (m+3) 26 [szD W H P,Y9 [sO "part",O n,O s,O l,O o]] st=Y (.bl Z,st):=
 qzz 0 [20] 3 (λq=>_/\_/\q) [.c (.bl Z,st++[.dic Z (bD W H P)]),.g] ⟨qjq m st (W:=W) (H:=H) (P:=P) [(n,"day"),(s,"side"),(l,"line"),(o,"folk")] (by simp) (by simp only[Qqy,Qq8,or_false,forall_eq_or_imp,forall_eq]; exact⟨qcq h g,f_side f e,f_line d c,qef b a⟩),gB st (.dic Z (bD W H P)),rfl⟩
def s_join(m)(st)(i:1<=a)(h:a<=400)(g:1<=b)(e:b<=400)(d:1<=f)(c:f<=P):callD fns (m+3) 26 [szD W H P,Y9 [sO "join",O a,O b,O f]] st=Y (.bl Z,st):=
 qzz 0 [20] 3 (λq=>_/\_/\q) [.c (.bl Z,st++[.dic Z (bD W H P)]),.g] ⟨qjq m st (W:=W) (H:=H) [(a,"day"),(b,"day"),(f,"below")] (by simp) (by simp only[Qqy,Qq8,or_false,forall_eq_or_imp,forall_eq]; exact⟨qcq i h,qcq g e,qnb d c⟩),gB st (.dic Z (bD W H P)),rfl⟩
def s_stake(m)(st){g:B×B×B×B}(i:1<=o)(h:o<=40)(f:0<=g.1)(e:g.1<=g.2.2.1)(d:g.2.2.1<W)(c:0<=g.2.1)(b:g.2.1<=g.2.2.2)(a:g.2.2.2<H):callD fns (m+3) 26 [szD W H P,Y9 [sO "stake",O o,O g.1,O g.2.1,O g.2.2.1,O g.2.2.2]] st=Y (.bl Z,st):=
 qzz 0 [20] 3 (λq=>_/\_/\_/\_/\q) [.c (.bl Z,st++[.dic Z (bD W H P)]),.g,.b Z,.b Z] ⟨qjq m st (P:=P) [(o,"folk"),(g.1,"x"),(g.2.1,"y"),(g.2.2.1,"x"),(g.2.2.2,"y")] (by simp) (by simp only[Qqy,Qq8,or_false,forall_eq_or_imp,forall_eq]; exact⟨qef i h,f_x f (by lia),f_y c (by lia),f_x (by lia) d,f_y (by lia) a⟩),gB st (.dic Z (bD W H P)),Zs e,Zs b,rfl⟩
def Cin(W H:B)(p:B×B):Prop:=0<=p.1/\p.1<W/\0<=p.2/\p.2<H
def qnh(m)(st)(h:Cin W H p):callD fns (m+3) 21 [szD W H P,cD p] st=Y (.bl Z,st):=
 qzz 0 [20] 3 (λq=>_/\_/\q) [.c (.bl Z,st++[.dic Z (bD W H P)]),.g] ⟨qjq m st (P:=P) [(p.1,"x"),(p.2,"y")] (by simp) (by simp only[Qqy,Qq8,or_false,forall_eq_or_imp,forall_eq]; exact⟨f_x h.1 h.2.1,f_y h.2.2.1 h.2.2.2⟩),gB st (.dic Z (bD W H P)),rfl⟩
theorem qkq:∀(ks:L (L B)),ks.Nodup->∀S,(S++ks).Nodup->ks.foldl addK S=S++ks
 |[],_,S,_=>by simp
 |k::r,h,S,a=>by
  rw[Qjq];have:addK S k=S++[k]:=by
   unfold addK;rw[Z1];rw[Qxk]at a;exact λz=>a.2.2 k z k (Qq9 ..) rfl
  rw[this,qkq r (Qzy.mp h).2 (S++[k]) (by simpa using a)];simp
theorem qij:∀ps:L (B×B),(ps.map cD).mapM keyD=Y (ps.map λp=>[p.1,p.2])
 |[]=>rfl
 |p::r=>by
  rw[Qqp,Qj8,qij r]
  rfl
def qmp{ps:L (B×B)}(d:ps.Nodup)(e:ps.length<=16):qve (Y9 (ps.map cD))=Y (O (ps.length:B)):=by
 show((ps.map cD).mapM keyD).bind _=_;rw[qij];have h:(ps.map λp=>[p.1,p.2]).Nodup:=by
  refine List.Pairwise.map _ (λa b c z=>c ?_) d;simp only[List.cons.injEq,and_true]at z;exact Prod.ext z.1 z.2
 show(if (ps.map cD).length<=16 then _ else _)=_;rw[Z2 (by simpa using e)];unfold distinct;rw[qkq _ h [] (by simpa using h)];simp
def s_vein(m)(st){ss:L B}{ps:L (B×B)}(z:(ss.length:B)=P)(u:ss.length<=100)(hs:∀s∈ss,0<=s/\s<=4)(A:1<=ps.length)(v:ps.length<=16)(r:ps.Nodup)(hc:∀p∈ps,Cin W H p):callD fns (m+6) 26 [szD W H P,Y9 [sO "vein",Y9 (ss.map O),Y9 (ps.map cD)]] st=Y (.bl Z,st):=by
 have a:=qjq (m+1) st (W:=W) (H:=H) (P:=P) (ss.map λs=>(s,"step")) (by simp; lia) (λp f=>by obtain⟨s,d,rfl⟩:=Qqk.mp f; exact f_step (hs s d).1 (hs s d).2);rw[Qqf,Qqf]at a;have y:ss.map ((λp:B×String=>sO p.2)∘λs=>(s,"step"))=List.replicate ss.length (sO "step"):=by
  rw[List.eq_replicate_iff];refine⟨by simp,λb hb=>?_⟩;obtain⟨s,_,rfl⟩:=Qqk.mp hb
  rfl
 have x:ss.map ((λp:B×String=>D.int p.1)∘λs=>(s,"step"))=ss.map O:=rfl;rw[y,x]at a;have t:binop st .Mult (Y9 [sO "step"]) (O P)=Y (Y9 (List.replicate ss.length (sO "step")),st):=by
  show(if decide (P < -(2 ^ 62))||decide (2 ^ 62<=P)||decide (lim<1*P.toNat) then J else Y (D.tup (List.replicate P.toNat [sO "step"]).flatten,st))=_;have:P.toNat=ss.length:=by lia
  rw[Z1 (by simp; unfold lim; lia),this]
  congr 3
  induction ss.length with
  |zero=>rfl
  |succ k o=>rw[Qzi,Qz6,o]; rfl
 have l:decide ((1:B)<=((ps.map cD).length:Y0))=true:=Zs (by simp; lia);have j:decide (((ps.map cD).length:B)<=16)=true:=Zs (by simp; lia);have e:=qz0 (c:=callD fns (m+3)) (τ:=[Y (szD W H P),Y (Y9 (ps.map cD))]) (st:=st) (i:=1) (elt:=.call 21 [Yd 1,Yd 0]) (sr:=[J,Y 0]) ps cD (λ_=>.bl Z) rfl rfl (by unfold lim; lia) rfl λp f=>qzb 0 [21] 3 (λq=>_/\q) [.c (.bl Z,st)] ⟨qnh m st (P:=P) (hc p f),rfl⟩;have w:ps.map (λ_=>D.bl Z)=(ps.map λ_=>Z).map .bl:=by rw[Qqf]; rfl
 rw[w]at e;have n:bfun st .all [Yc ((ps.map λ_=>Z).map .bl)]=Y (.bl Z,st):=by
  show(asBools _).map _=_;rw[asB];exact congrArg (λb=>Y (D.bl b,_)) (by simp)
 have g:qve (Y9 (ps.map cD))=Y (O ((ps.map cD).length:B)):=by rw[qmp r v]; simp
 have h:(((ps.map cD).length:B)==((ps.map cD).length:Y0))=true:=by simp
 exact qzz 0 [20,21] 6 (λq=>_/\_/\_/\_/\_/\_/\_/\_/\_/\_/\q) [.k,.c (Y9 (List.replicate ss.length (sO "step")),st),.c (.bl Z,st++[.dic Z (bD W H P)]),.g,.b Z,.b Z,.c (Y1 st.length,st++[Y4 Z ((ps.map λ_=>Z).map .bl)]),.l ((ps.map λ_=>Z).map .bl),.c (.bl Z,st),.i (O ((ps.map cD).length:B)),.b Z] ⟨t,a,gB st (.dic Z (bD W H P)),l,j,e,qzv (st:=st) (nlB (ps.map λ_=>Z)),n,g,h,rfl⟩
end
noncomputable def scr(ns:L B):D:=.lst (ns.map .int)
def modE(a)(h:0<b):∃v,(∀S,binop S .Mod (O a) (O b)=Y (O v,S))/\0<=v/\v<b:=⟨_,λS=>bMo S a h,Int.emod_nonneg _ (by lia),Int.emod_lt_of_pos _ h⟩
def divE(a)(h:0<b)(c:b<2 ^ 64):∃v,∀S,binop S .FloorDiv (O a) (O b)=Y (O v,S):=⟨_,λS=>bDi S a h c⟩
noncomputable def itD:Y0->B->B
 |0,a=>a
 |n+1,a=>itD n a / 10000000000
noncomputable abbrev drT(ns:L B)(k j many cell turn rest:B)(o:Y3 D):Sl:=[Y (scr ns),Y (.int k),Y (.int j),Y (.int many),Y (.int cell),Y (.int turn),Y (.int rest),o,J,J]
def qel(m)(st)(hj:0<=j)(f:j<100000):∃o,stepEx (RL (callD fns m)) (drT ns k j many cell turn cell J) st (.forr (.var 7) (.rng1 (.var 2)) [.set (.var 6) (.bin .FloorDiv (.var 6) (.bin .Pow (.lit (O 10)) (.lit (O 10))))])=Y (.nx (drT ns k j many cell turn (itD j.toNat cell) o),st):=by
 obtain⟨a,st',e,o,rfl,rfl⟩:=qj9 (c:=callD fns m) (τ:=drT ns k j many cell turn cell J) (st:=st) (it:=.rng1 (.var 2)) (s:=.rng 0 j.toNat) (ds:=(List.range j.toNat).map λ(i:Y0)=>D.int (0+i)) (t:=.var 7) (body:=[.set (.var 6) (.bin .FloorDiv (.var 6) (.bin .Pow (.lit (O 10)) (.lit (O 10))))])
  (λi a st'=>∃o,a=drT ns k j many cell turn (itD i cell) o/\st'=st)
  (by
   have e:(RL (callD fns m)).ev (drT ns k j many cell turn cell J) st (.var 2)=Y (O j,st):=qjk _ _ _ _ _ rfl;show((RL (callD fns m)).ev _ _ (.var 2)).bind _=_;rw[e];show(if big j=Z then J else Y (Src.rng 0 j.toNat,st))=_
   rw[Z1 (by unfold big; simp; lia)])
  (by simp[Src.size]) (λi _ _ _=>qyk _ _ _) ⟨J,rfl,rfl⟩ (λi a st' d hd h=>by
   obtain⟨o,rfl,rfl⟩:=h;rw[Qqb]at hd;obtain⟨x,_,rfl⟩:=Qqi.mp hd;refine⟨drT ns k j many cell turn (itD i cell / 10000000000) (Y (O (0+x))),st',?_,_,rfl,rfl⟩;show(RL (callD fns m)).ex (drT ns k j many cell turn (itD i cell) (Y (O (0+x)))) st' _=_
   exact qqx (k:=m) 0 [] 0 (λq=>_/\q) [.c (O (itD i cell / 10000000000),st')] ⟨bDi st' (itD i cell) (b:=10000000000) (by decide) (by decide),rfl⟩)
 rw[Qqx,Qx1]at e;exact⟨o,e⟩
noncomputable abbrev drZ(o y t z w x u v:B)(S:Y2):Tp:=[.b Z,.b Z,.b Z,.c (.int o,S),.b Z,.c (.int y,S),.c (.int t,S),.c (.int z,S),.b Z,.c (.int w,S),.b Z,.b Z,.c (.int x,S),.c (.int u,S),.c (.int v,S)]
noncomputable abbrev drX(a c t:B)(τ:Sl)(S:Y2)(r:Tp):Tp:=.b Z::.c (.int a,S)::.i (.int c)::.c (.int t,S)::.s (.nx τ,S)::r
def dr0(W:ns.length<=63)(k j)(hj:0<=j)(e:j<100000)(r:0<many):∃v:B,(∀m st,callD fns (m+1) 47 [scr ns,O k,O j,O many] st=Y (O v,st))/\0<=v/\v<many:=by
 obtain⟨cell,c,pre⟩:∃cell c:B,(ns=[]/\cell=0/\c=1)\/(0<((ns.map D.int).length:B)/\∃a,(∀S,binop S .Mod (O k) (O (ns.map D.int).length)=Y (O a,S))/\(∀S,idxD S (scr ns) (O a)=Y (O cell))/\∀S,binop S .FloorDiv (O k) (O (ns.map D.int).length)=Y (O c,S)):=by
  by_cases s:ns=[]
  ·exact⟨0,1,.inl ⟨s,rfl,rfl⟩⟩
  ·have V:=Qxm.mpr s;have d:(ns.map D.int).length=ns.length:=Qqx _;have hz:0<((ns.map D.int).length:B):=by lia
   obtain⟨a,h,P,N⟩:=modE k hz;obtain⟨b,h'⟩:=divE k hz (by lia);have n:a.toNat<ns.length:=by lia
   exact⟨ns[a.toNat],b,.inr ⟨hz,a,h,λS=>by simp only[scr,idxD,seqAt,oBs,atI,ixN,P,if_true,N,Qqb,Qqo n,oMs],h'⟩⟩
 obtain⟨one,h1,U,T⟩:=modE (cell*7919+k*104729+j*1299709+31) (b:=1000000007) (by decide);obtain⟨y,h2⟩:=divE cell (b:=1009) (by decide) (by decide);obtain⟨two,H,_,_⟩:=modE (one*48271+y) (b:=998244353) (by decide);obtain⟨z,G,R,Q⟩:=modE one (b:=9973) (by decide);obtain⟨tw,n,_,_⟩:=modE (two*(z+1)+j) (b:=1000000009) (by decide);obtain⟨w,F⟩:=divE tw (b:=1013) (by decide) (by decide);obtain⟨u,E,_,_⟩:=modE (one*69621+tw*40692+w) (b:=2147483647) (by decide);obtain⟨v,C,g,f⟩:=modE u r;obtain⟨x,K,_,_⟩:=modE (itD j.toNat cell) (b:=10000000000) (by decide);obtain⟨p,I,A,t⟩:=modE x r;have tl:=λst=>(⟨qqg (by decide) (by decide),qqg (by decide) (by decide),qqg (by decide) (by decide),h1 st,qqg (by decide) (by decide),h2 st,H st,G st,qqg (by lia) (by lia),n st,qqg (by decide) (by decide),qqg (by decide) (by decide),F st,E st,C st,rfl⟩:mulOk cell 7919=Z/\mulOk k 104729=Z/\mulOk j 1299709=Z/\_/\mulOk one 48271=Z/\_/\_/\_/\mulOk two (z+1)=Z/\_/\mulOk one 69621=Z/\mulOk tw 40692=Z/\_/\_/\_/\(D.int v,st)=(D.int v,st))
 rcases pre with⟨rfl,rfl,rfl⟩|⟨hz,a,p1,p2,i⟩
 ·refine⟨v,λm st=>?_,g,f⟩;obtain⟨o,d⟩:=qel m st (ns:=[]) (k:=k) (many:=many) (cell:=0) (turn:=1) hj e;exact qzz (k:=m) 0 [] 1 (λq=>_/\_/\_/\_/\_/\_/\_/\_/\_/\_/\_/\_/\_/\_/\_/\_/\_/\_/\q) (.b Y6::.s (.nx (drT [] k j many 0 1 (itD j.toNat 0) o),st)::.b Y6::drZ one y two z tw w u v st) ⟨(rfl:decide ((0:B)<0)=Y6),d,(rfl:((1:B)==0)=Y6),tl st⟩
 ·have l:decide (0<((ns.map D.int).length:B))=true:=Zs hz;have lp:=λm st=>qel m st (ns:=ns) (k:=k) (many:=many) (cell:=cell) (turn:=c) hj e
  by_cases c1:c=0
  ·by_cases c2:1000000000000000000<=cell
   ·by_cases c3:0<itD j.toNat cell
    ·refine⟨p,λm st=>?_,A,t⟩;obtain⟨o,d⟩:=lp m st;exact qzz (k:=m) 0 [] 1 (λq=>_/\_/\_/\_/\_/\_/\_/\_/\_/\_/\q) (drX a cell c (drT ns k j many cell c (itD j.toNat cell) o) st [.b Z,.b Z,.b Z,.c (O x,st),.c (O p,st)]) ⟨l,p1 st,p2 st,i st,d,beq_iff_eq.mpr c1,Zs c2,Zs c3,K st,I st,rfl⟩
    ·refine⟨v,λm st=>?_,g,f⟩;obtain⟨o,d⟩:=lp m st;exact qzz (k:=m) 0 [] 1 (λq=>_/\_/\_/\_/\_/\_/\_/\_/\_/\_/\_/\_/\_/\_/\_/\_/\_/\_/\_/\_/\_/\_/\_/\q) (drX a cell c (drT ns k j many cell c (itD j.toNat cell) o) st (.b Z::.b Z::.b Y6::drZ one y two z tw w u v st)) ⟨l,p1 st,p2 st,i st,d,beq_iff_eq.mpr c1,Zs c2,Zu c3,tl st⟩
   ·refine⟨v,λm st=>?_,g,f⟩;obtain⟨o,d⟩:=lp m st;exact qzz (k:=m) 0 [] 1 (λq=>_/\_/\_/\_/\_/\_/\_/\_/\_/\_/\_/\_/\_/\_/\_/\_/\_/\_/\_/\_/\_/\_/\q) (drX a cell c (drT ns k j many cell c (itD j.toNat cell) o) st (.b Z::.b Y6::drZ one y two z tw w u v st)) ⟨l,p1 st,p2 st,i st,d,beq_iff_eq.mpr c1,Zu c2,tl st⟩
  ·refine⟨v,λm st=>?_,g,f⟩;obtain⟨o,d⟩:=lp m st;exact qzz (k:=m) 0 [] 1 (λq=>_/\_/\_/\_/\_/\_/\_/\_/\_/\_/\_/\_/\_/\_/\_/\_/\_/\_/\_/\_/\_/\q) (drX a cell c (drT ns k j many cell c (itD j.toNat cell) o) st (.b Y6::drZ one y two z tw w u v st)) ⟨l,p1 st,p2 st,i st,d,beq_eq_false_iff_ne.mpr c1,tl st⟩
section
variable {ns:L B}(hn:ns.length<=63)
include hn
theorem dr(m)(st)(k j)(hj:0<=j)(b:j<100000)(c:0<many):∃v:B,callD fns (m+1) 47 [scr ns,O k,O j,O many] st=Y (O v,st)/\0<=v/\v<many:=by
 obtain⟨v,h,a⟩:=dr0 hn k j hj b c;exact⟨v,h m st,a⟩
theorem qlv(m)(st)(k):∃W H P:B,callD fns (m+2) 49 [scr ns,O k] st=Y (szD W H P,st)/\1<=W/\W<=24/\1<=H/\H<=24/\0<=P/\P<=12/\(H<=3/\P<=2\/W<=3/\P<=2\/W<=3/\H<=3\/W<=6/\H<=6/\P<=5):=by
 obtain⟨a,h,u,t⟩:=dr hn m st k 0 (many:=6) (by decide) (by decide) (by decide);obtain⟨b,hb,b1,b2⟩:=dr hn m st k 1 (many:=6) (by decide) (by decide) (by decide);obtain⟨c,hc,c1,c2⟩:=dr hn m st k 2 (many:=6) (by decide) (by decide) (by decide);obtain⟨e,g,s,p⟩:=dr hn m st k 3 (many:=12) (by decide) (by decide) (by decide);have n:=qzv (st:=st) (ds:=[Y9 [O 24,O (1+(1+b) / 3),O (c / 2)],Y9 [O (1+(1+a) / 3),O 24,O (c / 2)]]) rfl;have l:=qzv (st:=st) (ds:=[Y9 [O (1+(1+a) / 3),O (1+(1+b) / 3),O 12],Y9 [O (1+a),O (1+b),O c]]) rfl;have j:=qzv (st:=st) (ds:=[Y9 [O 24,O (1+(1+b) / 3),O (c / 2)],Y9 [O (1+(1+a) / 3),O 24,O (c / 2)],Y9 [O (1+(1+a) / 3),O (1+(1+b) / 3),O 12],Y9 [O (1+a),O (1+b),O c]]) rfl;have d:∀(i:B) (r:D),(if decide (e<3) then e else 3)=i->idxD st (Yc [Y9 [O 24,O (1+(1+b) / 3),O (c / 2)],Y9 [O (1+(1+a) / 3),O 24,O (c / 2)],Y9 [O (1+(1+a) / 3),O (1+(1+b) / 3),O 12],Y9 [O (1+a),O (1+b),O c]]) (O i)=Y r->callD fns (m+2) 49 [scr ns,O k] st=Y (r,st):=λi r hi hr=>by
  rw[<- hi]at hr
  by_cases f:e<3
  ·rw[Zs f]at hr;exact qzz 0 [47] 2 (λq=>_/\_/\_/\_/\_/\_/\_/\_/\_/\q) [.c (O a,st),.c (O b,st),.c (O c,st),.l [Y9 [O 24,O (1+(1+b) / 3),O (c / 2)],Y9 [O (1+(1+a) / 3),O 24,O (c / 2)]],.l [Y9 [O (1+(1+a) / 3),O (1+(1+b) / 3),O 12],Y9 [O (1+a),O (1+b),O c]],.k,.l [Y9 [O 24,O (1+(1+b) / 3),O (c / 2)],Y9 [O (1+(1+a) / 3),O 24,O (c / 2)],Y9 [O (1+(1+a) / 3),O (1+(1+b) / 3),O 12],Y9 [O (1+a),O (1+b),O c]],.c (O e,st),.b Z,.i r] ⟨h,hb,hc,n,l,j,g,Zs f,hr,rfl⟩
  ·rw[Zu f]at hr;exact qzz 0 [47] 2 (λq=>_/\_/\_/\_/\_/\_/\_/\_/\_/\q) [.c (O a,st),.c (O b,st),.c (O c,st),.l [Y9 [O 24,O (1+(1+b) / 3),O (c / 2)],Y9 [O (1+(1+a) / 3),O 24,O (c / 2)]],.l [Y9 [O (1+(1+a) / 3),O (1+(1+b) / 3),O 12],Y9 [O (1+a),O (1+b),O c]],.k,.l [Y9 [O 24,O (1+(1+b) / 3),O (c / 2)],Y9 [O (1+(1+a) / 3),O 24,O (c / 2)],Y9 [O (1+(1+a) / 3),O (1+(1+b) / 3),O 12],Y9 [O (1+a),O (1+b),O c]],.c (O e,st),.b Y6,.i r] ⟨h,hb,hc,n,l,j,g,Zu f,hr,rfl⟩
 by_cases o:e=0
 ·exact⟨24,1+(1+b) / 3,c / 2,d 0 _ (by subst o; rfl) rfl,by lia,by lia,by lia,by lia,by lia,by lia,by lia⟩
 ·by_cases h1:e=1
  ·exact⟨1+(1+a) / 3,24,c / 2,d 1 _ (by subst h1; rfl) rfl,by lia,by lia,by lia,by lia,by lia,by lia,by lia⟩
  ·by_cases h2:e=2
   ·exact⟨1+(1+a) / 3,1+(1+b) / 3,12,d 2 _ (by subst h2; rfl) rfl,by lia,by lia,by lia,by lia,by lia,by lia,by lia⟩
   ·exact⟨1+a,1+b,c,d 3 _ (by rw[Zu (by lia)]; rfl) rfl,by lia,by lia,by lia,by lia,by lia,by lia,by lia⟩
theorem qi5(m)(st)(k):∃T:B,callD fns (m+2) 50 [scr ns,O k] st=Y (O T,st)/\1<=T/\T<=400:=by
 obtain⟨a,e,i,f⟩:=dr hn m st k 5 (many:=400) (by decide) (by decide) (by decide);obtain⟨b,hb,b1,b2⟩:=dr hn m st k 4 (many:=4) (by decide) (by decide) (by decide);have g:=qzv (st:=st) (ds:=[O (1+a),O (1+a % 4),O (4+a % 50),O (4+a % 50)]) rfl;have c:∀T:B,idxD st (Yc [O (1+a),O (1+a % 4),O (4+a % 50),O (4+a % 50)]) (O b)=Y (O T)->callD fns (m+2) 50 [scr ns,O k] st=Y (O T,st):=λT h=>
  qzz 0 [47] 2 (λq=>_/\_/\_/\_/\q) [.c (O a,st),.l [O (1+a),O (1+a % 4),O (4+a % 50),O (4+a % 50)],.c (O b,st),.i (O T)] ⟨e,g,hb,h,rfl⟩
 have d:b=0\/b=1\/b=2\/b=3:=by lia
 rcases d with rfl|rfl|rfl|rfl
 ·exact⟨1+a,c _ rfl,by lia,by lia⟩
 ·exact⟨1+a % 4,c _ rfl,by lia,by lia⟩
 ·exact⟨4+a % 50,c _ rfl,by lia,by lia⟩
 ·exact⟨4+a % 50,c _ rfl,by lia,by lia⟩
theorem qld(m)(st)(k j)(hj:0<=j)(l:j<1000)(f:0<W)(i:0<H):∃g:B×B×B×B,callD fns (m+2) 51 [scr ns,O k,O j,O W,O H] st=Y (rD g,st)/\0<=g.1/\g.1<=g.2.2.1/\g.2.2.1<W/\0<=g.2.1/\g.2.1<=g.2.2.2/\g.2.2.2<H:=by
 obtain⟨a,o,t,s⟩:=dr hn m st k j hj (by lia) f;obtain⟨b,hb,b1,b2⟩:=dr hn m st k (j+1) (by lia) (by lia) f;obtain⟨c,hc,c1,c2⟩:=dr hn m st k (j+2) (by lia) (by lia) i;obtain⟨e,n,r,p⟩:=dr hn m st k (j+3) (by lia) (by lia) i;have d:∀x y:B,bfun st .sorted [Yc [O x,O y]]=Y (Y1 st.length,st++[Y4 Z [O (min x y),O (max x y)]]):=λx y=>by
  show Y (alloc st (Y4 Z ((sortInt [x,y]).map O)))=_;have:sortInt [x,y]=[min x y,max x y]:=by
   show(if x<=y then [x,y] else [y,x])=_
   by_cases h:x<=y
   ·rw[Z2 h,Int.min_eq_left h,Int.max_eq_right h]
   ·rw[Z1 h,Int.min_eq_right (by lia),Int.max_eq_left (by lia)]
  rw[this]
  rfl
 refine⟨(min a b,min c e,max a b,max c e),?_,by simp only; lia,by simp only; lia,by simp only; lia,by simp only; lia,by simp only; lia,by simp only; lia⟩;exact qzz 0 [47] 2 (λq=>_/\_/\_/\_/\_/\_/\_/\_/\_/\_/\q) [.c (O a,st),.c (O b,st),.l [O a,O b],.c (Y1 st.length,st++[Y4 Z [O (min a b),O (max a b)]]),.l [O (min a b),O (max a b)],.c (O c,st),.c (O e,st),.l [O c,O e],.c (Y1 st.length,st++[Y4 Z [O (min c e),O (max c e)]]),.l [O (min c e),O (max c e)]] ⟨o,hb,qzv (st:=st) (ds:=[O a,O b]) rfl,d a b,qzv (st:=st) (ds:=[O (min a b),O (max a b)]) rfl,hc,n,qzv (st:=st) (ds:=[O c,O e]) rfl,d c e,qzv (st:=st) (ds:=[O (min c e),O (max c e)]) rfl,rfl⟩
theorem qcb(m)(st)(k j)(hj:0<=j)(c:j<1000):∃o:B,callD fns (m+2) 54 [scr ns,O k,O j] st=Y (O o,st)/\1<=o/\o<=40:=by
 obtain⟨a,d,f,e⟩:=dr hn m st k (j+1) (many:=6) (by lia) (by lia) (by decide);have g:=qzv (st:=st) (ds:=[O 40,O 4,O 4,O 4,O 4,O 4]) rfl;have ⟨w,hw,w1,w2⟩:∃w:B,idxD st (Yc [O 40,O 4,O 4,O 4,O 4,O 4]) (O a)=Y (O w)/\0<w/\w<=40:=by
  have:a=0\/a=1\/a=2\/a=3\/a=4\/a=5:=by lia
  rcases this with rfl|rfl|rfl|rfl|rfl|rfl
  ·exact⟨40,rfl,by decide,by decide⟩
  all_goals exact⟨4,rfl,by decide,by decide⟩
 obtain⟨b,hb,b1,b2⟩:=dr hn m st k j hj (by lia) w1;exact⟨1+b,qzz 0 [47] 2 (λq=>_/\_/\_/\_/\q) [.l [O 40,O 4,O 4,O 4,O 4,O 4],.c (O a,st),.i (O w),.c (O b,st)] ⟨g,d,hw,hb,rfl⟩,by lia,by lia⟩
theorem qye(m)(st)(k j)(hj:0<=j)(l:j<1000){xs:L B}(i:∀x∈xs,1<=x/\x<=400):∃n:B,callD fns (m+2) 55 [scr ns,O k,O j,Yc (xs.map O)] st=Y (O n,st)/\1<=n/\n<=400:=by
 obtain⟨b,hb,b1,b2⟩:=dr hn m st k (j+1) (many:=400) (by lia) (by lia) (by decide)
 by_cases f:xs=[]
 ·subst f;exact⟨1+b,qzz 0 [47] 2 (λq=>_/\q) [.k,.c (O b,st)] ⟨hb,rfl⟩,by lia,by lia⟩
 ·have o:=Qxm.mpr f;have h:(((xs.map D.int).length:B)==0)=false:=by
   rw[beq_eq_false_iff_ne];simp;exact f
  obtain⟨a,g,r,p⟩:=dr hn m st k j (many:=14) (by lia) (by lia) (by decide)
  by_cases h1:a=0
  ·exact⟨1+b,qzz 0 [47] 2 (λq=>_/\_/\_/\_/\q) [.b Y6,.c (O a,st),.b Z,.c (O b,st)] ⟨h,g,(show(a==0)=Z by simpa using h1),hb,rfl⟩,by lia,by lia⟩
  ·obtain⟨c,hc,c1,c2⟩:=dr hn m st k (j+1) (many:=((xs.map D.int).length:B)) (by lia) (by lia) (by simp; lia);rw[Qqx]at c2;have hi:c.toNat<xs.length:=by lia
   have d:=i xs[c.toNat] (Qxl hi);have e:idxD st (Yc (xs.map O)) (O c)=Y (O xs[c.toNat]):=by
    show atI (xs.map D.int) c=_;unfold atI ixN;rw[Z2 c1,Z2 (by simpa using c2)];simp[Qqo hi]
   exact⟨xs[c.toNat],qzz 0 [47] 2 (λq=>_/\_/\_/\_/\_/\q) [.b Y6,.c (O a,st),.b Y6,.c (O c,st),.i (O xs[c.toNat])] ⟨h,g,(show(a==0)=Y6 by simpa using h1),hc,e,rfl⟩,d.1,d.2⟩
end
section
variable {ns:L B}(hn:ns.length<=63)
include hn
omit hn in
noncomputable def stT(d:B):Int:=[0,1,2,3,4,0,0].getD d.toNat 0
theorem qf5(m)(st)(k j)(hj:0<=j)(u:j<1000)(w:0<=P)(p:P<=12):∃f:L B,callD fns (m+2) 52 [scr ns,O k,O j,O P] st=Y (.tup (f.map O),st)/\(f.length:B)=P/\∀s∈f,0<=s/\s<=4:=by
 obtain⟨c,o⟩:=Classical.axiomOfChoice (λx:B=>show ∃v:B,(0<=x->x<100000->∀m st,callD fns (m+1) 47 [scr ns,O k,O x,O 7] st=Y (O v,st))/\0<=v/\v<7 by
  by_cases h:0<=x/\x<100000
  ·obtain⟨v,a,b⟩:=dr0 hn k x (many:=7) h.1 h.2 (by decide);exact⟨v,λ_ _=>a,b⟩
  ·exact⟨0,λp h2=>absurd ⟨p,h2⟩ h,by decide⟩)
 have hr:(List.range P.toNat).map (λ(i:Y0)=>D.int (0+i))=(List.range P.toNat).map λ(i:Y0)=>D.int i:=Qzb λi _=>by simp
 have h:=qxm (t:=.var 0) (it:=.rng1 (.var 3)) (elt:=.idx (.gc (.lst [.lit (O 0),.lit (O 1),.lit (O 2),.lit (O 3),.lit (O 4),.lit (O 0),.lit (O 0)])) (.call 47 [.var 3,.var 2,.bin .Add (.var 1) (.var 0),.lit (O 7)])) (sr:=[J,Y 2,Y 1,Y 0]) (λd=>match d with|O i=>Y (O (stT (c (j+i))))|_=>J) (λτ=>∃a,τ=[a,Y (O j),Y (O k),Y (scr ns)])
  (by
   have e:(RL (callD fns (m+1))).ev [Y (scr ns),Y (O k),Y (O j),Y (O P)] st (.var 3)=Y (O P,st):=qjk _ _ _ _ _ rfl;show((RL (callD fns (m+1))).ev _ _ (.var 3)).bind _=_;rw[e];show(if big P=Z then J else Y (Src.rng 0 P.toNat,st))=_
   rw[Z1 (by unfold big; simp; lia)])
  (λi=>by rw[qyk,hr]) (by simp[Src.size]) (by simp; unfold lim; lia) ⟨J,rfl⟩ (λτ d hd r=>by
   obtain⟨a,rfl⟩:=r;obtain⟨i,hi,rfl⟩:=Qqk.mp hd;have hi:=Qzr.mp hi;refine⟨[Y (O (i:Y0)),Y (O j),Y (O k),Y (scr ns)],?_,Y (O (i:Y0)),rfl⟩;obtain⟨hd,l,g⟩:=o (j+(i:Y0));have hd:=hd (by lia) (by lia) m st;have n:idxD st (.lst [O 0,O 1,O 2,O 3,O 4,O 0,O 0]) (O (c (j+(i:Y0))))=Y (O (stT (c (j+(i:Y0))))):=by
    generalize c (j+(i:Y0))=v at l g ⊢;have:v=0\/v=1\/v=2\/v=3\/v=4\/v=5\/v=6:=by lia
    rcases this with rfl|rfl|rfl|rfl|rfl|rfl|rfl<;>rfl
   exact qvz rfl (qzb 0 [47] 1 (λq=>_/\_/\_/\q) [.l [O 0,O 1,O 2,O 3,O 4,O 0,O 0],.c (O (c (j+(i:Y0))),st),.i (O (stT (c (j+(i:Y0)))))] ⟨qzv (st:=st) (ds:=[O 0,O 1,O 2,O 3,O 4,O 0,O 0]) rfl,hd,n,rfl⟩))
 have e:((List.range P.toNat).map λ(i:Y0)=>D.int i).filterMap (λd=>match d with|O i=>Y (D.int (stT (c (j+i))))|_=>J)=((List.range P.toNat).map λ(i:Y0)=>stT (c (j+(i:Y0)))).map O:=by
  rw[Qxy,Qqf];exact Qxi▸rfl
 rw[e]at h;refine⟨(List.range P.toNat).map λ(i:Y0)=>stT (c (j+(i:Y0))),qzz 0 [] 2 (λq=>_/\_/\q) [.c (Y1 st.length,st++[Y4 Z (((List.range P.toNat).map λ(i:Y0)=>stT (c (j+(i:Y0)))).map O)]),.l (((List.range P.toNat).map λ(i:Y0)=>stT (c (j+(i:Y0)))).map O)] ⟨h,qzv (st:=st) (nlI ((List.range P.toNat).map λ(i:Y0)=>stT (c (j+(i:Y0))))),rfl⟩,by simp; lia,λs hs=>?_⟩;obtain⟨i,_,rfl⟩:=Qqk.mp hs;obtain⟨_,l,g⟩:=o (j+(i:Y0));generalize c (j+(i:Y0))=v at l g ⊢;have:v=0\/v=1\/v=2\/v=3\/v=4\/v=5\/v=6:=by lia
 rcases this with rfl|rfl|rfl|rfl|rfl|rfl|rfl<;>decide
omit hn in
theorem flat_c(ps:L (B×B)):flats 9 (ps.map cD)=true:=by
 induction ps with
 |nil=>rfl
 |cons p r a=>show(flat 9 (cD p)&&flats 9 (r.map cD))=Z; rw[a]; rfl
omit hn in
theorem any_c(ps:L (B×B))(p):((ps.map cD).any λy=>eqT y (cD p))=decide (p∈ps):=by
 induction ps with
 |nil=>rfl
 |cons a r b=>
  have e:eqT (cD a) (cD p)=decide (p=a):=by
   show((a.1==p.1)&&((a.2==p.2)&&Z))=_;rw[Qx2,Qj3];simp only[Qq0,beq_iff_eq,decide_eq_true_eq];exact⟨λh=>Prod.ext h.1.symm h.2.symm,λh=>by rw[h]; exact⟨rfl,rfl⟩⟩
  rw[Qqp,Qz8,b,e];simp only[Qqy]
  by_cases h1:p=a<;>by_cases h2:p∈r<;>simp[h1,h2]
theorem qmq(m)(st)(k j)(hj:0<=j)(a0:j<1000)(w1:1<=W)(T:W<=24)(h1:1<=H)(h2:H<=24):∃ps:L (B×B),callD fns (m+2) 53 [scr ns,O k,O j,szD W H P] st=Y (.tup (ps.map cD),st++[Y4 Z (ps.map cD)])/\1<=ps.length/\ps.length<=16/\ps.Nodup/\∀p∈ps,Cin W H p:=by
 have hc:0<W*H:=Int.mul_pos (by lia) (by lia);have a3:=Int.mul_le_mul T h2 (by lia) (by lia);obtain⟨f,hf,f1,f2⟩:=dr hn m st k j hj (by lia) hc;obtain⟨g,hg,g1,g2⟩:=dr hn m st k (j+1) (by lia) (by lia) hc;obtain⟨a,K,a1,a2⟩:=dr hn m (st++[Y4 Z []]) k (j+2) (many:=4) (by lia) (by lia) (by decide);have ⟨w,hw,S,x2⟩:∃w:B,idxD (st++[Y4 Z []]) (.lst [O 16,O 4,O 4,O 4]) (O a)=Y (O w)/\0<w/\w<=16:=by
  have:a=0\/a=1\/a=2\/a=3:=by lia
  rcases this with rfl|rfl|rfl|rfl
  ·exact⟨16,rfl,by decide,by decide⟩
  all_goals exact⟨4,rfl,by decide,by decide⟩
 obtain⟨b,hb,b1,b2⟩:=dr hn m (st++[Y4 Z []]) k (j+3) (by lia) (by lia) S;have I:(RL (callD fns (m+1))).ev [Y (scr ns),Y (O k),Y (O j),Y (szD W H P),Y (O (W*H)),Y (O f),Y (O (1+g)),Y (Y1 st.length),J,J] (st++[Y4 Z []]) (.bin .Add (.lit (O 1)) (.call 47 [.var 0,.var 1,.bin .Add (.var 2) (.lit (O 3)),.idx (.gc (.lst [.lit (O 16),.lit (O 4),.lit (O 4),.lit (O 4)])) (.call 47 [.var 0,.var 1,.bin .Add (.var 2) (.lit (O 2)),.lit (O 4)])]))=Y (O (1+b),st++[Y4 Z []]):=
  qzb 0 [47] 1 (λq=>_/\_/\_/\_/\q) [.l [O 16,O 4,O 4,O 4],.c (O a,st++[Y4 Z []]),.i (O w),.c (O b,st++[Y4 Z []])] ⟨qzv (st:=st++[Y4 Z []]) (ds:=[O 16,O 4,O 4,O 4]) rfl,K,hw,hb,rfl⟩
 obtain⟨h,st',h3,k',o,D,ps,rfl,rfl,p1,p2,C,A⟩:=qj9 (st:=st++[Y4 Z []]) (it:=.rng1 (.bin .Add (.lit (O 1)) (.call 47 [.var 0,.var 1,.bin .Add (.var 2) (.lit (O 3)),.idx (.gc (.lst [.lit (O 16),.lit (O 4),.lit (O 4),.lit (O 4)])) (.call 47 [.var 0,.var 1,.bin .Add (.var 2) (.lit (O 2)),.lit (O 4)])]))) (t:=.var 8)
  (body:=[.set (.var 9) (.bin .Mod (.bin .Add (.var 5) (.bin .Mult (.var 8) (.var 6))) (.var 4)),.ite (.cmp .NotIn (.tup [.bin .Mod (.var 9) (.idx (.var 3) (.lit (O 0))),.bin .FloorDiv (.var 9) (.idx (.var 3) (.lit (O 0)))]) (.var 7)) [.expr (.meth (.var 7) .append [.tup [.bin .Mod (.var 9) (.idx (.var 3) (.lit (O 0))),.bin .FloorDiv (.var 9) (.idx (.var 3) (.lit (O 0)))]])] []])
  (λi h st'=>i<=(1+b).toNat/\∃o D ps,h=[Y (scr ns),Y (O k),Y (O j),Y (szD W H P),Y (O (W*H)),Y (O f),Y (O (1+g)),Y (Y1 st.length),o,D]/\st'=st++[Y4 Z ((ps:L (B×B)).map cD)]/\ps.length<=i/\(0<i->1<=ps.length)/\ps.Nodup/\∀p∈ps,Cin W H p)
  (by
   show((RL (callD fns (m+1))).ev _ _ _).bind _=_;rw[I];show(if big (1+b)=Z then J else Y (Src.rng 0 (1+b).toNat,_))=_
   rw[Z1 (by unfold big; simp; lia)])
  (by simp[Src.size]) (λi h st' _=>qyk _ _ _) ⟨Qz4 _,J,J,[],rfl,rfl,by simp,by simp,List.nodup_nil,by simp⟩ (λi h st' d hd s=>by
   obtain⟨_,o,D,ps,rfl,rfl,p1,p2,C,A⟩:=s;rw[Qqb]at hd;obtain⟨i',u,rfl⟩:=Qqi.mp hd;have G:i<(1+b).toNat:=by
    have:=(Qqj.mp u).1;simpa using this
   rw[Qja G]at u;cases u;generalize n:(f+(0+(i:B))*(1+g)) % (W*H)=pl;have X:0<=pl:=by rw[<- n]; exact Int.emod_nonneg _ (by lia)
   have V:pl<W*H:=by rw[<- n]; exact Int.emod_lt_of_pos _ hc
   have Q:mulOk (0+(i:B)) (1+g)=true:=qqg (by lia) (by lia);have N:binop (st++[Y4 Z (ps.map cD)]) .Mod (O (f+(0+(i:B))*(1+g))) (O (W*H))=Y (O pl,st++[Y4 Z (ps.map cD)]):=by rw[bMo _ _ hc,n]
   have F:binop (st++[Y4 Z (ps.map cD)]) .Mod (O pl) (O W)=Y (O (pl % W),st++[Y4 Z (ps.map cD)]):=bMo _ _ (by lia);have E:binop (st++[Y4 Z (ps.map cD)]) .FloorDiv (O pl) (O W)=Y (O (pl / W),st++[Y4 Z (ps.map cD)]):=bDi _ _ (by lia) (by lia);have R:=gl (st:=st) (c:=Y4 Z (ps.map cD));have l:cmpD (st++[Y4 Z (ps.map cD)]) .NotIn (cD (pl % W,pl / W)) (Y1 st.length)=Y (!decide ((pl % W,pl / W)∈ps)):=by
    have e:inD (st++[Y4 Z (ps.map cD)]) (cD (pl % W,pl / W)) (Y1 st.length)=Y (decide ((pl % W,pl / W)∈ps)):=by
     show(seqAt (st++[Y4 Z (ps.map cD)]) (Y1 st.length)).bind _=_;have:seqAt (st++[Y4 Z (ps.map cD)]) (Y1 st.length)=Y (ps.map cD):=by show listAt _ _=_; unfold listAt; rw[gl]
     rw[this];show(if flat 9 (cD (pl % W,pl / W))&&flats 9 (ps.map cD) then Y ((ps.map cD).any λy=>eqT y (cD (pl % W,pl / W))) else J)=_;rw[flat_c,any_c]
     rfl
    show(inD _ _ _).map (!·)=_;rw[e]
    rfl
   by_cases v:(pl % W,pl / W)∈ps
   ·rw[Zs v]at l;refine⟨_,_,qqx 0 [] 1 (λq=>_/\_/\_/\_/\_/\q) [.b Z,.c (O pl,st++[Y4 Z (ps.map cD)]),.c (O (pl % W),st++[Y4 Z (ps.map cD)]),.c (O (pl / W),st++[Y4 Z (ps.map cD)]),.b Y6] ⟨Q,N,F,E,l,rfl⟩,by lia,Y (O (0+(i:B))),Y (O pl),ps,rfl,rfl,by lia,λ_=>Qxm.mpr (λz=>by rw[z]at v; cases v),C,A⟩
   ·rw[Zu v]at l;have x:(ps.map cD).length<lim:=by rw[Qqx]; unfold lim; lia
    refine⟨_,_,qqx 0 [] 1 (λq=>_/\_/\_/\_/\_/\_/\_/\_/\_/\_/\q) [.b Z,.c (O pl,st++[Y4 Z (ps.map cD)]),.c (O (pl % W),st++[Y4 Z (ps.map cD)]),.c (O (pl / W),st++[Y4 Z (ps.map cD)]),.b Z,.r (Y4 Z (ps.map cD)),.c (O (pl % W),st++[Y4 Z (ps.map cD)]),.c (O (pl / W),st++[Y4 Z (ps.map cD)]),.r (Y4 Z (ps.map cD)),.b Z] (r:=(.nx [Y (scr ns),Y (O k),Y (O j),Y (szD W H P),Y (O (W*H)),Y (O f),Y (O (1+g)),Y (Y1 st.length),Y (O (0+(i:B))),Y (O pl)],(st++[Ya.lst Z (ps.map cD)]).set st.length (Y4 Z (ps.map cD++[cD (pl % W,pl / W)])))) ⟨Q,N,F,E,l,R,F,E,R,Zs x,rfl⟩,by lia,Y (O (0+(i:B))),Y (O pl),ps++[(pl % W,pl / W)],rfl,by rw[sl]; simp,by simp; lia,λ_=>by simp,?_,λp s=>?_⟩
    ·rw[Qxk];exact⟨C,by simp,λa K b hb=>by cases Qqc.mp hb; exact λz=>v (z▸K)⟩
    ·rcases Qqs.mp s with s|s
     ·exact A p s
     ·cases Qqc.mp s;refine⟨Int.emod_nonneg _ (by lia),Int.emod_lt_of_pos _ (by lia),Int.ediv_nonneg X (by lia),?_⟩
      exact Int.ediv_lt_of_lt_mul (by lia) (by rw[Int.mul_comm]; exact V))
 rw[Qqx,Qx1]at p1 p2 k';refine⟨ps,?_,p2 (by lia),by lia,C,A⟩;have U:mulOk W H=true:=qqg (by lia) (by lia);exact qzz 0 [47] 2 (λq=>_/\_/\_/\_/\_/\q) [.b Z,.c (O f,st),.c (O g,st),.s (.nx [Y (scr ns),Y (O k),Y (O j),Y (szD W H P),Y (O (W*H)),Y (O f),Y (O (1+g)),Y (Y1 st.length),o,D],st++[Y4 Z (ps.map cD)]),.r (Y4 Z (ps.map cD))] ⟨U,hf,hg,h3,gl (st:=st) (c:=Y4 Z (ps.map cD)),rfl⟩
end
inductive DF (W H P:B):D->Prop
 |vein {ss:L B}{ps:L (B×B)}(hP:(ss.length:B)=P) (hP2:ss.length<=100) (hs:∀s∈ss,0<=s/\s<=4) (h1:1<=ps.length) (h2:ps.length<=16) (hn:ps.Nodup) (hc:∀p∈ps,Cin W H p):DF W H P (.tup [sO "vein",.tup (ss.map .int),.tup (ps.map cD)])
 |join {a b f:B}(h1:1<=a) (h2:a<=400) (h3:1<=b) (h4:b<=400) (h5:1<=f) (h6:f<=P):DF W H P (.tup [sO "join",.int a,.int b,.int f])
 |stake {o:B}{g:B×B×B×B}(h1:1<=o) (h2:o<=40) (x0:0<=g.1) (x1:g.1<=g.2.2.1) (x2:g.2.2.1<W) (y0:0<=g.2.1) (y1:g.2.1<=g.2.2.2) (y2:g.2.2.2<H):DF W H P (.tup [sO "stake",.int o,.int g.1,.int g.2.1,.int g.2.2.1,.int g.2.2.2])
 |claim {f:D}(h:CF' f) (hs:∀m st,callD fns (m+6) 26 [szD W H P,f] st=Y (.bl Z,st)):DF W H P f
def DF.sound(h:DF W H P f)(m)(st):callD fns (m+6) 26 [szD W H P,f] st=Y (.bl Z,st):=by
 cases h with
 |vein j a hs h1 h2 hn hc=>exact s_vein m st j a hs h1 h2 hn hc
 |join h1 h2 o n l k=>exact s_join (m+3) st h1 h2 o n l k
 |stake h1 h2 i g e d c b=>exact s_stake (m+3) st h1 h2 i g e d c b
 |claim h hs=>exact hs m st
noncomputable def wIs(f:D)(ws:L String):Bool:=match f with
 |.tup (.str z::_)=>ws.any λw=>MS.sq z (Str.ofString w)
 |_=>Y6
noncomputable def pD(p:B×D):D:=.tup [.int p.1,p.2]
def qmb(ps:L (B×B)):noLoc (Y9 (ps.map cD))=true:=by rw[qjt]; exact qz9 λ_ _=>rfl
def gT(st)(ps:L (B×B)):noLoc (Y9 (ps.map cD))=Z/\(st++[Ya.lst Z (ps.map cD)]).take st.length=st:=⟨qmb ps,tkl⟩
section
variable {ns:L B}(hn:ns.length<=63){W H P:B}(w1:1<=W)(w2:W<=24)(h1:1<=H)(h2:H<=24)(p0:0<=P)(p1:P<=12)
include hn w1 w2 h1 h2 p0 p1
theorem qim(m)(st)(k):∃f,callD fns (m+3) 56 [scr ns,O k,szD W H P] st=Y (f,st)/\DF W H P f:=by
 obtain⟨a,hs,c,b⟩:=qf5 hn m st k 8 (by decide) (by decide) p0 p1;obtain⟨ps,i,h,g,e,d⟩:=qmq hn m st k 1 (P:=P) (by decide) (by decide) w1 w2 h1 h2;exact⟨_,qzz 0 [52,53] 3 (λq=>_/\_/\_/\q) [.c (Y9 (a.map O),st),.c (Y9 (ps.map cD),st++[Y4 Z (ps.map cD)]),.g] ⟨hs,i,gT st ps,rfl⟩,.vein c (by lia) b h g e d⟩
theorem qhe(m)(st)(k d)(G:0<=d)(F:d<8){xs:L B}(A:∀x∈xs,1<=x/\x<=400):∃f,callD fns (m+3) 57 [scr ns,O k,O d,szD W H P,Yc (xs.map O)] st=Y (f,st)/\DF W H P f:=by
 obtain⟨c,hc,c1,c2⟩:=qye hn m st k 1 (by decide) (by decide) A;obtain⟨o,p,t,r⟩:=qcb hn m st k 3 (by decide) (by decide);obtain⟨s,hs,z,I⟩:=dr hn (m+1) st k 5 (many:=2) (by decide) (by decide) (by decide);have ⟨l,j,u,y,b,hb,D⟩:∃l:B,(∃v:B,callD fns (m+2) 47 [scr ns,O k,O 6,O v] st=Y (O l,st)/\v=(if decide ((if s=0 then W else H)<23) then(if s=0 then W else H) else 23))/\0<=l/\l<23/\∃b,decide ((if s=0 then W else H)<23)=b/\True:=by
  by_cases h:(if s=0 then W else H)<23
  ·have C:0<(if s=0 then W else H):=by split<;>lia
   obtain⟨l,j,u,y⟩:=dr hn (m+1) st k 6 (by decide) (by decide) C;exact⟨l,⟨_,j,by rw[Zs h]; rfl⟩,u,by lia,Z,Zs h,trivial⟩
  ·obtain⟨l,j,u,y⟩:=dr hn (m+1) st k 6 (many:=23) (by decide) (by decide) (by decide);exact⟨l,⟨_,j,by rw[Zu h]; rfl⟩,u,by lia,Y6,Zu h,trivial⟩
 obtain⟨v,j,a⟩:=j;have E:DF W H P (Y9 [sO "work",O c]):=.claim (.work c) λm st=>s_work (m+3) st c1 c2;have dg:DF W H P (Y9 [sO "give",O c]):=.claim (.give c) λm st=>s_give (m+3) st c1 c2;have ds:DF W H P (Y9 [sO "sell",O c,O o]):=.claim (.sell c o ⟨t,r⟩) λm st=>s_sell (m+3) st c1 c2 t r;have dp:DF W H P (Y9 [sO "part",O c,O s,O (1+l),O o]):=.claim (.part c s (1+l) o (by lia) ⟨t,r⟩) λm st=>s_part (m+3) st c1 c2 z (by lia) (by lia) (by lia) t r;have g:=qzv (st:=st) (ds:=[Y9 [sO "sell",O c,O o],Y9 [sO "part",O c,O s,O (1+l),O o],Y9 [sO "give",O c]]) rfl;have n:∀f,(d<3/\f=Y9 [sO "work",O c])\/(¬ d<3/\idxD st (Yc [Y9 [sO "sell",O c,O o],Y9 [sO "part",O c,O s,O (1+l),O o],Y9 [sO "give",O c]]) (O (d / 2 - 1))=Y f)->callD fns (m+3) 57 [scr ns,O k,O d,szD W H P,Yc (xs.map O)] st=Y (f,st):=λf hf=>by
  have w:s=0\/s=1:=by lia
  rcases w with rfl|rfl
  ·rw[Z2 rfl]at hb a
   cases b with
   |true=>
    rw[hb,Z2 rfl]at a;subst a;rcases hf with⟨i,rfl⟩|⟨i,hf⟩
    ·exact qzz 0 [47,54,55] 3 (λq=>_/\_/\_/\_/\_/\_/\q) [.c (O c,st),.c (O o,st),.c (O 0,st),.b Z,.c (O l,st),.b Z] ⟨hc,p,hs,hb,j,Zs i,rfl⟩
    ·exact qzz 0 [47,54,55] 3 (λq=>_/\_/\_/\_/\_/\_/\_/\_/\q) [.c (O c,st),.c (O o,st),.c (O 0,st),.b Z,.c (O l,st),.b Y6,.l [Y9 [sO "sell",O c,O o],Y9 [sO "part",O c,O 0,O (1+l),O o],Y9 [sO "give",O c]],.i f] ⟨hc,p,hs,hb,j,Zu i,g,hf,rfl⟩
   |false=>
    rw[hb,Z1 (by simp)]at a;subst a;rcases hf with⟨i,rfl⟩|⟨i,hf⟩
    ·exact qzz 0 [47,54,55] 3 (λq=>_/\_/\_/\_/\_/\_/\q) [.c (O c,st),.c (O o,st),.c (O 0,st),.b Y6,.c (O l,st),.b Z] ⟨hc,p,hs,hb,j,Zs i,rfl⟩
    ·exact qzz 0 [47,54,55] 3 (λq=>_/\_/\_/\_/\_/\_/\_/\_/\q) [.c (O c,st),.c (O o,st),.c (O 0,st),.b Y6,.c (O l,st),.b Y6,.l [Y9 [sO "sell",O c,O o],Y9 [sO "part",O c,O 0,O (1+l),O o],Y9 [sO "give",O c]],.i f] ⟨hc,p,hs,hb,j,Zu i,g,hf,rfl⟩
  ·rw[Z1 (show ¬ (1:B)=0 by decide)]at hb a
   cases b with
   |true=>
    rw[hb,Z2 rfl]at a;subst a;rcases hf with⟨i,rfl⟩|⟨i,hf⟩
    ·exact qzz 0 [47,54,55] 3 (λq=>_/\_/\_/\_/\_/\_/\q) [.c (O c,st),.c (O o,st),.c (O 1,st),.b Z,.c (O l,st),.b Z] ⟨hc,p,hs,hb,j,Zs i,rfl⟩
    ·exact qzz 0 [47,54,55] 3 (λq=>_/\_/\_/\_/\_/\_/\_/\_/\q) [.c (O c,st),.c (O o,st),.c (O 1,st),.b Z,.c (O l,st),.b Y6,.l [Y9 [sO "sell",O c,O o],Y9 [sO "part",O c,O 1,O (1+l),O o],Y9 [sO "give",O c]],.i f] ⟨hc,p,hs,hb,j,Zu i,g,hf,rfl⟩
   |false=>
    rw[hb,Z1 (by simp)]at a;subst a;rcases hf with⟨i,rfl⟩|⟨i,hf⟩
    ·exact qzz 0 [47,54,55] 3 (λq=>_/\_/\_/\_/\_/\_/\q) [.c (O c,st),.c (O o,st),.c (O 1,st),.b Y6,.c (O l,st),.b Z] ⟨hc,p,hs,hb,j,Zs i,rfl⟩
    ·exact qzz 0 [47,54,55] 3 (λq=>_/\_/\_/\_/\_/\_/\_/\_/\q) [.c (O c,st),.c (O o,st),.c (O 1,st),.b Y6,.c (O l,st),.b Y6,.l [Y9 [sO "sell",O c,O o],Y9 [sO "part",O c,O 1,O (1+l),O o],Y9 [sO "give",O c]],.i f] ⟨hc,p,hs,hb,j,Zu i,g,hf,rfl⟩
 by_cases i:d<3
 ·exact⟨_,n _ (.inl ⟨i,rfl⟩),E⟩
 ·have:d / 2 - 1=0\/d / 2 - 1=1\/d / 2 - 1=2:=by lia
  rcases this with e|e|e
  ·exact⟨_,n _ (.inr ⟨i,by rw[e]; rfl⟩),ds⟩
  ·exact⟨_,n _ (.inr ⟨i,by rw[e]; rfl⟩),dp⟩
  ·exact⟨_,n _ (.inr ⟨i,by rw[e]; rfl⟩),dg⟩
end
noncomputable def dys(pl:L (B×D))(ws:L String):L Int:=(pl.filter λp=>wIs p.2 ws).map (·.1)
def qid(h:x∈dys pl a):∃p∈pl,p.1=x:=by
 obtain⟨p,b,rfl⟩:=Qqk.mp h;exact⟨p,(Qzt.mp b).1,rfl⟩
noncomputable def gW(ws:L String):D->Y3 D
 |.tup [.int x,f]=>if wIs f ws then Y (.int x) else J
 |_=>J
def qnc(pl)(a):(pl.map pD).filterMap (gW a)=(dys pl a).map O:=by
 unfold dys
 induction pl with
 |nil=>rfl
 |cons p r b=>
  have e:gW a (pD p)=if wIs p.2 a then Y (O p.1) else none:=rfl
  rw[Qqp,Qxw,e,b]
  cases h:wIs p.2 a with
  |true=>simp[Qx6,h]
  |false=>simp[Qx6,h]
section
variable {ns:L B}(hn:ns.length<=63){W H P:B}(w1:1<=W)(w2:W<=24)(h1:1<=H)(h2:H<=24)(p0:0<=P)(p1:P<=12)
theorem qes(m){S:Y2}(i:rowAt S q0=Y (pl.map pD))(e)(j:∀p∈pl,DF W H P p.2)(o:pl.length<1000)(c:τ[3]?=Y (Y q0))(g:∀p:B×D,DF W H P p.2->(RL (callD fns m)).tst [Y (O p.1),Y p.2] (S) q=Y (wIs p.2 e,S)):
  stepEv (RL (callD fns m)) τ (S) (.comp (.tup [0,1]) (.var 3) (Y q) (.var 0) [J,J])=Y (Y1 S.length,S++[Y4 Z ((dys pl e).map O)]):=by
 obtain⟨s,n,l,k⟩:=qyb c i
 have h:=qxm (t:=.tup [0,1]) (elt:=.var 0) (sr:=[J,J]) (gW e) (λτ=>∃a b,τ=[a,b]) n l k (by simp; unfold lim; lia) ⟨J,J,rfl⟩ (λτ d hd c=>by
  obtain⟨a,b,rfl⟩:=c;obtain⟨p,f,rfl⟩:=Qqk.mp hd
  exact⟨[Y (O p.1),Y p.2],turn_if rfl (g p (j p f)) λ_=>qjk _ _ _ _ _ rfl,Y (O p.1),Y p.2,rfl⟩)
 rw[qnc]at h;exact h
theorem t_vein(m)(S)(p:B×D)(h:DF W H P p.2):(RL (callD fns m)).tst [Y (O p.1),Y p.2] S (.cmp .Eq (.idx (Yd 1) (.lit (O 0))) (.lit (sO "vein")))=Y (wIs p.2 ["vein"],S):=by
 obtain⟨x,f⟩:=p
 cases h with
 |vein=>exact qze 0 [] 0 (λq=>q) [] rfl
 |join=>exact qze 0 [] 0 (λq=>q) [] rfl
 |stake=>exact qze 0 [] 0 (λq=>q) [] rfl
 |claim h _=>cases h<;>exact qze 0 [] 0 (λq=>q) [] rfl
theorem qhp(m)(S)(p:B×D)(h:DF W H P p.2):(RL (callD fns m)).tst [Y (O p.1),Y p.2] S (.cmp .In (.idx (.var 1) (.lit (O 0))) (.tup [.lit (sO "stake"),.lit (sO "part")]))=Y (wIs p.2 ["stake","part"],S):=by
 obtain⟨x,f⟩:=p
 cases h with
 |vein=>exact qze 0 [] 0 (λq=>q) [] rfl
 |join=>exact qze 0 [] 0 (λq=>q) [] rfl
 |stake=>exact qze 0 [] 0 (λq=>q) [] rfl
 |claim h _=>cases h<;>exact qze 0 [] 0 (λq=>q) [] rfl
include hn w1 w2 h1 h2 p0 p1
theorem qna(m)(S)(k){pl:L (B×D)}(N:rowAt S q0=Y (pl.map pD))(K:∀p∈pl,DF W H P p.2/\1<=p.1/\p.1<=400)(hl:pl.length<100):∃f,callD fns (m+4) 58 [scr ns,O k,szD W H P,q0] S=Y (f,S)/\DF W H P f:=by
 obtain⟨y,n,y1,y2⟩:=dr hn (m+2) S k 0 (many:=20) (by decide) (by decide) (by decide);have U:∀v,∀x∈dys pl v,1<=x/\x<=400:=λv x hx=>by
  obtain⟨p,e,rfl⟩:=qid hx;exact(K p e).2
 have dl:∀v,(((dys pl v).map D.int).length:B)=((dys pl v).length:B):=λv=>by simp
 have c1:=qes (m+3) N (τ:=[Y (scr ns),Y (O k),Y (szD W H P),Y q0,Y (O y),J,J,J]) ["vein"] (λp e=>(K p e).1) (by lia) rfl (λp h=>t_vein (m+3) _ p h);have c2:=qes (m+3) N (τ:=[Y (scr ns),Y (O k),Y (szD W H P),Y q0,Y (O y),Y (Yc ((dys pl ["vein"]).map O)),J,J]) ["stake","part"] (λp e=>(K p e).1) (by lia) rfl (λp h=>qhp (m+3) _ p h);generalize F:dys pl ["vein"]=vs at c1 c2;generalize G:dys pl ["stake","part"]=c at c2;have R:∀x∈vs,1<=x/\x<=400:=by rw[<- F]; exact U _
 have du:∀x∈c,1<=x/\x<=400:=by rw[<- G]; exact U _
 have gv:=qzv (st:=S) (nlI vs);have t:=qzv (st:=S) (nlI c);have Q:∀xs:L B,xs=[]->((((xs.map D.int).length:Y0):B)==0)=true:=λxs h=>by rw[h]; rfl
 have E:∀xs:L B,xs≠[]->((((xs.map D.int).length:Y0):B)==0)=false:=λxs h=>by
  rw[beq_eq_false_iff_ne];simpa using h
 obtain⟨C,hv,w⟩:=qim hn w1 w2 h1 h2 p0 p1 m S k
 by_cases l:y<3
 ·exact⟨C,qzz 0 [47,51,54,55,56,57] 4 (λq=>_/\_/\_/\_/\_/\_/\_/\q) [.c (O y,S),.c (Y1 S.length,S++[Y4 Z (vs.map O)]),.l (vs.map O),.c (Y1 S.length,S++[Y4 Z (c.map O)]),.l (c.map O),.b Z,.c (C,S)] ⟨n,c1,gv,c2,t,Zs l,hv,rfl⟩,w⟩
 ·by_cases tA:y<8/\vs=[]
  ·exact⟨C,qzz 0 [47,51,54,55,56,57] 4 (λq=>_/\_/\_/\_/\_/\_/\_/\_/\_/\q) [.c (O y,S),.c (Y1 S.length,S++[Y4 Z (vs.map O)]),.l (vs.map O),.c (Y1 S.length,S++[Y4 Z (c.map O)]),.l (c.map O),.b Y6,.b Z,.b Z,.c (C,S)] ⟨n,c1,gv,c2,t,Zu l,Zs tA.1,Q vs tA.2,hv,rfl⟩,w⟩
  ·by_cases tB:y<5/\0<P
   ·have s:=λz=>tA ⟨by lia,z⟩;have i:y<8:=by lia
    obtain⟨fl,hf,f1,f2⟩:=dr hn (m+2) S k 5 (by decide) (by decide) tB.2;obtain⟨a,ha,a1,a2⟩:=qye hn (m+1) S k 1 (by decide) (by decide) R;obtain⟨b,hb,b1,b2⟩:=qye hn (m+1) S k 3 (by decide) (by decide) R;exact⟨_,qzz 0 [47,51,54,55,56,57] 4 (λq=>_/\_/\_/\_/\_/\_/\_/\_/\_/\_/\_/\_/\_/\q) [.c (O y,S),.c (Y1 S.length,S++[Y4 Z (vs.map O)]),.l (vs.map O),.c (Y1 S.length,S++[Y4 Z (c.map O)]),.l (c.map O),.b Y6,.b Z,.b Y6,.b Z,.b Z,.c (O fl,S),.c (O a,S),.c (O b,S)] (r:=(Y9 [sO "join",O a,O b,O (1+fl)],S)) ⟨n,c1,gv,c2,t,Zu l,Zs i,E vs s,Zs tB.1,Zs tB.2,hf,ha,hb,rfl⟩,.join a1 a2 b1 b2 (by lia) (by lia)⟩
   ·obtain⟨o,A,o1,o2⟩:=qcb hn (m+1) S k 1 (by decide) (by decide);obtain⟨g,hg,x0,x1,x2,z0,X,V⟩:=qld hn (m+1) S k 3 (W:=W) (H:=H) (by decide) (by decide) (by lia) (by lia);have ds:DF W H P (Y9 [sO "stake",O o,O g.1,O g.2.1,O g.2.2.1,O g.2.2.2]):=.stake o1 o2 x0 x1 x2 z0 X V
    by_cases d:y<12
    ·by_cases i:y<8
     ·have s:=λz=>tA ⟨i,z⟩
      by_cases j:y<5
      ·have tp:=λz=>tB ⟨j,z⟩;exact⟨_,qzz 0 [47,51,54,55,56,57] 4 (λq=>_/\_/\_/\_/\_/\_/\_/\_/\_/\_/\_/\_/\_/\q) [.c (O y,S),.c (Y1 S.length,S++[Y4 Z (vs.map O)]),.l (vs.map O),.c (Y1 S.length,S++[Y4 Z (c.map O)]),.l (c.map O),.b Y6,.b Z,.b Y6,.b Z,.b Y6,.b Z,.c (O o,S),.c (rD g,S)] ⟨n,c1,gv,c2,t,Zu l,Zs i,E vs s,Zs j,Zu tp,Zs d,A,hg,rfl⟩,ds⟩
      ·exact⟨_,qzz 0 [47,51,54,55,56,57] 4 (λq=>_/\_/\_/\_/\_/\_/\_/\_/\_/\_/\_/\_/\q) [.c (O y,S),.c (Y1 S.length,S++[Y4 Z (vs.map O)]),.l (vs.map O),.c (Y1 S.length,S++[Y4 Z (c.map O)]),.l (c.map O),.b Y6,.b Z,.b Y6,.b Y6,.b Z,.c (O o,S),.c (rD g,S)] ⟨n,c1,gv,c2,t,Zu l,Zs i,E vs s,Zu j,Zs d,A,hg,rfl⟩,ds⟩
     ·have j:¬ y<5:=by lia
      exact⟨_,qzz 0 [47,51,54,55,56,57] 4 (λq=>_/\_/\_/\_/\_/\_/\_/\_/\_/\_/\_/\q) [.c (O y,S),.c (Y1 S.length,S++[Y4 Z (vs.map O)]),.l (vs.map O),.c (Y1 S.length,S++[Y4 Z (c.map O)]),.l (c.map O),.b Y6,.b Y6,.b Y6,.b Z,.c (O o,S),.c (rD g,S)] ⟨n,c1,gv,c2,t,Zu l,Zu i,Zu j,Zs d,A,hg,rfl⟩,ds⟩
    ·have i:¬ y<8:=by lia
     have j:¬ y<5:=by lia
     by_cases tC:y<17/\c=[]
     ·exact⟨_,qzz 0 [47,51,54,55,56,57] 4 (λq=>_/\_/\_/\_/\_/\_/\_/\_/\_/\_/\_/\_/\_/\q) [.c (O y,S),.c (Y1 S.length,S++[Y4 Z (vs.map O)]),.l (vs.map O),.c (Y1 S.length,S++[Y4 Z (c.map O)]),.l (c.map O),.b Y6,.b Y6,.b Y6,.b Y6,.b Z,.b Z,.c (O o,S),.c (rD g,S)] ⟨n,c1,gv,c2,t,Zu l,Zu i,Zu j,Zu d,Zs tC.1,Q c tC.2,A,hg,rfl⟩,ds⟩
     ·obtain⟨f,hf,T⟩:=qhe hn w1 w2 h1 h2 p0 p1 m S k (y - 12) (by lia) (by lia) du
      by_cases u:y<17
      ·have I:=λz=>tC ⟨u,z⟩;exact⟨f,qzz 0 [47,51,54,55,56,57] 4 (λq=>_/\_/\_/\_/\_/\_/\_/\_/\_/\_/\_/\_/\q) [.c (O y,S),.c (Y1 S.length,S++[Y4 Z (vs.map O)]),.l (vs.map O),.c (Y1 S.length,S++[Y4 Z (c.map O)]),.l (c.map O),.b Y6,.b Y6,.b Y6,.b Y6,.b Z,.b Y6,.c (f,S)] ⟨n,c1,gv,c2,t,Zu l,Zu i,Zu j,Zu d,Zs u,E c I,hf,rfl⟩,T⟩
      ·exact⟨f,qzz 0 [47,51,54,55,56,57] 4 (λq=>_/\_/\_/\_/\_/\_/\_/\_/\_/\_/\_/\q) [.c (O y,S),.c (Y1 S.length,S++[Y4 Z (vs.map O)]),.l (vs.map O),.c (Y1 S.length,S++[Y4 Z (c.map O)]),.l (c.map O),.b Y6,.b Y6,.b Y6,.b Y6,.b Y6,.c (f,S)] ⟨n,c1,gv,c2,t,Zu l,Zu i,Zu j,Zu d,Zu u,hf,rfl⟩,T⟩
end
noncomputable def Cl.mc(c:Cl):Ya:=.lst Z [.int c.o,rD c.g,.int c.la,oD c.v,oD c.gv,.loc (c.j+8)]
abbrev InvM:=InvK Cl.mc
structure Fx where
 z:Zt
 T:B
 d:B
 fo:L (D×D)
 jo:L (D×D)
 bo:L (D×D)
 ro:L D
noncomputable abbrev mdC(sz:D)(T d:B):Ya:=.dic Z [(sO "size",sz),(sO "term",.int T),(sO "day",.int d),(sO "row",.loc 9),(sO "book",.loc 10),(sO "dug",.loc 11),(sO "veins",.loc 12),(sO "joins",.loc 13),(sO "claims",.loc 14)]
noncomputable abbrev M8(sz:D)(T d:B)(ro:L B)(fo jo bo:L (D×D))(pl:L D)(r:Y2):Y2:=mdC sz T d::.lst Z (rowD ro)::.lst Z []::.lst Z []::.dic Z fo::.dic Z jo::.dic Z bo::.lst Z pl::r
noncomputable abbrev GM(F:Fx)(sz:D)(T d:B)(ro:L B)(fo jo bo:L (D×D))(pl:L D)(r:Y2):Y2:=FS F.z F.T F.d F.fo F.jo F.bo F.ro (M8 sz T d ro fo jo bo pl r)
def gS(x)(st:Y2)(h:noLoc x=Z):noLoc x=Z/\st.take st.length=st:=⟨h,Qzo⟩
theorem set0{b:Ya}:∀{R},(R++a::b::ls).set R.length a'=R++a'::b::ls
 |[]=>rfl
 |x::r=>congrArg (x::·) (set0)
theorem set1{b:Ya}:∀{R},(R++a::b::ls).set (R.length+1) c=R++a::c::ls
 |[]=>rfl
 |x::r=>congrArg (x::·) (set1)
theorem get0{ls:Y2}(i):∀{R},(R++ls)[R.length+i]?=ls[i]?
 |[]=>by rw[List.nil_append,Qj2,Qjx]
 |x::r=>by
  rw[Qql,show r.length+1+i=(r.length+i)+1 by lia];exact get0 i
def qzf(n)(g)(d)(c)(P:Prop->Prop)(t)(b:P (c=r))(h:qjn n (runT n (RL (callD fns (k+d))) (qkf fns n g k d) 40) τ st s t (λa _=>a=r)=P (c=r):=by kernel_rfl):stepEx (RL (callD fns (k+d))) τ st s=Y r:=by
 rw[<- h]at b;obtain⟨a,i,e,rfl⟩:=qjl (qx6 (λf ds st=>qxj d f ds st) 40) τ st s t _ b;exact e
def ixm{S:Y2}(h:S[l]?=Y (Y4 Z ds))(hi:atI ds i=Y x):idxD S (Y1 l) (O i)=Y x:=by
 show(listAt S l).bind _=_;unfold listAt;rw[h];exact hi
section
variable {F:Fx}{sz:D}{T d:B}{ro:L B}{fo jo bo:L (D×D)}{pl:L D}{r:Y2}{c:Cl}{i:Y0}
def qx8(m)(f:dget bo (O c.nm)=Y (Y1 (i+17)))(h:r[i+1]?=Y c.mc):callD fns (m+1) 61 [Y1 8,O c.nm] (GM F sz T d ro fo jo bo pl r)=Y (sO (stW c d),GM F sz T d ro fo jo bo pl r):=by
 have h:(GM F sz T d ro fo jo bo pl r)[i+17]?=Y c.mc:=h;have e:=ixm (i:=4) h rfl;have j:=ixm (i:=2) h rfl;have k:=ixm (i:=3) h rfl;have g:=qzv (st:=GM F sz T d ro fo jo bo pl r) (ds:=[sO "stands",sO "unvested"]) rfl;unfold stW
 cases a:c.gv with
 |some x=>exact qzz 16 [] 1 (λq=>_/\_/\_/\q) [.k,.q (Y (Y1 (i+17))),.i (oD c.gv),.b Z] ⟨f,e,nnS a,rfl⟩
 |none=>
  by_cases b:c.la<d
  ·rw[Z2 b];exact qzz 16 [] 1 (λq=>_/\_/\_/\_/\_/\q) [.k,.q (Y (Y1 (i+17))),.i (oD c.gv),.b Y6,.k,.i (O c.la),.b Z] ⟨f,e,nnN a,j,Zs b,rfl⟩
  ·rw[Z1 b]
   cases hv:c.v with
   |none=>exact qzz 16 [] 1 (λq=>_/\_/\_/\_/\_/\_/\_/\_/\q) [.k,.q (Y (Y1 (i+17))),.i (oD c.gv),.b Y6,.k,.i (O c.la),.b Y6,.l [sO "stands",sO "unvested"],.i (oD c.v),.b Z] ⟨f,e,nnN a,j,Zu b,g,k,isN hv,rfl⟩
   |some x=>exact qzz 16 [] 1 (λq=>_/\_/\_/\_/\_/\_/\_/\_/\q) [.k,.q (Y (Y1 (i+17))),.i (oD c.gv),.b Y6,.k,.i (O c.la),.b Y6,.l [sO "stands",sO "unvested"],.i (oD c.v),.b Y6] ⟨f,e,nnN a,j,Zu b,g,k,isS hv,rfl⟩
def qiz(m)(a:dget bo (O c.nm)=Y (Y1 (i+17)))(h:r[i+1]?=Y c.mc)(k:rowAt (GM F sz T d ro fo jo bo pl r) q=Y (ps.map cD))(l:ps.length<lim)(hr:ro.length<1000):
  callD fns (m+2) 62 [Y1 8,O c.nm,q] (GM F sz T d ro fo jo bo pl r)=Y (.non,if hit d ps c then GM F sz T d (ro++[c.nm]) fo jo bo pl (r.set (i+1) (vst d ps c).mc) else GM F sz T d ro fo jo bo pl r):=by
 have hs:=qx8 (F:=F) (sz:=sz) (T:=T) (d:=d) (ro:=ro) (fo:=fo) (jo:=jo) (pl:=pl) m a h;have h':(GM F sz T d ro fo jo bo pl r)[i+17]?=Y c.mc:=h;have j:=ixm (i:=1) h' rfl;have h1:=qz0 (c:=callD fns (m+1)) (τ:=[Y (Y1 8),Y (O c.nm),Y q,Y (Y1 (i+17))]) (i:=2) (elt:=.call 59 [.idx (Yd 1) (.lit (O 1)),Yd 0]) (sr:=[J,Y 3]) ps cD (λp=>.bl (inB c.g p)) rfl k l rfl λp _=>qzb 0 [59] 1 (λq=>_/\_/\q) [.i (rD c.g),.c (.bl (inB c.g p),GM F sz T d ro fo jo bo pl r)] ⟨j,qej (.inr rfl) m (GM F sz T d ro fo jo bo pl r) c.g p,rfl⟩;have e:ps.map (λp=>D.bl (inB c.g p))=(ps.map (inB c.g)).map .bl:=by rw[Qqf]; rfl
 rw[e]at h1;have f:bfun (GM F sz T d ro fo jo bo pl r) .any [Yc ((ps.map (inB c.g)).map .bl)]=Y (.bl (hasB c.g ps),GM F sz T d ro fo jo bo pl r):=by
  show(asBools _).map _=_;rw[asB];simp[hasB,List.any_map,Function.comp_def]
 have g:=qzv (st:=GM F sz T d ro fo jo bo pl r) (nlB (ps.map (inB c.g)));have b:=λx:String=>gS (sO x) (GM F sz T d ro fo jo bo pl r) rfl;have no:∀w,stW c d=w->(w = "stands"\/w = "given"\/w = "fallen")->hit d ps c=false:=λw e h=>by
  unfold hit;rw[e];rcases h with rfl|rfl|rfl<;>rfl
 rcases qzr c d with⟨e,n,h2,_⟩|⟨e,_⟩|⟨e,_⟩|⟨e,_⟩
 ·rw[e]at hs;have hi:hit d ps c=hasB c.g ps:=by unfold hit; rw[e]; rfl
  cases hb:hasB c.g ps with
  |true=>
   rw[hb]at hi f;have hv:vst d ps c={ c with v:=Y d }:=by unfold vst; rw[hi]; rfl
   rw[hi,Z2 rfl,hv];have el:rowD (ro++[c.nm])=rowD ro++[O c.nm]:=by simp
   unfold GM M8;rw[el];exact qzz 16 [61] 2 (λq=>_/\_/\_/\_/\_/\_/\_/\_/\q) [.k,.q (Y (Y1 (i+17))),.c (sO "unvested",GM F sz T d ro fo jo bo pl r),.g,.c (Y1 (GM F sz T d ro fo jo bo pl r).length,GM F sz T d ro fo jo bo pl r++[Y4 Z ((ps.map (inB c.g)).map .bl)]),.l ((ps.map (inB c.g)).map .bl),.c (.bl Z,GM F sz T d ro fo jo bo pl r),.k,.r c.mc,.k,.b Z] ⟨a,hs,b "unvested",h1,g,f,h',Zs (show(rowD ro).length<lim by simp; unfold lim; lia),rfl⟩
  |false=>
   rw[hb]at hi f;rw[hi,Z1 (by simp)];exact qzz 16 [61] 2 (λq=>_/\_/\_/\_/\_/\_/\q) [.k,.q (Y (Y1 (i+17))),.c (sO "unvested",GM F sz T d ro fo jo bo pl r),.g,.c (Y1 (GM F sz T d ro fo jo bo pl r).length,GM F sz T d ro fo jo bo pl r++[Y4 Z ((ps.map (inB c.g)).map .bl)]),.l ((ps.map (inB c.g)).map .bl),.c (.bl Y6,GM F sz T d ro fo jo bo pl r)] ⟨a,hs,b "unvested",h1,g,f,rfl⟩
 ·rw[no _ e (.inl rfl),Z1 (by simp)];rw[e]at hs;exact qzz 16 [61] 2 (λq=>_/\_/\_/\q) [.k,.q (Y (Y1 (i+17))),.c (sO "stands",GM F sz T d ro fo jo bo pl r),.g] ⟨a,hs,b "stands",rfl⟩
 ·rw[no _ e (.inr (.inl rfl)),Z1 (by simp)];rw[e]at hs;exact qzz 16 [61] 2 (λq=>_/\_/\_/\q) [.k,.q (Y (Y1 (i+17))),.c (sO "given",GM F sz T d ro fo jo bo pl r),.g] ⟨a,hs,b "given",rfl⟩
 ·rw[no _ e (.inr (.inr rfl)),Z1 (by simp)];rw[e]at hs;exact qzz 16 [61] 2 (λq=>_/\_/\_/\q) [.k,.q (Y (Y1 (i+17))),.c (sO "fallen",GM F sz T d ro fo jo bo pl r),.g] ⟨a,hs,b "fallen",rfl⟩
end
section
variable {F:Fx}{sz:D}{T d:B}{ro:L B}{fo jo bo:L (D×D)}{pl:L D}{r:Y2}{c:Cl}{i:Y0}
def mc_no(m)(h:dget bo (O n)=J):callD fns (m+1) 65 [Y1 8,Y9 (sO w::O n::l)] (GM F sz T d ro fo jo bo pl r)=Y (sO "noclaim",GM F sz T d ro fo jo bo pl r):=
 qzz 16 [] 1 (λq=>_/\_/\q) [.i (O n),.k,.q J] ⟨ix1 (st:=GM F sz T d ro fo jo bo pl r) (a:=sO w) (b:=O n) (r:=l),h,rfl⟩
def qmh(m)(g:dget bo (O c.nm)=Y (Y1 (i+17)))(h:r[i+1]?=Y c.mc)(f:over d c):callD fns (m+2) 65 [Y1 8,Y9 (sO w::O c.nm::l)] (GM F sz T d ro fo jo bo pl r)=Y (sO "ended",GM F sz T d ro fo jo bo pl r):=by
 have hs:=qx8 (F:=F) (sz:=sz) (T:=T) (d:=d) (ro:=ro) (fo:=fo) (jo:=jo) (pl:=pl) m g h;have x:=ix1 (st:=GM F sz T d ro fo jo bo pl r) (a:=sO w) (b:=O c.nm) (r:=l);have j:=λx:String=>gS (sO x) (GM F sz T d ro fo jo bo pl r) rfl;rcases qzr c d with⟨e,_,h2,k⟩|⟨e,_,h2,k⟩|⟨e,_⟩|⟨e,_⟩
 ·rcases f with f|f
  ·exact absurd h2 f
  ·lia
 ·rcases f with f|f
  ·exact absurd h2 f
  ·lia
 ·rw[e]at hs;exact qzz 16 [61] 2 (λq=>_/\_/\_/\_/\_/\_/\_/\q) [.i (O c.nm),.k,.q (Y (Y1 (i+17))),.k,.i (O c.nm),.q (Y (Y1 (i+17))),.i (O c.nm),.c (sO "given",GM F sz T d ro fo jo bo pl r),.g] ⟨x,g,x,g,x,hs,j "given",rfl⟩
 ·rw[e]at hs;exact qzz 16 [61] 2 (λq=>_/\_/\_/\_/\_/\_/\_/\q) [.i (O c.nm),.k,.q (Y (Y1 (i+17))),.k,.i (O c.nm),.q (Y (Y1 (i+17))),.i (O c.nm),.c (sO "fallen",GM F sz T d ro fo jo bo pl r),.g] ⟨x,g,x,g,x,hs,j "fallen",rfl⟩
def qmi(m)(a:dget bo (O c.nm)=Y (Y1 (i+17)))(h:r[i+1]?=Y c.mc)(f:¬ over d c):callD fns (m+2) 65 [Y1 8,Y9 [sO "give",O c.nm]] (GM F sz T d ro fo jo bo pl r)=Y (sO "good",GM F sz T d ro fo jo bo pl (r.set (i+1) ({ c with gv:=Y d }:Cl).mc)):=by
 have hs:=qx8 (F:=F) (sz:=sz) (T:=T) (d:=d) (ro:=ro) (fo:=fo) (jo:=jo) (pl:=pl) m a h;have b:=λx:String=>gS (sO x) (GM F sz T d ro fo jo bo pl r) rfl;have h':(GM F sz T d ro fo jo bo pl r)[i+17]?=Y c.mc:=h;rcases qjz f with e|e<;>rw[e]at hs
 ·exact qzz 16 [61] 2 (λq=>_/\_/\_/\_/\_/\q) [.k,.q (Y (Y1 (i+17))),.k,.q (Y (Y1 (i+17))),.c (sO "unvested",GM F sz T d ro fo jo bo pl r),.g,.k,.r c.mc] ⟨a,a,hs,b "unvested",h',rfl⟩
 ·exact qzz 16 [61] 2 (λq=>_/\_/\_/\_/\_/\q) [.k,.q (Y (Y1 (i+17))),.k,.q (Y (Y1 (i+17))),.c (sO "stands",GM F sz T d ro fo jo bo pl r),.g,.k,.r c.mc] ⟨a,a,hs,b "stands",h',rfl⟩
def qmf(m)(a:dget bo (O c.nm)=Y (Y1 (i+17)))(h:r[i+1]?=Y c.mc)(f:¬ over d c)(o):callD fns (m+2) 65 [Y1 8,Y9 [sO "sell",O c.nm,O o]] (GM F sz T d ro fo jo bo pl r)=Y (sO "good",GM F sz T d ro fo jo bo pl (r.set (i+1) ({ c with o:=o }:Cl).mc)):=by
 have hs:=qx8 (F:=F) (sz:=sz) (T:=T) (d:=d) (ro:=ro) (fo:=fo) (jo:=jo) (pl:=pl) m a h;have b:=λx:String=>gS (sO x) (GM F sz T d ro fo jo bo pl r) rfl;have h':(GM F sz T d ro fo jo bo pl r)[i+17]?=Y c.mc:=h;rcases qjz f with e|e<;>rw[e]at hs
 ·exact qzz 16 [61] 2 (λq=>_/\_/\_/\_/\_/\q) [.k,.q (Y (Y1 (i+17))),.k,.q (Y (Y1 (i+17))),.c (sO "unvested",GM F sz T d ro fo jo bo pl r),.g,.r c.mc] ⟨a,a,hs,b "unvested",h',rfl⟩
 ·exact qzz 16 [61] 2 (λq=>_/\_/\_/\_/\_/\q) [.k,.q (Y (Y1 (i+17))),.k,.q (Y (Y1 (i+17))),.c (sO "stands",GM F sz T d ro fo jo bo pl r),.g,.r c.mc] ⟨a,a,hs,b "stands",h',rfl⟩
def qme(m)(a:dget bo (O c.nm)=Y (Y1 (i+17)))(h:r[i+1]?=Y c.mc)(j:r[i]?=Y c.dl)(hj:c.j=i+8)(l:c.ds.length<900)(k:¬ over d c):callD fns (m+2) 65 [Y1 8,Y9 [sO "work",O c.nm]] (GM F sz T d ro fo jo bo pl r)=Y (sO "good",GM F sz T d ro fo jo bo pl ((r.set (i+1) ({ c with la:=d+T }:Cl).mc).set i (Y4 Z (c.ds.map O++[O d])))):=by
 have hs:=qx8 (F:=F) (sz:=sz) (T:=T) (d:=d) (ro:=ro) (fo:=fo) (jo:=jo) (pl:=pl) m a h;have g:=λx:String=>gS (sO x) (GM F sz T d ro fo jo bo pl r) rfl;have h':(GM F sz T d ro fo jo bo pl r)[i+17]?=Y c.mc:=h;have h2:(GM F sz T d ro fo jo bo pl (r.set (i+1) ({ c with la:=d+T }:Cl).mc))[i+17]?=Y ({ c with la:=d+T }:Cl).mc:=Qq2 (Qqj.mp h).1;have x5:idxD (GM F sz T d ro fo jo bo pl (r.set (i+1) ({ c with la:=d+T }:Cl).mc)) (Y1 (i+17)) (O 5)=Y (Y1 (i+16)):=ixm h2 (by show Y (D.loc (c.j+8))=_; rw[hj]);have f:(GM F sz T d ro fo jo bo pl (r.set (i+1) ({ c with la:=d+T }:Cl).mc))[i+16]?=Y c.dl:=by
  show(r.set (i+1) _)[i]?=_;rw[Qqa (by lia)];exact j
 have b:decide ((c.ds.map D.int).length<lim)=true:=Zs (by rw[Qqx]; unfold lim; lia);rcases qjz k with e|e<;>rw[e]at hs
 ·exact qzz 16 [61] 2 (λq=>_/\_/\_/\_/\_/\_/\_/\_/\_/\q) [.k,.q (Y (Y1 (i+17))),.k,.q (Y (Y1 (i+17))),.c (sO "unvested",GM F sz T d ro fo jo bo pl r),.g,.k,.k,.r c.mc,.i (Y1 (i+16)),.r c.dl,.k,.r c.dl,.b Z] ⟨a,a,hs,g "unvested",h',x5,f,f,b,rfl⟩
 ·exact qzz 16 [61] 2 (λq=>_/\_/\_/\_/\_/\_/\_/\_/\_/\q) [.k,.q (Y (Y1 (i+17))),.k,.q (Y (Y1 (i+17))),.c (sO "stands",GM F sz T d ro fo jo bo pl r),.g,.k,.k,.r c.mc,.i (Y1 (i+16)),.r c.dl,.k,.r c.dl,.b Z] ⟨a,a,hs,g "stands",h',x5,f,f,b,rfl⟩
end
abbrev Rc:=B×B×B×B
noncomputable def lo(g:Rc)(s:B):Int:=if s=0 then g.1 else g.2.1
noncomputable def hi(g:Rc)(s:B):Int:=if s=0 then g.2.2.1 else g.2.2.2
noncomputable def aG(g:Rc)(s l:B):Rc:=if s=0 then(g.1,g.2.1,l - 1,g.2.2.2) else(g.1,g.2.1,g.2.2.1,l - 1)
noncomputable def bG(g:Rc)(s l:B):Rc:=if s=0 then(l,g.2.1,g.2.2.1,g.2.2.2) else(g.1,l,g.2.2.1,g.2.2.2)
def qer(g)(s l):cutG g s l=if lo g s<l/\l<=hi g s then Y (aG g s l,bG g s l) else none:=by
 unfold cutG lo hi aG bG
 by_cases h:s=0
 ·simp only[Z2 h]
 ·simp only[Z1 h]
noncomputable abbrev G4(g:Rc):Ya:=.lst Z [.int g.1,.int g.2.1,.int g.2.2.1,.int g.2.2.2]
noncomputable abbrev ptF(n s l o:B):D:=.tup [sO "part",.int n,.int s,.int l,.int o]
section
variable {F:Fx}{sz:D}{T d:B}{ro:L B}{fo jo bo:L (D×D)}{pl:L D}{r:Y2}{c:Cl}{i:Y0}
noncomputable abbrev ptT(n s l o d:B)(i k:Y0):Sl:=[Y (.loc 8),Y (ptF n s l o),Y (.int d),Y (.loc (i+17)),Y (.loc (k+16)),Y (.loc (k+17))]
noncomputable abbrev pt5:M.S:=.six (.var 4) (.bin .Add (.idx (.var 1) (.lit (.int 2))) (.lit (.int 2))) (.bin .Sub (.idx (.var 1) (.lit (.int 3))) (.lit (.int 1)))
noncomputable abbrev pt6:M.S:=.six (.var 5) (.idx (.var 1) (.lit (.int 2))) (.idx (.var 1) (.lit (.int 3)))
def pt_ok(m)(n)(hs:s=0\/s=1):stepEx (RL (callD fns (m+0))) (ptT n s l o d i r.length) (GM F sz T d ro fo jo bo pl (r++[G4 g,G4 g])) pt5=Y (.nx (ptT n s l o d i r.length),GM F sz T d ro fo jo bo pl (r++[G4 (aG g s l),G4 g]))/\stepEx (RL (callD fns (m+0))) (ptT n s l o d i r.length) (GM F sz T d ro fo jo bo pl (r++[G4 (aG g s l),G4 g])) pt6=Y (.nx (ptT n s l o d i r.length),GM F sz T d ro fo jo bo pl (r++[G4 (aG g s l),G4 (bG g s l)])):=by
 have b:(r++[G4 g,G4 g])[r.length]?=Y (G4 g):=get0 0;have f:(Out.nx (ptT n s l o d i r.length),GM F sz T d ro fo jo bo pl ((r++[G4 g,G4 g]).set r.length (G4 (aG g s l))))=(.nx (ptT n s l o d i r.length),GM F sz T d ro fo jo bo pl (r++[G4 (aG g s l),G4 g])):=by rw[set0]
 have a:(r++[G4 (aG g s l),G4 g])[r.length+1]?=Y (G4 g):=get0 1;have e:(Out.nx (ptT n s l o d i r.length),GM F sz T d ro fo jo bo pl ((r++[G4 (aG g s l),G4 g]).set (r.length+1) (G4 (bG g s l))))=(.nx (ptT n s l o d i r.length),GM F sz T d ro fo jo bo pl (r++[G4 (aG g s l),G4 (bG g s l)])):=by rw[set1]
 constructor
 ·rcases hs with rfl|rfl<;>exact qzf 16 [] 0 _ (λq=>_/\q) [.r (G4 g)] ⟨b,f⟩
 ·rcases hs with rfl|rfl<;>exact qzf 16 [] 0 _ (λq=>_/\q) [.r (G4 g)] ⟨a,e⟩
def ix_lo(S)(g)(hs:s=0\/s=1):idxD S (rD g) (O s)=Y (O (lo g s))/\idxD S (rD g) (O (s+2))=Y (O (hi g s)):=by rcases hs with rfl|rfl<;>exact⟨rfl,rfl⟩
variable (hg:dget bo (O c.nm)=Y (Y1 (i+17)))(h:r[i+1]?=Y c.mc){s l:B}(hs:s=0\/s=1)(o:B)
include hg h hs
theorem qg0(m)(hc:cutG c.g s l=J):callD fns (m+1) 64 [Y1 8,ptF c.nm s l o] (GM F sz T d ro fo jo bo pl r)=Y (sO "nocut",GM F sz T d ro fo jo bo pl (r++[G4 (aG c.g s l),G4 (bG c.g s l)])):=by
 have h1:(GM F sz T d ro fo jo bo pl r)[i+17]?=Y c.mc:=h;have h2:(GM F sz T d ro fo jo bo pl (r++[G4 c.g]))[i+17]?=Y c.mc:=ga _ h;have t:(GM F sz T d ro fo jo bo pl (r++[G4 (aG c.g s l),G4 (bG c.g s l)]))[i+17]?=Y c.mc:=ga _ h;have j:=ixm (i:=1) h1 rfl;have f:=ixm (i:=1) h2 rfl;have a:=ixm (i:=1) t rfl;have ⟨e,b⟩:=pt_ok (F:=F) (sz:=sz) (T:=T) (d:=d) (ro:=ro) (fo:=fo) (jo:=jo) (bo:=bo) (pl:=pl) (r:=r) (i:=i) m c.nm (l:=l) (o:=o) (g:=c.g) hs;have ⟨k,p⟩:=ix_lo (GM F sz T d ro fo jo bo pl (r++[G4 (aG c.g s l),G4 (bG c.g s l)])) c.g hs;have n:(([Y (Y1 8),Y (ptF c.nm s l o),Y (O d),Y (Y1 (i+17)),Y (Y1 (r.length+16)),Y (Y1 ((r++[G4 c.g]).length+16))]:Sl),GM F sz T d ro fo jo bo pl (r++[G4 c.g]++[G4 c.g]))=(ptT c.nm s l o d i r.length,GM F sz T d ro fo jo bo pl (r++[G4 c.g,G4 c.g])):=by
  rw[Qqg,Qq7]
  rfl
 rw[qer]at hc
 by_cases c1:lo c.g s<l
 ·by_cases c2:l<=hi c.g s
  ·rw[Z2 ⟨c1,c2⟩]at hc;cases hc
  ·exact qzz 16 [] 1 (λq=>_/\_/\_/\_/\_/\_/\_/\_/\_/\_/\_/\_/\q) [.k,.k,.q (Y (Y1 (i+17))),.i (rD c.g),.i (rD c.g),.e (ptT c.nm s l o d i r.length,GM F sz T d ro fo jo bo pl (r++[G4 c.g,G4 c.g])),.t (.nx (ptT c.nm s l o d i r.length),GM F sz T d ro fo jo bo pl (r++[G4 (aG c.g s l),G4 c.g])),.t (.nx (ptT c.nm s l o d i r.length),GM F sz T d ro fo jo bo pl (r++[G4 (aG c.g s l),G4 (bG c.g s l)])),.i (rD c.g),.n,.i (O (lo c.g s)),.n,.b Z,.i (rD c.g),.n,.i (O (hi c.g s)),.b Y6] ⟨hg,j,f,n,e,b,a,k,Zs c1,a,p,Zu c2,rfl⟩
 ·exact qzz 16 [] 1 (λq=>_/\_/\_/\_/\_/\_/\_/\_/\_/\q) [.k,.k,.q (Y (Y1 (i+17))),.i (rD c.g),.i (rD c.g),.e (ptT c.nm s l o d i r.length,GM F sz T d ro fo jo bo pl (r++[G4 c.g,G4 c.g])),.t (.nx (ptT c.nm s l o d i r.length),GM F sz T d ro fo jo bo pl (r++[G4 (aG c.g s l),G4 c.g])),.t (.nx (ptT c.nm s l o d i r.length),GM F sz T d ro fo jo bo pl (r++[G4 (aG c.g s l),G4 (bG c.g s l)])),.i (rD c.g),.n,.i (O (lo c.g s)),.n,.b Y6] ⟨hg,j,f,n,e,b,a,k,Zu c1,rfl⟩
end
noncomputable abbrev pt10:M.S:=.ite (.cmp .IsNot (.idx (.var 3) (.lit (.int 3))) (.lit .non)) [.expr (.meth (.didx (.var 0) (.lit (sO "row"))) .insert [.bin .Add (.meth (.didx (.var 0) (.lit (sO "row"))) .index [.idx (.var 1) (.lit (.int 1))]) (.lit (.int 1)),.var 2])] []
section
variable {F:Fx}{sz:D}{T d:B}{ro ro':L B}{fo jo bo:L (D×D)}{pl:L D}{r:Y2}{c:Cl}{i k:Y0}
def qlh(m)(h:r[i+1]?=Y ({ c with g:=g }:Cl).mc)(t:ro.length<900)(hr:c.v=J/\ro'=ro\/∃x A R,c.v=Y x/\ro=A++c.nm::R/\c.nm ∉ A/\ro'=A++c.nm::d::R):stepEx (RL (callD fns (m+0))) (ptT c.nm s l o d i k) (GM F sz T d ro fo jo bo pl r) pt10=Y (.nx (ptT c.nm s l o d i k),GM F sz T d ro' fo jo bo pl r):=by
 have h1:(GM F sz T d ro fo jo bo pl r)[i+17]?=Y ({ c with g:=g }:Cl).mc:=h;have j:idxD (GM F sz T d ro fo jo bo pl r) (Y1 (i+17)) (O 3)=Y (oD c.v):=ixm h1 rfl;rcases hr with⟨hv,rfl⟩|⟨x,A,R,hv,e,p,rfl⟩
 ·exact qzf 16 [] 0 (.nx (ptT c.nm s l o d i k),GM F sz T d ro' fo jo bo pl r) (λq=>_/\_/\q) [.i (oD c.v),.b Y6] ⟨j,nnN hv,rfl⟩
 ·have b:=qab (R:=R) p (GM F sz T d ro fo jo bo pl r);rw[<- e]at b;have a:(rowD ro).length=ro.length:=by simp
  have n:ro.length=A.length+(R.length+1):=by rw[e]; simp
  have hok:decide (0<=(A.length:B)+1/\(A.length:B)+1<=(rowD ro).length/\(rowD ro).length<lim)=true:=Zs ⟨by lia,by rw[a]; lia,by rw[a]; unfold lim; lia⟩;have f:(rowD ro).take ((A.length:B)+1).toNat++O d::(rowD ro).drop ((A.length:B)+1).toNat=rowD (A++c.nm::d::R):=by
   rw[show((A.length:B)+1).toNat=(rowD A).length+1 by simp,e];have:=qek (rowD A) (O c.nm) (O d) (rowD R);simpa[rowD] using this
  unfold GM M8;rw[<- f];exact qzf 16 [] 0 _ (λq=>_/\_/\_/\_/\q) [.i (oD c.v),.b Z,.k,.k,.c (O (A.length:B),GM F sz T d ro fo jo bo pl r),.b Z] ⟨j,nnS hv,b,hok,rfl⟩
noncomputable abbrev ptP(d o:B)(b:Rc)(c:Cl)(k:Y0):Cl:=⟨d,k+10,o,b,c.ds,c.la,c.v,J⟩
def qmg(m)(hg:dget bo (O c.nm)=Y (Y1 (i+17)))(h:r[i+1]?=Y c.mc)(V:r[i]?=Y c.dl)(hj:c.j=i+8)(hs:s=0\/s=1)(o)(hc:cutG c.g s l=Y (a,b))(X:ro.length<900)(hb:bo.length<900)(hr:c.v=J/\ro'=ro\/∃x A R,c.v=Y x/\ro=A++c.nm::R/\c.nm ∉ A/\ro'=A++c.nm::d::R):
  callD fns (m+1) 64 [Y1 8,ptF c.nm s l o] (GM F sz T d ro fo jo bo pl r)=Y (sO "good",GM F sz T d ro' fo jo (dput bo (O d) (Y1 (r.length+19))) pl (r.set (i+1) ({ c with g:=a }:Cl).mc++[G4 a,G4 b,c.dl,(ptP d o b c r.length).mc])):=by
 rw[qer]at hc
 split at hc
 case isFalse=>cases hc
 case isTrue f=>
  obtain⟨c1,c2⟩:=f;obtain⟨ha,t⟩:=Prod.mk.inj (Option.some.inj hc);have lt:=(Qqj.mp h).1;have h1:(GM F sz T d ro fo jo bo pl r)[i+17]?=Y c.mc:=h;have h2:(GM F sz T d ro fo jo bo pl (r++[G4 c.g]))[i+17]?=Y c.mc:=ga _ h;have z:(GM F sz T d ro fo jo bo pl (r++[G4 (aG c.g s l),G4 (bG c.g s l)]))[i+17]?=Y c.mc:=ga _ h;have N:=ixm (i:=1) h1 rfl;have K:=ixm (i:=1) h2 rfl;have v:=ixm (i:=1) z rfl;have ⟨I,H⟩:=pt_ok (F:=F) (sz:=sz) (T:=T) (d:=d) (ro:=ro) (fo:=fo) (jo:=jo) (bo:=bo) (pl:=pl) (r:=r) (i:=i) m c.nm (l:=l) (o:=o) (g:=c.g) hs;have ⟨Q,P⟩:=ix_lo (GM F sz T d ro fo jo bo pl (r++[G4 (aG c.g s l),G4 (bG c.g s l)])) c.g hs;rw[ha,t]at *;have e0:(([Y (Y1 8),Y (ptF c.nm s l o),Y (O d),Y (Y1 (i+17)),Y (Y1 (r.length+16)),Y (Y1 ((r++[G4 c.g]).length+16))]:Sl),GM F sz T d ro fo jo bo pl (r++[G4 c.g]++[G4 c.g]))=(ptT c.nm s l o d i r.length,GM F sz T d ro fo jo bo pl (r++[G4 c.g,G4 c.g])):=by
   rw[Qqg,Qq7]
   rfl
  have U:(r++[G4 a,G4 b])[r.length]?=Y (G4 a):=get0 0;have e8:(ptT c.nm s l o d i r.length,GM F sz T d ro fo jo bo pl ((r++[G4 a,G4 b]).set (i+1) ({ c with g:=a }:Cl).mc))=(ptT c.nm s l o d i r.length,GM F sz T d ro fo jo bo pl (r.set (i+1) ({ c with g:=a }:Cl).mc++[G4 a,G4 b])):=by rw[List.set_append_left _ _ lt]
  have y:(r.set (i+1) ({ c with g:=a }:Cl).mc)[i+1]?=Y ({ c with g:=a }:Cl).mc:=Qq2 lt;have n:(r.set (i+1) ({ c with g:=a }:Cl).mc)[i]?=Y c.dl:=by rw[Qqa (by lia)]; exact V
  have w:(r.set (i+1) ({ c with g:=a }:Cl).mc).length=r.length:=Qzq ..;generalize W:r.set (i+1) ({ c with g:=a }:Cl).mc=q at *;have S:(q++[G4 a,G4 b])[r.length+1]?=Y (G4 b):=by rw[<- w]; exact get0 1
  have u:(GM F sz T d ro fo jo bo pl (q++[G4 a,G4 b]))[i+17]?=Y ({ c with g:=a }:Cl).mc:=ga _ y;have G:idxD (GM F sz T d ro fo jo bo pl (q++[G4 a,G4 b])) (Y1 (i+17)) (O 2)=Y (O c.la):=ixm u rfl;have E:idxD (GM F sz T d ro fo jo bo pl (q++[G4 a,G4 b])) (Y1 (i+17)) (O 3)=Y (oD c.v):=ixm u rfl;have C:idxD (GM F sz T d ro fo jo bo pl (q++[G4 a,G4 b])) (Y1 (i+17)) (O 5)=Y (Y1 (i+16)):=ixm u (by show Y (D.loc (c.j+8))=_; rw[hj]);have d9:(q++[G4 a,G4 b])[i]?=Y c.dl:=ga _ n;have e:(q++[G4 a,G4 b,c.dl,(ptP d o b c r.length).mc])[i+1]?=Y ({ c with g:=a }:Cl).mc:=ga _ y;have j:=qlh (F:=F) (sz:=sz) (T:=T) (d:=d) (fo:=fo) (jo:=jo) (bo:=dput bo (O d) (Y1 (r.length+19))) (pl:=pl) (k:=r.length) (s:=s) (l:=l) (o:=o) m e X hr;have e9:(ptT c.nm s l o d i r.length,GM F sz T d ro fo jo (dput bo (O d) (Y1 ((q++[G4 a,G4 b]++[c.dl]).length+16))) pl (q++[G4 a,G4 b]++[c.dl]++[Y4 Z [O o,rD b,O c.la,oD c.v,.non,Y1 ((q++[G4 a,G4 b]).length+16)]]))=(ptT c.nm s l o d i r.length,GM F sz T d ro fo jo (dput bo (O d) (Y1 (r.length+19))) pl (q++[G4 a,G4 b,c.dl,(ptP d o b c r.length).mc])):=by
   rw[Qqg,Qqg,w,Qq7,Qq7]
   rfl
  exact qzz 16 [] 1 (λq=>_/\_/\_/\_/\_/\_/\_/\_/\_/\_/\_/\_/\_/\_/\_/\_/\_/\_/\_/\_/\_/\_/\_/\q) [.k,.k,.q (Y (Y1 (i+17))),.i (rD c.g),.i (rD c.g),.e (ptT c.nm s l o d i r.length,GM F sz T d ro fo jo bo pl (r++[G4 c.g,G4 c.g])),.t (.nx (ptT c.nm s l o d i r.length),GM F sz T d ro fo jo bo pl (r++[G4 a,G4 c.g])),.t (.nx (ptT c.nm s l o d i r.length),GM F sz T d ro fo jo bo pl (r++[G4 a,G4 b])),.i (rD c.g),.n,.i (O (lo c.g s)),.n,.b Z,.i (rD c.g),.n,.i (O (hi c.g s)),.b Z,.r (G4 a),.r c.mc,.e (ptT c.nm s l o d i r.length,GM F sz T d ro fo jo bo pl (q++[G4 a,G4 b])),.n,.r (G4 b),.i (O c.la),.i (oD c.v),.i (Y1 (i+16)),.r c.dl,.k,.b Z,.e (ptT c.nm s l o d i r.length,GM F sz T d ro fo jo (dput bo (O d) (Y1 (r.length+19))) pl (q++[G4 a,G4 b,c.dl,(ptP d o b c r.length).mc])),.t (.nx (ptT c.nm s l o d i r.length),GM F sz T d ro' fo jo (dput bo (O d) (Y1 (r.length+19))) pl (q++[G4 a,G4 b,c.dl,(ptP d o b c r.length).mc]))]
   ⟨hg,N,K,e0,I,H,v,Q,Zs c1,v,P,Zs c2,U,z,e8,S,G,E,C,d9,Zs (p:=bo.length<lim) (by unfold lim; lia),e9,j,rfl⟩
end
def InvK.front{T:B}(h:InvK K 8 (M8 sz T d ro fo jo bo pl r) cs):InvK K 8 (M8 a j d' ro' fo' f g b r) cs:=
 ⟨h.lo,λc hc=>by
  obtain⟨i,e⟩:∃i,c.j=i+8:=⟨c.j - 8,by have:=h.lo c hc; lia⟩
  have:=h.at_ c hc;rw[e]at this ⊢
  exact this,h.pw,h.ne,h.nd⟩
def Fm(cs:L Cl)(r r':Y2):Prop:=r.length<=r'.length/\∀i,i<r.length->(∀c∈cs,i+8≠c.j/\i+8≠c.j+1)->r'[i]?=r[i]?
def Fm.refl:Fm cs r r:=⟨Qqv _,λ_ _ _=>rfl⟩
def Fm.app(h:Fm cs r a)(X):Fm cs r (a++X):=⟨by rw[Qqg]; have:=h.1; lia,λi hi hc=>by rw[Qqr (by have:=h.1; lia)]; exact h.2 i hi hc⟩
def Fm.cell(hc:c∈cs)(e:c.j=i+8)(x):Fm cs r (r.set (i+1) x):=⟨by rw[Qzq]; exact Qqv _,λk _ h=>Qqa λz=>(h c hc).2 (by lia)⟩
section
variable {F:Fx}{sz:D}{T d:B}{ro ro':L B}{fo jo:L (D×D)}{pl:L D}{r:Y2}{ms zs:L Cl}
def qwj(e:j=i+8)(a):(M8 sz T d ro fo jo bo pl r).set j a=M8 sz T d ro fo jo bo pl (r.set i a)/\(M8 sz T d ro fo jo bo pl r).set (j+1) a=M8 sz T d ro fo jo bo pl (r.set (i+1) a):=by rw[e]; exact⟨rfl,rfl⟩
def qb3(I:InvM 8 (M8 sz T d ro fo jo (qzq ms) pl r) ms)(hc:c∈ms.map Cl.z):∃x i,x∈ms/\x.z=c/\x.j=i+8/\dget (qzq ms) (O x.nm)=Y (Y1 (i+17))/\r[i+1]?=Y x.mc/\r[i]?=Y x.dl:=by
 obtain⟨x,a,rfl⟩:=Qqk.mp hc;obtain⟨i,e⟩:∃i,x.j=i+8:=⟨x.j - 8,by have:=I.lo x a; lia⟩
 have h1:=I.get a;have h2:=I.at_ x a;rw[e]at h1 h2;exact⟨x,i,a,rfl,e,h1,h2.2,h2.1⟩
def mc_pt(m)(a:dget bo (O c.nm)=Y (Y1 (i+17)))(h:r[i+1]?=Y c.mc)(g:¬ over d c){S:Y2}(b:callD fns (m+2) 64 [Y1 8,ptF c.nm s l o] (GM F sz T d ro fo jo bo pl r)=Y (sO w,S)):callD fns (m+3) 65 [Y1 8,ptF c.nm s l o] (GM F sz T d ro fo jo bo pl r)=Y (sO w,S):=by
 have hs:=qx8 (F:=F) (sz:=sz) (T:=T) (d:=d) (ro:=ro) (fo:=fo) (jo:=jo) (pl:=pl) (m+1) a h;have f:=λx:String=>gS (sO x) (GM F sz T d ro fo jo bo pl r) rfl;rcases qjz g with e|e<;>rw[e]at hs
 ·exact qzz 16 [61,64] 3 (λq=>_/\_/\_/\_/\_/\q) [.k,.q (Y (Y1 (i+17))),.k,.q (Y (Y1 (i+17))),.c (sO "unvested",GM F sz T d ro fo jo bo pl r),.g,.c (sO w,S)] ⟨a,a,hs,f "unvested",b,rfl⟩
 ·exact qzz 16 [61,64] 3 (λq=>_/\_/\_/\_/\_/\q) [.k,.q (Y (Y1 (i+17))),.k,.q (Y (Y1 (i+17))),.c (sO "stands",GM F sz T d ro fo jo bo pl r),.g,.c (sO w,S)] ⟨a,a,hs,f "stands",b,rfl⟩
def mcl_ok(m:Y0)(I:InvM 8 (M8 sz T d ro fo jo (qzq ms) pl r) ms)(hl:ms.length<800)(Q:∀c∈ms,c.ds.length<800)(hr:ro.length<900)(hd:∀c∈ms,c.nm≠d){f:D}{w:String}(V:Tr T d (ms.map Cl.z) ro f w zs ro'):
  ∃j r',callD fns (m+3) 65 [Y1 8,f] (GM F sz T d ro fo jo (qzq ms) pl r)=Y (sO w,GM F sz T d ro' fo jo (qzq j) pl r')/\j.map Cl.z=zs/\InvM 8 (M8 sz T d ro' fo jo (qzq j) pl r') j/\Fm ms r r':=by
 have one:∀{x:Cl}(v:Cl){i:Y0},x∈ms->x.j=i+8->v.nm=x.nm->v.j=x.j->v.ds=x.ds->callD fns (m+3) 65 [Y1 8,f] (GM F sz T d ro fo jo (qzq ms) pl r)=Y (sO w,GM F sz T d ro fo jo (qzq ms) pl (r.set (i+1) v.mc))->∃j r',callD fns (m+3) 65 [Y1 8,f] (GM F sz T d ro fo jo (qzq ms) pl r)=Y (sO w,GM F sz T d ro fo jo (qzq j) pl r')/\j=upd ms v/\InvM 8 (M8 sz T d ro fo jo (qzq j) pl r') j/\Fm ms r r':=λ{x} v {i} n e S R e3 hc=>by
  have A:=I.cell (c':=v) n S R e3;rw[(qwj e _).2]at A;refine⟨_,r.set (i+1) v.mc,?_,rfl,A.front,.cell n e _⟩;rw[hc,qqd n I.nd S R]
 cases V with
 |no h=>
  refine⟨ms,r,mc_no (m+2) (qen λc hc e=>h c.z (Qqk.mpr ⟨c,hc,rfl⟩) e),rfl,I,.refl⟩
 |over hc t=>
  obtain⟨x,i,n,rfl,e,q,p,E⟩:=qb3 I hc;exact⟨ms,r,qmh (c:=x) (m+1) q p t,rfl,I,.refl⟩
 |give hc t=>
  obtain⟨x,i,n,rfl,e,q,p,E⟩:=qb3 I hc;obtain⟨j,r',N,rfl,K,H⟩:=one { x with gv:=Y d } n e rfl rfl rfl (qmi (m+1) q p t);exact⟨_,r',N,qk8 ..,K,H⟩
 |sell hc t=>
  obtain⟨x,i,n,rfl,e,q,p,E⟩:=qb3 I hc;rename_i o;obtain⟨j,r',N,rfl,K,H⟩:=one { x with o:=o } n e rfl rfl rfl (qmf (m+1) q p t o);exact⟨_,r',N,qk8 ..,K,H⟩
 |work hc t=>
  obtain⟨x,i,n,rfl,e,q,p,E⟩:=qb3 I hc;have A:=I.put (c':={ x with ds:=x.ds++[d],la:=d+T }) n rfl rfl ⟨by simp,by have:=Q x n; simp; lia⟩;rw[(qwj e _).1,(qwj e _).2]at A;refine⟨upd ms { x with ds:=x.ds++[d],la:=d+T },_,?_,qk8 ..,A.front,?_⟩
  ·rw[qqd (c':={ x with ds:=x.ds++[d],la:=d+T }) n I.nd rfl rfl];have:=qme (F:=F) (sz:=sz) (ro:=ro) (fo:=fo) (jo:=jo) (pl:=pl) (T:=T) (m+1) q p E e (by have:=Q x n; lia) t;rw[List.set_comm _ _ (by lia)]at this;rw[show(Cl.dl { x with ds:=x.ds++[d],la:=d+T })=Y4 Z (x.ds.map O++[O d]) by unfold Cl.dl; simp];exact this
  ·exact⟨by rw[Qzq,Qzq]; exact Qqv _,λk _ h=>by rw[Qqa λz=>(h x n).2 (by lia),Qqa λz=>(h x n).1 (by lia)]⟩
 |nocut hc t hs C=>
  obtain⟨x,i,n,rfl,e,q,p,E⟩:=qb3 I hc;rename_i s l o;have:=mc_pt m (l:=l) (s:=s) (o:=o) q p t (qg0 (F:=F) (sz:=sz) (T:=T) (d:=d) (ro:=ro) (fo:=fo) (jo:=jo) (pl:=pl) q p hs o (m+1) C);exact⟨ms,_,this,rfl,(I.more _).front (sz:=sz) (T:=T) (d:=d) (ro:=ro) (fo:=fo) (jo:=jo) (bo:=qzq ms) (pl:=pl),Fm.refl.app _⟩
 |part hc t hs C G=>
  obtain⟨x,i,n,rfl,e,q,p,E⟩:=qb3 I hc;rename_i s l o a b;have hp:=mc_pt m (l:=l) (s:=s) (o:=o) q p t (qmg (F:=F) (sz:=sz) (T:=T) (d:=d) (ro:=ro) (ro':=ro') (fo:=fo) (jo:=jo) (pl:=pl) (m+1) q p E e hs o C hr (by unfold qzq; rw[Qqx]; lia) G);have A:=I.cell (c':={ x with g:=a }) n rfl rfl rfl;rw[(qwj e _).2]at A;have J2:=A.more [G4 a,G4 b];have hn:∀y∈upd ms { x with g:=a },y.nm≠(ptP d o b x r.length).nm:=λy W=>by
   have:y.nm∈(upd ms { x with g:=a }).map (·.nm):=Qqk.mpr ⟨y,W,rfl⟩;rw[qxv]at this;obtain⟨u,X,e⟩:=Qqk.mp this;rw[<- e];exact hd u X
  have P:(M8 sz T d ro fo jo (qzq ms) pl (r.set (i+1) ({ x with g:=a }:Cl).mc)++[G4 a,G4 b]).length=r.length+10:=by simp
  have U:=J2.add (ptP d o b x r.length) P.symm hn (I.ne x n) (by rw[P]; lia);refine⟨upd ms { x with g:=a }++[ptP d o b x r.length],r.set (i+1) ({ x with g:=a }:Cl).mc++[G4 a,G4 b,x.dl,(ptP d o b x r.length).mc],?_,?_,?_,(Fm.cell n e _).app _⟩
  ·rw[<- qje hn,qqd (c':={ x with g:=a }) n I.nd rfl rfl];exact hp
  ·rw[Qqd,qk8]
   rfl
  ·rw[Qq7]at U;exact U.front (sz:=sz) (T:=T) (d:=d) (ro:=ro) (fo:=fo) (jo:=jo) (bo:=qzq ms) (pl:=pl)
end
theorem qc7:∀{l},l.Pairwise (· < ·)->sortInt l=l
 |[],_=>rfl
 |x::l,h=>by
  rw[Qxb]at h;show insInt x (sortInt l)=_;rw[qc7 h.2]
  cases l with
  |nil=>rfl
  |cons y r=>
   show(if x<=y then _ else _)=_;rw[Z2 (Int.le_of_lt (h.1 y (.head _)))]
theorem asI:∀l:L B,asInts (l.map O)=Y l
 |[]=>rfl
 |x::l=>by show(asInts (l.map O)).map (x::·)=_; rw[asI l]; rfl
def qxw{ns:L B}(h:st[l]?=Y (.dic Z kvs))(hk:keysOf kvs=ns.map O)(a:ns.Pairwise (· < ·))(d:ns.length<64):bfun st .sorted [Y1 l]=Y (Y1 st.length,st++[Y4 Z (ns.map O)]):=by
 have c:seqAt st (Y1 l)=none:=by show listAt st l=_; unfold listAt; rw[h]
 have b:dkeys st (Y1 l)=Y (ns.map O):=by
  show(dicAt st l).map keysOf=_;unfold dicAt;rw[h];exact congrArg Y hk
 show((seqAt st (Y1 l)).or (dkeys st (Y1 l))).bind _=_;rw[c,b];show Option.map _ (if 64<=(ns.map D.int).length then J else asInts (ns.map O))=_;rw[Z1 (by rw[Qqx]; lia),asI];show Y (alloc st (Y4 Z ((sortInt ns).map O)))=_;rw[qc7 a]
 rfl
section
variable {F:Fx}{sz:D}{T d:B}{ro:L B}{fo jo jo' bo:L (D×D)}{pl:L D}{r:Y2}{ms:L Cl}
def mjn_ok(m)(g:jo.length<900)(h:Jn fo jo a b f w jo'):callD fns (m+1) 66 [Y1 8,Y9 [sO "join",O a,O b,O f]] (GM F sz T d ro fo jo bo pl r)=Y (sO w,GM F sz T d ro fo jo' bo pl r):=by
 cases h with
 |nv1 h1=>exact qzz 16 [] 1 (λq=>_/\q) [.k,.q J] ⟨h1,rfl⟩
 |nv2 h1 h2=>rename_i x; exact qzz 16 [] 1 (λq=>_/\_/\q) [.k,.q (Y x),.k,.q J] ⟨h1,h2,rfl⟩
 |ord h1 h2 c=>rename_i x y; exact qzz 16 [] 1 (λq=>_/\_/\_/\q) [.k,.q (Y x),.k,.q (Y y),.b Z] ⟨h1,h2,Zs c,rfl⟩
 |joi h1 h2 c e=>rename_i x y z; exact qzz 16 [] 1 (λq=>_/\_/\_/\_/\q) [.k,.q (Y x),.k,.q (Y y),.b Y6,.k,.q (Y z)] ⟨h1,h2,Zu c,e,rfl⟩
 |good h1 h2 c e=>rename_i x y; exact qzz 16 [] 1 (λq=>_/\_/\_/\_/\_/\q) [.k,.q (Y x),.k,.q (Y y),.b Y6,.k,.q J,.k,.b Z] ⟨h1,h2,Zu c,e,Zs (p:=jo.length<lim) (by unfold lim; lia),rfl⟩
def qbk(day)(ps)(A R):qzq (A.map (vst day ps)++R)=qzq (A++R):=by
 unfold qzq;rw[Qqd,Qqd,Qqf]
 congr 1
 exact Qzb λc _=>by
  show(D.int (vst day ps c).nm,D.loc ((vst day ps c).j+9))=_;rw[(qzn day ps c).1,(qzn day ps c).2.1]
noncomputable abbrev enT(day:B)(f:D)(a b:Y3 D):Sl:=[Y (.loc 8),Y (.int day),Y f,a,b]
noncomputable abbrev vnF(s:D)(ps:L (B×B)):D:=.tup [sO "vein",s,.tup (ps.map cD)]
def mva_ok(m)(I:InvM 8 (M8 sz T d ro fo jo (qzq ms) pl r) ms)(H:(ms.map (·.nm)).Pairwise (· < ·))(K:ms.length<64)(hr:ro.length<800)(s)(G:ps.length<lim):∃r' a,stepEx (RL (callD fns (m+2))) (enT d (vnF s ps) J J) (GM F sz T d ro fo jo (qzq ms) pl r) (.forr (.var 3) (.gc (.bcall .sorted [.didx (.var 0) (.lit (sO "claims"))])) [.expr (.call 62 [.var 0,.var 3,.idx (.var 2) (.lit (O 2))])])=Y (.nx (enT d (vnF s ps) a J),GM F sz T d (ro++(ms.filter (hit d ps)).map (·.nm)) fo jo (qzq (ms.map (vst d ps))) pl r')/\InvM 8 (M8 sz T d (ro++(ms.filter (hit d ps)).map (·.nm)) fo jo (qzq (ms.map (vst d ps))) pl r') (ms.map (vst d ps))/\Fm ms r r':=by
 have keys:keysOf (qzq ms)=(ms.map (·.nm)).map O:=by unfold keysOf qzq; rw[Qqf,Qqf]; rfl
 have hs:=qxw (st:=GM F sz T d ro fo jo (qzq ms) pl r) (l:=14) rfl keys H (by rw[Qqx]; exact K);have u:(RL (callD fns (m+2))).ev (enT d (vnF s ps) J J) (GM F sz T d ro fo jo (qzq ms) pl r) (.gc (.bcall .sorted [.didx (.var 0) (.lit (sO "claims"))]))=Y (.lst ((ms.map (·.nm)).map O),GM F sz T d ro fo jo (qzq ms) pl r):=
  qzb 16 [] 2 (λq=>_/\_/\q) [.k,.c (Y1 (GM F sz T d ro fo jo (qzq ms) pl r).length,GM F sz T d ro fo jo (qzq ms) pl r++[Y4 Z ((ms.map (·.nm)).map O)]),.l ((ms.map (·.nm)).map O)] ⟨hs,qzv (st:=GM F sz T d ro fo jo (qzq ms) pl r) (nlI (ms.map (·.nm))),rfl⟩
 obtain⟨f,st',h1,a,r',rfl,rfl,b,fz⟩:=qj9 (st:=GM F sz T d ro fo jo (qzq ms) pl r) (it:=.gc (.bcall .sorted [.didx (.var 0) (.lit (sO "claims"))])) (ds:=(ms.map (·.nm)).map O) (t:=.var 3) (body:=[.expr (.call 62 [.var 0,.var 3,.idx (.var 2) (.lit (O 2))])])
  (λk f st'=>∃a r',f=enT d (vnF s ps) a J/\st'=GM F sz T d (ro++((ms.take k).filter (hit d ps)).map (·.nm)) fo jo (qzq ((ms.take k).map (vst d ps)++ms.drop k)) pl r'/\InvM 8 (M8 sz T d (ro++((ms.take k).filter (hit d ps)).map (·.nm)) fo jo (qzq ((ms.take k).map (vst d ps)++ms.drop k)) pl r') ((ms.take k).map (vst d ps)++ms.drop k)/\Fm ms r r')
  (by show((RL (callD fns (m+2))).ev _ _ _).bind _=_; rw[u]; rfl) (qz5 rfl) (λk f st' _=>qxp rfl k) ⟨J,r,rfl,by simp,by simpa using I,.refl⟩ (λk f st' x w h=>by
   obtain⟨a,r',rfl,rfl,b,fz⟩:=h;rw[Qqf,Qqb]at w;obtain⟨c,hc,rfl⟩:=Qqi.mp w;obtain⟨hk,n⟩:=Qqj.mp hc;have dr:ms.drop k=c::ms.drop (k+1):=by rw[Qjn hk,n]
   have tk:ms.take (k+1)=ms.take k++[c]:=by rw[Qzx hk,n]
   have hb:qzq ((ms.take (k+1)).map (vst d ps)++ms.drop (k+1))=qzq ((ms.take k).map (vst d ps)++c::ms.drop (k+1)):=by rw[qbk,qbk,Qz3,<- dr,Qz3]
   rw[dr]at b ⊢;have o:c∈(ms.take k).map (vst d ps)++c::ms.drop (k+1):=by simp
   have v:c∈ms:=Qqm hc;obtain⟨i,e⟩:∃i,c.j=i+8:=⟨c.j - 8,by have:=b.lo c o; lia⟩
   have A:=b.get o;have y:=(b.at_ c o).2;rw[e]at A y;have p:(ro++((ms.take k).filter (hit d ps)).map (·.nm)).length<1000:=by
    have:=Qzc (hit d ps) (ms.take k);rw[Qqg,Qqx];rw[Qza]at this
    lia
   have hv:=qiz (F:=F) (sz:=sz) (T:=T) (d:=d) (fo:=fo) (jo:=jo) (pl:=pl) m A y (q:=.tup (ps.map cD)) rfl G p;generalize N:(if hit d ps c=Z then _ else _:Y2)=C at hv;refine⟨enT d (vnF s ps) (Y (O c.nm)) J,C,qqx 0 [62] 2 (λq=>_/\q) [.c (.non,C)] ⟨hv,rfl⟩,Y (O c.nm),if hit d ps c then r'.set (i+1) (vst d ps c).mc else r',rfl,?_,?_,?_⟩
   ·rw[<- N,hb,tk,Qxx,Qqd]
    cases g:hit d ps c with
    |true=>simp[g]
    |false=>simp[g]
   ·rw[hb,tk,Qqd,Qq7];show InvM 8 _ (List.map (vst d ps) (ms.take k)++vst d ps c::ms.drop (k+1))
    cases g:hit d ps c with
    |true=>
     have:=b.cell o (qzn d ps c).1 (qzn d ps c).2.1 (qzn d ps c).2.2;rw[qk9 (qzn d ps c).1 b.nd,(qwj e _).2]at this;exact this.front
    |false=>
     have:vst d ps c=c:=by unfold vst; rw[g]; rfl
     rw[this];exact b.front
   ·cases g:hit d ps c with
    |true=>
     refine⟨by rw[Z2 rfl,Qzq]; exact fz.1,λq E j=>?_⟩;rw[Z2 rfl,Qqa λz=>(j c v).2 (by lia)];exact fz.2 q E j
    |false=>exact fz)
 simp only[Qqx,Qzo,List.drop_length,Qze]at h1 b;exact⟨r',a,h1,b,fz⟩
end
def qev(d)(A Bq)(c):hit d (A++Bq) c=(hit d A c||hit d Bq c):=by
 unfold hit hasB;rw[List.any_append];cases decide (stW c d = "unvested")<;>rfl
def qj8(d)(A Bq)(c):hit d Bq (vst d A c)=(!hit d A c&&hit d Bq c):=by
 unfold vst
 cases h:hit d A c with
 |false=>rw[Z1 (by simp)]; rfl
 |true=>
  rw[Z2 rfl];have:stW { c with v:=Y d } d ≠ "unvested":=by
   unfold stW;dsimp only
   split
   ·decide
   ·split
    ·decide
    ·rw[Z1 (by simp)]
     decide
  unfold hit;rw[Zu this]
  rfl
def qk7(d)(A Bq)(c):vst d Bq (vst d A c)=vst d (A++Bq) c:=by
 have h1:=qj8 d A Bq c;have h2:=qev d A Bq c
 show(if hit d Bq (vst d A c) then _ else _)=if hit d (A++Bq) c then _ else _
 rw[h1,h2];unfold vst;cases hit d A c<;>cases hit d Bq c<;>rfl
noncomputable abbrev skF(o:B)(g:Rc):D:=.tup [sO "stake",.int o,.int g.1,.int g.2.1,.int g.2.2.1,.int g.2.2.2]
section
variable {F:Fx}{sz:D}{T d:B}{ro:L B}{jo bo:L (D×D)}{pl:L D}{r:Y2}{vs:L (B×D×L (B×B))}
def mvs_ok(m)(H:dget bo (O d)=Y (Y1 (r.length+17)))(hc:c.nm=d)(x)(j:(vs.map (·.1)).Pairwise (· < ·))(s:vs.length<64)(n:∀v∈vs,v.2.2.length<=16)(hr:ro.length<800)(f):∃b,stepEx (RL (callD fns (m+2))) (enT d f J J) (GM F sz T d ro (voD vs) jo bo pl (r++[x,c.mc])) (.forr (.var 4) (.gc (.bcall .sorted [.didx (.var 0) (.lit (sO "veins"))])) [.expr (.call 62 [.var 0,.var 1,.idx (.didx (.didx (.var 0) (.lit (sO "veins"))) (.var 4)) (.lit (O 1))])])=Y (.nx (enT d f J b),GM F sz T d (ro++if hit d (vs.flatMap (·.2.2)) c then [d] else []) (voD vs) jo bo pl (r++[x,(vst d (vs.flatMap (·.2.2)) c).mc])):=by
 have p:(vs.map (·.1)).Nodup:=j.imp λh=>by lia
 have keys:keysOf (voD vs)=(vs.map (·.1)).map O:=by unfold keysOf voD; rw[Qqf,Qqf]; rfl
 have hs:=qxw (st:=GM F sz T d ro (voD vs) jo bo pl (r++[x,c.mc])) (l:=12) rfl keys j (by rw[Qqx]; exact s);have w:(RL (callD fns (m+2))).ev (enT d f J J) (GM F sz T d ro (voD vs) jo bo pl (r++[x,c.mc])) (.gc (.bcall .sorted [.didx (.var 0) (.lit (sO "veins"))]))=Y (.lst ((vs.map (·.1)).map O),GM F sz T d ro (voD vs) jo bo pl (r++[x,c.mc])):=
  qzb 16 [] 2 (λq=>_/\_/\q) [.k,.c (Y1 (GM F sz T d ro (voD vs) jo bo pl (r++[x,c.mc])).length,GM F sz T d ro (voD vs) jo bo pl (r++[x,c.mc])++[Y4 Z ((vs.map (·.1)).map O)]),.l ((vs.map (·.1)).map O)] ⟨hs,qzv (st:=GM F sz T d ro (voD vs) jo bo pl (r++[x,c.mc])) (nlI (vs.map (·.1))),rfl⟩
 obtain⟨a,st',h1,b,rfl,rfl⟩:=qj9 (st:=GM F sz T d ro (voD vs) jo bo pl (r++[x,c.mc])) (it:=.gc (.bcall .sorted [.didx (.var 0) (.lit (sO "veins"))])) (ds:=(vs.map (·.1)).map O) (t:=.var 4) (body:=[.expr (.call 62 [.var 0,.var 1,.idx (.didx (.didx (.var 0) (.lit (sO "veins"))) (.var 4)) (.lit (O 1))])])
  (λk a st'=>∃b,a=enT d f J b/\st'=GM F sz T d (ro++if hit d ((vs.take k).flatMap (·.2.2)) c then [d] else []) (voD vs) jo bo pl (r++[x,(vst d ((vs.take k).flatMap (·.2.2)) c).mc]))
  (by show((RL (callD fns (m+2))).ev _ _ _).bind _=_; rw[w]; rfl) (qz5 rfl) (λk a st' _=>qxp rfl k) ⟨J,rfl,by
   have:hit d [] c=false:=by unfold hit hasB; simp
   have e:vst d [] c=c:=by unfold vst; rw[this]; rfl
   simp[this,e]⟩ (λk a st' y C h=>by
   obtain⟨b,rfl,rfl⟩:=h;rw[Qqf,Qqb]at C;obtain⟨v,hv,rfl⟩:=Qqi.mp C;obtain⟨hk,z⟩:=Qqj.mp hv;have tk:(vs.take (k+1)).flatMap (·.2.2)=(vs.take k).flatMap (·.2.2)++v.2.2:=by rw[Qzx hk,z]; simp
   have E:=Qqm hv;have o:=qkh E p;generalize K:(vs.take k).flatMap (·.2.2)=A at tk ⊢;rw[tk];have g:(vst d A c).nm=d:=(qzn d A c).1.trans hc;have u:=qiz (F:=F) (sz:=sz) (T:=T) (d:=d) (fo:=voD vs) (jo:=jo) (pl:=pl) (c:=vst d A c) (r:=r++[x,(vst d A c).mc]) (i:=r.length) (ro:=ro++if hit d A c then [d] else []) m (by rw[g]; exact H) (get0 1) (q:=.tup (v.2.2.map cD)) (ps:=v.2.2) rfl (by have:=n v E; unfold lim; lia) (by rw[Qqg]; split<;>simp<;>lia);rw[g,qj8,qk7,set1]at u;generalize I:(if (!hit d A c&&hit d v.2.2 c)=Z then _ else _:Y2)=G at u;refine⟨enT d f J (Y (O v.1)),G,qqx 16 [62] 2 (λq=>_/\_/\q) [.k,.q (Y (.tup [v.2.1,.tup (v.2.2.map cD)])),.c (.non,G)] ⟨o,u,rfl⟩,Y (O v.1),rfl,?_⟩;rw[<- I];rw[qev];cases h1:hit d A c<;>cases h2:hit d v.2.2 c
   ·have:vst d (A++v.2.2) c=vst d A c:=by rw[<- qk7]; show(if hit d v.2.2 (vst d A c) then _ else _)=_; rw[qj8,h1,h2]; rfl
    rw[this]
    rfl
   ·simp
   ·have:vst d (A++v.2.2) c=vst d A c:=by rw[<- qk7]; show(if hit d v.2.2 (vst d A c) then _ else _)=_; rw[qj8,h1,h2]; rfl
    rw[this]
    rfl
   ·have:vst d (A++v.2.2) c=vst d A c:=by rw[<- qk7]; show(if hit d v.2.2 (vst d A c) then _ else _)=_; rw[qj8,h1,h2]; rfl
    rw[this]
    rfl)
 rw[Qqx,Qqx,Qzo]at h1;exact⟨b,h1⟩
end
section
variable {F:Fx}{sz:D}{T d day:B}{ro:L B}{fo jo jo' bo:L (D×D)}{pl:L D}{r:Y2}{ms:L Cl}{vs:L (B×D×L (B×B))}
def qdp(m)(hf:CF' f){S:Y2}(h:callD fns (m+3) 65 [Y1 8,f] (GM F sz T day ro fo jo bo pl r)=Y (sO w,S)):callD fns (m+4) 67 [Y1 8,O day,f] (GM F sz T d ro fo jo bo pl r)=Y (sO w,S):=by
 cases hf<;>exact qzz 16 [65] 4 (λq=>_/\q) [.k,.c (sO w,S)] ⟨h,rfl⟩
def qgu(m)(c:jo.length<900)(h:Jn fo jo a b f w jo'):callD fns (m+4) 67 [Y1 8,O day,Y9 [sO "join",O a,O b,O f]] (GM F sz T d ro fo jo bo pl r)=Y (sO w,GM F sz T day ro fo jo' bo pl r):=
 qzz 16 [66] 4 (λq=>_/\q) [.k,.c (sO w,GM F sz T day ro fo jo' bo pl r)] ⟨mjn_ok (F:=F) (sz:=sz) (T:=T) (d:=day) (ro:=ro) (bo:=bo) (pl:=pl) (r:=r) (m+2) c h,rfl⟩
def qgt(m)(I:InvM 8 (M8 sz T d ro fo jo (qzq ms) pl r) ms)(e:(ms.map (·.nm)).Pairwise (· < ·))(f:ms.length<64)(hr:ro.length<800)(s)(c:ps.length<lim)(hv:∀v∈vs,v.1≠day)(b:vs.length<900):∃r',callD fns (m+4) 67 [Y1 8,O day,vnF s ps] (GM F sz T d ro (voD vs) jo (qzq ms) pl r)=Y (sO "good",GM F sz T day (ro++(ms.filter (hit day ps)).map (·.nm)) (voD (vs++[(day,s,ps)])) jo (qzq (ms.map (vst day ps))) pl r')/\InvM 8 (M8 sz T day (ro++(ms.filter (hit day ps)).map (·.nm)) fo jo (qzq (ms.map (vst day ps))) pl r') (ms.map (vst day ps))/\Fm ms r r':=by
 obtain⟨r',a,h1,h2,g⟩:=mva_ok (F:=F) (sz:=sz) (T:=T) (d:=day) (ro:=ro) (fo:=voD (vs++[(day,s,ps)])) (jo:=jo) (pl:=pl) (m+1) I.front e f hr s c;have hb:decide ((voD vs).length<lim)=true:=Zs (by unfold voD lim; rw[Qqx]; lia);refine⟨r',?_,h2.front,g⟩;rw[<- qy5 hv]at h1 ⊢;exact qzz 16 [] 4 (λq=>_/\_/\q) [.k,.k,.b Z,.s (.nx (enT day (vnF s ps) a J),GM F sz T day (ro++(ms.filter (hit day ps)).map (·.nm)) (dput (voD vs) (O day) (Y9 [s,Y9 (ps.map cD)])) jo (qzq (ms.map (vst day ps))) pl r')] ⟨hb,h1,rfl⟩
noncomputable abbrev nwC(day T o:B)(g:Rc)(k:Y0):Cl:=⟨day,k+8,o,g,[day],day+T,J,J⟩
def qdo(m)(I:InvM 8 (M8 sz T d ro fo jo (qzq ms) pl r) ms)(t:ms.length<64)(hr:ro.length<800)(hd:∀c∈ms,c.nm≠day)(o)(g)(i:(vs.map (·.1)).Pairwise (· < ·))(j:vs.length<64)(f:∀v∈vs,v.2.2.length<=16):∃e r',callD fns (m+4) 67 [Y1 8,O day,skF o g] (GM F sz T d ro (voD vs) jo (qzq ms) pl r)=Y (sO "good",GM F sz T day (ro++if hit day (vs.flatMap (·.2.2)) ⟨day,0,o,g,[day],day+T,J,J⟩ then [day] else []) (voD vs) jo (qzq e) pl r')/\e.map Cl.z=ms.map Cl.z++[vst day (vs.flatMap (·.2.2)) ⟨day,0,o,g,[day],day+T,J,J⟩]/\InvM 8 (M8 sz T day (ro++if hit day (vs.flatMap (·.2.2)) ⟨day,0,o,g,[day],day+T,J,J⟩ then [day] else []) fo jo (qzq e) pl r') e/\Fm ms r r':=by
 have hn:∀x∈ms,x.nm≠(nwC day T o g r.length).nm:=hd;have bk:=qje hn;have hb:decide ((qzq ms).length<lim)=true:=Zs (by unfold qzq lim; rw[Qqx]; lia);have nd:((ms++[nwC day T o g r.length]).map (·.nm)).Nodup:=by
  rw[Qqd,Qxk];refine⟨I.nd,by simp,λa p b hb=>?_⟩;obtain⟨x,h,rfl⟩:=Qqk.mp p;cases Qqc.mp hb;exact hd x h
 have hg:=qa7 (cs:=ms++[nwC day T o g r.length]) (c:=nwC day T o g r.length) (Qqh _ (Qqc.mpr rfl)) nd;obtain⟨b,h1⟩:=mvs_ok (F:=F) (sz:=sz) (T:=T) (d:=day) (ro:=ro) (jo:=jo) (pl:=pl) (r:=r) (bo:=qzq (ms++[nwC day T o g r.length])) (m+1) hg (c:=nwC day T o g r.length) rfl (Y4 Z [O day]) i j f hr (skF o g);have vn:=qzn day (vs.flatMap (·.2.2)) (nwC day T o g r.length);have n:=I.add (vst day (vs.flatMap (·.2.2)) (nwC day T o g r.length)) (vn.2.1.trans (by show r.length+8=_; simp)) (λx h=>by rw[vn.1]; exact hd x h) (by rw[vn.2.2]; exact⟨by simp,by simp⟩) (by simp);have l:qzq (ms++[vst day (vs.flatMap (·.2.2)) (nwC day T o g r.length)])=qzq (ms++[nwC day T o g r.length]):=by
  unfold qzq;rw[Qqd,Qqd,Qxc,Qxc,vn.1,vn.2.1]
 have k:(vst day (vs.flatMap (·.2.2)) (nwC day T o g r.length)).dl=Y4 Z [O day]:=by
  unfold Cl.dl;rw[vn.2.2]
  rfl
 rw[k]at n;refine⟨ms++[vst day (vs.flatMap (·.2.2)) (nwC day T o g r.length)],r++[Y4 Z [O day],(vst day (vs.flatMap (·.2.2)) (nwC day T o g r.length)).mc],?_,?_,?_,Fm.refl.app _⟩
 ·rw[l];have s:(enT day (skF o g) J J,GM F sz T day ro (voD vs) jo (dput (qzq ms) (O day) (Y1 ((r++[Ya.lst Z [O day]]).length+16))) pl (r++[Y4 Z [O day]]++[Y4 Z [O o,rD g,O (day+T),.non,.non,Y1 (r.length+16)]]))=(enT day (skF o g) J J,GM F sz T day ro (voD vs) jo (qzq (ms++[nwC day T o g r.length])) pl (r++[Y4 Z [O day],(nwC day T o g r.length).mc])):=by
   rw[<- bk,Qqg,Qq7]
   rfl
  exact qzz 16 [] 4 (λq=>_/\_/\_/\q) [.k,.k,.k,.b Z,.e (enT day (skF o g) J J,GM F sz T day ro (voD vs) jo (qzq (ms++[nwC day T o g r.length])) pl (r++[Y4 Z [O day],(nwC day T o g r.length).mc])),.s (.nx (enT day (skF o g) J b),GM F sz T day (ro++if hit day (vs.flatMap (·.2.2)) (nwC day T o g r.length) then [day] else []) (voD vs) jo (qzq (ms++[nwC day T o g r.length])) pl (r++[Y4 Z [O day],(vst day (vs.flatMap (·.2.2)) (nwC day T o g r.length)).mc]))] ⟨hb,s,h1,rfl⟩
 ·rw[Qqd,Qxc,qii]
  rfl
 ·exact n.front (sz:=sz) (T:=T) (d:=d) (ro:=ro) (fo:=fo) (jo:=jo) (bo:=qzq ms) (pl:=pl)
end
def VsOk(vs:L (B×D×L (B×B))):Prop:=∀v∈vs,(∃ss:L B,v.2.1=.tup (ss.map .int)/\ss.length<1000)/\v.2.2.length<=16
def JoI(jo:L (D×D)):Prop:=∀p∈jo,∃a b f:B,p=(.int a,.tup [.int b,.int f])
noncomputable abbrev veD(v:B×D×L (B×B)):D:=.tup [v.2.1,.tup (v.2.2.map cD)]
noncomputable def joD(jo:L (D×D))(v:B×D×L (B×B)):D:=(dget jo (.int v.1)).getD .non
noncomputable def yrD(c:Cl):D:=.lst (c.ds.map .int)
def qxt{α:Type}{f:α->D}{l:L α}(h:∀a∈l,noLoc (f a)=Z):noLocs (l.map f)=true:=qz9 h
def nl_ve(h:VsOk vs):noLocs (vs.map veD)=true:=qxt λv hv=>by
 obtain⟨⟨a,e,_⟩,_⟩:=h v hv;show(noLoc v.2.1&&(noLoc (Y9 (v.2.2.map cD))&&Z))=Z;rw[e,qjt,qjt,nlI,qz9 λ_ _=>rfl]
 rfl
def nl_jo{vs:L (B×D×L (B×B))}(c:JoI jo):noLocs (vs.map (joD jo))=true:=qxt λv _=>by
 unfold joD dget
 cases h:jo.find? λp=>eqT p.1 (O v.1) with
 |none=>rfl
 |some p=>
  obtain⟨a,b,f,rfl⟩:=c p (Qxv h)
  rfl
def qbs(cs:L Cl):noLocs (cs.map clT)=true:=qxt λc _=>by obtain⟨_,_,_,_,_,_,v,gv⟩:=c; cases v<;>cases gv<;>rfl
def nl_st(cs:L Cl)(d):noLocs (cs.map λc=>sO (stW c d))=true:=qxt λ_ _=>rfl
def qbr(cs:L Cl):noLocs (cs.map yrD)=true:=qxt λc _=>nlI c.ds
section
variable {p:Pl}{sz:D}{d:B}{jo:L (D×D)}{ro:L B}{S:Y2}{cs:L Cl}{vs:L (B×D×L (B×B))}
def qfl(m)(A:FA p sz d (voD vs) jo cs ro S)(a:(vs.map (·.1)).Nodup)(hv:v∈vs):callD fns (m+1) 40 [Y1 p.a,O v.1] S=Y (veD v,S):=by
 have h:=qkh hv a;exact qzz 0 [] 1 (λq=>_/\_/\_/\_/\_/\_/\q) [.r (p.fc sz d),.r (.dic Z (voD vs)),.q (Y (veD v)),.r (p.fc sz d),.r (.dic Z (voD vs)),.q (Y (veD v))] ⟨A.hf,A.hv,h,A.hf,A.hv,h,rfl⟩
def qg4(m)(A:FA p sz d (voD vs) jo cs ro S)(a:(vs.map (·.1)).Nodup)(hv:v∈vs):callD fns (m+1) 41 [Y1 p.a,O v.1] S=Y (joD jo v,S):=by
 have h:=qkh hv a;exact qzz 0 [] 1 (λq=>_/\_/\_/\_/\_/\_/\_/\q) [.r (p.fc sz d),.r (.dic Z (voD vs)),.q (Y (veD v)),.r (p.fc sz d),.r (.dic Z jo),.r (.dic Z jo),.q (dget jo (O v.1))] ⟨A.hf,A.hv,h,A.hf,A.hj,A.hj,(show dget jo (O v.1)=dget jo (O v.1) from rfl),rfl⟩
def qvi(m)(A:FA p sz d (voD vs) jo cs ro S)(a:cs.length<1000)(hi:τ[i]?=Y (Y (Yc (cs.map λc=>O c.nm))))(hk:inner [J,Y k] τ=[J,Y (Y1 p.a)]):stepEv (RL (callD fns (m+3))) τ S (.comp (.var 0) (Yd i) J (.mcall 642 42 "claim" (Yd 1) [Yd 0]) [J,Y k])=Y (Y1 S.length,S++[Y4 Z (cs.map clT)]):=
 qz0 (i:=i) cs (λc=>O c.nm) clT hi rfl (by unfold lim; lia) hk λc hc=>qzb 0 [42] 3 (λq=>_/\_/\q) [.r (p.fc sz d),.c (clT c,S)] ⟨A.hf,qbq (m+1) A hc,rfl⟩
def qhy(m)(A:FA p sz d (voD vs) jo cs ro S)(a:cs.length<1000)(hi:τ[i]?=Y (Y (Yc (cs.map λc=>O c.nm))))(hk:inner [J,Y k] τ=[J,Y (Y1 p.a)]):stepEv (RL (callD fns (m+3))) τ S (.comp (.var 0) (Yd i) J (.gc (.mcall 642 43 "state" (Yd 1) [Yd 0])) [J,Y k])=Y (Y1 S.length,S++[Y4 Z (cs.map λc=>sO (stW c d))]):=
 qz0 (i:=i) cs (λc=>O c.nm) (λc=>sO (stW c d)) hi rfl (by unfold lim; lia) hk λc hc=>qzb 0 [43] 3 (λq=>_/\_/\_/\q) [.r (p.fc sz d),.c (sO (stW c d),S),.g] ⟨A.hf,qwo (m+1) A hc,gS (sO (stW c d)) S rfl,rfl⟩
def qbz(m)(A:FA p sz d (voD vs) jo cs ro S)(a:cs.length<1000)(hi:τ[i]?=Y (Y (Yc (cs.map λc=>O c.nm))))(hk:inner [J,Y k] τ=[J,Y (Y1 p.a)]):stepEv (RL (callD fns (m+3))) τ S (.comp (.var 0) (Yd i) J (.gc (.mcall 642 44 "years" (Yd 1) [Yd 0])) [J,Y k])=Y (Y1 S.length,S++[Y4 Z (cs.map yrD)]):=
 qz0 (i:=i) cs (λc=>O c.nm) yrD hi rfl (by unfold lim; lia) hk λc hc=>qzb 0 [44] 3 (λq=>_/\_/\_/\q) [.r (p.fc sz d),.c (Y1 S.length,S++[c.dl]),.l (c.ds.map O)] ⟨A.hf,qwm (m+1) A hc,qzv (st:=S) (nlI c.ds),rfl⟩
def qng(m)(A:FA p sz d (voD vs) jo cs ro S)(a:(vs.map (·.1)).Nodup)(b:vs.length<1000)(hi:τ[i]?=Y (Y (Yc (vs.map λv=>O v.1))))(hk:inner [J,Y k] τ=[J,Y (Y1 p.a)]):stepEv (RL (callD fns (m+3))) τ S (.comp (.var 0) (Yd i) J (.mcall 642 40 "vein" (Yd 1) [Yd 0]) [J,Y k])=Y (Y1 S.length,S++[Y4 Z (vs.map veD)])/\stepEv (RL (callD fns (m+3))) τ S (.comp (.var 0) (Yd i) J (.mcall 642 41 "joined" (Yd 1) [Yd 0]) [J,Y k])=Y (Y1 S.length,S++[Y4 Z (vs.map (joD jo))]):=
 ⟨qz0 (i:=i) vs (λv=>O v.1) veD hi rfl (by unfold lim; lia) hk λv hv=>qzb 0 [40] 3 (λq=>_/\_/\q) [.r (p.fc sz d),.c (veD v,S)] ⟨A.hf,qfl (m+2) A a hv,rfl⟩,
  qz0 (i:=i) vs (λv=>O v.1) (joD jo) hi rfl (by unfold lim; lia) hk λv hv=>qzb 0 [41] 3 (λq=>_/\_/\q) [.r (p.fc sz d),.c (joD jo v,S)] ⟨A.hf,qg4 (m+2) A a hv,rfl⟩⟩
end
theorem qqh:∀{a}{τ}{st},exs (stepEx (RL c)) a τ st=Y (.nx d,e)->exs (stepEx (RL c)) b d e=Y x->exs (stepEx (RL c)) (a++b) τ st=Y x
 |[],_,_,h1,h2=>by cases h1; exact h2
 |s::a,τ,st,h1,h2=>by
  show exs (stepEx (RL c)) (s::(a++b)) τ st=Y x;unfold exs at h1 ⊢
  cases hs:stepEx (RL c) τ st s with
  |none=>rw[hs]at h1; cases h1
  |some p=>
   rw[hs]at h1;obtain⟨o,s'⟩:=p
   cases o with
   |nx f=>exact qqh h1 h2
   |_=>cases h1
def qqu(hf:fns[f]?=Y F)(a:ds.length=F.np)(h:exs (stepEx (RL (callD fns m))) F.body (ds.map Y++List.replicate (F.nl - ds.length) J) st=Y (.rt v,st')):callD fns (m+1) f ds st=Y (v,st'):=by
 show stepCall fns (RL (callD fns m)) f ds st=_;unfold stepCall;rw[hf];dsimp only;rw[Z2 a,qgz _ _ _ _ _ h]
 rfl
section
variable {p:Pl}{sz:D}{d:B}{jo:L (D×D)}{ro:L B}{S:Y2}{cs:L Cl}{vs:L (B×D×L (B×B))}
noncomputable abbrev lkT(a:Y0)(vs:L (B×D×L (B×B)))(cs:L Cl)(k:Y0):Sl:=[Y (.loc a),Y (.lst (vs.map λv=>.int v.1)),Y (.lst (cs.map λc=>.int c.nm)),Y (.loc k)]
noncomputable abbrev lk5(d:B)(sz T:D)(vs:L (B×D×L (B×B)))(cs:L Cl):L D:=[.int d,sz,T,.lst (vs.map λv=>.int v.1),.lst (cs.map λc=>.int c.nm)]
noncomputable abbrev lkL(d:B)(sz T:D)(vs:L (B×D×L (B×B)))(jo:L (D×D))(cs:L Cl)(ro:L B):L D:=[.int d,sz,T,.lst (vs.map λv=>.int v.1),.lst (cs.map λc=>.int c.nm),.lst (vs.map veD),.lst (vs.map (joD jo)),.lst (cs.map clT),.lst (cs.map λc=>sO (stW c d)),.lst (cs.map yrD),.lst (rowD (ro.filter (stB cs d))),.lst []]
def qwa(m)(b xs)(e:b.length<100)(nl:noLocs xs=Z)(h:stepEv (RL (callD fns (m+3))) (lkT a vs cs S.length) (S++[Y4 Z b]) (.comp t it q elt sr)=Y (Y1 (S++[Ya.lst Z b]).length,S++[Y4 Z b]++[Y4 Z xs])):stepEx (RL (callD fns (m+3))) (lkT a vs cs S.length) (S++[Y4 Z b]) (.expr (.meth (Yd 3) .append [.gc (.comp t it q elt sr)]))=Y (.nx (lkT a vs cs S.length),S++[Y4 Z (b++[Yc xs])]):=by
 have g:=gl (st:=S) (c:=Y4 Z b);rw[<- sl (st:=S) (c:=Y4 Z b) (c':=Y4 Z (b++[D.lst xs]))];exact qzf 0 [] 3 _ (λq=>_/\_/\_/\_/\_/\q) [.r (Y4 Z b),.c (Y1 (S++[Ya.lst Z b]).length,S++[Y4 Z b]++[Y4 Z xs]),.l xs,.r (Y4 Z b),.b Z] ⟨g,h,qzv (st:=S++[Y4 Z b]) nl,g,Zs (p:=b.length<lim) (by unfold lim; lia),rfl⟩
noncomputable abbrev lkH:L M.S:=[.set (.var 1) (.gc (.mcall 642 38 "veins" (.var 0) [])),.set (.var 2) (.gc (.mcall 642 39 "claims" (.var 0) [])),.set (.var 3) (.lst [.mcall 642 35 "today" (.var 0) [],.mcall 642 36 "size" (.var 0) [],.mcall 642 37 "term" (.var 0) [],.var 1,.var 2])]
def lk_a(m)(A:FA p sz d (voD vs) jo cs ro S):exs (stepEx (RL (callD fns (m+3)))) lkH [Y (Y1 p.a),J,J,J] S=Y (.nx (lkT p.a vs cs S.length),S++[Y4 Z (lk5 d sz p.T vs cs)]):=by
 have e:keysOf (voD vs)=vs.map λv=>D.int v.1:=by unfold keysOf voD; rw[Qqf]; rfl
 have b:=qzv (st:=S) (ds:=vs.map λv=>D.int v.1) (qxt λ_ _=>rfl);have a:=qzv (st:=S) (ds:=cs.map λc=>D.int c.nm) (qxt λ_ _=>rfl);unfold lkT lk5;rw[<- e]at b ⊢;rw[<- A.hk]at a ⊢;exact qz7 0 [] 3 (λq=>_/\_/\_/\_/\_/\_/\_/\_/\_/\_/\_/\_/\_/\_/\_/\_/\q) [.r (p.fc sz d),.r (p.fc sz d),.r (.dic Z (voD vs)),.l (keysOf (voD vs)),.r (p.fc sz d),.r (p.fc sz d),.r p.sc,.r p.sc,.r (.dic Z p.bo),.l (keysOf p.bo),.r (p.fc sz d),.r (p.fc sz d),.r (p.fc sz d),.r (p.fc sz d),.r (p.fc sz d),.r (p.fc sz d)] ⟨A.hf,A.hf,A.hv,b,A.hf,A.hf,A.hs,A.hs,A.hb,a,A.hf,A.hf,A.hf,A.hf,A.hf,A.hf,rfl⟩
noncomputable abbrev lkR:L M.S:=[.ret (.bin .Add (.var 3) (.gc (.lst [.gc (.mcall 642 45 "standing" (.var 0) []),.gc (.mcall 642 46 "entries" (.var 0) [])])))]
def lk_z(m)(A:FA p sz d (voD vs) jo cs ro S)(a xs)(f:a.length<100)(nl:noLocs xs=Z)(e:callD fns (m+3) 45 [Y1 p.a] (S++[Y4 Z a])=Y (Y1 (S++[Ya.lst Z a]).length,S++[Y4 Z a]++[Y4 Z xs]))(b:callD fns (m+3) 46 [Y1 p.a] (S++[Y4 Z a])=Y (Y1 (S++[Ya.lst Z a]).length,S++[Y4 Z a]++[Y4 Z []])):exs (stepEx (RL (callD fns (m+3)))) lkR (lkT p.a vs cs S.length) (S++[Y4 Z a])=Y (.rt (Y1 (S++[Ya.lst Z a]).length),S++[Y4 Z a]++[Y4 Z (a++[Yc xs,Yc []])]):=by
 have A:=A.app [Y4 Z a];have g:=gl (st:=S) (c:=Y4 Z a);exact qz7 0 [45,46] 3 (λq=>_/\_/\_/\_/\_/\_/\_/\_/\_/\q) [.r (p.fc sz d),.c (Y1 (S++[Ya.lst Z a]).length,S++[Y4 Z a]++[Y4 Z xs]),.l xs,.r (p.fc sz d),.c (Y1 (S++[Ya.lst Z a]).length,S++[Y4 Z a]++[Y4 Z []]),.l [],.l [Yc xs,Yc []],.r (Y4 Z a),.b Y6] ⟨A.hf,e,qzv (st:=S++[Y4 Z a]) nl,A.hf,b,qzv (st:=S++[Y4 Z a]) (ds:=[]) rfl,qzv (st:=S++[Y4 Z a]) (ds:=[Yc xs,Yc []]) (by show(noLocs xs&&(Z&&Z))=Z; rw[nl]; rfl),g,Zu (p:=lim<a.length+[D.lst xs,Yc []].length) (by simp; unfold lim; lia),rfl⟩
noncomputable abbrev lkM:L M.S:=[.expr (.meth (.var 3) .append [.gc (.comp (.var 0) (.var 1) J (.mcall 642 40 "vein" (.var 1) [.var 0]) [J,Y 0])]),.expr (.meth (.var 3) .append [.gc (.comp (.var 0) (.var 1) J (.mcall 642 41 "joined" (.var 1) [.var 0]) [J,Y 0])]),.expr (.meth (.var 3) .append [.gc (.comp (.var 0) (.var 2) J (.mcall 642 42 "claim" (.var 1) [.var 0]) [J,Y 0])]),.expr (.meth (.var 3) .append [.gc (.comp (.var 0) (.var 2) J (.gc (.mcall 642 43 "state" (.var 1) [.var 0])) [J,Y 0])]),.expr (.meth (.var 3) .append [.gc (.comp (.var 0) (.var 2) J (.gc (.mcall 642 44 "years" (.var 1) [.var 0])) [J,Y 0])])]
def qmn:fns[69]?=Y ⟨1,4,lkH++(lkM++lkR)⟩:=by kernel_rfl
def qmm(m)(A:FA p sz d (voD vs) jo cs ro S)(nd:(cs.map (·.nm)).Nodup)(e:∀n∈ro,∃c∈cs,c.nm=n)(f:ro.length<1000)(b:(vs.map (·.1)).Nodup)(j:vs.length<1000)(a:cs.length<1000)(l:VsOk vs)(o:JoI jo)(q:∀X:Y2,callD fns (m+3) 46 [Y1 p.a] (S++X)=Y (Y1 (S++X).length,S++X++[Y4 Z []])):∃X:Y2,callD fns (m+4) 69 [Y1 p.a] S=Y (Y1 (S.length+1),S++X)/\X[1]?=Y (Y4 Z (lkL d sz p.T vs jo cs ro)):=by
 have Bq:=λLq=>A.app [Y4 Z Lq];have b1:=λLq=>qng m (Bq Lq) b j (τ:=lkT p.a vs cs S.length) (i:=1) (k:=0) rfl rfl;have b3:=λLq=>qvi m (Bq Lq) a (τ:=lkT p.a vs cs S.length) (i:=2) (k:=0) rfl rfl;have b4:=λLq=>qhy m (Bq Lq) a (τ:=lkT p.a vs cs S.length) (i:=2) (k:=0) rfl rfl;have b5:=λLq=>qbz m (Bq Lq) a (τ:=lkT p.a vs cs S.length) (i:=2) (k:=0) rfl rfl;obtain⟨Lq,g⟩:∃Lq:L D,lk5 d sz p.T vs cs++[Yc (vs.map veD)]++[Yc (vs.map (joD jo))]++[Yc (cs.map clT)]++[Yc (cs.map λc=>sO (stW c d))]++[Yc (cs.map yrD)]=Lq:=⟨_,rfl⟩
 have r:exs (stepEx (RL (callD fns (m+3)))) lkM (lkT p.a vs cs S.length) (S++[Y4 Z (lk5 d sz p.T vs cs)])=Y (.nx (lkT p.a vs cs S.length),S++[Y4 Z Lq]):=by
  rw[qzl (qwa m _ _ (by simp) (nl_ve l) (b1 _).1),qzl (qwa m _ _ (by simp) (nl_jo o) (b1 _).2),qzl (qwa m _ _ (by simp) (qbs cs) (b3 _)),qzl (qwa m _ _ (by simp) (nl_st cs d) (b4 _)),qzl (qwa m _ _ (by simp) (qbr cs) (b5 _)),g]
  rfl
 have h:Lq.length<100:=by rw[<- g]; simp
 refine⟨[Y4 Z Lq,Y4 Z (Lq++[Yc (rowD (ro.filter (stB cs d))),Yc []])],qqu qmn rfl (qqh (lk_a m A) (qqh r ((lk_z m A Lq _ h (nlI (ro.filter (stB cs d))) (qvk m (Bq Lq) nd e f) (q _)).trans ?_))),by rw[<- g]; rfl⟩;rw[Qqg,Qq7]
 rfl
end
section
variable {F:Fx}{sz:D}{T d:B}{ro:L B}{jo:L (D×D)}{pl:L D}{r:Y2}{ms:L Cl}{vs:L (B×D×L (B×B))}
structure MA (bo:L (D×D)) (r:Y2) (ms:L Cl):Prop where
 at_:∀c∈ms,∃i,c.j=i+8/\dget bo (.int c.nm)=Y (.loc (i+17))/\r[i+1]?=Y c.mc/\r[i]?=Y c.dl
def ma_of(I:InvM 8 (M8 sz T d ro fo jo (qzq ms) pl r) ms):MA (qzq ms) r ms:=⟨λc hc=>by
 obtain⟨i,e⟩:∃i,c.j=i+8:=⟨c.j - 8,by have:=I.lo c hc; lia⟩
 have h1:=I.get hc;have h2:=I.at_ c hc;rw[e]at h1 h2
 exact⟨i,e,h1,h2.2,h2.1⟩⟩
def MA.app(A:MA bo r ms)(X):MA bo (r++X) ms:=⟨λc hc=>by obtain⟨i,h1,h2,b,a⟩:=A.at_ c hc; exact⟨i,h1,h2,ga X b,ga X a⟩⟩
variable {bo:L (D×D)}
def msd_ok(m)(A:MA bo r ms)(nd:(ms.map (·.nm)).Nodup)(f:∀n∈ro,∃c∈ms,c.nm=n)(o:ro.length<1000):callD fns (m+2) 63 [Y1 8] (GM F sz T d ro (voD vs) jo bo pl r)=Y (Y1 (GM F sz T d ro (voD vs) jo bo pl r).length,GM F sz T d ro (voD vs) jo bo pl r++[Y4 Z (rowD (ro.filter (stB ms d)))]):=by
 have g:(RL (callD fns (m+1))).ev [Y (Y1 8)] (GM F sz T d ro (voD vs) jo bo pl r) (.didx (.var 0) (.lit (sO "row")))=Y (Y1 9,GM F sz T d ro (voD vs) jo bo pl r):=qzb 16 [] 1 (λq=>q) [.k] rfl;have h:=qxx (it:=.didx (.var 0) (.lit (sO "row"))) (elt:=.var 0) (c:=.cmp .Eq (.gc (.call 61 [.var 1,.var 0])) (.lit (sO "stands"))) (sr:=[J,Y 0]) (p:=λx=>match x with|O n=>stB ms d n|_=>Y6) (s:=.lst (Y1 9)) id
  (by show((RL (callD fns (m+1))).ev _ _ _).bind _=_; rw[g]; rfl) (qxp rfl) (qz5 rfl) rfl (by simp; unfold lim; lia)
  (λi x l=>by
   rw[Qqb]at l;obtain⟨n,hn,rfl⟩:=Qqi.mp l;obtain⟨c,hc,rfl⟩:=f n (Qqm hn);obtain⟨k,_,hg,j,_⟩:=A.at_ c hc;have a:=qx8 (F:=F) (sz:=sz) (T:=T) (d:=d) (ro:=ro) (fo:=voD vs) (jo:=jo) (pl:=pl) m hg j;have b:=λx:String=>gS (sO x) (GM F sz T d ro (voD vs) jo bo pl r) rfl;show _=Y (stB ms d c.nm,_);rw[qvs nd hc];rcases qzr c d with⟨e,_⟩|⟨e,_⟩|⟨e,_⟩|⟨e,_⟩<;>rw[e]at a ⊢
   ·exact qze 16 [61] 1 (λq=>_/\_/\q) [.c (sO "unvested",GM F sz T d ro (voD vs) jo bo pl r),.g] ⟨a,b "unvested",rfl⟩
   ·exact qze 16 [61] 1 (λq=>_/\_/\q) [.c (sO "stands",GM F sz T d ro (voD vs) jo bo pl r),.g] ⟨a,b "stands",rfl⟩
   ·exact qze 16 [61] 1 (λq=>_/\_/\q) [.c (sO "given",GM F sz T d ro (voD vs) jo bo pl r),.g] ⟨a,b "given",rfl⟩
   ·exact qze 16 [61] 1 (λq=>_/\_/\q) [.c (sO "fallen",GM F sz T d ro (voD vs) jo bo pl r),.g] ⟨a,b "fallen",rfl⟩)
  (λi x _ _=>qjk _ _ _ _ _ rfl)
 have e:((rowD ro).filter λx=>match x with|O n=>stB ms d n|_=>Y6).map id=rowD (ro.filter (stB ms d)):=by
  rw[Qjb];unfold rowD;rw[Qjk]
  rfl
 rw[e]at h;exact qzz 16 [] 2 (λq=>_/\q) [.c (Y1 (GM F sz T d ro (voD vs) jo bo pl r).length,GM F sz T d ro (voD vs) jo bo pl r++[Y4 Z (rowD (ro.filter (stB ms d)))])] ⟨h,rfl⟩
noncomputable abbrev duT(vs:L (B×D×L (B×B)))(ms:L Cl)(k:Y0):Sl:=[Y (.loc 8),Y (.lst (vs.map λv=>.int v.1)),Y (.lst (ms.map λc=>.int c.nm)),Y (.loc (k+16))]
def qws(m)(a xs)(Q)(e:a.length<100)(h:stepEv (RL (callD fns (m+2))) (duT vs ms r.length) (GM F sz T d ro (voD vs) jo bo pl (r++Y4 Z a::Q)) (.comp t it q elt sr)=Y (Y1 (GM F sz T d ro (voD vs) jo bo pl (r++Y4 Z a::Q)).length,GM F sz T d ro (voD vs) jo bo pl (r++Y4 Z a::Q)++[Y4 Z xs])):stepEx (RL (callD fns (m+2))) (duT vs ms r.length) (GM F sz T d ro (voD vs) jo bo pl (r++Y4 Z a::Q)) (.expr (.meth (Yd 3) .append [.comp t it q elt sr]))=Y (.nx (duT vs ms r.length),GM F sz T d ro (voD vs) jo bo pl (r++Y4 Z (a++[Y1 (r.length+(Q.length+17))])::(Q++[Y4 Z xs]))):=by
 have b:(r++Ya.lst Z a::Q)[r.length]?=Y (Y4 Z a):=get0 0;have c:(r++Ya.lst Z a::Q++[Y4 Z xs])[r.length]?=Y (Y4 Z a):=ga _ b;refine qzf 16 [] 2 (.nx (duT vs ms r.length),GM F sz T d ro (voD vs) jo bo pl ((r++Ya.lst Z a::Q++[Ya.lst Z xs]).set r.length (Y4 Z (a++[D.loc ((r++Ya.lst Z a::Q).length+16)])))) (λq=>_/\_/\_/\_/\q) [.r (Y4 Z a),.c (Y1 (GM F sz T d ro (voD vs) jo bo pl (r++Y4 Z a::Q)).length,GM F sz T d ro (voD vs) jo bo pl (r++Y4 Z a::Q)++[Y4 Z xs]),.r (Y4 Z a),.b Z] ⟨b,h,c,Zs (p:=a.length<lim) (by unfold lim; lia),?_⟩;rw[Qqg,Qq7];simp
 rfl
end
def same_int(m)(st)(i):callD fns (m+1) 48 [O i,O i] st=Y (.bl Z,st):=
 qzz 0 [] 1 (λq=>_/\q) [.b Z] ⟨(show(i==i)=Z from beq_self_eq_true i),rfl⟩
def same_str(m)(st)(s):callD fns (m+1) 48 [.str s,.str s] st=Y (.bl Z,st):=
 qjf 0 [] 1 (.bl (s==s),st) (λq=>q) [] (by rw[beq_self_eq_true])
def qf7(m)(st):callD fns (m+1) 48 [.non,.non] st=Y (.bl Z,st):=
 qzz 0 [] 1 (λq=>q) [] rfl
def qaw(m)(st)(hd:d=.tup ds\/d=.lst ds)(p:ds.length<1000)(k:∀x∈ds,callD fns (m+1) 48 [x,x] st=Y (.bl Z,st)):callD fns (m+2) 48 [d,d] st=Y (.bl Z,st):=by
 have hb:bfun st .all [.lst ((ds.map λ_=>Z).map .bl)]=Y (.bl Z,st):=by
  show(asBools _).map _=_;rw[asB];exact congrArg (λb=>Y (D.bl b,st)) (by simp)
 have hg:=qzv (st:=st) (nlB (ds.map λ_=>Z));have j:∀(S:Y2) (i:Y0) (x:D),ds[i]?=Y x->idxD S d (O (i:B))=Y x:=λS i x f=>by
  have hi:=(Qqj.mp f).1;have h2:(i:B)<ds.length:=by lia
  have e:atI ds (i:B)=Y x:=by
   unfold atI ixN;rw[Z2 (by lia),Z2 h2];exact f
  rcases hd with rfl|rfl<;>exact e
 have n:∀S:Y2,bfun S .len [d]=Y (O ds.length,S):=λS=>by rcases hd with rfl|rfl<;>rfl
 have hc:stepEv (RL (callD fns (m+1))) [Y d,Y d,J] st (.comp (.var 0) (.rng1 (.bcall .len [.var 1])) J (.gc (.call 48 [.idx (.var 2) (.var 0),.idx (.var 1) (.var 0)])) [J,Y 1,Y 0])=Y (Y1 st.length,st++[Y4 Z ((ds.map λ_=>Z).map .bl)]):=by
  have h:=qxm (c:=callD fns (m+1)) (τ:=[Y d,Y d,J]) (st:=st) (t:=.var 0) (it:=.rng1 (.bcall .len [.var 1])) (elt:=.gc (.call 48 [.idx (.var 2) (.var 0),.idx (.var 1) (.var 0)])) (test:=J) (sr:=[J,Y 1,Y 0]) (s:=.rng 0 ds.length) (ds:=(List.range ds.length).map λi:Y0=>D.int (0+(i:B))) (λ_=>Y (.bl Z)) (λτ=>∃a,τ=[a,Y d,Y d]) (by
   have el:(RL (callD fns (m+1))).ev [Y d,Y d,J] st (.bcall .len [.var 1])=Y (O ds.length,st):=by
    rcases hd with rfl|rfl<;>exact qzb 0 [] 1 (λq=>q) [] rfl
   show((RL (callD fns (m+1))).ev _ _ (.bcall .len [.var 1])).bind _=_;rw[el];show(if big (ds.length:B)=Z then J else Y (Src.rng 0 (ds.length:B).toNat,st))=_;rw[Z1 (by unfold big; simp; lia)]
   rfl) (λi=>qyk 0 _ i) (by simp[Src.size]) (by simp; unfold lim; lia) ⟨J,rfl⟩ λτ x f g=>by
   obtain⟨a,rfl⟩:=g;obtain⟨i,hi,rfl⟩:=Qqk.mp f;have hi:=Qzr.mp hi;have f:=Qqo hi;have o:(0:B)+(i:B)=i:=by lia
   rw[o];refine⟨[Y (O i),Y d,Y d],qvz rfl ?_,_,rfl⟩;exact qzb 0 [48] 1 (λq=>_/\_/\_/\_/\q) [.i ds[i],.i ds[i],.c (.bl Z,st),.g] ⟨j st i _ f,j st i _ f,k _ (Qxl hi),gS (.bl Z) st rfl,rfl⟩
  have e:((List.range ds.length).map λi:Y0=>D.int (0+(i:B))).filterMap (λ_=>Y (D.bl Z))=(ds.map λ_=>Z).map .bl:=by
   rw[Qxy,Qqf];refine(congrFun Qxi _).trans ?_;rw[Qjv,Qx1];exact(Qjv (l:=ds) (b:=D.bl Z)).symm
  rw[e]at h;exact h
 rcases hd with rfl|rfl
 ·exact qzz 0 [] 2 (λq=>_/\_/\_/\_/\q) [.b Y6,.c (Y1 st.length,st++[Y4 Z ((ds.map λ_=>Z).map .bl)]),.l ((ds.map λ_=>Z).map .bl),.c (.bl Z,st)] ⟨(show(!((ds.length:B)==ds.length))=Y6 by simp),hc,hg,hb,rfl⟩
 ·exact qzz 0 [] 2 (λq=>_/\_/\_/\_/\q) [.b Y6,.c (Y1 st.length,st++[Y4 Z ((ds.map λ_=>Z).map .bl)]),.l ((ds.map λ_=>Z).map .bl),.c (.bl Z,st)] ⟨(show(!((ds.length:B)==ds.length))=Y6 by simp),hc,hg,hb,rfl⟩
inductive Dq:Y0->D->Prop
 |non {k}:Dq k .non
 |int {k i}:Dq k (.int i)
 |str {k s}:Dq k (.str s)
 |tup {k ds} (h:∀d∈ds,Dq k d) (hl:ds.length<1000):Dq (k+1) (.tup ds)
 |lst {k ds} (h:∀d∈ds,Dq k d) (hl:ds.length<1000):Dq (k+1) (.lst ds)
def qxr(h:Dq k d):∀(m:Y0) (st:Y2),callD fns (m+k+1) 48 [d,d] st=Y (.bl Z,st):=by
 induction h with
 |non=>exact λm st=>qf7 _ st
 |int=>exact λm st=>same_int _ st _
 |str=>exact λm st=>same_str _ st _
 |@tup k ds h c a=>exact λm st=>qaw (m+k) st (.inl rfl) c λx b=>a x b m st
 |@lst k ds h c a=>exact λm st=>qaw (m+k) st (.inr rfl) c λx b=>a x b m st
def qxy(m)(h:st[l]?=Y (Y4 Z es))(j:ds.length=es.length)(r:ds.length<1000)(o:∀(i:Y0) x y,ds[i]?=Y x->es[i]?=Y y->callD fns (m+1) 48 [x,y] st=Y (.bl Z,st)):callD fns (m+2) 48 [.lst ds,Y1 l] st=Y (.bl Z,st):=by
 have hb:bfun st .all [.lst ((ds.map λ_=>Z).map .bl)]=Y (.bl Z,st):=by
  show(asBools _).map _=_;rw[asB];exact congrArg (λb=>Y (D.bl b,st)) (by simp)
 have hg:=qzv (st:=st) (nlB (ds.map λ_=>Z));have n:∀(i:Y0) (x:D),ds[i]?=Y x->idxD st (.lst ds) (O (i:B))=Y x:=λi x d=>by
  have hi:=(Qqj.mp d).1;show atI ds (i:B)=_;unfold atI ixN;rw[Z2 (by lia),Z2 (by lia)];exact d
 have k:∀(i:Y0) (x:D),es[i]?=Y x->idxD st (Y1 l) (O (i:B))=Y x:=λi x d=>ixm h (by
  have hi:=(Qqj.mp d).1;unfold atI ixN;rw[Z2 (by lia),Z2 (by lia)]
  exact d)
 have hc:stepEv (RL (callD fns (m+1))) [Y (.lst ds),Y (Y1 l),J] st (.comp (.var 0) (.rng1 (.bcall .len [.var 1])) J (.gc (.call 48 [.idx (.var 2) (.var 0),.idx (.var 1) (.var 0)])) [J,Y 1,Y 0])=Y (Y1 st.length,st++[Y4 Z ((ds.map λ_=>Z).map .bl)]):=by
  have h:=qxm (c:=callD fns (m+1)) (τ:=[Y (.lst ds),Y (Y1 l),J]) (st:=st) (t:=.var 0) (it:=.rng1 (.bcall .len [.var 1])) (elt:=.gc (.call 48 [.idx (.var 2) (.var 0),.idx (.var 1) (.var 0)])) (test:=J) (sr:=[J,Y 1,Y 0]) (s:=.rng 0 ds.length) (ds:=(List.range ds.length).map λi:Y0=>D.int (0+(i:B))) (λ_=>Y (.bl Z)) (λτ=>∃a,τ=[a,Y (Y1 l),Y (.lst ds)]) (by
   have el:(RL (callD fns (m+1))).ev [Y (.lst ds),Y (Y1 l),J] st (.bcall .len [.var 1])=Y (O es.length,st):=qzb 0 [] 1 (λq=>_/\q) [.r (Y4 Z es)] ⟨h,rfl⟩;show((RL (callD fns (m+1))).ev _ _ (.bcall .len [.var 1])).bind _=_;rw[el,<- j];show(if big (ds.length:B)=Z then J else Y (Src.rng 0 (ds.length:B).toNat,st))=_;rw[Z1 (by unfold big; simp; lia)]
   rfl) (λi=>qyk 0 _ i) (by simp[Src.size]) (by simp; unfold lim; lia) ⟨J,rfl⟩ λτ x d f=>by
   obtain⟨a,rfl⟩:=f;obtain⟨i,hi,rfl⟩:=Qqk.mp d;have hi:=Qzr.mp hi;have d:=Qqo hi;have g:=Qqo (l:=es) (i:=i) (by lia);have p:(0:B)+(i:B)=i:=by lia
   rw[p];refine⟨[Y (O i),Y (Y1 l),Y (.lst ds)],qvz rfl ?_,_,rfl⟩;exact qzb 0 [48] 1 (λq=>_/\_/\_/\_/\q) [.i ds[i],.i es[i],.c (.bl Z,st),.g] ⟨n i _ d,k i _ g,o i _ _ d g,gS (.bl Z) st rfl,rfl⟩
  have e:((List.range ds.length).map λi:Y0=>D.int (0+(i:B))).filterMap (λ_=>Y (D.bl Z))=(ds.map λ_=>Z).map .bl:=by
   rw[Qxy,Qqf];refine(congrFun Qxi _).trans ?_;rw[Qjv,Qx1];exact(Qjv (l:=ds) (b:=D.bl Z)).symm
  rw[e]at h;exact h
 exact qzz 0 [] 2 (λq=>_/\_/\_/\_/\_/\_/\_/\q) [.r (Y4 Z es),.r (Y4 Z es),.b Y6,.c (Y1 st.length,st++[Y4 Z ((ds.map λ_=>Z).map .bl)]),.l ((ds.map λ_=>Z).map .bl),.c (.bl Z,st),.r (Y4 Z es)] ⟨h,h,(show(!((ds.length:B)==es.length))=Y6 by simp[j]),hc,hg,hb,h,rfl⟩
section
variable {ns:L B}(hn:ns.length<=63){W H P:B}(w1:1<=W)(w2:W<=24)(h1:1<=H)(h2:H<=24)(p0:0<=P)(p1:P<=12)
include hn w1 w2 h1 h2 p0 p1
theorem qge(m)(S)(k){pl:L (B×D)}(C:rowAt S q0=Y (pl.map pD))(t:∀p∈pl,DF W H P p.2/\1<=p.1/\p.1<=400)(R:pl.length<100):∃f,callD fns (m+5) 72 [scr ns,O k,szD W H P,q0] S=Y (f,S)/\DF W H P f:=by
 obtain⟨f,hf,I⟩:=qna hn w1 w2 h1 h2 p0 p1 m S k C t R;have c2:=qes (m+4) C (τ:=[Y (scr ns),Y (O k),Y (szD W H P),Y q0,Y f,J,J,J]) ["stake","part"] (λp c=>(t p c).1) (by lia) rfl (λp h=>qhp (m+4) _ p h);have G:∀x∈dys pl ["stake","part"],1<=x/\x<=400:=λx Q=>by
  obtain⟨p,c,rfl⟩:=qid Q;exact(t p c).2
 generalize dys pl ["stake","part"]=a at c2 G;have j:=qzv (st:=S) (nlI a);obtain⟨y,r,U,T⟩:=dr hn (m+3) S k 21 (many:=3) (by decide) (by decide) (by decide)
 by_cases d:(0:B)<(a.map D.int).length
 ·by_cases n:y=0
  ·obtain⟨s,hs,N,X⟩:=dr hn (m+3) S k 22 (many:=2) (by decide) (by decide) (by decide);have V:(0:B)<a.length:=by rwa [Qqx]at d
   obtain⟨z,hz,K,v⟩:=dr hn (m+3) S k 24 (many:=((a.map D.int).length:B)) (by decide) (by decide) d;obtain⟨o,E,A,w⟩:=qcb hn (m+2) S k 26 (by decide) (by decide);have g:z.toNat<a.length:=by rw[Qqx]at v; lia
   have i:idxD S (Yc (a.map O)) (O z)=Y (O a[z.toNat]):=by
    show atI (a.map D.int) z=_;unfold atI ixN;rw[Z2 K,Z2 v];simp[Qqo g]
   have c12:=G _ (Qxl g);have e:∀M:B,idxD S (szD W H P) (O s)=Y (O M)->1<=M->M<=24->∃f,callD fns (m+5) 72 [scr ns,O k,szD W H P,q0] S=Y (f,S)/\DF W H P f:=λM F m1 m2=>by
    have u:0<(if decide (M - 1 > 1) then M - 1 else 1):=by split<;>simp_all<;>lia
    obtain⟨l,b,l1,l2⟩:=dr hn (m+3) S k 23 (many:=if decide (M - 1 > 1) then M - 1 else 1) (by decide) (by decide) u;have l3:l<23:=by
     have:(if decide (M - 1 > 1) then M - 1 else 1)<=23:=by split<;>lia
     lia
    refine⟨Y9 [sO "part",O a[z.toNat],O s,O (1+l),O o],?_,.claim (.part _ s (1+l) o (by lia) ⟨A,w⟩) λm st=>s_part (m+3) st c12.1 c12.2 N (by lia) (by lia) (by lia) A w⟩
    cases hb:decide (M - 1 > 1) with
    |true=>
     rw[hb]at b;exact qzz 0 [58,47,54] 5 (λq=>_/\_/\_/\_/\_/\_/\_/\_/\_/\_/\_/\_/\_/\q) [.c (f,S),.c (Y1 S.length,S++[Y4 Z (a.map O)]),.l (a.map O),.b Z,.c (O y,S),.b Z,.c (O s,S),.i (O M),.b Z,.c (O l,S),.c (O z,S),.i (O a[z.toNat]),.c (O o,S)] ⟨hf,c2,j,Zs d,r,(show(y==0)=Z by simpa using n),hs,F,hb,b,hz,i,E,rfl⟩
    |false=>
     rw[hb]at b;exact qzz 0 [58,47,54] 5 (λq=>_/\_/\_/\_/\_/\_/\_/\_/\_/\_/\_/\_/\_/\q) [.c (f,S),.c (Y1 S.length,S++[Y4 Z (a.map O)]),.l (a.map O),.b Z,.c (O y,S),.b Z,.c (O s,S),.i (O M),.b Y6,.c (O l,S),.c (O z,S),.i (O a[z.toNat]),.c (O o,S)] ⟨hf,c2,j,Zs d,r,(show(y==0)=Z by simpa using n),hs,F,hb,b,hz,i,E,rfl⟩
   have:s=0\/s=1:=by lia
   rcases this with rfl|rfl
   ·exact e W rfl w1 w2
   ·exact e H rfl h1 h2
  ·exact⟨f,qzz 0 [58,47,54] 5 (λq=>_/\_/\_/\_/\_/\_/\q) [.c (f,S),.c (Y1 S.length,S++[Y4 Z (a.map O)]),.l (a.map O),.b Z,.c (O y,S),.b Y6] ⟨hf,c2,j,Zs d,r,(show(y==0)=Y6 by simpa using n),rfl⟩,I⟩
 ·exact⟨f,qzz 0 [58,47,54] 5 (λq=>_/\_/\_/\_/\q) [.c (f,S),.c (Y1 S.length,S++[Y4 Z (a.map O)]),.l (a.map O),.b Y6] ⟨hf,c2,j,Zu d,rfl⟩,I⟩
end
section
variable {F:Fx}{sz:D}{T d:B}{ro:L B}{jo:L (D×D)}{pl:L D}{r:Y2}{ms:L Cl}{vs:L (B×D×L (B×B))}{bo:L (D×D)}
noncomputable abbrev duE:E:=.lst [.gc (.call 63 [.var 0]),.didx (.var 0) (.lit (sO "book"))]
noncomputable abbrev duH:L M.S:=[.set (.var 1) (.gc (.bcall .sorted [.didx (.var 0) (.lit (sO "veins"))])),.set (.var 2) (.gc (.bcall .sorted [.didx (.var 0) (.lit (sO "claims"))])),.set (.var 3) (.lst [.didx (.var 0) (.lit (sO "day")),.didx (.var 0) (.lit (sO "size")),.didx (.var 0) (.lit (sO "term")),.var 1,.var 2])]
def du_a(m)(a:(vs.map (·.1)).Pairwise (· < ·))(b:vs.length<64)(hk:keysOf bo=(ms.map (·.nm)).map O)(e:(ms.map (·.nm)).Pairwise (· < ·))(f:ms.length<64):exs (stepEx (RL (callD fns (m+2)))) duH [Y (Y1 8),J,J,J] (GM F sz T d ro (voD vs) jo bo pl r)=Y (.nx (duT vs ms r.length),GM F sz T d ro (voD vs) jo bo pl (r++[Y4 Z (lk5 d sz (O T) vs ms)])):=by
 have i:keysOf (voD vs)=(vs.map (·.1)).map O:=by unfold keysOf voD; rw[Qqf,Qqf]; rfl
 have h:=qxw (st:=GM F sz T d ro (voD vs) jo bo pl r) (l:=12) rfl i a (by rw[Qqx]; exact b);have g:=qxw (st:=GM F sz T d ro (voD vs) jo bo pl r) (l:=14) rfl hk e (by rw[Qqx]; exact f);have k:=qzv (st:=GM F sz T d ro (voD vs) jo bo pl r) (nlI (vs.map (·.1)));have j:=qzv (st:=GM F sz T d ro (voD vs) jo bo pl r) (nlI (ms.map (·.nm)));have o:(vs.map (·.1)).map D.int=vs.map λv=>D.int v.1:=by rw[Qqf]; rfl
 have n:(ms.map (·.nm)).map D.int=ms.map λc=>D.int c.nm:=by rw[Qqf]; rfl
 unfold duT lk5;rw[<- o,<- n];exact qz7 16 [] 2 (λq=>_/\_/\_/\_/\q) [.k,.c (Y1 (GM F sz T d ro (voD vs) jo bo pl r).length,GM F sz T d ro (voD vs) jo bo pl r++[Y4 Z ((vs.map (·.1)).map O)]),.l ((vs.map (·.1)).map O),.k,.c (Y1 (GM F sz T d ro (voD vs) jo bo pl r).length,GM F sz T d ro (voD vs) jo bo pl r++[Y4 Z ((ms.map (·.nm)).map O)]),.l ((ms.map (·.nm)).map O),.k,.k,.k] ⟨h,k,g,j,rfl⟩
noncomputable abbrev duM:L M.S:=[.expr (.meth (.var 3) .append [.comp (.var 0) (.var 1) J (.didx (.didx (.var 1) (.lit (sO "veins"))) (.var 0)) [J,Y 0]]),.expr (.meth (.var 3) .append [.comp (.var 0) (.var 1) J (.dgt (.didx (.var 1) (.lit (sO "joins"))) (.var 0)) [J,Y 0]]),.expr (.meth (.var 3) .append [.comp (.var 0) (.var 2) J (.bcall .tuple [.gc (.sli (.didx (.didx (.var 1) (.lit (sO "claims"))) (.var 0)) J (Y (.lit (.int 5))))]) [J,Y 0]]),.expr (.meth (.var 3) .append [.comp (.var 0) (.var 2) J (.gc (.call 61 [.var 1,.var 0])) [J,Y 0]]),.expr (.meth (.var 3) .append [.comp (.var 0) (.var 2) J (.idx (.didx (.didx (.var 1) (.lit (sO "claims"))) (.var 0)) (.lit (.int 5))) [J,Y 0]])]
noncomputable abbrev duR:L M.S:=[.ret (.bin .Add (.var 3) duE)]
def due_fn:fns[68]?=Y ⟨1,4,duH++(duM++duR)⟩:=by kernel_rfl
noncomputable abbrev duQ(d:B)(jo:L (D×D))(vs:L (B×D×L (B×B)))(ms:L Cl):Y2:=[.lst Z (vs.map veD),.lst Z (vs.map (joD jo)),.lst Z (ms.map clT),.lst Z (ms.map λc=>sO (stW c d)),.lst Z (ms.map λc=>.loc (c.j+8))]
noncomputable abbrev duL(d:B)(sz T:D)(vs:L (B×D×L (B×B)))(ms:L Cl)(k:Y0):L D:=[.int d,sz,T,.lst (vs.map λv=>.int v.1),.lst (ms.map λc=>.int c.nm),.loc (k+17),.loc (k+18),.loc (k+19),.loc (k+20),.loc (k+21)]
def due_ok(m:Y0)(A:MA bo r ms)(b:(vs.map (·.1)).Pairwise (· < ·))(g:vs.length<64)(hk:keysOf bo=(ms.map (·.nm)).map O)(e:(ms.map (·.nm)).Pairwise (· < ·))(s:ms.length<64)(l:∀n∈ro,∃c∈ms,c.nm=n)(o:ro.length<1000):
  callD fns (m+3) 68 [Y1 8] (GM F sz T d ro (voD vs) jo bo pl r)=Y (Y1 (r.length+23),GM F sz T d ro (voD vs) jo bo pl (r++Y4 Z (duL d sz (O T) vs ms r.length)::(duQ d jo vs ms++[Y4 Z [Yc (rowD (ro.filter (stB ms d))),Y1 10],Y4 Z (duL d sz (O T) vs ms r.length++[Yc (rowD (ro.filter (stB ms d))),Y1 10])]))):=by
 have f:(vs.map (·.1)).Nodup:=b.imp λh=>by lia
 have nd:(ms.map (·.nm)).Nodup:=e.imp λh=>by lia
 have c1:=λX:Y2=>qz0 (c:=callD fns (m+2)) (τ:=duT vs ms r.length) (st:=GM F sz T d ro (voD vs) jo bo pl (r++X)) (i:=1) (elt:=.didx (.didx (Yd 1) (.lit (sO "veins"))) (Yd 0)) (sr:=[J,Y 0]) vs (λv=>O v.1) veD rfl rfl (by unfold lim; lia) rfl λv hv=>qzb 16 [] 2 (λq=>_/\q) [.k,.q (Y (veD v))] ⟨qkh hv f,rfl⟩;have c2:=λX:Y2=>qz0 (c:=callD fns (m+2)) (τ:=duT vs ms r.length) (st:=GM F sz T d ro (voD vs) jo bo pl (r++X)) (i:=1) (elt:=.dgt (.didx (Yd 1) (.lit (sO "joins"))) (Yd 0)) (sr:=[J,Y 0]) vs (λv=>O v.1) (joD jo) rfl rfl (by unfold lim; lia) rfl λv hv=>qzb 16 [] 2 (λq=>_/\q) [.k,.q (dget jo (O v.1))] ⟨(show dget jo (O v.1)=dget jo (O v.1) from rfl),rfl⟩;have c3:=λX:Y2=>qz0 (c:=callD fns (m+2)) (τ:=duT vs ms r.length) (st:=GM F sz T d ro (voD vs) jo bo pl (r++X)) (i:=2) (elt:=.bcall .tuple [.gc (.sli (.didx (.didx (Yd 1) (.lit (sO "claims"))) (Yd 0)) J (Y (.lit (O 5))))]) (sr:=[J,Y 0]) ms (λc=>O c.nm) clT rfl rfl (by unfold lim; lia) rfl λc hc=>by
  obtain⟨i,_,hg,h1,_⟩:=(A.app X).at_ c hc;have nl:noLocs [O c.o,rD c.g,O c.la,oD c.v,oD c.gv]=true:=by obtain⟨_,_,_,_,_,_,v,gv⟩:=c; cases v<;>cases gv<;>rfl
  exact qzb 16 [] 2 (λq=>_/\_/\_/\q) [.k,.q (Y (Y1 (i+17))),.r c.mc,.l [O c.o,rD c.g,O c.la,oD c.v,oD c.gv]] ⟨hg,h1,qzv (st:=GM F sz T d ro (voD vs) jo bo pl (r++X)) nl,rfl⟩
 have c4:=λX:Y2=>qz0 (c:=callD fns (m+2)) (τ:=duT vs ms r.length) (st:=GM F sz T d ro (voD vs) jo bo pl (r++X)) (i:=2) (elt:=.gc (.call 61 [Yd 1,Yd 0])) (sr:=[J,Y 0]) ms (λc=>O c.nm) (λc=>sO (stW c d)) rfl rfl (by unfold lim; lia) rfl λc hc=>by
  obtain⟨i,_,hg,h1,_⟩:=(A.app X).at_ c hc;have j:=qx8 (F:=F) (sz:=sz) (T:=T) (d:=d) (ro:=ro) (fo:=voD vs) (jo:=jo) (pl:=pl) (m+1) hg h1;exact qzb 16 [61] 2 (λq=>_/\_/\q) [.c (sO (stW c d),GM F sz T d ro (voD vs) jo bo pl (r++X)),.g] ⟨j,gS (sO (stW c d)) (GM F sz T d ro (voD vs) jo bo pl (r++X)) rfl,rfl⟩
 have c5:=λX:Y2=>qz0 (c:=callD fns (m+2)) (τ:=duT vs ms r.length) (st:=GM F sz T d ro (voD vs) jo bo pl (r++X)) (i:=2) (elt:=.idx (.didx (.didx (Yd 1) (.lit (sO "claims"))) (Yd 0)) (.lit (O 5))) (sr:=[J,Y 0]) ms (λc=>O c.nm) (λc=>Y1 (c.j+8)) rfl rfl (by unfold lim; lia) rfl λc hc=>by
  obtain⟨i,_,hg,h1,_⟩:=(A.app X).at_ c hc;have h1:(GM F sz T d ro (voD vs) jo bo pl (r++X))[i+17]?=Y c.mc:=h1;have x5:idxD (GM F sz T d ro (voD vs) jo bo pl (r++X)) (Y1 (i+17)) (O 5)=Y (Y1 (c.j+8)):=ixm h1 rfl;exact qzb 16 [] 2 (λq=>_/\_/\q) [.k,.q (Y (Y1 (i+17))),.i (Y1 (c.j+8))] ⟨hg,x5,rfl⟩
 have w:exs (stepEx (RL (callD fns (m+2)))) duM (duT vs ms r.length) (GM F sz T d ro (voD vs) jo bo pl (r++[Y4 Z (lk5 d sz (O T) vs ms)]))=Y (.nx (duT vs ms r.length),GM F sz T d ro (voD vs) jo bo pl (r++Y4 Z (duL d sz (O T) vs ms r.length)::duQ d jo vs ms)):=by
  rw[qzl (qws m _ _ [] (by simp) (c1 _)),qzl (qws m _ _ _ (by simp) (c2 _)),qzl (qws m _ _ _ (by simp) (c3 _)),qzl (qws m _ _ _ (by simp) (c4 _)),qzl (qws m _ _ _ (by simp) (c5 _))]
  rfl
 refine qqu due_fn rfl (qqh (du_a m b g hk e s) (qqh w ?_));have hs:=msd_ok (F:=F) (sz:=sz) (T:=T) (d:=d) (vs:=vs) (jo:=jo) (pl:=pl) m (A.app (Y4 Z (duL d sz (O T) vs ms r.length)::duQ d jo vs ms)) nd l o;have C:(r++Y4 Z (duL d sz (O T) vs ms r.length)::duQ d jo vs ms)[r.length]?=Y (Y4 Z (duL d sz (O T) vs ms r.length)):=get0 0;have x:noLocs (rowD (ro.filter (stB ms d)))=true:=nlI _;generalize rowD (ro.filter (stB ms d))=a at *;have rl:(r++Y4 Z (duL d sz (O T) vs ms r.length)::duQ d jo vs ms).length=r.length+6:=by simp
 have E:(duL d sz (O T) vs ms r.length).length=10:=rfl;have t:r++Y4 Z (duL d sz (O T) vs ms r.length)::(duQ d jo vs ms++[Y4 Z [Yc a,Y1 10],Y4 Z (duL d sz (O T) vs ms r.length++[Yc a,Y1 10])])=r++Y4 Z (duL d sz (O T) vs ms r.length)::duQ d jo vs ms++[Y4 Z [Yc a,Y1 10]]++[Y4 Z (duL d sz (O T) vs ms r.length++[Yc a,Y1 10])]:=by simp
 rw[t];generalize r++Y4 Z (duL d sz (O T) vs ms r.length)::duQ d jo vs ms=R at *;generalize duL d sz (O T) vs ms r.length=u at *;have z:=ga [Y4 Z [Yc a,Y1 10]] C;have y:=gl (st:=R) (c:=Y4 Z [Yc a,Y1 10]);have:=qz7 (fns:=fns) (τ:=duT vs ms r.length) (ss:=duR) (st:=GM F sz T d ro (voD vs) jo bo pl R) (k:=m) 16 [63] 2 (λq=>_/\_/\_/\_/\_/\q) [.c (Y1 (GM F sz T d ro (voD vs) jo bo pl R).length,GM F sz T d ro (voD vs) jo bo pl R++[Y4 Z a]),.l a,.k,.r (Y4 Z u),.r (Y4 Z [Yc a,Y1 10]),.b Y6] (r:=(.rt (Y1 ((R++[Ya.lst Z [Yc a,Y1 10]]).length+16)),GM F sz T d ro (voD vs) jo bo pl (R++[Y4 Z [Yc a,Y1 10]]++[Y4 Z (u++[Yc a,Y1 10])]))) ⟨hs,qzv (st:=GM F sz T d ro (voD vs) jo bo pl R) x,z,y,Zu (p:=lim<u.length+[D.lst a,Y1 10].length) (by simp; unfold lim; lia),rfl⟩;rw[Qqg,rl]at this;exact this
end
def Dq.up(h:Dq k d):Dq (k+1) d:=by
 induction h with
 |non=>exact .non
 |int=>exact .int
 |str=>exact .str
 |tup _ b a=>exact .tup a b
 |lst _ b a=>exact .lst a b
def zmap{α:Type}{cs ms:L Cl}{f:Cl->α}(h:cs.map Cl.z=ms.map Cl.z)(hf:∀c:Cl,f c.z=f c):cs.map f=ms.map f:=by
 have:=congrArg (List.map f) h;rw[Qqf,Qqf]at this;rw[show f=f∘Cl.z from funext λc=>(hf c).symm];exact this
def stB_z(h:cs.map Cl.z=ms.map Cl.z)(d):stB cs d=stB ms d:=by
 have e:∀l:L Cl,∀n,stB l d n=stB (l.map Cl.z) d n:=λl n=>by
  unfold stB;rw[List.find?_map];show _=(match Option.map Cl.z (l.find? λc=>c.nm==n) with|some c=>_|none=>_)
  cases l.find? λc=>c.nm==n<;>rfl
 funext n
 rw[e cs,e ms,h]
def dq_i(l:L B)(a:l.length<1000):Dq 1 (.lst (l.map .int)):=.lst (λd hd=>by obtain⟨i,_,rfl⟩:=Qqk.mp hd; exact .int) (by rw[Qqx]; exact a)
def dq_c(p):Dq 1 (cD p):=.tup (λd hd=>by simp only[Qqy,Qq8,or_false]at hd; rcases hd with rfl|rfl<;>exact .int) (by simp)
def dq_r(g):Dq 1 (rD g):=.tup (λd hd=>by simp only[Qqy,Qq8,or_false]at hd; rcases hd with rfl|rfl|rfl|rfl<;>exact .int) (by simp)
def dq_o(o):Dq k (oD o):=by
 cases o with
 |none=>exact .non
 |some i=>exact .int
def qnd(c):Dq 2 (clT c):=.tup (λd hd=>by simp only[Qqy,Qq8,or_false]at hd; rcases hd with rfl|rfl|rfl|rfl|rfl<;>first|exact .int|exact dq_r _|exact dq_o _) (by simp)
def dq_ve(h:VsOk vs)(hv:v∈vs):Dq 3 (veD v):=by
 obtain⟨⟨c,e,a⟩,b⟩:=h v hv;refine .tup (λd hd=>?_) (by simp);simp only[Qqy,Qq8,or_false]at hd;rcases hd with rfl|rfl
 ·rw[e];exact .tup (λd hd=>by obtain⟨i,_,rfl⟩:=Qqk.mp hd; exact .int) (by rw[Qqx]; exact a)
 ·exact .tup (λd hd=>by obtain⟨i,_,rfl⟩:=Qqk.mp hd; exact dq_c i) (by rw[Qqx]; lia)
def dq_jo(c:JoI jo)(v):Dq 1 (joD jo v):=by
 unfold joD dget
 cases h:jo.find? λp=>eqT p.1 (.int v.1) with
 |none=>exact .non
 |some p=>
  obtain⟨a,b,f,rfl⟩:=c p (Qxv h);exact .tup (λd hd=>by simp only[Qqy,Qq8,or_false]at hd; rcases hd with rfl|rfl<;>exact .int) (by simp)
def qq2{α:Type}(m){xs:L α}{f:α->D}(h:st[l]?=Y (Y4 Z (xs.map f)))(d:xs.length<1000)(hd:∀x∈xs,Dq 3 (f x)):callD fns (m+5) 48 [Yc (xs.map f),Y1 l] st=Y (.bl Z,st):=
 qxy (m+3) h rfl (by rw[Qqx]; exact d) λi x y b c=>by
  cases b.symm.trans c;obtain⟨a,e,rfl⟩:=Qqk.mp (Qqm b);exact qxr (hd a e) m st
section
variable {F:Fx}{W H P T d:B}{ro:L B}{jo:L (D×D)}{pl:L D}{r:Y2}{ms cs:L Cl}{vs:L (B×D×L (B×B))}{bo:L (D×D)}
def fin_ok(m)(A:MA bo r ms)(hz:cs.map Cl.z=ms.map Cl.z)(t:VsOk vs)(u:JoI jo)(p:vs.length<64)(q:ms.length<64)(z:∀c∈ms,c.ds.length<900)(g:ro.length<1000):callD fns (m+6) 48 [.lst (lkL d (szD W H P) (.int T) vs jo cs ro),.loc (r.length+23)] (GM F (szD W H P) T d ro (voD vs) jo bo pl (r++.lst Z (duL d (szD W H P) (.int T) vs ms r.length)::(duQ d jo vs ms++[.lst Z [.lst (rowD (ro.filter (stB ms d))),.loc 10],.lst Z (duL d (szD W H P) (.int T) vs ms r.length++[.lst (rowD (ro.filter (stB ms d))),.loc 10])])))=Y (.bl Z,GM F (szD W H P) T d ro (voD vs) jo bo pl (r++.lst Z (duL d (szD W H P) (.int T) vs ms r.length)::(duQ d jo vs ms++[.lst Z [.lst (rowD (ro.filter (stB ms d))),.loc 10],.lst Z (duL d (szD W H P) (.int T) vs ms r.length++[.lst (rowD (ro.filter (stB ms d))),.loc 10])]))):=by
 have R:(cs.map λc=>D.int c.nm)=ms.map λc=>D.int c.nm:=zmap hz λ_=>rfl;have Q:cs.map clT=ms.map clT:=zmap hz λ_=>rfl;have N:(cs.map λc=>sO (stW c d))=ms.map λc=>sO (stW c d):=zmap hz λ_=>rfl;have K:cs.map yrD=ms.map yrD:=zmap hz λ_=>rfl;unfold lkL;rw[R,Q,N,K,stB_z hz];have I:(ro.filter (stB ms d)).length<1000:=Qxz (Qzc ..) g;have A:=A.app (.lst Z (duL d (szD W H P) (.int T) vs ms r.length)::(duQ d jo vs ms++[.lst Z [.lst (rowD (ro.filter (stB ms d))),.loc 10],.lst Z (duL d (szD W H P) (.int T) vs ms r.length++[.lst (rowD (ro.filter (stB ms d))),.loc 10])]));have at_:∀i,(GM F (szD W H P) T d ro (voD vs) jo bo pl (r++.lst Z (duL d (szD W H P) (.int T) vs ms r.length)::(duQ d jo vs ms++[.lst Z [.lst (rowD (ro.filter (stB ms d))),.loc 10],.lst Z (duL d (szD W H P) (.int T) vs ms r.length++[.lst (rowD (ro.filter (stB ms d))),.loc 10])])))[r.length+i+16]?=(Ya.lst Z (duL d (szD W H P) (.int T) vs ms r.length)::(duQ d jo vs ms++[.lst Z [.lst (rowD (ro.filter (stB ms d))),.loc 10],.lst Z (duL d (szD W H P) (.int T) vs ms r.length++[.lst (rowD (ro.filter (stB ms d))),.loc 10])]))[i]?:=λi=>get0 i;have bk:(GM F (szD W H P) T d ro (voD vs) jo bo pl (r++.lst Z (duL d (szD W H P) (.int T) vs ms r.length)::(duQ d jo vs ms++[.lst Z [.lst (rowD (ro.filter (stB ms d))),.loc 10],.lst Z (duL d (szD W H P) (.int T) vs ms r.length++[.lst (rowD (ro.filter (stB ms d))),.loc 10])])))[10]?=Y (.lst Z []):=rfl;generalize w:GM F (szD W H P) T d ro (voD vs) jo bo pl (r++.lst Z (duL d (szD W H P) (.int T) vs ms r.length)::(duQ d jo vs ms++[.lst Z [.lst (rowD (ro.filter (stB ms d))),.loc 10],.lst Z (duL d (szD W H P) (.int T) vs ms r.length++[.lst (rowD (ro.filter (stB ms d))),.loc 10])]))=G at at_ bk ⊢;have o:callD fns (m+5) 48 [.lst (ms.map yrD),.loc (r.length+21)] G=Y (.bl Z,G):=qxy (m+3) (es:=ms.map λc:Cl=>D.loc (c.j+8)) (at_ 5) (by simp) (by simp; lia) λi x y b f=>by
  rw[Qqb]at b f;obtain⟨c,hc,rfl⟩:=Qqi.mp b;rw[hc]at f;cases f;have j:=Qqm hc;obtain⟨k,e,_,_,E⟩:=A.at_ c j;have C:G[c.j+8]?=Y c.dl:=by rw[e,<- w]; exact E
  exact qxy (m+2) C rfl (by rw[Qqx]; have:=z c j; lia) λi x y b f=>by
   cases b.symm.trans f;obtain⟨a,S,rfl⟩:=Qqk.mp (Qqm b);exact same_int _ G a
 have U:∀(k:Y0) (x:B),callD fns (m+5) 48 [.int x,.int x] G=Y (.bl Z,G):=λ_ x=>same_int _ G x;have h:∀l:L B,l.length<1000->callD fns (m+5) 48 [.lst (l.map .int),.lst (l.map .int)] G=Y (.bl Z,G):=λl s=>qxr (dq_i l s) (m+3) G;refine qxy (m+4) (at_ 7) rfl (by simp) λi x y b f=>?_
 match i,b,f with
 |0,b,f=>cases b; cases f; exact same_int _ G _
 |1,b,f=>cases b; cases f; exact qxr (k:=1) (.tup (λd hd=>by simp only[Qqy,Qq8,or_false]at hd; rcases hd with rfl|rfl|rfl<;>exact .int) (by simp)) (m+3) G
 |2,b,f=>cases b; cases f; exact same_int _ G _
 |3,b,f=>
  cases b; cases f;have:=h (vs.map (·.1)) (by rw[Qqx]; lia);rw[Qqf]at this;exact this
 |4,b,f=>
  cases b; cases f;have:=h (ms.map (·.nm)) (by rw[Qqx]; lia);rw[Qqf]at this;exact this
 |5,b,f=>cases b; cases f; exact qq2 m (at_ 1) (by lia) λv hv=>dq_ve t hv
 |6,b,f=>cases b; cases f; exact qq2 m (at_ 2) (by lia) λv _=>(dq_jo u v).up.up
 |7,b,f=>cases b; cases f; exact qq2 m (at_ 3) (by lia) λc _=>(qnd c).up
 |8,b,f=>cases b; cases f; exact qq2 m (at_ 4) (by lia) λ_ _=>.str
 |9,b,f=>cases b; cases f; exact o
 |10,b,f=>cases b; cases f; exact h _ I
 |11,b,f=>cases b; cases f; exact qxy (m+3) (ds:=[]) bk rfl (by simp) λi x y b _=>by cases b
 |n+12,b,f=>cases b
end
noncomputable abbrev pgT(a:Y0)(day:B)(f x3 x4 x5 x6:D)(x7 x8 x9 x10:Y3 D):Sl:=[Y (.loc a),Y (.int day),Y f,Y x3,Y x4,Y x5,Y x6,x7,x8,x9,x10]
noncomputable abbrev cnD(cs:L Cl):D:=.lst (cs.map λc=>.int c.nm)
noncomputable abbrev yrs(cs:L Cl):D:=.lst (cs.map yrD)
noncomputable abbrev pgH:L M.S:=[.set (.var 3) (.gc (.mcall 642 39 "claims" (.var 0) [])),.set (.var 4) (.comp (.var 0) (.var 3) J (.mcall 642 42 "claim" (.var 1) [.var 0]) [J,Y 0]),.set (.var 5) (.gc (.comp (.var 0) (.var 3) J (.gc (.mcall 642 44 "years" (.var 1) [.var 0])) [J,Y 0])),.set (.var 6) (.mcall 642 45 "standing" (.var 0) [])]
section
variable {p:Pl}{sz:D}{d day:B}{jo:L (D×D)}{ro:L B}{S:Y2}{cs:L Cl}{vs:L (B×D×L (B×B))}{f:D}
def pg_a(m)(A:FA p sz d (voD vs) jo cs ro S)(nd:(cs.map (·.nm)).Nodup)(b:∀n∈ro,∃c∈cs,c.nm=n)(g:ro.length<1000)(a:cs.length<1000):exs (stepEx (RL (callD fns (m+3)))) pgH [Y (Y1 p.a),Y (O day),Y f,J,J,J,J,J,J,J,J] S=Y (.nx (pgT p.a day f (cnD cs) (Y1 S.length) (yrs cs) (Y1 (S.length+1)) J J J J),S++[Y4 Z (cs.map clT),Y4 Z (rowD (ro.filter (stB cs d)))]):=by
 have h:=qzv (st:=S) (ds:=cs.map λc=>D.int c.nm) (qxt λ_ _=>rfl);have c1:=qvi m A a (τ:=[Y (Y1 p.a),Y (O day),Y f,Y (cnD cs),J,J,J,J,J,J,J]) (i:=3) (k:=0) rfl rfl;have Bq:=A.app [Y4 Z (cs.map clT)];have c2:=qbz m Bq a (τ:=[Y (Y1 p.a),Y (O day),Y f,Y (cnD cs),Y (Y1 S.length),J,J,J,J,J,J]) (i:=3) (k:=0) rfl rfl;have j:=qvk m Bq nd b g;have l:=qzv (st:=S++[Y4 Z (cs.map clT)]) (qbr cs);have e:(Out.nx [Y (Y1 p.a),Y (O day),Y f,Y (cnD cs),Y (Y1 S.length),Y (yrs cs),Y (Y1 (S++[Ya.lst Z (cs.map clT)]).length),J,J,J,J],S++[Y4 Z (cs.map clT)]++[Y4 Z (rowD (ro.filter (stB cs d)))])=(.nx (pgT p.a day f (cnD cs) (Y1 S.length) (yrs cs) (Y1 (S.length+1)) J J J J),S++[Y4 Z (cs.map clT),Y4 Z (rowD (ro.filter (stB cs d)))]):=by
  rw[Qqg,Qq7]
  rfl
 rw[<- e];have o:(Out.nx [Y (Y1 p.a),Y (O day),Y f,Y (cnD cs),Y (Y1 S.length),Y (yrs cs),Y (Y1 (S++[Ya.lst Z (cs.map clT)]).length),J,J,J,J],S++[Y4 Z (cs.map clT)]++[Y4 Z (rowD (ro.filter (stB cs d)))])=(Out.nx [Y (Y1 p.a),Y (O day),Y f,Y (Yc (keysOf p.bo)),Y (Y1 S.length),Y (yrs cs),Y (Y1 (S++[Ya.lst Z (cs.map clT)]).length),J,J,J,J],S++[Y4 Z (cs.map clT)]++[Y4 Z (rowD (ro.filter (stB cs d)))]):=by rw[A.hk]
 unfold cnD at c1 c2;rw[<- A.hk]at h c1 c2;rw[o];exact qz7 0 [45] 3 (λq=>_/\_/\_/\_/\_/\_/\_/\_/\_/\_/\_/\q) [.r (p.fc sz d),.r (p.fc sz d),.r p.sc,.r p.sc,.r (.dic Z p.bo),.l (keysOf p.bo),.c (Y1 S.length,S++[Y4 Z (cs.map clT)]),.c (Y1 (S++[Ya.lst Z (cs.map clT)]).length,S++[Y4 Z (cs.map clT)]++[Y4 Z (cs.map yrD)]),.l (cs.map yrD),.r (p.fc sz d),.c (Y1 (S++[Ya.lst Z (cs.map clT)]).length,S++[Y4 Z (cs.map clT)]++[Y4 Z (rowD (ro.filter (stB cs d)))])] ⟨A.hf,A.hf,A.hs,A.hs,A.hb,h,c1,c2,l,Bq.hf,j,rfl⟩
noncomputable abbrev pg5:M.S:=.ite (.cmp .NotEq (.mcall 642 30 "enter" (.var 0) [.var 1,.var 2]) (.lit (sO "good"))) [.ret (.and (.gc (.call 48 [.gc (.mcall 642 39 "claims" (.var 0) []),.var 3])) (.gc (.call 48 [.gc (.comp (.var 0) (.var 3) J (.mcall 642 42 "claim" (.var 1) [.var 0]) [J,Y 0]),.var 4])))] []
def qgd(m)(h:S[p.a]?=Y (p.fc sz d))(a:callD fns (m+10) 30 [Y1 p.a,O day,f] S=Y (sO "good",S')):stepEx (RL (callD fns (m+10))) (pgT p.a day f x3 x4 x5 x6 J J J J) S pg5=Y (.nx (pgT p.a day f x3 x4 x5 x6 J J J J),S'):=
 qzf 0 [30] 10 (.nx (pgT p.a day f x3 x4 x5 x6 J J J J),S') (λq=>_/\_/\q) [.r (p.fc sz d),.c (sO "good",S')] ⟨h,a,rfl⟩
def qgc(m)(h:S[p.a]?=Y (p.fc sz d))(v:p'.a=p.a)(y:w = "noclaim"\/w = "ended"\/w = "nocut")(s:callD fns (m+10) 30 [Y1 p.a,O day,f] S=Y (sO w,S'))(A:FA p' sz day (voD vs) jo a ro' S')(hz:a.map Cl.z=cs.map Cl.z)(j:cs.length<1000)(z:S'[l]?=Y (Y4 Z (cs.map clT))):stepEx (RL (callD fns (m+10))) (pgT p.a day f (cnD cs) (Y1 l) x5 x6 J J J J) S pg5=Y (.rt (.bl Z),S'):=by
 have x:(a.map λc=>D.int c.nm)=cs.map λc=>D.int c.nm:=zmap hz λ_=>rfl;have C:a.map clT=cs.map clT:=zmap hz λ_=>rfl;have E:a.length=cs.length:=by have:=congrArg List.length hz; simpa using this
 have hk:=A.hk;rw[x]at hk;have n:=qzv (st:=S') (ds:=cs.map λc=>D.int c.nm) (qxt λ_ _=>rfl);have c1:=qvi (m+7) A (by lia) (τ:=pgT p.a day f (cnD cs) (Y1 l) x5 x6 J J J J) (i:=3) (k:=0) (by rw[x]; rfl) (by rw[v]; rfl);rw[C]at c1;have u:=qzv (st:=S') (qbs cs);have e:callD fns (m+10) 48 [cnD cs,cnD cs] S'=Y (.bl Z,S'):=by
  have:=qxr (dq_i (cs.map (·.nm)) (by rw[Qqx]; exact j)) (m+8) S';rw[Qqf]at this;exact this
 have o:callD fns (m+10) 48 [Yc (cs.map clT),Y1 l] S'=Y (.bl Z,S'):=qq2 (m+5) z j λc _=>(qnd c).up;rw[<- hk]at n;unfold cnD at e;have r:=e;rw[<- hk]at e;have b:=A.hf;have g:=A.hs;have t:=A.hb;rw[v]at b;rw[<- hk]at r;unfold cnD at c1 ⊢;rw[<- hk]at c1 ⊢;rcases y with rfl|rfl|rfl
 ·exact qzf 0 [30,48] 10 (.rt (.bl Z),S') (λq=>_/\_/\_/\_/\_/\_/\_/\_/\_/\_/\_/\_/\_/\_/\q) [.r (p.fc sz d),.c (sO "noclaim",S'),.r (p'.fc sz day),.r (p'.fc sz day),.r p'.sc,.r p'.sc,.r (.dic Z p'.bo),.l (keysOf p'.bo),.c (.bl Z,S'),.g,.c (Y1 S'.length,S'++[Y4 Z (cs.map clT)]),.l (cs.map clT),.c (.bl Z,S'),.g] ⟨h,s,b,b,g,g,t,n,e,gS (.bl Z) S' rfl,c1,u,o,gS (.bl Z) S' rfl,rfl⟩
 ·exact qzf 0 [30,48] 10 (.rt (.bl Z),S') (λq=>_/\_/\_/\_/\_/\_/\_/\_/\_/\_/\_/\_/\_/\_/\q) [.r (p.fc sz d),.c (sO "ended",S'),.r (p'.fc sz day),.r (p'.fc sz day),.r p'.sc,.r p'.sc,.r (.dic Z p'.bo),.l (keysOf p'.bo),.c (.bl Z,S'),.g,.c (Y1 S'.length,S'++[Y4 Z (cs.map clT)]),.l (cs.map clT),.c (.bl Z,S'),.g] ⟨h,s,b,b,g,g,t,n,e,gS (.bl Z) S' rfl,c1,u,o,gS (.bl Z) S' rfl,rfl⟩
 ·exact qzf 0 [30,48] 10 (.rt (.bl Z),S') (λq=>_/\_/\_/\_/\_/\_/\_/\_/\_/\_/\_/\_/\_/\_/\q) [.r (p.fc sz d),.c (sO "nocut",S'),.r (p'.fc sz day),.r (p'.fc sz day),.r p'.sc,.r p'.sc,.r (.dic Z p'.bo),.l (keysOf p'.bo),.c (.bl Z,S'),.g,.c (Y1 S'.length,S'++[Y4 Z (cs.map clT)]),.l (cs.map clT),.c (.bl Z,S'),.g] ⟨h,s,b,b,g,g,t,n,e,gS (.bl Z) S' rfl,c1,u,o,gS (.bl Z) S' rfl,rfl⟩
end
def InvK.other{Bq:Y0}{R:Y2}(h:InvK K Bq R cs)(hi:∀c∈cs,i≠c.j/\i≠c.j+1)(x):InvK K Bq (R.set i x) cs:=
 ⟨h.lo,λc hc=>⟨by rw[Qqa (hi c hc).1]; exact(h.at_ c hc).1,by rw[Qqa (hi c hc).2]; exact(h.at_ c hc).2⟩,h.pw,h.ne,h.nd⟩
noncomputable abbrev pc3:M.S:=.six (.var 3) (.bin .Add (.var 1) (.lit (.int 2))) (.bin .Sub (.var 2) (.lit (.int 1)))
noncomputable abbrev pc4:M.S:=.six (.var 4) (.var 1) (.var 2)
def qda(m)(S)(g)(hs:s=0\/s=1):callD fns (m+1) 70 [rD g,O s,O l] S=Y (Y9 [rD (aG g s l),rD (bG g s l)],S++[G4 (aG g s l),G4 (bG g s l)]):=by
 have f:(S++[G4 g,G4 g])[S.length]?=Y (G4 g):=get0 0;have i:(Out.nx ([Y (rD g),Y (O s),Y (O l),Y (Y1 S.length),Y (Y1 (S.length+1))]:Sl),(S++[G4 g,G4 g]).set S.length (G4 (aG g s l)))=(.nx [Y (rD g),Y (O s),Y (O l),Y (Y1 S.length),Y (Y1 (S.length+1))],S++[G4 (aG g s l),G4 g]):=by rw[set0]
 have e:(S++[G4 (aG g s l),G4 g])[S.length+1]?=Y (G4 g):=get0 1;have h:(Out.nx ([Y (rD g),Y (O s),Y (O l),Y (Y1 S.length),Y (Y1 (S.length+1))]:Sl),(S++[G4 (aG g s l),G4 g]).set (S.length+1) (G4 (bG g s l)))=(.nx [Y (rD g),Y (O s),Y (O l),Y (Y1 S.length),Y (Y1 (S.length+1))],S++[G4 (aG g s l),G4 (bG g s l)]):=by rw[set1]
 have b:stepEx (RL (callD fns (m+0))) [Y (rD g),Y (O s),Y (O l),Y (Y1 S.length),Y (Y1 (S.length+1))] (S++[G4 g,G4 g]) pc3=Y (.nx [Y (rD g),Y (O s),Y (O l),Y (Y1 S.length),Y (Y1 (S.length+1))],S++[G4 (aG g s l),G4 g]):=by rcases hs with rfl|rfl<;>exact qzf 0 [] 0 _ (λq=>_/\q) [.r (G4 g)] ⟨f,i⟩
 have a:stepEx (RL (callD fns (m+0))) [Y (rD g),Y (O s),Y (O l),Y (Y1 S.length),Y (Y1 (S.length+1))] (S++[G4 (aG g s l),G4 g]) pc4=Y (.nx [Y (rD g),Y (O s),Y (O l),Y (Y1 S.length),Y (Y1 (S.length+1))],S++[G4 (aG g s l),G4 (bG g s l)]):=by rcases hs with rfl|rfl<;>exact qzf 0 [] 0 _ (λq=>_/\q) [.r (G4 g)] ⟨e,h⟩
 have j:(([Y (rD g),Y (O s),Y (O l),Y (Y1 S.length),Y (Y1 (S++[G4 g]).length)]:Sl),S++[G4 g]++[G4 g])=([Y (rD g),Y (O s),Y (O l),Y (Y1 S.length),Y (Y1 (S.length+1))],S++[G4 g,G4 g]):=by
  rw[Qqg,Qq7]
  rfl
 have d:(S++[G4 (aG g s l),G4 (bG g s l)])[S.length]?=Y (G4 (aG g s l)):=get0 0;have c:(S++[G4 (aG g s l),G4 (bG g s l)])[S.length+1]?=Y (G4 (bG g s l)):=get0 1;exact qzz 0 [] 1 (λq=>_/\_/\_/\_/\_/\_/\_/\q) [.e ([Y (rD g),Y (O s),Y (O l),J,J],S),.e ([Y (rD g),Y (O s),Y (O l),Y (Y1 S.length),J],S++[G4 g]),.e ([Y (rD g),Y (O s),Y (O l),Y (Y1 S.length),Y (Y1 (S.length+1))],S++[G4 g,G4 g]),.t (.nx [Y (rD g),Y (O s),Y (O l),Y (Y1 S.length),Y (Y1 (S.length+1))],S++[G4 (aG g s l),G4 g]),.t (.nx [Y (rD g),Y (O s),Y (O l),Y (Y1 S.length),Y (Y1 (S.length+1))],S++[G4 (aG g s l),G4 (bG g s l)]),.r (G4 (aG g s l)),.r (G4 (bG g s l))] ⟨@Eq.refl (Sl×Y2) ([Y (rD g),Y (O s),Y (O l),J,J],S),@Eq.refl (Sl×Y2) ([Y (rD g),Y (O s),Y (O l),Y (Y1 S.length),J],S++[G4 g]),j,b,a,d,c,rfl⟩
def six_ok{S:Y2}{k:Y0}(g:(RL c).ev τ S e=Y (x,b))(m:τ[a]?=Y (Y (Y1 l)))(hi:τ[i]?=Y (Y (O (k:B))))(f:b[l]?=Y (Y4 Z ds))(hk:k<ds.length):stepEx (RL c) τ S (.six (Yd a) (Yd i) e)=Y (.nx τ,b.set l (Y4 Z (ds.set k x))):=by
 have v:∀{j:Y0}{y:D},τ[j]?=Y (Y y)->(RL c).ev τ b (Yd j)=Y (y,b):=λ{j y} h=>qjk c τ b _ _ (by show(match τ[j]? with|some (Y (d:D))=>Y (d,b)|_=>J)=Y (y,b); rw[h]);show((RL c).ev τ S e).bind _=_;rw[g];show((RL c).ev τ b (Yd a)).bind _=_;rw[v m];show((RL c).ev τ b (Yd i)).bind _=_;rw[v hi];show Option.map _ (Option.bind (wlistAt b l) _)=_;unfold wlistAt;rw[f];show Option.map _ (Option.map _ (ixN ds.length (k:B)))=_;unfold ixN;rw[Z2 (by lia),Z2 (by lia)]
 rfl
def ix_nm(S)(nd:((C1++c::C2).map (·.nm)).Nodup):mfun S .index (cnD (C1++c::C2)) [O c.nm]=Y (O (C1.length:B),S):=by
 rw[Qqd,Qqp,Qxk]at nd;have h:=qab (A:=C1.map (·.nm)) (R:=C2.map (·.nm)) (n:=c.nm) (λz=>nd.2.2 _ z _ (.head _) rfl) S;rw[Qqx]at h;have e:(C1++c::C2).map (λc=>D.int c.nm)=rowD (C1.map (·.nm)++c.nm::C2.map (·.nm)):=by
  unfold rowD;rw[Qqd,Qqd,Qqp,Qqp,Qqf,Qqf]
  rfl
 unfold cnD;rw[e];exact h
def qyv{f:Cl->D}{C1 C2:L Cl}:atI (C1.map f++x::C2.map f) (C1.length:B)=Y x:=by
 unfold atI ixN;rw[Z2 (by lia),Z2 (by simp; lia)];simp
def qet{α:Type}(xs:L α)(f g:α->D)(h:(RL c).ev τ st (.gc e)=Y (.lst (xs.map f),st))(j:xs.length<lim)(a:inner sr τ=J::rst)(l:∀x∈xs,(RL c).ev (Y (f x)::rst) st elt=Y (g x,st)):
  stepEv (RL c) τ st (.comp (.var 0) (.gc e) J elt sr)=Y (Y1 st.length,st++[Y4 Z (xs.map g)]):=by
 have i:seqAt st (.lst (xs.map f))=Y (xs.map f):=rfl;refine qa9 (s:=.lst (.lst (xs.map f))) (S':=st) (by show((RL c).ev τ st (.gc e)).bind _=_; rw[h]; rfl) (qxp i) (qz5 i) a (by simp) (by simpa using j) λk d e hd hg=>?_;rw[Qqb]at hd hg;obtain⟨x,b,rfl⟩:=Qqi.mp hd;rw[b]at hg;cases hg;exact l x (Qqm b)
noncomputable abbrev pgM:L M.S:=[.set (.var 7) (.meth (.var 3) .index [.idx (.var 2) (.lit (.int 1))]),.set (.tup [8,9]) (.call 70 [.idx (.idx (.var 4) (.var 7)) (.lit (.int 1)),.idx (.var 2) (.lit (.int 2)),.idx (.var 2) (.lit (.int 3))]),.set (.var 10) (.bin .Add (.tup [.idx (.var 2) (.lit (.int 4)),.var 9]) (.sli (.idx (.var 4) (.var 7)) (Y (.lit (.int 2))) J))]
noncomputable abbrev pg9e:E:=.bin .Add (.tup [.idx (.idx (.var 4) (.var 7)) (.lit (.int 0)),.var 8]) (.sli (.idx (.var 4) (.var 7)) (Y (.lit (.int 2))) J)
noncomputable abbrev pg9:M.S:=.six (.var 4) (.var 7) pg9e
noncomputable abbrev plE:E:=.gc (.bin .Add (.var 3) (.gc (.lst [.var 1])))
noncomputable abbrev pg10:M.S:=.ite (.not (.gc (.call 48 [.gc (.comp (.var 0) plE J (.mcall 642 42 "claim" (.var 1) [.var 0]) [J,Y 0]),.gc (.bin .Add (.var 4) (.gc (.lst [.var 10])))]))) [.ret (.lit (.bl Y6))] []
noncomputable abbrev qlu:L M.S:=[.set (.var 6) (.comp (.var 0) (.var 6) (Y (.cmp .Eq (.gc (.mcall 642 43 "state" (.var 1) [.var 0])) (.lit (sO "stands")))) (.var 0) [J,Y 0]),.expr (.meth (.var 6) .insert [.bin .Add (.meth (.var 6) .index [.idx (.var 2) (.lit (.int 1))]) (.lit (.int 1)),.var 1]),.ite (.not (.gc (.call 48 [.gc (.mcall 642 45 "standing" (.var 0) []),.var 6]))) [.ret (.lit (.bl Y6))] []]
noncomputable abbrev pg11:M.S:=.ite (.and (.cmp .In (.idx (.var 2) (.lit (.int 1))) (.var 6)) (.cmp .GtE (.idx (.idx (.var 4) (.var 7)) (.lit (.int 2))) (.var 1))) qlu []
noncomputable abbrev pg12:M.S:=.ret (.call 48 [.gc (.comp (.var 0) plE J (.gc (.mcall 642 44 "years" (.var 1) [.var 0])) [J,Y 0]),.gc (.bin .Add (.var 5) (.gc (.lst [.idx (.var 5) (.var 7)])))])
def qkp:fns[71]?=Y ⟨3,11,pgH++([pg5]++(pgM++[pg9,pg10,pg11,pg12]))⟩:=by kernel_rfl
section
variable {day:B}{S:Y2}{C1 C2:L Cl}{c:Cl}
def pg_m(m)(hs:s=0\/s=1)(nd:((C1++c::C2).map (·.nm)).Nodup)(b:S[l]?=Y (Y4 Z ((C1++c::C2).map clT))):exs (stepEx (RL (callD fns (m+10)))) pgM (pgT a day (ptF c.nm s ln o) (cnD (C1++c::C2)) (Y1 l) x5 x6 J J J J) S=Y (.nx (pgT a day (ptF c.nm s ln o) (cnD (C1++c::C2)) (Y1 l) x5 x6 (Y (O (C1.length:B))) (Y (rD (aG c.g s ln))) (Y (rD (bG c.g s ln))) (Y (Y9 [O o,rD (bG c.g s ln),O c.la,oD c.v,oD c.gv]))),S++[G4 (aG c.g s ln),G4 (bG c.g s ln)]):=by
 have h1:=ix_nm S nd;have e:(C1++c::C2).map clT=C1.map clT++clT c::C2.map clT:=by rw[Qqd]; rfl
 have hi:∀X,idxD (S++X) (Y1 l) (O (C1.length:B))=Y (clT c):=λX=>ixm (ga X b) (by rw[e]; exact qyv);have d:idxD S (Y1 l) (O (C1.length:B))=Y (clT c):=ixm b (by rw[e]; exact qyv);exact qz7 0 [70] 10 (λq=>_/\_/\_/\_/\q) [.c (O (C1.length:B),S),.i (clT c),.c (Y9 [rD (aG c.g s ln),rD (bG c.g s ln)],S++[G4 (aG c.g s ln),G4 (bG c.g s ln)]),.n,.i (clT c)] ⟨h1,d,qda (m+9) S c.g (l:=ln) hs,hi [G4 (aG c.g s ln),G4 (bG c.g s ln)],rfl⟩
noncomputable abbrev pgZ(a:Y0)(day:B)(C1 C2:L Cl)(c:Cl)(l:Y0)(x5 x6:D)(s ln o:B):Sl:=pgT a day (ptF c.nm s ln o) (cnD (C1++c::C2)) (.loc l) x5 x6 (Y (.int (C1.length:B))) (Y (rD (aG c.g s ln))) (Y (rD (bG c.g s ln))) (Y (.tup [.int o,rD (bG c.g s ln),.int c.la,oD c.v,oD c.gv]))
noncomputable abbrev Cl.cut(c:Cl)(s ln:B):Cl:={ c with g:=aG c.g s ln }
def pg_9(m)(d:S[l]?=Y (Y4 Z ((C1++c::C2).map clT)))(X):stepEx (RL (callD fns (m+10))) (pgZ a day C1 C2 c l x5 x6 s ln o) (S++X) pg9=Y (.nx (pgZ a day C1 C2 c l x5 x6 s ln o),S.set l (Y4 Z ((C1++c.cut s ln::C2).map clT))++X):=by
 have e:(C1++c::C2).map clT=C1.map clT++clT c::C2.map clT:=by rw[Qqd]; rfl
 have hi:idxD (S++X) (Y1 l) (O (C1.length:B))=Y (clT c):=ixm (ga X d) (by rw[e]; exact qyv);have f:(RL (callD fns (m+10))).ev (pgZ a day C1 C2 c l x5 x6 s ln o) (S++X) pg9e=Y (clT (c.cut s ln),S++X):=qzb 0 [] 10 (λq=>_/\_/\q) [.i (clT c),.n,.i (clT c)] ⟨hi,hi,rfl⟩;have h:=six_ok (a:=4) (i:=7) (l:=l) (k:=C1.length) f rfl rfl (ga X d) (by simp);have g:((C1++c::C2).map clT).set C1.length (clT (c.cut s ln))=(C1++c.cut s ln::C2).map clT:=by rw[e]; simp
 rw[g]at h;rw[h];have b:l<S.length:=(Qqj.mp d).1;rw[List.set_append_left _ _ b]
def pl_ok(m)(nl:noLocs ds=Z)(hd:ds.length<1000):(RL (callD fns (m+10))).ev (pgT a day f (Yc ds) x4 x5 x6 g e d b) S plE=Y (Yc (ds++[O day]),S):=by
 have h:noLocs (ds++[O day])=true:=by
  rw[qq3,List.all_append,<- qq3,nl]
  rfl
 exact qzb 0 [] 10 (λq=>_/\_/\_/\q) [.l [O day],.b Y6,.l (ds++[O day])] ⟨qzv (st:=S) (ds:=[O day]) rfl,Zu (p:=lim<ds.length+[D.int day].length) (by simp; unfold lim; lia),qzv (st:=S) h,rfl⟩
end
noncomputable abbrev Cl.nw(c:Cl)(day o s ln:B):Cl:=⟨day,0,o,bG c.g s ln,c.ds,c.la,c.v,c.gv⟩
section
variable {p:Pl}{sz:D}{day:B}{jo:L (D×D)}{ro:L B}{S:Y2}{cs C1 C2:L Cl}{c:Cl}{vs:L (B×D×L (B×B))}{s ln o:B}{l:Y0}{x5 x6:D}
def z_nm(hz:cs.map Cl.z=(C1++c.cut s ln::C2++[c.nw day o s ln]).map Cl.z):((C1++c::C2).map λc=>D.int c.nm)++[O day]=cs.map λc=>O c.nm:=by
 rw[zmap hz (f:=λc=>D.int c.nm) λ_=>rfl];simp
def z_len(hz:cs.map Cl.z=(C1++c.cut s ln::C2++[c.nw day o s ln]).map Cl.z):cs.length=(C1++c::C2).length+1:=by
 have:=congrArg List.length hz;simp at this ⊢
 lia
def pg_10(m)(A:FA p sz day (voD vs) jo cs ro S)(hz:cs.map Cl.z=(C1++c.cut s ln::C2++[c.nw day o s ln]).map Cl.z)(a:cs.length<1000)(h:S[l]?=Y (Y4 Z ((C1++c.cut s ln::C2).map clT))):stepEx (RL (callD fns (m+10))) (pgZ p.a day C1 C2 c l x5 x6 s ln o) S pg10=Y (.nx (pgZ p.a day C1 C2 c l x5 x6 s ln o),S):=by
 have hk:=z_len hz;have g:(RL (callD fns (m+10))).ev (pgZ p.a day C1 C2 c l x5 x6 s ln o) S plE=Y (.lst (cs.map λc=>O c.nm),S):=by
  rw[<- z_nm hz];exact pl_ok m (qxt λ_ _=>rfl) (by rw[Qqx]; lia)
 have h1:=qet (sr:=[J,Y 0]) (rst:=[Y (Y1 p.a)]) (elt:=.mcall 642 42 "claim" (.var 1) [.var 0]) cs (λc=>D.int c.nm) clT g (by unfold lim; lia) rfl λx b=>qzb 0 [42] 10 (λq=>_/\_/\q) [.r (p.fc sz day),.c (clT x,S)] ⟨A.hf,qbq (m+8) A b,rfl⟩;have e:(C1++c.cut s ln::C2).map clT++[clT (c.nw day o s ln)]=cs.map clT:=by
  rw[zmap hz (f:=clT) λ_=>rfl,Qqd (l₁:=C1++c.cut s ln::C2)]
  rfl
 have q:callD fns (m+10) 48 [.lst (cs.map clT),.lst ((C1++c.cut s ln::C2).map clT++[clT (c.nw day o s ln)])] S=Y (.bl Z,S):=by
  rw[e];exact qxr (k:=3) (.lst (λd hd=>by obtain⟨x,_,rfl⟩:=Qqk.mp hd; exact qnd x) (by rw[Qqx]; exact a)) (m+6) S
 have i:gcD S (Y1 S.length,S++[Y4 Z ((C1++c.cut s ln::C2).map clT++[clT (c.nw day o s ln)])])=(.lst ((C1++c.cut s ln::C2).map clT++[clT (c.nw day o s ln)]),S):=qzv (by rw[e]; exact qbs cs);exact qzf 0 [48] 10 (.nx (pgZ p.a day C1 C2 c l x5 x6 s ln o),S) (λq=>_/\_/\_/\_/\_/\_/\_/\_/\q) [.c (Y1 S.length,S++[Y4 Z (cs.map clT)]),.l (cs.map clT),.l [clT (c.nw day o s ln)],.r (Y4 Z ((C1++c.cut s ln::C2).map clT)),.b Y6,.l ((C1++c.cut s ln::C2).map clT++[clT (c.nw day o s ln)]),.c (.bl Z,S),.g] ⟨h1,qzv (st:=S) (qbs cs),qzv (st:=S) (qbs [c.nw day o s ln]),h,Zu (p:=lim<((C1++c.cut s ln::C2).map clT).length+[clT (c.nw day o s ln)].length) (by rw[Qqx]; simp at hk ⊢; unfold lim; lia),i,q,gS (.bl Z) S rfl,rfl⟩
def pg_12(m)(A:FA p sz day (voD vs) jo cs ro S)(hz:cs.map Cl.z=(C1++c.cut s ln::C2++[c.nw day o s ln]).map Cl.z)(b:cs.length<1000)(hd:∀x∈cs,x.ds.length<1000):stepEx (RL (callD fns (m+10))) (pgZ p.a day C1 C2 c l (yrs (C1++c::C2)) x6 s ln o) S pg12=Y (.rt (.bl Z),S):=by
 have hk:=z_len hz;have h:(RL (callD fns (m+10))).ev (pgZ p.a day C1 C2 c l (yrs (C1++c::C2)) x6 s ln o) S plE=Y (.lst (cs.map λc=>O c.nm),S):=by
  rw[<- z_nm hz];exact pl_ok m (qxt λ_ _=>rfl) (by rw[Qqx]; lia)
 have h1:=qet (sr:=[J,Y 0]) (rst:=[Y (Y1 p.a)]) (elt:=.gc (.mcall 642 44 "years" (.var 1) [.var 0])) cs (λc=>D.int c.nm) yrD h (by unfold lim; lia) rfl λx a=>qzb 0 [44] 10 (λq=>_/\_/\_/\q) [.r (p.fc sz day),.c (Y1 S.length,S++[x.dl]),.l (x.ds.map O)] ⟨A.hf,qwm (m+8) A a,qzv (st:=S) (nlI x.ds),rfl⟩;have e:(C1++c::C2).map yrD++[yrD c]=cs.map yrD:=by
  rw[zmap hz (f:=yrD) λ_=>rfl];simp;exact⟨rfl,rfl⟩
 have q:callD fns (m+10) 48 [.lst (cs.map yrD),.lst ((C1++c::C2).map yrD++[yrD c])] S=Y (.bl Z,S):=by
  rw[e];exact qxr (k:=2) (.lst (λd a=>by obtain⟨x,g,rfl⟩:=Qqk.mp a; exact dq_i x.ds (hd x g)) (by rw[Qqx]; exact b)) (m+7) S
 have i:gcD S (Y1 S.length,S++[Y4 Z ((C1++c::C2).map yrD++[yrD c])])=(.lst ((C1++c::C2).map yrD++[yrD c]),S):=qzv (by rw[e]; exact qbr cs);have hi:idxD S (yrs (C1++c::C2)) (O (C1.length:B))=Y (yrD c):=by
  show atI ((C1++c::C2).map yrD) _=_;rw[Qqd];exact qyv
 exact qzf 0 [48] 10 (.rt (.bl Z),S) (λq=>_/\_/\_/\_/\_/\_/\_/\q) [.c (Y1 S.length,S++[Y4 Z (cs.map yrD)]),.l (cs.map yrD),.i (yrD c),.l [yrD c],.b Y6,.l ((C1++c::C2).map yrD++[yrD c]),.c (.bl Z,S)] ⟨h1,qzv (st:=S) (qbr cs),hi,qzv (st:=S) (qbr [c]),Zu (p:=lim<((C1++c::C2).map yrD).length+[yrD c].length) (by rw[Qqx]; simp at hk ⊢; unfold lim; lia),i,q,rfl⟩
end
def in_row(h:st[l]?=Y (Y4 Z (rowD Q))):cmpD st .In (O n) (Y1 l)=Y (decide (n∈Q)):=by
 have f:∀l:L B,flats 9 (rowD l)=true:=λl=>by
  induction l with
  |nil=>rfl
  |cons a r b=>show(flat 9 (O a)&&flats 9 (rowD r))=Z; rw[b]; rfl
 have g:∀l:L B,(rowD l).any (λy=>eqT y (O n))=decide (n∈l):=λl=>by
  induction l with
  |nil=>rfl
  |cons a r b=>
   show(eqT (O a) (O n)||(rowD r).any _)=_;rw[b,eqI]
   by_cases e:a=n
   ·subst e; simp
   ·rw[show(a==n)=Y6 by simpa using e]
    by_cases k:n∈r
    ·simp[k]
    ·have:n ∉ a::r:=λz=>by rcases Qqy.mp z with z|z; exact e z.symm; exact k z
     simp[k,this,Ne.symm e]
 have e:seqAt st (Y1 l)=Y (rowD Q):=by show listAt _ _=_; unfold listAt; rw[h]
 show(seqAt st (Y1 l)).bind _=_;rw[e];show(if flat 9 (O n)&&flats 9 (rowD Q) then Y ((rowD Q).any λy=>eqT y (O n)) else J)=_;rw[f,g]
 rfl
theorem qa0{R:L D}:∀A:L D,(A++x::R).take (A.length+1)++y::(A++x::R).drop (A.length+1)=A++x::y::R
 |[]=>rfl
 |a::A=>congrArg (a::·) (qa0 A)
theorem qh1:∀S:Y2,(S++[a]).set S.length b=S++[b]
 |[]=>rfl
 |x::S=>congrArg (x::·) (qh1 S)
section
variable {p:Pl}{sz:D}{day:B}{jo:L (D×D)}{ro Q:L B}{S:Y2}{cs C1 C2:L Cl}{c:Cl}{vs:L (B×D×L (B×B))}{s ln o:B}{l k:Y0}{x5:D}
def cm_st(m)(A:FA p sz day (voD vs) jo cs ro S)(nd:(cs.map (·.nm)).Nodup)(g:S[k]?=Y (Y4 Z (rowD Q)))(j:∀n∈Q,∃c∈cs,c.nm=n)(u:Q.length<1000)(r:τ[6]?=Y (Y (Y1 k)))(d:inner [J,Y 0] τ=[J,Y (Y1 p.a)]):stepEv (RL (callD fns (m+10))) τ S (.comp (.var 0) (Yd 6) (Y (.cmp .Eq (.gc (.mcall 642 43 "state" (Yd 1) [Yd 0])) (.lit (sO "stands")))) (Yd 0) [J,Y 0])=Y (Y1 S.length,S++[Y4 Z (rowD (Q.filter (stB cs day)))]):=by
 have b:rowAt S (Y1 k)=Y (rowD Q):=by show listAt S k=_; unfold listAt; rw[g]
 obtain⟨sr,h1,h2,t⟩:=qyb (c:=callD fns (m+10)) r b;have h:=qxx (elt:=Yd 0) (c:=.cmp .Eq (.gc (.mcall 642 43 "state" (Yd 1) [Yd 0])) (.lit (sO "stands"))) (sr:=[J,Y 0]) (p:=λx=>match x with|O n=>stB cs day n|_=>Y6) id h1 h2 t d (by simp; unfold lim; lia)
  (λi x f=>by
   rw[Qqb]at f;obtain⟨n,hn,rfl⟩:=Qqi.mp f;obtain⟨c,hc,rfl⟩:=j n (Qqm hn);have a:=qwo (m+8) A hc;show _=Y (stB cs day c.nm,_);rw[qvs nd hc];rcases qzr c day with⟨e,_⟩|⟨e,_⟩|⟨e,_⟩|⟨e,_⟩<;>rw[e]at a ⊢
   ·exact qze 0 [43] 10 (λq=>_/\_/\_/\q) [.r (p.fc sz day),.c (sO "unvested",S),.g] ⟨A.hf,a,gS (sO "unvested") S rfl,rfl⟩
   ·exact qze 0 [43] 10 (λq=>_/\_/\_/\q) [.r (p.fc sz day),.c (sO "stands",S),.g] ⟨A.hf,a,gS (sO "stands") S rfl,rfl⟩
   ·exact qze 0 [43] 10 (λq=>_/\_/\_/\q) [.r (p.fc sz day),.c (sO "given",S),.g] ⟨A.hf,a,gS (sO "given") S rfl,rfl⟩
   ·exact qze 0 [43] 10 (λq=>_/\_/\_/\q) [.r (p.fc sz day),.c (sO "fallen",S),.g] ⟨A.hf,a,gS (sO "fallen") S rfl,rfl⟩)
  (λi x _ _=>qjk _ _ _ _ _ rfl)
 have e:((rowD Q).filter λx=>match x with|O n=>stB cs day n|_=>Y6).map id=rowD (Q.filter (stB cs day)):=by
  rw[Qjb];unfold rowD;rw[Qjk]
  rfl
 rw[e]at h;exact h
def pg_11b(m)(A:FA p sz day (voD vs) jo cs ro S)(nd:(cs.map (·.nm)).Nodup)(d:∀n∈ro,∃c∈cs,c.nm=n)(b:ro.length<1000)(r:S[k]?=Y (Y4 Z (rowD Q)))(u:∀n∈Q,∃c∈cs,c.nm=n)(e:Q.length<1000){Af:L B}(f:Q.filter (stB cs day)=Af++c.nm::a)(t:c.nm ∉ Af)(F:ro.filter (stB cs day)=Af++c.nm::day::a):exs (stepEx (RL (callD fns (m+10)))) qlu (pgZ p.a day C1 C2 c l x5 (Y1 k) s ln o) S=Y (.nx (pgZ p.a day C1 C2 c l x5 (Y1 S.length) s ln o),S++[Y4 Z (rowD (ro.filter (stB cs day)))]):=by
 have h1:=cm_st m A nd r u e (τ:=pgZ p.a day C1 C2 c l x5 (Y1 k) s ln o) rfl rfl;rw[f]at h1;have lf:(Af++c.nm::a).length<1000:=by rw[<- f]; exact Qxz (Qzc _ _) e
 have i:(ro.filter (stB cs day)).length<1000:=Qxz (Qzc _ _) b;have g:(S++[Y4 Z (rowD (Af++c.nm::a))])[S.length]?=Y (Y4 Z (rowD (Af++c.nm::a))):=gl;have j:=qab (R:=a) t (S++[Y4 Z (rowD (Af++c.nm::a))]);have Bq:=A.app [Y4 Z (rowD (ro.filter (stB cs day)))];have w:=qvk (m+7) Bq nd d b;have z:(S++[Y4 Z (rowD (ro.filter (stB cs day)))])[S.length]?=Y (Y4 Z (rowD (ro.filter (stB cs day)))):=gl;have v:=qq2 (m+5) z i λ_ _=>Dq.int;have h:(0:B)<=(Af.length:B)+1/\(Af.length:B)+1<=((rowD (Af++c.nm::a)).length:B)/\(rowD (Af++c.nm::a)).length<lim:=by
  rw[Qqx];simp at lf ⊢;unfold lim
  lia
 have E:(rowD (Af++c.nm::a)).take ((Af.length:B)+1).toNat++O day::(rowD (Af++c.nm::a)).drop ((Af.length:B)+1).toNat=rowD (ro.filter (stB cs day)):=by
  rw[F,show((Af.length:B)+1).toNat=Af.length+1 by lia];unfold rowD;rw[Qqd,Qqd];have:=qa0 (R:=a.map D.int) (x:=O c.nm) (y:=O day) (Af.map O);rw[Qqx]at this;exact this
 have C:(pgZ p.a day C1 C2 c l x5 (Y1 S.length) s ln o,(S++[Ya.lst Z (rowD (Af++c.nm::a))]).set S.length (Y4 Z ((rowD (Af++c.nm::a)).take ((Af.length:B)+1).toNat++O day::(rowD (Af++c.nm::a)).drop ((Af.length:B)+1).toNat)))=(pgZ p.a day C1 C2 c l x5 (Y1 S.length) s ln o,S++[Y4 Z (rowD (ro.filter (stB cs day)))]):=by
  rw[E,qh1]
 exact qz7 0 [48,45] 10 (λq=>_/\_/\_/\_/\_/\_/\_/\_/\_/\_/\_/\_/\_/\q) [.c (Y1 S.length,S++[Y4 Z (rowD (Af++c.nm::a))]),.r (Y4 Z (rowD (Af++c.nm::a))),.r (Y4 Z (rowD (Af++c.nm::a))),.r (Y4 Z (rowD (Af++c.nm::a))),.c (O (Af.length:B),S++[Y4 Z (rowD (Af++c.nm::a))]),.r (Y4 Z (rowD (Af++c.nm::a))),.b Z,.e (pgZ p.a day C1 C2 c l x5 (Y1 S.length) s ln o,S++[Y4 Z (rowD (ro.filter (stB cs day)))]),.r (p.fc sz day),.c (Y1 (S++[Ya.lst Z (rowD (ro.filter (stB cs day)))]).length,S++[Y4 Z (rowD (ro.filter (stB cs day)))]++[Y4 Z (rowD (ro.filter (stB cs day)))]),.l (rowD (ro.filter (stB cs day))),.c (.bl Z,S++[Y4 Z (rowD (ro.filter (stB cs day)))]),.g] ⟨h1,g,g,g,j,g,Zs h,C,Bq.hf,w,qzv (st:=S++[Y4 Z (rowD (ro.filter (stB cs day)))]) (nlI (ro.filter (stB cs day))),v,gS (.bl Z) (S++[Y4 Z (rowD (ro.filter (stB cs day)))]) rfl,rfl⟩
def pg_11(m)(A:FA p sz day (voD vs) jo cs ro S)(nd:(cs.map (·.nm)).Nodup)(a:∀n∈ro,∃c∈cs,c.nm=n)(b:ro.length<1000)(g:S[k]?=Y (Y4 Z (rowD Q)))(t:∀n∈Q,∃c∈cs,c.nm=n)(r:Q.length<1000)(hi:S[l]?=Y (Y4 Z ((C1++c.cut s ln::C2).map clT)))(e:day<=c.la)(i:c.nm∈Q->∃Af f,Q.filter (stB cs day)=Af++c.nm::f/\c.nm ∉ Af/\ro.filter (stB cs day)=Af++c.nm::day::f):∃x6 X,stepEx (RL (callD fns (m+10))) (pgZ p.a day C1 C2 c l x5 (Y1 k) s ln o) S pg11=Y (.nx (pgZ p.a day C1 C2 c l x5 x6 s ln o),S++X):=by
 have h1:=in_row (n:=c.nm) g
 by_cases d:c.nm∈Q
 ·obtain⟨Af,f,v,hn,u⟩:=i d;have hb:=pg_11b (C1:=C1) (C2:=C2) (s:=s) (ln:=ln) (o:=o) (l:=l) (x5:=x5) m A nd a b g t r v hn u;rw[Zs d]at h1;have h:idxD S (Y1 l) (O (C1.length:B))=Y (clT (c.cut s ln)):=ixm hi (by rw[Qqd]; exact qyv);have j:(RL (callD fns (m+10))).tst (pgZ p.a day C1 C2 c l x5 (Y1 k) s ln o) S (.and (.cmp .In (.idx (Yd 2) (.lit (O 1))) (Yd 6)) (.cmp .GtE (.idx (.idx (Yd 4) (Yd 7)) (.lit (O 2))) (Yd 1)))=Y (Z,S):=qze 0 [] 10 (λq=>_/\_/\_/\q) [.b Z,.i (clT (c.cut s ln)),.b Z] ⟨h1,h,Zs e,rfl⟩;refine⟨Y1 S.length,[Y4 Z (rowD (ro.filter (stB cs day)))],?_⟩;show((RL (callD fns (m+10))).tst _ S _).bind _=_;rw[j];show(RL (callD fns (m+10))).ex _ S qlu=_;exact qgz _ _ _ _ _ hb
 ·rw[Zu d]at h1;exact⟨Y1 k,[],qzf 0 [] 10 (.nx (pgZ p.a day C1 C2 c l x5 (Y1 k) s ln o),S) (λq=>_/\q) [.b Y6] ⟨h1,by rw[Qze]⟩⟩
end
def qht(c)(day):stW c day = "stands" ↔ c.v≠J/\c.gv=J/\day<=c.la:=by
 rcases qzr c day with⟨e,h⟩|⟨e,h⟩|⟨e,h⟩|⟨e,h,_⟩<;>rw[e]
 ·exact⟨λz=>absurd z (by decide),λz=>absurd h.1 z.1⟩
 ·exact⟨λ_=>h,λ_=>rfl⟩
 ·exact⟨λz=>absurd z (by decide),λz=>absurd z.2.1 h⟩
 ·exact⟨λz=>absurd z (by decide),λz=>absurd z.2.2 (by lia)⟩
def Tr.inv_part{T day:B}{i e:L Cl}{ro ro':L B}{n s l o:B}{w:String}(h:Tr T day i ro (ptF n s l o) w e ro'):(e=i/\ro'=ro/\(w = "noclaim"\/w = "ended"\/w = "nocut"))\/(w = "good"/\∃c∈i,c.nm=n/\¬ K18.over day c/\(c.v=J/\ro'=ro\/∃x A R,c.v=Y x/\ro=A++c.nm::R/\c.nm ∉ A/\ro'=A++c.nm::day::R)/\e=upd i { c with g:=aG c.g s l }++[⟨day,0,o,bG c.g s l,c.ds,c.la,c.v,J⟩]):=by
 generalize hf:ptF n s l o=f at h;have len:=congrArg (λd:D=>match d with|Y9 l=>l.length|_=>0) hf
 cases h with
 |no h=>exact .inl ⟨rfl,rfl,.inl rfl⟩
 |over h _=>exact .inl ⟨rfl,rfl,.inr (.inl rfl)⟩
 |work=>exact absurd (show(5:Y0)=2 from len) (by decide)
 |give=>exact absurd (show(5:Y0)=2 from len) (by decide)
 |sell=>exact absurd (show(5:Y0)=3 from len) (by decide)
 |nocut=>exact .inl ⟨rfl,rfl,.inr (.inr rfl)⟩
 |@part c s' k o' a b _ hc j hs h hr=>
  unfold ptF at hf;cases hf;rw[qer]at h
  split at h
  ·cases h;exact .inr ⟨rfl,c,hc,rfl,j,hr,rfl⟩
  ·cases h
def qk1{R:L B}(h:p n=Z):(A++n::R).filter p=A.filter p++n::R.filter p:=by
 rw[Qxx,Qx6,Z2 h]
def qf9(hd:d<day)(nd:((C1++c::C2).map (·.nm)).Nodup)(e:(cs.map (·.nm)).Nodup)(k:¬ over day c)(hz:cs.map Cl.z=(C1++c.cut s ln::C2++[c.nw day o s ln]).map Cl.z)(i:∀n∈ro,∃x∈C1++c::C2,x.nm=n)(hr:c.v=J/\ro'=ro\/∃x A R,c.v=Y x/\ro=A++c.nm::R/\c.nm ∉ A/\ro'=A++c.nm::day::R)(q:c.nm∈ro.filter (stB (C1++c::C2) d)):∃Af Rf,(ro.filter (stB (C1++c::C2) d)).filter (stB cs day)=Af++c.nm::Rf/\c.nm ∉ Af/\ro'.filter (stB cs day)=Af++c.nm::day::Rf:=by
 have g:c.gv=none:=Classical.byContradiction λz=>k (.inl z);have f:day<=c.la:=by have:¬ c.la<day:=λz=>k (.inr z); lia
 have t:cs.map (·.nm)=(C1++c.cut s ln::C2++[c.nw day o s ln]).map (·.nm):=zmap hz λ_=>rfl;rw[t]at e;rw[stB_z hz];have b0:∀x∈C1++c.cut s ln::C2++[c.nw day o s ln],(stB (C1++c.cut s ln::C2++[c.nw day o s ln]) day x.nm=Z↔x.v≠J/\x.gv=J/\day<=x.la):=λx a=>by
  rw[qvs e a,decide_eq_true_iff];exact qht x day
 have b1:∀x∈C1++c::C2,(stB (C1++c::C2) d x.nm=Z↔x.v≠J/\x.gv=J/\d<=x.la):=λx a=>by
  rw[qvs nd a,decide_eq_true_iff];exact qht x d
 have hc:c∈C1++c::C2:=Qqh _ (.head _);have hv:=((b1 c hc).mp (Qzt.mp q).2).1;rcases hr with⟨h,_⟩|⟨x,A,R,_,rfl,r,rfl⟩
 ·exact absurd h hv
 have j:stB (C1++c.cut s ln::C2++[c.nw day o s ln]) day c.nm=true:=(b0 (c.cut s ln) (Qq5 _ (Qqh _ (.head _)))).mpr ⟨hv,g,f⟩;have m:stB (C1++c.cut s ln::C2++[c.nw day o s ln]) day day=true:=(b0 (c.nw day o s ln) (Qqh _ (.head _))).mpr ⟨hv,g,f⟩;have l:∀n∈A++c.nm::R,stB (C1++c.cut s ln::C2++[c.nw day o s ln]) day n=Z->stB (C1++c::C2) d n=true:=λn hn hb=>by
  obtain⟨x,a,rfl⟩:=i n hn;have:∃y∈C1++c.cut s ln::C2++[c.nw day o s ln],y.nm=x.nm/\y.v=x.v/\y.gv=x.gv/\y.la=x.la:=by
   rcases Qqs.mp a with z|z
   ·exact⟨x,Qq5 _ (Qq5 _ z),rfl,rfl,rfl,rfl⟩
   ·rcases Qqy.mp z with rfl|z
    ·exact⟨x.cut s ln,Qq5 _ (Qqh _ (.head _)),rfl,rfl,rfl,rfl⟩
    ·exact⟨x,Qq5 _ (Qqh _ (.tail _ z)),rfl,rfl,rfl,rfl⟩
  obtain⟨y,p,C,w,v,u⟩:=this;rw[<- C]at hb;have:=(b0 y p).mp hb;rw[w,v,u]at this;exact(b1 x a).mpr ⟨this.1,this.2.1,by lia⟩
 generalize stB (C1++c.cut s ln::C2++[c.nw day o s ln]) day=b at *;refine⟨A.filter b,R.filter b,?_,λz=>r (Qzt.mp z).1,?_⟩
 ·rw[List.filter_filter,<- qk1 j];refine List.filter_congr λn hn=>?_
  cases hb:b n with
  |false=>rfl
  |true=>rw[l n hn hb]; rfl
 ·rw[qk1 j,Qx6,Z2 m]
def Inv.far{Bq:Y0}(h:InvK K Bq rest cs)(hi:rest.length<=i):∀c∈cs,i≠c.j/\i≠c.j+1:=λc hc=>by
 have h1:=(Qqj.mp (h.at_ c hc).1).1;have h2:=(Qqj.mp (h.at_ c hc).2).1;exact⟨by lia,by lia⟩
section
variable {Z3:Zt}{T d day:B}{jo:L (D×D)}{ro ro':L B}{r':Y2}{cs' C1 C2:L Cl}{c:Cl}{vs:L (B×D×L (B×B))}{s ln o:B}{k Bq:Y0}
def qlt(m:Y0)(hs:s=0\/s=1)(hd:d<day)(nd:((C1++c::C2).map (·.nm)).Nodup)(I:Inv Bq r' cs')(hk:∀x∈cs',k≠x.j/\k≠x.j+1)(w:r'[k]?=Y (Y4 Z ((C1++c::C2).map clT)))(S:r'[k+1]?=Y (Y4 Z (rowD (ro.filter (stB (C1++c::C2) d)))))(hz:cs'.map Cl.z=(C1++c.cut s ln::C2++[c.nw day o s ln]).map Cl.z)(u:¬ over day c)(h:cs'.length<1000)(Q:∀x∈cs',x.ds.length<1000)(f:∀n∈ro,∃x∈C1++c::C2,x.nm=n)(b:∀n∈ro',∃x∈cs',x.nm=n)(p:ro.length<1000)(g:ro'.length<1000)(hr:c.v=J/\ro'=ro\/∃x A R,c.v=Y x/\ro=A++c.nm::R/\c.nm ∉ A/\ro'=A++c.nm::day::R):∃X,exs (stepEx (RL (callD fns (m+10)))) (pgM++[pg9,pg10,pg11,pg12]) (pgT 0 day (ptF c.nm s ln o) (cnD (C1++c::C2)) (Y1 (k+8)) (yrs (C1++c::C2)) (Y1 (k+8+1)) J J J J) (FC Z3 T day (voD vs) jo cs' ro' r')=Y (.rt (.bl Z),FC Z3 T day (voD vs) jo cs' ro' (r'.set k (Y4 Z ((C1++c.cut s ln::C2).map clT))++X)):=by
 have E:(FC Z3 T day (voD vs) jo cs' ro' r')[k+8]?=Y (Y4 Z ((C1++c::C2).map clT)):=w;have p1:=pg_m (day:=day) (a:=0) (x5:=yrs (C1++c::C2)) (x6:=Y1 (k+8+1)) (ln:=ln) (o:=o) m hs nd E;have p2:=pg_9 (day:=day) (a:=0) (x5:=yrs (C1++c::C2)) (x6:=Y1 (k+8+1)) (s:=s) (ln:=ln) (o:=o) m E [G4 (aG c.g s ln),G4 (bG c.g s ln)];have K:k<r'.length:=(Qqj.mp w).1;have i:=(I.other hk (Y4 Z ((C1++c.cut s ln::C2).map clT))).more [G4 (aG c.g s ln),G4 (bG c.g s ln)];have A:=qee (sz:=Z3) (T:=T) (d:=day) (fo:=voD vs) (jo:=jo) (ro:=ro') i;have t:(r'.set k (Y4 Z ((C1++c.cut s ln::C2).map clT))++[G4 (aG c.g s ln),G4 (bG c.g s ln)])[k]?=Y (Y4 Z ((C1++c.cut s ln::C2).map clT)):=ga _ (by rw[Qq2 K]);have C:(r'.set k (Y4 Z ((C1++c.cut s ln::C2).map clT))++[G4 (aG c.g s ln),G4 (bG c.g s ln)])[k+1]?=Y (Y4 Z (rowD (ro.filter (stB (C1++c::C2) d)))):=ga _ (by rw[Qqa (by lia)]; exact S);have U:∀n,(∃x∈C1++c::C2,x.nm=n)->∃x∈cs',x.nm=n:=λn ⟨x,P,e⟩=>by
  have q:=z_nm hz;have:D.int n∈cs'.map λc=>D.int c.nm:=by rw[<- q,<- e]; exact Qq5 _ (Qqk.mpr ⟨x,P,rfl⟩)
  obtain⟨y,N,e⟩:=Qqk.mp this;exact⟨y,N,by cases e; rfl⟩
 have r:day<=c.la:=by have:¬ c.la<day:=λz=>u (.inr z); lia
 generalize v:r'.set k (Y4 Z ((C1++c.cut s ln::C2).map clT))++[G4 (aG c.g s ln),G4 (bG c.g s ln)]=R at A t C i;have H:=pg_10 (x5:=yrs (C1++c::C2)) (x6:=Y1 (k+8+1)) (l:=k+8) m A hz h t;obtain⟨x6,X,G⟩:=pg_11 (x5:=yrs (C1++c::C2)) (l:=k+8) (k:=k+8+1) (o:=o) m A i.nd b g C (λn hn=>U n (f n (Qzt.mp hn).1)) (Qxz (Qzc ..) p) t r (qf9 hd nd i.nd u hz f hr);have F:=pg_12 (x6:=x6) (l:=k+8) m (A.app X) hz h Q;refine⟨[G4 (aG c.g s ln),G4 (bG c.g s ln)]++X,qqh p1 ?_⟩;rw[<- Qq7,v];have j:stepEx (RL (callD fns (m+10))) (pgZ 0 day C1 C2 c (k+8) (yrs (C1++c::C2)) (Y1 (k+8+1)) s ln o) (FC Z3 T day (voD vs) jo cs' ro' r'++[G4 (aG c.g s ln),G4 (bG c.g s ln)]) pg9=Y (.nx (pgZ 0 day C1 C2 c (k+8) (yrs (C1++c::C2)) (Y1 (k+8+1)) s ln o),FC Z3 T day (voD vs) jo cs' ro' R):=by
  rw[p2,<- v]
  rfl
 rw[qzl j,qzl H,qzl G];exact qyt F
end
section
variable {Z3:Zt}{W H P T d day:B}{jo:L (D×D)}{ro:L B}{rest:Y2}{cs:L Cl}{vs:L (B×D×L (B×B))}{n s ln o:B}{Bq:Y0}
def qbp(m)(hZ:Z3.s=szD W H P)(I:Inv Bq rest cs)(hB:Bq<=rest.length)(hd:d<day)(d1:1<=day)(d2:day<=400)(hr:ro.length+cs.length<900)(h9:∀c∈cs,c.ds.length<899)(Rw:RowI d cs ro)(G:∀c∈cs,ChI T c)(hs:s=0\/s=1)(U:1<=o/\o<=40)(hS:∀m st,callD fns (m+6) 26 [szD W H P,ptF n s ln o] st=Y (.bl Z,st)):
  ∃w cs' ro' rest',callD fns (m+11) 71 [Y1 0,O day,ptF n s ln o] (FC Z3 T d (voD vs) jo cs ro rest)=Y (.bl Z,FC Z3 T day (voD vs) jo cs' ro' rest')/\Inv Bq rest' cs'/\Op day cs ro cs' ro'/\rest'.take Bq=rest.take Bq/\rest.length<=rest'.length/\(∀c∈cs',∃x,x.ds.length<=c.ds.length/\c.ds.length<=x.ds.length+1/\x∈cs)/\Tr T day (cs.map Cl.z) ro (ptF n s ln o) w (cs'.map Cl.z) ro'/\Fz cs rest rest':=by
 have A0:=qee (sz:=Z3) (T:=T) (d:=d) (fo:=voD vs) (jo:=jo) (ro:=ro) I;have E:=pg_a (day:=day) (f:=ptF n s ln o) (m+7) A0 I.nd Rw.in1 (by lia) (by lia);obtain⟨L1,u⟩:∃L1:Ya,L1=Y4 Z (cs.map clT):=⟨_,rfl⟩
 obtain⟨L2,e2⟩:∃L2:Ya,L2=Y4 Z (rowD (ro.filter (stB cs d))):=⟨_,rfl⟩
 rw[<- u,<- e2]at E;have I1:=I.more [L1,L2];obtain⟨w,cs',ro',r',hc,a,v,tk,S,p,A,fz⟩:=qkj (T:=T) (d:=day) (fo:=voD vs) (jo:=jo) (m+4) I1 (by simp; lia) d day hd hr h9 Rw G (CF'.part n s ln o hs U);have V:=qxl (sz:=Z3) (m+3) d1 d2 hd (by rw[hZ]; exact hS (m+3) (FC Z3 T d (voD vs) jo cs ro (rest++[L1,L2]))) (qyw (m+4) (CF'.part n s ln o hs U) (hc Z3));have A1:=qee (sz:=Z3) (T:=T) (d:=day) (fo:=voD vs) (jo:=jo) (ro:=ro') a;have A2:=qee (sz:=Z3) (T:=T) (d:=d) (fo:=voD vs) (jo:=jo) (ro:=ro) I1;have b:r'[rest.length]?=Y L1:=(fz _ (by simp) (Inv.far I (Qqv _))).trans (by simp);have N:r'[rest.length+1]?=Y L2:=(fz _ (by simp) (Inv.far I (by lia))).trans (by simp);have S:rest.length+2<=r'.length:=by simpa using S
 have r:Fz cs rest r':=λi hi hc=>by rw[fz i (by simp; lia) hc,Qqr hi]
 have g:r'.take Bq=rest.take Bq:=by rw[tk,Qz9 hB]
 have RI:=qv8 hd Rw v;have on:=qv9 v;rcases A.inv_part with⟨hz,rfl,hw⟩|⟨rfl,c0,K,Q,j,h,hz⟩
 ·have C:=qgc (x5:=yrs cs) (x6:=Y1 (rest.length+8+1)) (l:=rest.length+8) (p':=P0 T cs') m A2.hf rfl hw V A1 hz (by lia) (by rw[<- u]; exact b);exact⟨w,cs',ro',r',qqu qkp rfl (qqh E (qyt C)),a,v,g,by lia,p,A,r⟩
 ·obtain⟨c,q,rfl⟩:=Qqk.mp K;have Q:c.nm=n:=Q;subst Q;obtain⟨C1,C2,t⟩:=List.append_of_mem q;have hg:c.gv=none:=Classical.byContradiction λz=>j (.inl z);have nd:=I.nd;rw[t]at nd;have F:cs'.map Cl.z=(C1++c.cut s ln::C2++[c.nw day o s ln]).map Cl.z:=by
   rw[hz,Qqd (l₁:=C1++c.cut s ln::C2),<- qk9 (c:=c) (c':=c.cut s ln) rfl nd,qk8,t];show _++[_]=_++[_];unfold Cl.nw;rw[hg]
   rfl
  have hk:∀x∈cs',rest.length≠x.j/\rest.length≠x.j+1:=λx y=>by
   have h1:=(a.at_ x y).1;have h2:=(a.at_ x y).2;refine⟨λe=>?_,λe=>?_⟩
   ·rw[<- e,b,u]at h1;have h1:cs.map clT=x.ds.map O:=by injection h1 with h1; injection h1
    have:clT c∈x.ds.map D.int:=by rw[<- h1]; exact Qqk.mpr ⟨c,q,rfl⟩
    obtain⟨i,_,e⟩:=Qqk.mp this;cases e
   ·rw[<- e,b,u]at h2;cases h2
  have C:=qgd (x3:=cnD cs) (x4:=Y1 (rest.length+8)) (x5:=yrs cs) (x6:=Y1 (rest.length+8+1)) m A2.hf V;rw[u]at b;rw[e2]at N;rw[t]at b N;have R1:=Rw.in1;rw[t]at R1;obtain⟨X,R⟩:=qlt (Z3:=Z3) (T:=T) (jo:=jo) (vs:=vs) (ro:=ro) (ro':=ro') (k:=rest.length) m hs hd nd a hk b N F j (by lia) (λx y=>by have:=(a.ne x y).2; lia) R1 RI.in1 (by lia) (by lia) h;rw[<- t]at R;refine⟨"good",cs',ro',_,qqu qkp rfl (qqh E ((qzl C).trans R)),(a.other hk _).more X,v,?_,by simp; lia,p,A,λi hi hc=>?_⟩
  ·rw[Qz9 (by simp; lia),List.take_set,List.set_eq_of_length_le (by simp; lia),g]
  ·rw[Qqr (by simp; lia),Qqa (by lia)];exact r i hi hc
end
noncomputable def insA(n day:B):L B->L B
 |[]=>[]
 |x::r=>if x=n then x::day::r else x::insA n day r
theorem qa1{R:L B}:∀{A},n ∉ A->insA n day (A++n::R)=A++n::day::R
 |[],_=>Z2 rfl
 |a::A,h=>by
  show(if a=n then _ else a::insA n day (A++n::R))=_;rw[Z1 λe=>h (by rw[e]; exact .head _),qa1 λz=>h (.tail _ z)]
  rfl
open Classical in
noncomputable def trO(T day:B)(zs:L Cl)(ro:L B)(f:D):String×L Cl×L Int:=match f with
 |.tup (.str v::.int n::r)=>match zs.find? λc=>c.nm==n with
  |none=>("noclaim",zs,ro)
  |some c=>if over day c then("ended",zs,ro) else match r with
   |[]=>if MS.sq v "work" then("good",upd zs { c with ds:=c.ds++[day],la:=day+T },ro) else("good",upd zs { c with gv:=Y day },ro)
   |[.int o]=>("good",upd zs { c with o:=o },ro)
   |[.int s,.int l,.int o]=>match cutG c.g s l with
    |none=>("nocut",zs,ro)
    |some (a,b)=>("good",upd zs { c with g:=a }++[⟨day,0,o,b,c.ds,c.la,c.v,J⟩],match c.v with|none=>ro|some _=>insA c.nm day ro)
   |_=>("",zs,ro)
 |_=>("",zs,ro)
def qx1{cs:L Cl}(d:(cs.map (·.nm)).Nodup)(hc:c∈cs):cs.find? (λx=>x.nm==c.nm)=Y c:=by
 induction cs with
 |nil=>cases hc
 |cons a r f=>
  rw[Qqp,Qzy]at d;rw[Qzv];rcases Qqy.mp hc with rfl|b
  ·simp
  ·have e:(a.nm==c.nm)=false:=by
    rw[beq_eq_false_iff_ne];exact λe=>d.1 (Qqk.mpr ⟨c,b,e.symm⟩)
   rw[e];exact f d.2 b
def Tr.fn{T:B}(nd:(d.map (·.nm)).Nodup)(h:Tr T day d ro f w i ro'):trO T day d ro f=(w,i,ro'):=by
 cases h with
 |@no n w r h=>
  have:d.find? (λc=>c.nm==n)=none:=Qje.mpr λc hc=>by simpa using h c hc
  show(match d.find? λc=>c.nm==n with|none=>_|some c=>_)=_;rw[this]
 |@over c w r hc g=>
  show(match d.find? λx=>x.nm==c.nm with|none=>_|some c=>_)=_;rw[qx1 nd hc];exact Z2 g
 |@work c hc g=>
  show(match d.find? λx=>x.nm==c.nm with|none=>_|some c=>_)=_;rw[qx1 nd hc];exact(Z1 g).trans rfl
 |@give c hc g=>
  show(match d.find? λx=>x.nm==c.nm with|none=>_|some c=>_)=_;rw[qx1 nd hc];exact(Z1 g).trans rfl
 |@sell c o hc g=>
  show(match d.find? λx=>x.nm==c.nm with|none=>_|some c=>_)=_;rw[qx1 nd hc];exact(Z1 g).trans rfl
 |@nocut c s l o hc g hs h=>
  show(match d.find? λx=>x.nm==c.nm with|none=>_|some c=>_)=_;rw[qx1 nd hc];refine(Z1 g).trans ?_;show(match cutG c.g s l with|none=>_|some (a,b)=>_)=_;rw[h]
 |@part c s l o a b _ hc g hs h hr=>
  show(match d.find? λx=>x.nm==c.nm with|none=>_|some c=>_)=_;rw[qx1 nd hc];refine(Z1 g).trans ?_;show(match cutG c.g s l with|none=>_|some (a,b)=>_)=_;rw[h];rcases hr with⟨e,rfl⟩|⟨x,A,R,e,rfl,j,rfl⟩
  ·show(_,_,(match c.v with|none=>ro'|some _=>insA c.nm day ro'))=_;rw[e]
  ·show(_,_,(match c.v with|none=>_|some _=>insA c.nm day (A++c.nm::R)))=_;rw[e,qa1 j]
def Tr.det{T:B}(nd:(a.map (·.nm)).Nodup)(i:Tr T day a ro f e c g)(h:Tr T day a ro f d b r2):e=d/\c=b/\g=r2:=by
 have:=(i.fn nd).symm.trans (h.fn nd);simpa using this
def qjg{Bq:Y0}{S:Y2}(I:Inv Bq S cs)(g:InvM Bq S ms)(hc:c∈cs)(f:x∈ms):c.j≠x.j/\c.j≠x.j+1/\c.j+1≠x.j/\c.j+1≠x.j+1:=by
 have a:=(I.at_ c hc).1;have b:=(I.at_ c hc).2;have b1:=(g.at_ x f).1;have b2:=(g.at_ x f).2;have d:c.j+1≠x.j+1:=λe=>by rw[e,b2]at b; cases b
 refine⟨λe=>d (by rw[e]),λe=>?_,λe=>?_,d⟩
 ·rw[e,b2]at a;have a:[D.int x.o,rD x.g,O x.la,oD x.v,oD x.gv,Y1 (x.j+8)]=c.ds.map O:=by injection a with a; injection a
  have:rD x.g∈c.ds.map D.int:=by rw[<- a]; exact .tail _ (.head _)
  obtain⟨i,_,e⟩:=Qqk.mp this;cases e
 ·rw[e,b1]at b;cases b
def InvK.fz{Bq:Y0}(d:InvK K Bq rest ms)(h:Fz cs rest a)(e:∀c∈cs,∀x∈ms,x.j≠c.j/\x.j≠c.j+1/\x.j+1≠c.j/\x.j+1≠c.j+1):InvK K Bq a ms:=
 ⟨d.lo,λx b=>by
  obtain⟨h1,h2⟩:=d.at_ x b;have g:=(Qqj.mp h1).1;have f:=(Qqj.mp h2).1
  exact⟨(h _ g λc hc=>⟨(e c hc x b).1,(e c hc x b).2.1⟩).trans h1,(h _ f λc hc=>⟨(e c hc x b).2.2.1,(e c hc x b).2.2.2⟩).trans h2⟩,d.pw,d.ne,d.nd⟩
section
variable {sz sz':D}{T T' d d':B}{ro ro':L B}{fo fo' jo jo' bo bo':L (D×D)}{pl pl':L D}{r r':Y2}{cs ms:L Cl}
def InvK.fm(I:InvK K 8 (M8 sz T d ro fo jo bo pl r) cs)(h:Fm ms r r')(l:∀c∈cs,∀x∈ms,c.j≠x.j/\c.j≠x.j+1/\c.j+1≠x.j/\c.j+1≠x.j+1):InvK K 8 (M8 sz' T' d' ro' fo' jo' bo' pl' r') cs:=
 ⟨I.lo,λc hc=>by
  obtain⟨h1,h2⟩:=I.at_ c hc;obtain⟨i,e⟩:∃i,c.j=i+8:=⟨c.j - 8,by have:=I.lo c hc; lia⟩
  have a:=l c hc;rw[e]at h1 h2 a ⊢;have h1:r[i]?=Y c.dl:=h1;have h2:r[i+1]?=Y (K c):=h2;have g:=(Qqj.mp h1).1;have f:=(Qqj.mp h2).1;have k:r'[i]?=r[i]?:=h.2 i g λx b=>⟨(a x b).1,(a x b).2.1⟩
  have j:r'[i+1]?=r[i+1]?:=h.2 (i+1) f λx b=>by have:=a x b; exact⟨by lia,by lia⟩
  exact⟨k.trans h1,j.trans h2⟩,I.pw,I.ne,I.nd⟩
def qi6{R:Y2}(h:R.take 8=(M8 sz T d ro fo jo bo pl r).take 8):∃r',R=M8 sz T d ro fo jo bo pl r':=by
 refine⟨R.drop 8,?_⟩;have:=(Qz3 8 R).symm;rw[h]at this;exact this
end
def Tr.nms{T:B}(h:Tr T day b ro f w a ro'):a.map (·.nm)=b.map (·.nm)\/a.map (·.nm)=b.map (·.nm)++[day]:=by
 cases h with
 |no=>exact .inl rfl
 |over=>exact .inl rfl
 |work=>exact .inl qxv
 |give=>exact .inl qxv
 |sell=>exact .inl qxv
 |nocut=>exact .inl rfl
 |part=>exact .inr (by rw[Qqd,qxv]; rfl)
def Tr.chi{T:B}(h:Tr T day i ro f w e ro')(hc:∀c∈i,ChI T c)(j:∀c∈i,c.ds≠[]):∀c∈e,ChI T c:=by
 cases h with
 |no=>exact hc
 |over=>exact hc
 |@work c d g=>
  refine qq0 hc ?_;have h:=hc c d;have:day<=thr T c.ds:=by rw[<- h.2]; have:¬ c.la<day:=λz=>g (.inr z); lia
  have:=qcp (j c d) h.1 this;exact⟨this.1,this.2.symm⟩
 |@give c d g=>exact qq0 hc (hc c d)
 |@sell c o d g=>exact qq0 hc (hc c d)
 |nocut=>exact hc
 |@part c s l o a b _ d g hs h hr=>exact qx3 (qq0 hc (hc c d)) (hc c d)
structure Pu (k:Y0) (T d:B) (vs:L (B×D×L (B×B))) (jo:L (D×D)) (cs:L Cl) (ro:L B):Prop where
 R:RowI d cs ro
 ch:∀c∈cs,ChI T c
 up:(cs.map (·.nm)).Pairwise (· < ·)
 cl:cs.length<=k
 rl:ro.length<=25*k
 dl:∀c∈cs,c.ds.length<=k
 vl:vs.length<=k
 vn:(vs.map (·.1)).Pairwise (· < ·)
 vd:∀v∈vs,v.1<=d
 V:VsOk vs
 jl:jo.length<=k
 jv:JoI jo
def qyd{l:L B}(h:l.Pairwise (· < ·))(c:∀x∈l,x<=d)(hd:d<day):(l++[day]).Pairwise (· < ·):=by
 rw[List.pairwise_append];refine⟨h,Qj0 _ _,λa e b hb=>?_⟩;cases Qqc.mp hb;have:=c a e
 lia
section
variable {k:Y0}{T d day:B}{vs:L (B×D×L (B×B))}{jo:L (D×D)}{cs cs':L Cl}{ro ro':L B}
def Pu.nms(h:Pu k T d vs jo cs ro):∀x∈cs.map (·.nm),x<=d:=λx a=>by obtain⟨c,hc,rfl⟩:=Qqk.mp a; exact h.R.le c hc
def Pu.claim(h:Pu k T d vs jo cs ro)(hk:k<24)(hd:d<day)(m:∀c∈cs,c.ds≠[])(j:Op day cs ro cs' ro')(i:Tr T day (cs.map Cl.z) ro f w (cs'.map Cl.z) ro')(g:∀c∈cs',∃x,x.ds.length<=c.ds.length/\c.ds.length<=x.ds.length+1/\x∈cs):Pu (k+1) T day vs jo cs' ro':=by
 have on:=qv9 j;have:=h.cl;have:=h.rl;refine⟨qv8 hd h.R j,λc hc=>?_,?_,by lia,by lia,λc hc=>?_,by have:=h.vl; lia,h.vn,λv hv=>by have:=h.vd v hv; lia,h.V,by have:=h.jl; lia,h.jv⟩
 ·have:=i.chi (λx a=>by obtain⟨y,b,rfl⟩:=Qqk.mp a; exact h.ch y b) (λx a=>by obtain⟨y,b,rfl⟩:=Qqk.mp a; exact m y b) c.z (Qqk.mpr ⟨c,hc,rfl⟩);exact this
 ·have e:∀l:L Cl,(l.map Cl.z).map (·.nm)=l.map (·.nm):=λl=>by rw[Qqf]; rfl
  have:=i.nms;rw[e,e]at this;rcases this with e|e<;>rw[e]
  ·exact h.up
  ·exact qyd h.up h.nms hd
 ·obtain⟨x,_,h2,a⟩:=g c hc;have:=h.dl x a
  lia
theorem Pu.vein(h:Pu k T d vs jo cs ro)(hk:k<24)(hd:d<day){ss:L B}(hs:ss.length<1000)(e:ps.length<=16):Pu (k+1) T day (vs++[(day,Y9 (ss.map O),ps)]) jo (cs.map (vst day ps)) (ro++(cs.filter (hit day ps)).map (·.nm)):=by
 have b:Op day cs ro (cs.map (vst day ps)) (ro++(cs.filter (hit day ps)).map (·.nm)):=.vein ps;have on:=qv9 b;have:=h.cl;have:=h.rl;refine⟨qv8 hd h.R b,λc hc=>?_,?_,by lia,by lia,λc hc=>?_,by have:=h.vl; simp; lia,?_,λv hv=>?_,λv hv=>?_,by have:=h.jl; lia,h.jv⟩
 ·obtain⟨x,a,rfl⟩:=Qqk.mp hc;have:=h.ch x a;unfold vst
  split<;>exact this
 ·rw[Qqf,show((λc:Cl=>c.nm)∘vst day ps)=λc=>c.nm from funext λc=>(qzn day ps c).1];exact h.up
 ·obtain⟨x,a,rfl⟩:=Qqk.mp hc;rw[(qzn day ps x).2.2];have:=h.dl x a
  lia
 ·rw[Qqd];exact qyd h.vn (λx a=>by obtain⟨v,hv,rfl⟩:=Qqk.mp a; exact h.vd v hv) hd
 ·rcases Qqs.mp hv with hv|hv
  ·have:=h.vd v hv; lia
  ·cases Qqc.mp hv; exact Int.le_refl _
 ·rcases Qqs.mp hv with hv|hv
  ·exact h.V v hv
  ·cases Qqc.mp hv; exact⟨⟨ss,rfl,hs⟩,e⟩
def Pu.join(h:Pu k T d vs jo cs ro)(hk:k<24)(hd:d<day)(b:a.length<=jo.length+1)(hj:JoI a):Pu (k+1) T day vs a cs ro:=by
 have:=h.cl;have:=h.rl;exact⟨qv8 hd h.R .same,h.ch,h.up,by lia,by lia,λc hc=>by have:=h.dl c hc; lia,by have:=h.vl; lia,h.vn,λv hv=>by have:=h.vd v hv; lia,h.V,by have:=h.jl; lia,hj⟩
def Pu.stake(h:Pu k T d vs jo cs ro)(hk:k<24)(hd:d<day)(f:Op day cs ro cs' ro')(hz:cs'.map Cl.z=cs.map Cl.z++[vst day ps ⟨day,0,o,g,[day],day+T,J,J⟩])(b:∀c∈cs',c∈cs\/c.ds.length=1):Pu (k+1) T day vs jo cs' ro':=by
 have on:=qv9 f;have:=h.cl;have:=h.rl;refine⟨qv8 hd h.R f,λc hc=>?_,?_,by lia,by lia,λc hc=>?_,by have:=h.vl; lia,h.vn,λv hv=>by have:=h.vd v hv; lia,h.V,by have:=h.jl; lia,h.jv⟩
 ·have:c.z∈cs.map Cl.z++[vst day ps ⟨day,0,o,g,[day],day+T,J,J⟩]:=by rw[<- hz]; exact Qqk.mpr ⟨c,hc,rfl⟩
  rcases Qqs.mp this with z|z
  ·obtain⟨y,a,e⟩:=Qqk.mp z;have a:ChI T y.z:=h.ch y a;rw[e]at a;exact a
  ·have e:=Qqc.mp z;have:ChI T c.z:=by
    rw[e];have:ChI T ⟨day,0,o,g,[day],day+T,J,J⟩:=⟨rfl,(thr1 T day).symm⟩
    unfold vst
    split<;>exact this
   exact this
 ·have e:∀l:L Cl,(l.map Cl.z).map (·.nm)=l.map (·.nm):=λl=>by rw[Qqf]; rfl
  have:=congrArg (List.map (·.nm)) hz;rw[Qqd,e,e]at this;rw[this,Qxc,(qzn day ps _).1];exact qyd h.up h.nms hd
 ·rcases b c hc with z|z
  ·have:=h.dl c z; lia
  ·lia
end
def Jn.det(h:Jn fo jo a b f d e)(g:Jn fo jo a b f c j2):d=c/\e=j2:=by
 cases h<;>cases g<;>first|exact⟨rfl,rfl⟩|simp_all
def Jn.keeps(h:Jn fo jo a b f w jo')(e:JoI jo):JoI jo':=by
 cases h with
 |good h h2 g d=>
  have:∀p∈jo,eqT p.1 (O a)=false:=λp c=>by
   unfold dget at d;have:=Qje.mp (Option.map_eq_none_iff.mp d) p c;simpa using this
  rw[qk2 this];intro p c;rcases Qqs.mp c with z|z
  ·exact e p z
  ·exact⟨a,b,f,Qqc.mp z⟩
 |_=>exact e
noncomputable abbrev SS(Z3:Zt)(W H P T d:B)(vs:L (B×D×L (B×B)))(jo:L (D×D))(cs ms:L Cl)(ro:L B)(pl:L D)(r:Y2):Y2:=FC Z3 T d (voD vs) jo cs ro (M8 (szD W H P) T d ro (voD vs) jo (qzq ms) pl r)
structure St (k:Y0) (W H P T d:B) (vs:L (B×D×L (B×B))) (jo:L (D×D)) (cs ms:L Cl) (ro:L B) (pl:L D) (r:Y2):Prop where
 pu:Pu k T d vs jo cs ro
 I:Inv 8 (M8 (szD W H P) T d ro (voD vs) jo (qzq ms) pl r) cs
 jm:InvM 8 (M8 (szD W H P) T d ro (voD vs) jo (qzq ms) pl r) ms
 hz:cs.map Cl.z=ms.map Cl.z
section
variable {sz:D}{T d:B}{ro:L B}{fo jo bo:L (D×D)}{pl:L D}{r rest':Y2}{cs ms:L Cl}
def qak(I:Inv 8 (M8 sz T d ro fo jo bo pl r) cs)(b:InvM 8 (M8 sz T d ro fo jo bo pl r) ms)(e:rest'.take 8=(M8 sz T d ro fo jo bo pl r).take 8)(fz:Fz cs (M8 sz T d ro fo jo bo pl r) rest'):∃a,rest'=M8 sz T d ro fo jo bo pl a/\InvM 8 (M8 sz T d ro fo jo bo pl a) ms:=by
 obtain⟨a,rfl⟩:=qi6 e;exact⟨a,rfl,b.fz fz λc hc x f=>by have:=qjg I b hc f; exact⟨this.1.symm,this.2.2.1.symm,this.2.1.symm,this.2.2.2.symm⟩⟩
end
section
variable {Z3:Zt}{W H P T d day:B}{vs:L (B×D×L (B×B))}{jo:L (D×D)}{cs ms:L Cl}{ro:L B}{pl:L D}{r:Y2}{k:Y0}
def St.zn(S:St k W H P T d vs jo cs ms ro pl r):((cs.map Cl.z).map (·.nm)).Nodup:=by
 rw[Qqf];exact S.I.nd
def St.nmd(S:St k W H P T d vs jo cs ms ro pl r)(hd:d<day):∀c∈ms,c.nm≠day:=λc hc e=>by
 have a:cs.map (·.nm)=ms.map (·.nm):=zmap S.hz λ_=>rfl;have:c.nm∈cs.map (·.nm):=by rw[a]; exact Qqk.mpr ⟨c,hc,rfl⟩
 have:=S.pu.nms _ this
 lia
def St.len(S:St k W H P T d vs jo cs ms ro pl r):ms.length=cs.length:=by have:=congrArg List.length S.hz; simpa using this.symm
def St.mds(S:St k W H P T d vs jo cs ms ro pl r):∀c∈ms,c.ds.length<=k:=λc hc=>by
 have:c.z∈cs.map Cl.z:=by rw[S.hz]; exact Qqk.mpr ⟨c,hc,rfl⟩
 obtain⟨x,a,e⟩:=Qqk.mp this;have:=S.pu.dl x a;have e:x.ds=c.ds:=by have:=congrArg Cl.ds e; exact this
 rw[<- e];exact this
def qwq(m)(hk:k<24)(S:St k W H P T d vs jo cs ms ro pl r)(hd:d<day)(hf:CF' f):∃w zs ro' a r1,Tr T day (cs.map Cl.z) ro f w zs ro'/\callD fns (m+4) 67 [Y1 8,O day,f] (SS Z3 W H P T d vs jo cs ms ro pl r)=Y (sO w,FC Z3 T d (voD vs) jo cs ro (M8 (szD W H P) T day ro' (voD vs) jo (qzq a) pl r1))/\a.map Cl.z=zs/\InvM 8 (M8 (szD W H P) T day ro' (voD vs) jo (qzq a) pl r1) a/\Inv 8 (M8 (szD W H P) T day ro' (voD vs) jo (qzq a) pl r1) cs:=by
 have:=S.pu.cl;have:=S.pu.rl;have:=S.len;obtain⟨w,cs',ro',rest',_,_,_,_,_,_,e,_⟩:=qkj (T:=T) (d:=d) (fo:=voD vs) (jo:=jo) m S.I (by simp) d day hd (by lia) (λc hc=>by have:=S.pu.dl c hc; lia) S.pu.R S.pu.ch hf;have b:=e;rw[S.hz]at b;obtain⟨a,r1,h1,h2,i,h⟩:=mcl_ok (F:=⟨Z3,T,d,voD vs,jo,qzq cs,rowD ro⟩) m (S.jm.front (d':=day)) (by lia) (λc hc=>by have:=S.mds c hc; lia) (by lia) (S.nmd hd) b;exact⟨w,_,ro',a,r1,e,qdp m hf h1,h2,i,S.I.fm h λc hc x g=>qjg S.I S.jm hc g⟩
def qvg(m)(o:Z3.s=szD W H P)(hk:k<24)(S:St k W H P T d vs jo cs ms ro pl r)(hd:d<day)(u:1<=day)(t:day<=400)(hf:CF' f)(p:∀m st,callD fns (m+6) 26 [szD W H P,f] st=Y (.bl Z,st)):∃w cs' a ro' r2 X,callD fns (m+11) 67 [Y1 8,O day,f] (SS Z3 W H P T d vs jo cs ms ro pl r)=Y (sO w,FC Z3 T d (voD vs) jo cs ro X)/\callD fns (m+11) 30 [Y1 0,O day,f] (FC Z3 T d (voD vs) jo cs ro X)=Y (sO w,SS Z3 W H P T day vs jo cs' a ro' pl r2)/\St (k+1) W H P T day vs jo cs' a ro' pl r2:=by
 have:=S.pu.cl;have:=S.pu.rl;obtain⟨w,zs,e,a,r1,j,s,q,x,i⟩:=qwq (Z3:=Z3) (m+7) hk S hd hf;obtain⟨w2,cs',l,rest',hc,y,n,tk,z,g,b,fz⟩:=qkj (T:=T) (d:=day) (fo:=voD vs) (jo:=jo) (m+5) i (by simp) d day hd (by lia) (λc hc=>by have:=S.pu.dl c hc; lia) S.pu.R S.pu.ch hf;obtain⟨rfl,h,rfl⟩:=Tr.det S.zn j b;obtain⟨r2,rfl,v⟩:=qak i x tk fz;exact⟨w,cs',a,e,r2,_,s,qxl (sz:=Z3) (m+4) u t hd (by rw[o]; exact p _ _) (qyw (m+5) hf (hc Z3)),S.pu.claim hk hd (λc hc=>(S.I.ne c hc).1) n b g,y,v,h.symm.trans q.symm⟩
def qnx(m)(q:Z3.s=szD W H P)(hk:k<24)(S:St k W H P T d vs jo cs ms ro pl r)(hd:d<day)(y:1<=day)(x:day<=400)(hs:s=0\/s=1)(h:1<=o/\o<=40)(t:∀m st,callD fns (m+6) 26 [szD W H P,ptF n s ln o] st=Y (.bl Z,st)):∃w cs' a ro' r2 X,callD fns (m+11) 67 [Y1 8,O day,ptF n s ln o] (SS Z3 W H P T d vs jo cs ms ro pl r)=Y (sO w,FC Z3 T d (voD vs) jo cs ro X)/\callD fns (m+11) 71 [Y1 0,O day,ptF n s ln o] (FC Z3 T d (voD vs) jo cs ro X)=Y (.bl Z,SS Z3 W H P T day vs jo cs' a ro' pl r2)/\St (k+1) W H P T day vs jo cs' a ro' pl r2:=by
 have:=S.pu.cl;have:=S.pu.rl;obtain⟨w,zs,e,a,r1,j,v,u,A,i⟩:=qwq (Z3:=Z3) (m+7) hk S hd (CF'.part n s ln o hs h);obtain⟨w2,cs',l,rest',hc,C,p,tk,E,f,b,fz⟩:=qbp (Z3:=Z3) (vs:=vs) (jo:=jo) m q i (by simp) hd y x (by lia) (λc hc=>by have:=S.pu.dl c hc; lia) S.pu.R S.pu.ch hs h t;obtain⟨rfl,g,rfl⟩:=Tr.det S.zn j b;obtain⟨r2,rfl,z⟩:=qak i A tk fz;exact⟨w,cs',a,e,r2,_,v,hc,S.pu.claim hk hd (λc hc=>(S.I.ne c hc).1) p b f,C,z,g.symm.trans u.symm⟩
def qnj(m)(i:Z3.s=szD W H P)(hk:k<24)(S:St k W H P T d vs jo cs ms ro pl r)(hd:d<day)(n:1<=day)(l:day<=400)(j:∀m st,callD fns (m+6) 26 [szD W H P,Y9 [sO "join",O a,O b,O f]] st=Y (.bl Z,st)):∃w jo' X,callD fns (m+11) 67 [Y1 8,O day,Y9 [sO "join",O a,O b,O f]] (SS Z3 W H P T d vs jo cs ms ro pl r)=Y (sO w,FC Z3 T d (voD vs) jo cs ro X)/\callD fns (m+11) 30 [Y1 0,O day,Y9 [sO "join",O a,O b,O f]] (FC Z3 T d (voD vs) jo cs ro X)=Y (sO w,SS Z3 W H P T day vs jo' cs ms ro pl r)/\St (k+1) W H P T day vs jo' cs ms ro pl r:=by
 have:=S.pu.jl;obtain⟨w,jo',_,e,h,_⟩:=qbv (T:=T) (d:=day) (fo:=voD vs) (jo:=jo) (cs:=cs) (ro:=ro) (rest:=r) (m+8) a b f (by lia);obtain⟨w2,g,h1,c,_,_⟩:=qbv (T:=T) (d:=day) (fo:=voD vs) (jo:=jo) (cs:=cs) (ro:=ro) (rest:=M8 (szD W H P) T day ro (voD vs) jo' (qzq ms) pl r) (m+8) a b f (by lia);obtain⟨rfl,rfl⟩:=e.det c;exact⟨w,jo',_,qgu (F:=⟨Z3,T,d,voD vs,jo,qzq cs,rowD ro⟩) (m+7) (by lia) e,qxl (sz:=Z3) (m+4) n l hd (by rw[i]; exact j _ _) (h1 Z3),S.pu.join hk hd h (e.keeps S.pu.jv),S.I.front,S.jm.front,S.hz⟩
def St.mup(S:St k W H P T d vs jo cs ms ro pl r):(ms.map (·.nm)).Pairwise (· < ·):=by
 have a:cs.map (·.nm)=ms.map (·.nm):=zmap S.hz λ_=>rfl;rw[<- a];exact S.pu.up
def qnq(m)(o:Z3.s=szD W H P)(hk:k<24)(S:St k W H P T d vs jo cs ms ro pl r)(hd:d<day)(u:1<=day)(t:day<=400){ss:L B}(hs:ss.length<1000)(n:ps.length<=16)(p:∀m st,callD fns (m+6) 26 [szD W H P,vnF (Y9 (ss.map O)) ps] st=Y (.bl Z,st)):∃a cs' b ro' r2 X,callD fns (m+11) 67 [Y1 8,O day,vnF (Y9 (ss.map O)) ps] (SS Z3 W H P T d vs jo cs ms ro pl r)=Y (sO "good",FC Z3 T d (voD vs) jo cs ro X)/\callD fns (m+11) 30 [Y1 0,O day,vnF (Y9 (ss.map O)) ps] (FC Z3 T d (voD vs) jo cs ro X)=Y (sO "good",SS Z3 W H P T day a jo cs' b ro' pl r2)/\St (k+1) W H P T day a jo cs' b ro' pl r2:=by
 have:=S.pu.cl;have:=S.pu.rl;have:=S.pu.vl;have:=S.len;have hv:∀v∈vs,v.1≠day:=λv hv=>by have:=S.pu.vd v hv; lia
 obtain⟨r1,g,i,fm⟩:=qgt (F:=⟨Z3,T,d,voD vs,jo,qzq cs,rowD ro⟩) (vs:=vs) (day:=day) (ps:=ps) (m+7) S.jm S.mup (by lia) (by lia) (Y9 (ss.map O)) (by unfold lim; lia) hv (by lia);have e:=qhg day ps cs;have f:=qhg day ps ms;rw[S.hz]at e;rw[f.2,<- e.2]at g i;have j:Inv 8 (M8 (szD W H P) T day (ro++(cs.filter (hit day ps)).map (·.nm)) (voD (vs++[(day,Y9 (ss.map O),ps)])) jo (qzq (ms.map (vst day ps))) pl r1) cs:=S.I.fm fm λc hc x l=>qjg S.I S.jm hc l;obtain⟨h1,h2,q,y⟩:=qhf (T:=T) (d:=day) (jo:=jo) (ro:=ro) (m+4) j (Y9 (ss.map O)) ps vs hv (by lia) (by lia) (by lia);obtain⟨r2,s,w⟩:=qak j (i.front (fo':=voD (vs++[(day,Y9 (ss.map O),ps)]))) q (fz_rv (λ_ h=>h) _).1;rw[s]at h1 h2;exact⟨_,_,_,_,r2,_,g,qxl (sz:=Z3) (m+4) u t hd (by rw[o]; exact p _ _) (h1 Z3),S.pu.vein hk hd hs n,h2,w,e.1.trans f.1.symm⟩
def qg9(m)(l:Z3.s=szD W H P)(hk:k<24)(S:St k W H P T d vs jo cs ms ro pl r)(hd:d<day)(t:1<=day)(s:day<=400)(j:1<=o/\o<=40)(n:∀m st,callD fns (m+6) 26 [szD W H P,skF o g] st=Y (.bl Z,st)):∃cs' a ro' r2 X,callD fns (m+11) 67 [Y1 8,O day,skF o g] (SS Z3 W H P T d vs jo cs ms ro pl r)=Y (sO "good",FC Z3 T d (voD vs) jo cs ro X)/\callD fns (m+11) 30 [Y1 0,O day,skF o g] (FC Z3 T d (voD vs) jo cs ro X)=Y (sO "good",SS Z3 W H P T day vs jo cs' a ro' pl r2)/\St (k+1) W H P T day vs jo cs' a ro' pl r2:=by
 have:=S.pu.cl;have:=S.pu.rl;have:=S.pu.vl;have:=S.len;obtain⟨a,r1,q,p,w,fm⟩:=qdo (F:=⟨Z3,T,d,voD vs,jo,qzq cs,rowD ro⟩) (vs:=vs) (day:=day) (m+7) S.jm (by lia) (by lia) (S.nmd hd) o g S.pu.vn (by lia) (λv hv=>(S.pu.V v hv).2);have f:Inv 8 (M8 (szD W H P) T day (ro++if hit day (vs.flatMap (·.2.2)) ⟨day,0,o,g,[day],day+T,J,J⟩ then [day] else []) (voD vs) jo (qzq a) pl r1) cs:=S.I.fm fm λc hc x b=>qjg S.I S.jm hc b;obtain⟨cs',ro',rest',h1,y,i,tk,_,e,hz,hr,fz⟩:=qfe (T:=T) (d:=day) (jo:=jo) (ro:=ro) (m+4) f (by simp) o j g vs (S.pu.vn.imp λh=>by lia) (by lia) (λv hv=>(S.pu.V v hv).2) (by lia) (λx b=>by have:=S.pu.R.le x b; lia);obtain⟨r2,rfl,u⟩:=qak f w tk fz;subst hr;exact⟨cs',a,_,r2,_,q,qxl (sz:=Z3) (m+4) t s hd (by rw[l]; exact n _ _) (h1 Z3),S.pu.stake hk hd i hz e,y,u,by rw[hz,p,S.hz]⟩
end
noncomputable abbrev lwT(ns:L B)(W H P T d:B)(x7 x8:Y3 D):Sl:=[Y (scr ns),Y (szD W H P),Y (.int T),Y (.loc 0),Y (.loc 8),Y (.loc 15),Y (.int d),x7,x8]
noncomputable abbrev lw5:M.S:=.ite (.cmp .NotEq (.idx (.var 8) (.lit (.int 0))) (.lit (sO "part"))) [.expr (.mcall 642 30 "enter" (.var 3) [.var 6,.var 8])] [.ite (.not (.call 71 [.var 3,.var 6,.var 8])) [.ret (.lit (.bl Y6))] []]
noncomputable abbrev lwB:L M.S:=[.set (.var 6) (.bin .Add (.bin .Add (.var 6) (.lit (.int 1))) (.call 47 [.var 0,.bin .Add (.lit (.int 1)) (.var 7),.lit (.int 25),.lit (.int 3)])),.set (.var 8) (.call 72 [.var 0,.bin .Add (.lit (.int 1)) (.var 7),.var 1,.var 5]),.expr (.meth (.var 5) .append [.tup [.var 6,.var 8]]),.expr (.call 67 [.var 4,.var 6,.var 8]),lw5]
section
variable {Z3:Zt}{W H P T d day:B}{vs:L (B×D×L (B×B))}{jo:L (D×D)}{cs ms:L Cl}{ro:L B}{pl:L D}{r:Y2}{k:Y0}
def go(m)(u:Z3.s=szD W H P)(hk:k<24)(S:St k W H P T d vs jo cs ms ro pl r)(hd:d<day)(y:1<=day)(x:day<=400)(hf:DF W H P f)(ns)(t):∃w e jo' cs' c ro' r2 X,callD fns (m+11) 67 [Y1 8,O day,f] (SS Z3 W H P T d vs jo cs ms ro pl r)=Y (sO w,FC Z3 T d (voD vs) jo cs ro X)/\stepEx (RL (callD fns (m+11))) (lwT ns W H P T day t (Y f)) (FC Z3 T d (voD vs) jo cs ro X) lw5=Y (.nx (lwT ns W H P T day t (Y f)),SS Z3 W H P T day e jo' cs' c ro' pl r2)/\St (k+1) W H P T day e jo' cs' c ro' pl r2:=by
 have v:=hf.sound
 cases hf with
 |@vein A ps Q C hs h1 h2 hn hc=>
  obtain⟨e,cs',c,ro',r2,X,j,i,p⟩:=qnq m u hk S hd y x (by lia) h2 v;exact⟨_,e,jo,cs',c,ro',r2,X,j,qzf 8 [30] 11 (.nx (lwT ns W H P T day t (Y (vnF (Y9 (A.map O)) ps))),SS Z3 W H P T day e jo cs' c ro' pl r2) (λq=>_/\q) [.c (sO "good",SS Z3 W H P T day e jo cs' c ro' pl r2)] ⟨i,rfl⟩,p⟩
 |@join a b f h1 h2 h3 V U R=>
  obtain⟨w,jo',X,j,i,p⟩:=qnj m u hk S hd y x v;exact⟨_,vs,jo',cs,ms,ro,r,X,j,qzf 8 [30] 11 (.nx (lwT ns W H P T day t (Y (Y9 [sO "join",O a,O b,O f]))),SS Z3 W H P T day vs jo' cs ms ro pl r) (λq=>_/\q) [.c (sO w,SS Z3 W H P T day vs jo' cs ms ro pl r)] ⟨i,rfl⟩,p⟩
 |@stake o g h1 h2 N K I G F E=>
  obtain⟨cs',c,ro',r2,X,j,i,p⟩:=qg9 m u hk S hd y x ⟨h1,h2⟩ v;exact⟨_,vs,jo,cs',c,ro',r2,X,j,qzf 8 [30] 11 (.nx (lwT ns W H P T day t (Y (skF o g))),SS Z3 W H P T day vs jo cs' c ro' pl r2) (λq=>_/\q) [.c (sO "good",SS Z3 W H P T day vs jo cs' c ro' pl r2)] ⟨i,rfl⟩,p⟩
 |claim h _=>
  cases h with
  |part n s l o hs z=>
   obtain⟨w,cs',c,ro',r2,X,j,i,p⟩:=qnx m u hk S hd y x hs z v;exact⟨_,vs,jo,cs',c,ro',r2,X,j,qzf 8 [71] 11 (.nx (lwT ns W H P T day t (Y (ptF n s l o))),SS Z3 W H P T day vs jo cs' c ro' pl r2) (λq=>_/\q) [.c (.bl Z,SS Z3 W H P T day vs jo cs' c ro' pl r2)] ⟨i,rfl⟩,p⟩
  |work n=>
   obtain⟨w,cs',c,ro',r2,X,j,i,p⟩:=qvg m u hk S hd y x (.work n) v;exact⟨_,vs,jo,cs',c,ro',r2,X,j,qzf 8 [30] 11 (.nx (lwT ns W H P T day t (Y (Y9 [sO "work",O n]))),SS Z3 W H P T day vs jo cs' c ro' pl r2) (λq=>_/\q) [.c (sO w,SS Z3 W H P T day vs jo cs' c ro' pl r2)] ⟨i,rfl⟩,p⟩
  |give n=>
   obtain⟨w,cs',c,ro',r2,X,j,i,p⟩:=qvg m u hk S hd y x (.give n) v;exact⟨_,vs,jo,cs',c,ro',r2,X,j,qzf 8 [30] 11 (.nx (lwT ns W H P T day t (Y (Y9 [sO "give",O n]))),SS Z3 W H P T day vs jo cs' c ro' pl r2) (λq=>_/\q) [.c (sO w,SS Z3 W H P T day vs jo cs' c ro' pl r2)] ⟨i,rfl⟩,p⟩
  |sell n o z=>
   obtain⟨w,cs',c,ro',r2,X,j,i,p⟩:=qvg m u hk S hd y x (.sell n o z) v;exact⟨_,vs,jo,cs',c,ro',r2,X,j,qzf 8 [30] 11 (.nx (lwT ns W H P T day t (Y (Y9 [sO "sell",O n,O o]))),SS Z3 W H P T day vs jo cs' c ro' pl r2) (λq=>_/\q) [.c (sO w,SS Z3 W H P T day vs jo cs' c ro' pl r2)] ⟨i,rfl⟩,p⟩
end
def LwI(ns:L B)(Z3:Zt)(W H P T:B)(k:Y0)(τ:Sl)(st:Y2):Prop:=∃d vs jo cs ms ro r x7 x8,∃pl:L (B×D),St k W H P T d vs jo cs ms ro (pl.map pD) r/\(∀p∈pl,DF W H P p.2/\1<=p.1/\p.1<=400)/\pl.length=k/\0<=d/\d<=3*k/\τ=lwT ns W H P T d x7 x8/\st=SS Z3 W H P T d vs jo cs ms ro (pl.map pD) r
def qip(l:ns.length<=63){T:B}(x:1<=W)(u:W<=24)(D:1<=H)(C:H<=24)(p0:0<=P)(y:P<=12)(A:Z3.s=szD W H P)(m k)(hk:k<24)(i)(G:LwI ns Z3 W H P T k τ st):∃a st',((setT (.var 7) (O i) τ).bind λe=>(RL (callD fns (m+11))).ex e st lwB)=Y (.nx a,st')/\LwI ns Z3 W H P T (k+1) a st':=by
 obtain⟨d,vs,jo,cs,ms,ro,r,K,I,pl,S,j,R,V,U,rfl,rfl⟩:=G;obtain⟨v,t,Q,N⟩:=dr l (m+10) (SS Z3 W H P T d vs jo cs ms ro (pl.map pD) r) (1+i) 25 (many:=3) (by decide) (by decide) (by decide);obtain⟨f,s,hf⟩:=qge l x u D C p0 y (m+6) (SS Z3 W H P T d vs jo cs ms ro (pl.map pD) r) (1+i) (q0:=Y1 15) rfl j (by lia);have F:St k W H P T d vs jo cs ms ro ((pl++[(d+1+v,f)]).map pD) r:=⟨S.pu,S.I.front,S.jm.front,S.hz⟩
 obtain⟨w,b,jo',cs',c,ro',h,X,o,n,E⟩:=go (Z3:=Z3) m A hk F (day:=d+1+v) (by lia) (by lia) (by lia) hf ns (Y (O i));refine⟨lwT ns W H P T (d+1+v) (Y (O i)) (Y f),_,?_,⟨d+1+v,b,jo',cs',c,ro',h,_,_,pl++[(d+1+v,f)],E,λp g=>?_,by simp; lia,by lia,by lia,rfl,rfl⟩⟩
 ·rw[show(pl++[(d+1+v,f)]).map pD=pl.map pD++[pD (d+1+v,f)] from Qqd]at o n ⊢;exact qqx 16 [47,72,67] 11 (λq=>_/\_/\_/\_/\_/\q) [.c (O v,SS Z3 W H P T d vs jo cs ms ro (pl.map pD) r),.c (f,SS Z3 W H P T d vs jo cs ms ro (pl.map pD) r),.b Z,.c (sO w,FC Z3 T d (voD vs) jo cs ro X),.t (.nx (lwT ns W H P T (d+1+v) (Y (O i)) (Y f)),SS Z3 W H P T (d+1+v) b jo' cs' c ro' (pl.map pD++[pD (d+1+v,f)]) h)] ⟨t,s,Zs (p:=(pl.map pD).length<lim) (by rw[Qqx]; unfold lim; lia),o,n,rfl⟩
 ·rcases Qqs.mp g with z|z
  ·exact j p z
  ·cases Qqc.mp z;exact⟨hf,by show 1<=d+1+v; lia,by show d+1+v<=400; lia⟩
def qnw(P:Y0->Sl->Y2->Prop)(g:(RL c).ev τ st e=Y (O n,st))(hb:big n=Y6)(h:P 0 τ st)(hs:∀i τ st,i<n.toNat->P i τ st->∃a st',((setT t (O (0+(i:B))) τ).bind λb=>(RL c).ex b st body)=Y (.nx a,st')/\P (i+1) a st'):∃a st',stepEx (RL c) τ st (.forr t (.rng1 e) body)=Y (.nx a,st')/\P n.toNat a st':=by
 obtain⟨a,st',k,j⟩:=qg2 (f:=λτ st d=>(setT t d τ).bind λb=>(RL c).ex b st body) (lo:=0) (n:=n.toNat) P h hs;refine⟨a,st',?_,j⟩;have:src (RL c) τ st (.rng1 e)=Y (.rng 0 n.toNat,st):=by
  show((RL c).ev τ st e).bind _=_;rw[g];show(if big n=Z then J else Y (Src.rng 0 n.toNat,st))=_;rw[hb]
  rfl
 show(src (RL c) τ st (.rng1 e)).bind _=_;rw[this];exact k
def gc_at(h:X[1]?=Y (Y4 Z ds))(nl:noLocs ds=Z):gcD st (Y1 (st.length+1),st++X)=(Yc ds,st):=by
 rw[gc_x (by simp)];unfold gcX;rw[Z1 (by simp[noLoc])];have:(st++X)[st.length+1]?=Y (Y4 Z ds):=by
  rw[Qzd (by lia)];simpa using h
 simp[this,nl]
def nl_lk{T:B}(b:VsOk vs)(c:JoI jo):noLocs (lkL d (szD W H P) (O T) vs jo cs ro)=true:=by
 refine qwz λx a=>?_;simp only[lkL,Qqy,Qq8,or_false]at a;rcases a with rfl|rfl|rfl|rfl|rfl|rfl|rfl|rfl|rfl|rfl|rfl|rfl
 ·rfl
 ·rfl
 ·rfl
 ·rw[qz3]; exact qxt λ_ _=>rfl
 ·rw[qz3]; exact qxt λ_ _=>rfl
 ·rw[qz3]; exact nl_ve b
 ·rw[qz3]; exact nl_jo c
 ·rw[qz3]; exact qbs cs
 ·rw[qz3]; exact nl_st cs d
 ·rw[qz3]; exact qbr cs
 ·rw[qz3]; exact nlI _
 ·rfl
noncomputable abbrev Z0(W H P:B):Zt:=⟨szD W H P,[],[]⟩
def qm9{T:B}(b:1<=W)(a:W<=24)(g:1<=H)(f:H<=24)(p0:0<=P)(e:P<=12)(d:1<=T)(c:T<=400)(m):callD fns (m+3) 29 [Y1 0,O W,O H,O P,O T] [.obj 642 []]=Y (.non,FC (Z0 W H P) T 0 (voD []) [] [] [] []):=
 qzz 9 [] 3 (λq=>_/\_/\_/\_/\_/\_/\_/\_/\q) [.b Z,.b Z,.b Z,.b Z,.b Z,.b Z,.b Z,.b Z] ⟨Zs b,Zs a,Zs g,Zs f,Zs p0,Zs e,Zs d,Zs c,rfl⟩
noncomputable abbrev M7(W H P T:B):Y2:=[mdC (szD W H P) T 0,.lst Z [],.lst Z [],.lst Z [],.dic Z [],.dic Z [],.dic Z []]
def qgr{T:B}(m):callD fns (m+1) 60 [szD W H P,O T] (FC (Z0 W H P) T 0 (voD []) [] [] [] [])=Y (Y1 8,FC (Z0 W H P) T 0 (voD []) [] [] [] (M7 W H P T)):=
 qzz 16 [] 1 (λq=>q) [.k,.k,.k] rfl
def st0{T:B}:St 0 W H P T 0 [] [] [] [] [] [] []:=
 ⟨⟨⟨Qqt _,Qqt _,Qqt _,Qqt _⟩,Qqt _,.nil,Qqv _,Qz4 _,Qqt _,Qqv _,.nil,Qqt _,Qqt _,Qqv _,Qqt _⟩,⟨Qqt _,Qqt _,.nil,Qqt _,.nil⟩,⟨Qqt _,Qqt _,.nil,Qqt _,.nil⟩,rfl⟩
noncomputable abbrev lwR:M.S:=.ret (.call 48 [.gc (.call 69 [.var 3]),.call 68 [.var 4]])
def ret_ok{T:B}(hk:k<=24)(m)(j:LwI ns (Z0 W H P) W H P T k τ st):∃st',stepEx (RL (callD fns (m+11))) τ st lwR=Y (.rt (.bl Z),st'):=by
 obtain⟨d,vs,jo,cs,ms,ro,r,o,l,pl,S,p,s,u,t,rfl,rfl⟩:=j;have:=S.pu.cl;have:=S.pu.rl;have:=S.pu.vl;have:=S.len;have A:=qee (sz:=Z0 W H P) (T:=T) (d:=d) (fo:=voD vs) (jo:=jo) (ro:=ro) S.I;obtain⟨X,h1,h2⟩:=qmm (m+7) A S.I.nd S.pu.R.in1 (by lia) (S.pu.vn.imp λh=>by lia) (by lia) (by lia) S.pu.V S.pu.jv (λX=>qzz 8 [] 10 (λq=>q) [] rfl);have g:=gc_at (st:=SS (Z0 W H P) W H P T d vs jo cs ms ro (pl.map pD) r) h2 (nl_lk S.pu.V S.pu.jv);have i:cs.map (·.nm)=ms.map (·.nm):=zmap S.hz λ_=>rfl;have b:∀n∈ro,∃c∈ms,c.nm=n:=λn hn=>qhv i.symm (S.pu.R.in1 n hn);have M:=ma_of S.jm;have f:=due_ok (F:=⟨Z0 W H P,T,d,voD vs,jo,qzq cs,rowD ro⟩) (sz:=szD W H P) (T:=T) (d:=d) (pl:=pl.map pD) (jo:=jo) (m+8) M S.pu.vn (by lia) (by unfold keysOf qzq; rw[Qqf,Qqf]; rfl) S.mup (by lia) b (by lia);have e:=fin_ok (F:=⟨Z0 W H P,T,d,voD vs,jo,qzq cs,rowD ro⟩) (W:=W) (H:=H) (P:=P) (T:=T) (d:=d) (pl:=pl.map pD) (m+5) M S.hz S.pu.V S.pu.jv (by lia) (by lia) (λc hc=>by have:=S.mds c hc; lia) (ro:=ro) (by lia);generalize r++Ya.lst Z (duL d (szD W H P) (O T) vs ms r.length)::(duQ d jo vs ms++[Y4 Z [Yc (rowD (ro.filter (stB ms d))),Y1 10],Y4 Z (duL d (szD W H P) (O T) vs ms r.length++[Yc (rowD (ro.filter (stB ms d))),Y1 10])])=a at f e;exact⟨_,qzf 0 [48,69,68] 11 (.rt (.bl Z),SS (Z0 W H P) W H P T d vs jo cs ms ro (pl.map pD) a) (λq=>_/\_/\_/\_/\q) [.c (Y1 ((SS (Z0 W H P) W H P T d vs jo cs ms ro (pl.map pD) r).length+1),SS (Z0 W H P) W H P T d vs jo cs ms ro (pl.map pD) r++X),.l (lkL d (szD W H P) (O T) vs jo cs ro),.c (Y1 (r.length+23),SS (Z0 W H P) W H P T d vs jo cs ms ro (pl.map pD) a),.c (.bl Z,SS (Z0 W H P) W H P T d vs jo cs ms ro (pl.map pD) a)] ⟨h1,g,f,e,rfl⟩⟩
noncomputable abbrev lwE:E:=.bin .Add (.lit (.int 4)) (.call 47 [.var 0,.lit (.int 0),.lit (.int 20),.lit (.int 19)])
noncomputable abbrev lwA:L M.S:=[.set (.var 1) (.call 49 [.var 0,.lit (.int 0)]),.set (.var 2) (.call 50 [.var 0,.lit (.int 0)]),.set (.var 3) (.new 642 29 [.idx (.var 1) (.lit (.int 0)),.idx (.var 1) (.lit (.int 1)),.idx (.var 1) (.lit (.int 2)),.var 2]),.set (.var 4) (.call 60 [.var 1,.var 2]),.set (.var 5) (.lst []),.set (.var 6) (.lit (.int 0))]
def law_fn:fns[73]?=Y ⟨1,9,lwA++[.forr (.var 7) (.rng1 lwE) lwB,lwR]⟩:=by kernel_rfl
def law_ok(m):∀ns:L B,ns.length<=63->∃st',callD fns (m+12) 73 [.lst (ns.map O)] []=Y (.bl Z,st'):=λns hn=>by
 obtain⟨W,H,P,l,w1,w2,h1,h2,p0,p1,u⟩:=qlv hn (m+9) [] 0;obtain⟨T,j,p,o⟩:=qi5 hn (m+9) [] 0;have g:=qm9 w1 w2 h1 h2 p0 p1 p o (m+8);have f:=qgr (W:=W) (H:=H) (P:=P) (T:=T) (m+10);obtain⟨v,h,x,w⟩:=dr hn (m+10) (SS (Z0 W H P) W H P T 0 [] [] [] [] [] [] []) 0 20 (many:=19) (by decide) (by decide) (by decide);obtain⟨d,st',e,b⟩:=qnw (c:=callD fns (m+11)) (e:=.bin .Add (.lit (O 4)) (.call 47 [.var 0,.lit (O 0),.lit (O 20),.lit (O 19)])) (n:=4+v) (t:=.var 7) (body:=lwB) (τ:=lwT ns W H P T 0 J J) (st:=SS (Z0 W H P) W H P T 0 [] [] [] [] [] [] [])
  (λk τ st=>LwI ns (Z0 W H P) W H P T k τ st)
  (qzb 0 [47] 11 (λq=>_/\q) [.c (O v,SS (Z0 W H P) W H P T 0 [] [] [] [] [] [] [])] ⟨h,rfl⟩) (by unfold big; simp; lia)
  ⟨0,[],[],[],[],[],[],J,J,[],st0,Qqt _,rfl,Int.le_refl _,Int.le_refl _,rfl,rfl⟩
  λi τ st hi b=>qip hn w1 w2 h1 h2 p0 p1 rfl m i (by lia) _ b
 obtain⟨a,r⟩:=ret_ok (by lia) m b;have s:exs (stepEx (RL (callD fns (m+11)))) lwA [Y (scr ns),J,J,J,J,J,J,J,J] []=Y (.nx (lwT ns W H P T 0 J J),SS (Z0 W H P) W H P T 0 [] [] [] [] [] [] []):=
  qz7 16 [49,50,29,60] 11 (λq=>_/\_/\_/\_/\q) [.c (szD W H P,[]),.c (O T,[]),.c (.non,FC (Z0 W H P) T 0 (voD []) [] [] [] []),.c (Y1 8,FC (Z0 W H P) T 0 (voD []) [] [] [] (M7 W H P T))] ⟨l,j,g,f,rfl⟩
 exact⟨a,qqu law_fn rfl (qqh s ((qzl e).trans (qyt r)))⟩
end K18
end
namespace K18
open PySem PySem.Spec PyProof.Rows L2 MS
open M (D Ya Y2 Sl E S T Src Fn Out R)
def ar0{P:L Y8->Prop}(h:P []):∀us:L Y8,us.length=0->P us:=λus e=>by
 cases us with
 |nil=>exact h
 |cons a r=>cases e
def arS{P:L Y8->Prop}(h:∀a,∀us:L Y8,us.length=n->P (a::us)):∀us:L Y8,us.length=n+1->P us:=λus e=>by
 cases us with
 |nil=>cases e
 |cons a r=>exact h a r (Nat.succ.inj e)
def bs:∀r∈tab,Bd r:=by
 repeat' first|exact Qqt _|refine List.forall_mem_cons.mpr ⟨?_,?_⟩
 all_goals first|exact λ_ _ _ _ _ _=>arS λ_=>ar0 rfl|exact λ_ _ _ _ _ _=>arS λ_=>arS λ_=>ar0 rfl|exact λ_ _ _ _ _ _=>arS λ_=>arS λ_=>arS λ_=>ar0 rfl|exact λ_ _ _ _ _ _=>arS λ_=>arS λ_=>arS λ_=>arS λ_=>ar0 rfl|exact λ_ _ _ _ _ _=>arS λ_=>arS λ_=>arS λ_=>arS λ_=>arS λ_=>ar0 rfl
end K18
open PySem PySem.W PyProof.Rows
set_option maxRecDepth 100000 in
set_option maxHeartbeats 0 in
theorem PySem.Challenge.cw_dipright_k18_claims_parted_holds : PySem.Challenge.rw_dipright_k18_claims_parted.Holds := by
 w_on; o_law
 refine holds_open (XP:=XL (K18.vw PZW) []) (YP:=InK K18.KF) K18.left (InK.of (λ_=>by kernel_rfl)) InK.keeps (λs e=>xl_of s (Bool.and_eq_true_iff.mp e).1) XL.keeps (by rfl) (by rfl) (by rfl) (λs e=>recFacts_of (Bool.and_eq_true_iff.mp e).2) (by rfl) (by assumption) (by decide +kernel) ⟨rfl,rfl,rfl,rfl,rfl,by decide +kernel⟩ ?hw ?hc
 (case hw=>w_witness2)
 refine MS.walk_law (l:=RZW) (K:=K18.KH) (k:=2*20) (x:="_law_script") rfl rfl ⟨rfl,by decide,by decide⟩ (λw h Yq=>Yq) ?F
 case F=>
  intro w mg fa h KX G hmg
  k_fill
  refine MS.law_mk (t:=K18.tab) (glo:=K18.glo) (i:=73) (n:=19) KX G hmg rfl rfl rfl K18.bs (by decide +kernel) (K18.law_ok 8) ?_ ?_ ?_ ?_ ?_ ?_
  all_goals repeat' first|exact Qqt _|refine List.forall_mem_cons.mpr ⟨?_,?_⟩|apply MS.RwK.fn|apply MS.RwK.me|apply MS.ClK.mk|apply MS.GlK.mk|apply MS.GdK.mk|exact MS.vNil|exact MS.eNil|apply MS.vCons|apply MS.eCons|apply MS.vTup
  all_goals try dsimp only
  all_goals first|exact MS.vInt|exact MS.vStr|k_is|rfl

