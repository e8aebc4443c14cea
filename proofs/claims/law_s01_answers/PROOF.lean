import PyProof.Rows.All
import Wide.All
import OpenK.AllK
import Wide.FinOn
import PyProof.EqAt
import PyProof.EqKinds
import PyProof.TupleCall
import KE.BitLaws
import Open.SpecLaws
import KE.OsHead
import KE.OsGo
import PyProof.ExcBaseAll.Exception
import OpenK.KOwn
import PySem.Challenge.RW_shredcolumns_s01_answers
import PyVacolc
import PyProof.InstEq
set_option Elab.async false
set_option linter.all false
set_option maxRecDepth 100000
set_option maxHeartbeats 4000000
set_option bootstrap.genMatcherCode false
open Array renaming getElem?_eq_some_iff->Ol
open Bool renaming false_ne_true->dX,and_eq_true->dZ,noConfusion->kG,eq_iff_iff->lh,false_and->mU,true_and->wm,eq_false_iff->zW,and_eq_true_iff->D9,or_true->Oe,false_or->Ot,and_false->Ym,true_or->YH,and_true->YL,and_assoc->YY
open Classical renaming epsilon->YA,byContradiction->YB,epsilon_spec->YC
open Eq renaming trans->vV
open False renaming elim->ma
open Int renaming toNat->b_,toNat_natCast->Ow
open List renaming mem_cons_self->aH,length_append->aQ,mem_cons_of_mem->aR,length_map->bb,length_cons->bf,map_map->bZ,mem_cons->cj,map_cons->cu,getElem?_eq_some_iff->cK,append_assoc->c9,map_append->dA,getElem?_map->dB,mem_map->dU,mem_map_of_mem->dY,getElem?_eq_getElem->eI,replicate->eN,map_congr_left->eO,append_nil->eZ,range->fw,length_singleton->fE,all_eq_true->fR,length->f9,filter_cons->f_,mem_append->gm,length_take->gq,mem_of_getElem?->gI,mem_singleton->g7,take_append_drop->il,length_eq_zero_iff->iq,cons_append->ir,sum_cons->iv,zipWith->iH,take_length->iJ,size_toArray->iL,take_succ_eq_append_getElem->i8,perm_middle->jT,drop_of_length_le->ku,mem_append_right->kC,mem_append_left->kD,map_take->lg,range'->ll,mem_filter->mR,lookup_cons->nF,drop_eq_getElem_cons->nP,takeWhile_cons->oU,takeWhile_append_dropWhile->oW,eq_of_mem_replicate->oY,filter_append->oZ,filter_eq_nil_iff->o7,filterMap_cons->o8,length_drop->o9,nodup_cons->pb,length_filter_le->ph,flatMap_cons->qi,getElem_mem->qj,tail->ql,all_map->qm,map_drop->qo,mem_of_mem_take->qr,length_zip->qy,mem_zipIdx->sR,mapM_cons->sU,map_eq_nil_iff->sV,filter_map->sW,of_mem_zip->sX,take_of_length_le->vO,nil_append->vT,take_left'->vX,filter_congr->vY,length_replicate->zj,length_pos_iff->zk,mem_iff_getElem->zo,mem_of_mem_drop->zp,contains_iff_mem->zt,mem_filterMap->zu,getElem?_zip_eq_some->zw,zip_cons_cons->zx,mem_range->zz,flatMap_append->zB,drop_zero->zD,any_cons->zS,drop_length->zX,head?_drop->zY,dropWhile_cons->Ea,any_eq_false->Ec,replicate_succ->Eg,zipWith_cons_cons->Ei,zipIdx_cons->Ek,zip_append->El,pairwise_cons->Em,getElem_zip->En,map_id->Ep,flatMap_map->Nr,head?_dropWhile_not->Nt,length_range->Nv,dropWhile_suffix->Ny,mapM->Nz,getElem_inj->NB,zipIdx_map_fst->ND,filter_nil->NF,getElem?_append_right->NG,take_succ_cons->NH,map_filterMap->NI,take_nil->NK,ext_getElem?->NL,getElem?_append_left->NM,getElem?_set_ne->NV,map_nil->Oo,perm_append_comm_assoc->Oq,filter_eq_self->Ou,find?->XB,getElem?_zipWith->XC,foldl_append->XD,append_cancel_left_eq->XE,eq_replicate_iff->XH,all_takeWhile->XI,drop_left'->XJ,map_fst_zip->XM,map_snd_zip->XN,map_id'->XO,length_zipWith->XQ,getElem_zipWith->XR,take_sublist->XS,getElem_take->XT,find?_eq_none->XU,getElem?_replicate->XX,getElem?_zipIdx->XY,getElem?_set_self->X3,lookup->Yc,all_cons->Yl,contains_cons->Yt,any_eq_true->YI,any_append->YJ,range'_append->YK,getElem?_of_mem->YM,singleton_append->YN,tail_drop->YO,take_left->YQ,getElem?_eq_none->YR,map_flatMap->YT,flatMap_nil->YU,zip_map_left->YV
open List.cons renaming inj->d4
open Nat renaming le_refl->bA,zero_le->bR,le_trans->eA,lt_of_lt_of_le->iK,ne_of_lt->i6,not_lt_zero->k_,blt->lr,le_add_right->nH,lt_succ_self->oV,sub_self->qu,lt_irrefl->qE,le_of_ble_eq_true->qL,le_of_eq->sZ,zero_add->vP,add_assoc->vZ,add_sub_cancel->v8,mul_le_mul_right->zm,add_sub_cancel_left->zy,mul_add->zA,min_eq_left->zC,not_lt->Eb,le_of_lt->Ee,lt_succ_of_lt->Ef,le_of_succ_le->EJ,lt_of_le_of_lt->Nw,sub_zero->NC,ne_of_gt->NY,min_eq_right->Og,le_of_not_lt->XF,pow_le_pow_right->XG,add_mul->XW,add_zero->XZ,le_succ->Ye
open Ne renaming symm->mT
open NeutralIO renaming bytes->Et
open Option renaming map_eq_some_iff->aX,map->fb,bind->fk,bind_eq_some_iff->iI,map_map->NJ,isSome_iff_exists->NO,getD_none->Yj
open Option.some renaming injEq->cQ,inj->kz
open Prod.mk renaming injEq->aK,inj->g9
open PyFlat renaming rows->qB,calls->v9,told->zF,played->zG,row->Er,call->Es
open PyInside renaming lists->lp,within->X1
open PyProof.Rows renaming envOfC->kE,AllBare->qF,IntsAre->wq,callWith_type1->Ex,iadd_int->Zs,callWith_builtin1->Zt,le_int->Zv
open PySem renaming Addr->ai,Value->ao,Shared->aF,model->aT,Stmt->aV,wpAny->aZ,sizeLine_eq->bq,World->bw,Heap->bz,sizeLine->bH,Program->bL,eval->cb,Expr->cC,starEach->cD,wpAny_bind->cH,boot_len->cT,Params->c6,Around->fm,Scope->fD,wpAny_pure->fG,cellsFrom->gu,compareOp->gJ,backTo->iw,compEnvC->i7,mainGlobals->jP,mem_of_lookup->jS,OsState->kr,wpAny_loadPart'->kH,FuncData->lX,wpAny_mono->l_,DictEntry->mP,PyData->pd,Arguments->qg,wpAny_truthy_bool->qG,cLine->qH,pushCells->qI,treeTable->sM,swapsWith->tf,assignEach->tj,wpAny_passesOwn->tm,rawInt->tp,codeAny->tq,bindL->tz,bindC->tD,sliceBounds->tE,notedBy->tF,getMethod->wa,attributeBase->wb,BindsTo->wc,backToKw->wd,keywordEach->we,noteFrame->wj,bootBuiltins->zI,isTrue->zJ,standAt->zK,holding->zL,wpAny_execs_nil->zM,binaryOp->zN,wpAny_Call_Name_kw->zP,Keyword->zQ,callerA->zU,PassesOwn->Ew,foldedSetIterable->Ey,behindInMarks->Ez,codeAny_mono->ED,callWith->EE,leaving->EF,pushCells_keeps->EI,wpAny_field->EL,compPost->EM,call->Nn,Within->NP,builtinsNs->NT,storeName->NU,wpAny_Name->NW,inplaceOp->NX,letOwnedTupleGo->NZ,wpAny_call->N6,seqIndex?->N_,call_meets->Oc,setFlight->Of,wpAny_holding->Om,importedModules->Xy,wpAny_loadName_local->X4,wpAny_loadName_cell->X5,wpAny_execs_cons->X7,wpAny_assign_Name->X8,slot_list_getitem->Yi,wpAny_pyIter_enum->Yn,wpAny_pyIter_zip->Yo,wpAny_loadPart_at->Yu,wpAny_isSubtype_exc->Yv,wpAny_looks_onW->Yw,codeAny_builtin->YD
open PySem.Builtin.List renaming listTooLong->Ob
open PySem.Builtin.Range renaming rangeSize->Y5
open PySem.Calls renaming Name_function_global->X6
open PySem.Challenge renaming rw_shredcolumns_s01_answers->lY,pw_shredcolumns_s01_answers->Nm
open PySem.EqMixed renaming eq_bool_str->Y',eq_int_str->Zb,eq_str_bool->Zd,eq_str_int->Ze,ne_bool_str->Zk,ne_int_str->Zm,ne_str_bool->Zo,ne_str_int->Zp
open PySem.EqNone renaming eq_none_none->Y6,eq_none_bool->Y7,eq_none_int->Y8,eq_none_str->Y9,eq_bool_none->Y_,eq_int_none->Za,eq_str_none->Zc,ne_none_none->Zf,ne_none_bool->Zg,ne_none_int->Zh,ne_none_str->Zi,ne_bool_none->Zj,ne_int_none->Zl,ne_str_none->Zn
open PySem.F renaming plainAttrs_list->eU,slot_list_append->gv,type_list_append->gw,slot_list_extend->wu,type_list_extend->wx,slot_NoneType_eq_refl->Yz
open PySem.Heap renaming lt_size->eJ,get?_push_of_some->jR,get?_push_size->nM,size_push->nO,FlyingW->zV,SameBut->Eu,get?_update_other->Oa,StaysIn->Yr
open PySem.Heap.IsSliceOf renaming new->Zu
open PySem.Obj renaming mapFields->Yx,data_mapFields->Yy
open PySem.PyData renaming eqv->EH,canLayAll0->Oh,depthAll->Oi,eqvAll->Oj
open PySem.SeqAt renaming shaped->wg,EqAt->EG
open PySem.SeqAt.EqAt renaming int_int->Yh,same->Yk
open PySem.Shared renaming heap->Xz
open PySem.Str renaming ofString->iZ,empty->Np
open PySem.StrLaws renaming seqIndex_nonneg->Zw
open PySem.W renaming Frag->aW,WData->kF,findIn->lq,hideAll->nL,emptyDict->o_,instObj->qD,WellAll->qJ,keepIn->tu,findIn->vQ,topFrame->zf,plainOver->zO,fnOf->zR,mg_none_of->z_,lookIn->EA,InstAt->EB,plainGet->EC,behindTheImports->Nl,hideAll_get->NQ,of_hideAll->NS,hasDictIn->N0,plainGet_of->N1,isFn->N2,takerIn->N5,callWith_K->N7,callWith_K0->N8,codeIn->N9,hideAll_none->X2,handedIn->X9,any_some->X_,makesIn->X',looks_findIn->Yb,methodCall_KW->Yd,cellsFrom_some->Yg,length_le_weightAllW->Yp,WalkOS->Yq,excIn->Ys
open PySem.W.Codec renaming encAll->zT,app->Od
open PySem.W.Looks renaming here->Zq
open PySem.W.WData renaming weightAll->EK,layableAll->XA
open PySem.Within renaming cons->Zr
open PyVacolc renaming shape->mS,answers->zE,answers_asked->NN,whole->X0
open Vacola renaming Text->aq,leavesKind->au,repOf->aw,leavesFields->aG,Fields->aJ,Leaf->bN,nameSign->bQ,isDigit->bX,columns->di,fits->dG,keyOf->dM,worth->dT,readQuoted->eM,showLit->fQ,keepKind->f',keepFields->gH,Head->g6,goodName->ip,columnsKind->i3,hexOf->jo,columnsFields->jq,shape->jr,showMode->jt,Mode->jQ,digitRun->kx,faultAt->oS,keepMode->qs,decimal->sO,readFields->sS,readSchema->sT,openSign->vR,modeOf->vU,digitsBefore->zg,Column->zr,closeSign->D_,readLeaf->Ed,plain->EN,decimalInt->Nq,numberRun->Nu,openSign->YF,closeSign->YG,keepKind->YW
open Vacola.Fields renaming list->sQ,byName->D'
open Vacolb renaming pathsOf->bT,showVal->cS,joinWith->dt,keyLit->dW,showSlots->eT,readSlots->gG,showRow->g5,wholeLit->g8,entryName->k8,readVal->k9,readTaken->mQ,readRow->nG,textLess->qw,litLess->qx,expect->sN,readOccurrences->sP,nextEntry->vS,readLeafVal->zh,firstEntry->zi,keyRises->zl,goodColumns->zH,readRow->YE
open Vacolc renaming told->aO,joinCols->bU,shredKind->bY,step->cv,pieces->cG,shredRow->c8,shredFields->e_,allPicks->fF,takeColumns->fS,capacity->iu,settled->i4,goodPicks->i5,capacity->js,takes->lu,takeEntries->lZ,marks->nI,judge->nJ,absent->oX,marksKind->o5,marksFields->o6,shredRows->qk,takeEntry->qA,rises->qC,columnFault->sY,faultWithin->s_,Entry->vW,asmKind->zq,State->zZ,entriesOf->z5,keptLeaves->Ej,entryFault->Eo,ENTRIES->ER,asmFields->NA,ROWS->Ov
open VacolcNeutral renaming encode->iM,text->pj,step->v_,entry->EO,leaf->YS,sized->YX,start->Y4
noncomputable section
local macro_rules
  | `(command| def $i:declId $s:optDeclSig $v:declVal) => `(command| noncomputable def $i:declId $s:optDeclSig $v:declVal)
theorem by_G_ {G : Prop} (h : ∀ G' : Prop, (G → G') → G') : G := h G id
local macro_rules
  | `(tactic| obtain $p:rcasesPatMed := $e:term) => do
    let a := p.raw[0]
    if a.getNumArgs != 1 || !a[0].isOfKind `Lean.Parser.Tactic.rcasesPat.tuple || a[0][1].getNumArgs < 7 then Lean.Macro.throwUnsupported
    `(tactic| (refine by_G_ fun _ k => ?_; rcases $e:term with $p:rcasesPatMed <;> (refine k ?_; clear k)))
  | `(tactic| rintro $ps:rintroPat*) => do
    let a := ps.back!.raw[0]
    if !a.isOfKind `Lean.Parser.Tactic.rcasesPat.tuple || a[1].getNumArgs < 7 then Lean.Macro.throwUnsupported
    let p : Lean.TSyntax `rcasesPat := ⟨a⟩
    let i := ps.pop
    let t ← if i.isEmpty then `(tactic| skip) else `(tactic| rintro $i:rintroPat*)
    `(tactic| ($t:tactic; intro x; refine by_G_ fun _ k => ?_; rcases x with $p:rcasesPat <;> (refine k ?_; clear k)))
namespace Hd
open PySem PySem.W
abbrev Z:=Nat×Nat×ao×Nat
def tup (l:List ao):Obj:={cls:= .type "tuple",data:= .seq l.toArray}
def fld (c:ao)(l:List ao):Obj:={cls:=c,data:= .fields l.toArray}
def toks (t:Nat):List Str->List ao
 |[]=>[]
 |x::l=> .str x t::toks (t+1) l
def locals (s:fD):List Str:=s.names.filterMap λp=>match p.2 with| .local=>some p.1|_=>none
def file:Str:=iZ "/claim/cut.py"
def ent (P:c6)(x:Str)(t:Nat)(v:ao):mP:=⟨PyData.keyHash P x,.str x t,v⟩
def code (nm q:Str)(a t u:Nat)(line n i:Nat)(b:Bool)(v1 h g:ao):Obj:=
 fld (.type "code") [.str nm t,.str q (t+1),.str file (t+2),.int line 0,.int n 0,.int 0 0,.int 0 0,.int i 0,.ref a,.bool b,.int 181 0,.ref (a+1),.none,v1,h,g,.int u 0,.int line 0,.str file (u+1)]
def tG (nm q:Str)(i:qg)(b:List aV)(sc:fD)(g:ai)(m h:ao):lX:=
 {name:=nm,qualname:=q,params:=i,body:= .stmts b,scope:=sc,globals:=g,closure:=[],defaults:= .none,kwdefaults:= .none,pyModule:=m,code:=h}
def nv (sc:fD):Nat:=match sc.more with|[]=>(locals sc).length|_=>0
def sz (sc:fD):Nat:=match sc.more with|[]=>7|_=>5
def ES (q:Str)(m:ao)(a t:Nat)(nm:Str)(g:qg)(b:List aV)(sc:fD)(line:Nat):List Obj:=
 match sc.more with
 |[]=>[tup [],fld .none [],tup (toks (t+3) (locals sc)),tup [],{cls:= .none,data:= .func (tG nm q g b sc 0 .none .none)},
   code nm q a t (t+3+nv sc) line g.args.length 3 true (.ref (a+2)) (.ref (a+3)) (.ref (a+4)),{cls:= .type "function",data:= .func (tG nm q g b sc 3 m (.ref (a+5)))}]
 |_=>[tup [],fld .none [],{cls:= .none,data:= .func (tG nm q g b sc 0 .none .none)},
   code nm q a t (t+3) line g.args.length 3 true .none .none (.ref (a+2)),{cls:= .type "function",data:= .func (tG nm q g b sc 3 m (.ref (a+3)))}]
def dot (x y:Str):Str:=⟨(x.cps.toList++46::y.cps.toList).toArray⟩
def ET (c:Str)(m:ao)(a t:Nat):List aV->List Obj
 | .FunctionDef nm g b _ _ _ sc _ _ p::l=>ES (dot c nm) m a t nm g b sc p.line++ET c m (a+sz sc) (t+6+nv sc) l
 |_=>[]
def EU (P:c6)(a t:Nat):List aV->List mP
 | .FunctionDef nm _ _ _ _ _ sc _ _ _::l=>ent P nm (t+5+nv sc) (.ref (a+sz sc-1))::EU P (a+sz sc) (t+6+nv sc) l
 |_=>[]
def EV (a:Nat):List aV->List ao
 | .FunctionDef _ _ _ _ _ _ sc _ _ p::l=> .int p.line 0:: .int p.col 0:: .ref (a+sz sc-2)::EV (a+sz sc) l
 |_=>[]
def gb:List aV->Nat
 | .FunctionDef _ _ _ _ _ _ sc _ _ _::l=>sz sc+gb l
 |_=>0
def tH:List aV->Nat
 | .FunctionDef _ _ _ _ _ _ sc _ _ _::l=>6+nv sc+tH l
 |_=>0
def EW:List aV->Nat
 | .FunctionDef ..::l=>EW l+1
 |_=>0
def wy (l:List mP)(n:Nat):Obj:={cls:= .type "dict",data:= .dict l.toArray n}
def Ox (P:c6)(m:ao)(a t:Nat)(nm:Str)(ex:Bool)(b:List aV)(sa:List Str)(line:Nat):List Obj:=
 let e:=a+7+gb b;let u:=t+12+tH b;let v:=u+sa.length;let j:=ent P (iZ "__module__") (t+7) m;let y:=ent P (iZ "__qualname__") (t+9) (.str nm (t+8));let i:=ent P (iZ "__firstlineno__") (t+11) (.int line (t+10));let h:=ent P (iZ "__static_attributes__") v (.ref e);let c:=e+2;let g:=EU P (a+7) (t+12) b;let x:=Value.type "Exception";let w:=λk o=>fld (.type "getset_descriptor") [.str (iZ "__weakref__") o,.ref c,.builtin "ExceptionGroup.__weakref__",.none]
 (tup (if ex then[x]else[])::fld (.type "builtin_function_or_method") [.builtin "type.__prepare__",.type "type"]::wy (j::y::i::g++[h]) (EW b+4)::
  tup []::fld .none (EV (a+7) b)::code nm nm (a+3) (t+2) (t+5) line 0 0 false .none .none .none::
  {cls:= .type "frame",slots:= #[some (.ref (a+5)),some (.ref 3),some (.ref (a+2)),none,some m,none,some (.ref 0)]}::ET nm m (a+7) (t+12) b)++
 (tup (toks u sa)::(if ex then
   [wy (j::i::g++[h,ent P (iZ "__weakref__") (v+2) (.ref (c+1)),ent P (iZ "__doc__") (v+3) .none]) 3,
    {cls:= .type "type",data:= .cls {name:=nm,bases:=[x],mro:=[.ref c,x,.type "BaseException",.type "object"],ns:=e+1,qualname:=nm},slots:= #[some (.ref a),none,some (.str nm t),some (.str nm (t+8)),some (.builtin "Exception.__new__"),some (.bool true)]},
    w 1 (v+1)]
   else
    [wy (j::i::g++[h,ent P (iZ "__dict__") (v+2) (.ref (c+1)),ent P (iZ "__weakref__") (v+4) (.ref (c+2)),ent P (iZ "__doc__") (v+5) .none]) 4,
     {cls:= .type "type",data:= .cls {name:=nm,bases:=[.type "object"],mro:=[.ref c,.type "object"],ns:=e+1,qualname:=nm},slots:= #[none,none,some (.str nm t),some (.str nm (t+8)),some (.builtin "object.__new__"),some (.bool true)]},
     fld (.type "getset_descriptor") [.str (iZ "__dict__") (v+1),.ref c,.builtin "function.__dict__",.builtin "function.__dict__#set"],w 2 (v+3)])++
  [fld (.type "super") [.ref c,.ref c,.ref c],fld (.type "builtin_function_or_method") [.builtin "object.__init_subclass__",.ref c]])
def nx:aV->Z->Z
 | .FunctionDef _ _ _ _ _ _ sc _ _ _,(a,t,m,k)=>(a+sz sc,t+6+nv sc,m,k)
 | .ClassDef _ bs _ b _ _ _ _ _ sa _,(a,t,m,k)=>match bs with
  |[]=>(a+14+gb b,t+20+tH b+sa.length,m,k)
  |_=>(a+13+gb b,t+20+tH b+sa.length,m,k+1)
 | .Assign _ v _,(a,t,m,k)=>match v with
  | .Constant (.str x) _ _=>(a,t+2,.str x t,k)
  | .Constant ..=>(a,t+2,m,k)
  |_=>(a,t+3,m,k)
 |_,z=>z
def obs (P:c6):aV->Z->List Obj
 | .FunctionDef nm g b _ _ _ sc _ _ p,(a,t,m,_)=>ES nm m a t nm g b sc p.line
 | .ClassDef nm bs _ b _ _ _ _ _ sa p,(a,t,m,_)=>Ox P m a t nm (!bs.isEmpty) b sa p.line
 |_,_=>[]
def num:PySem.Expr->Int
 | .Constant (.int i) _ _=>i
 | .UnaryOp _ (.Constant (.int i) _ _) _=> -i
 |_=>0
def Oy (P:c6):aV->Z->List mP
 | .FunctionDef nm _ _ _ _ _ sc _ _ _,(a,t,_,_)=>[ent P nm (t+5+nv sc) (.ref (a+sz sc-1))]
 | .ClassDef nm bs _ b _ _ _ _ _ sa _,(a,t,_,_)=>[ent P nm (t+19+tH b+sa.length) (.ref (a+9+gb b))]
 | .Assign [.Name x _] (.Constant (.int i) _ _) _,(_,t,_,_)=>[ent P x (t+1) (.int i t)]
 | .Assign [.Name x _] (.UnaryOp _ (.Constant (.int i) _ _) _) _,(_,t,_,_)=>[ent P x (t+2) (.int (-i) (t+1))]
 |_,_=>[]
def cos:aV->Z->List ao
 | .FunctionDef _ _ _ _ _ _ sc _ _ p,(a,_,_,_)=>[.int p.line 0,.int p.col 0,.ref (a+sz sc-2)]
 | .ClassDef _ _ _ _ _ _ _ _ _ _ p,(a,_,_,_)=>[.int p.line 0,.int p.col 0,.ref (a+5)]
 |_,_=>[]
def sub (k:Nat):Str:=⟨((iZ "type.__subclasses__.Exception.").cps.toList++[k]).toArray⟩
def Oz (P:c6):aV->Z->List mP
 | .ClassDef _ (_::_) _ _ _ _ _ _ _ _ _,(a,t,_,k)=>[ent P (sub (48+k)) (t+16) (.int (a+9) 0)]
 |_,_=>[]
def tI {α:Type}(f:aV->Z->List α):List aV->Z->List α
 |[],_=>[]
 |s::l,z=>f s z++tI f l (nx s z)
def fin:List aV->Z->Z
 |[],z=>z
 |s::l,z=>fin l (nx s z)
def z0:Z:=(15,187,.str (iZ "__main__") 164,0)
def OA:Data->List mP
 | .dict es _=>es.toList
 |_=>[]
def OB (m:ao)(l:List mP):List mP->Obj
 |e::r=>wy (⟨e.hash,e.key,m⟩::r++l) (9+l.length)
 |[]=>tup []
def OC (P:c6)(k:Nat):List mP->Obj
 |[]=>{cls:= .none,data:= .dict #[] 0}
 |e::r=>{cls:= .none,data:= .dict (e::ent P (sub 110) 416 (.int k 0)::r).toArray (k+1)}
def hp (b:c6->Obj)(P:c6)(l:List aV):List Obj:=
 b P::boot_o_1 P::OC P (fin l z0).2.2.2 (tI (Oz P) l z0)::OB (fin l z0).2.2.1 (tI (Oy P) l z0) (OA (boot_o_3 P).data)::boot_o_4 P::boot_o_5 P::boot_o_6 P::boot_o_7 P::boot_o_8 P::boot_o_9 P::boot_o_10 P::
 tup []::fld .none (tI cos l z0)::code (iZ "<module>") (iZ "<module>") 11 182 185 1 0 0 false .none .none .none::
 {cls:= .type "frame",slots:= #[some (.ref 13),some (.ref 3),some (.ref 3),none,some (.str (iZ "__main__") 164),none,some (.ref 0)]}::tI (obs P) l z0
def alt:List Obj->List Obj
 |x::_::l=>x::alt l
 |l=>l
def bt:Nat->List Obj->BT
 |0,_=> .nil
 |_+1,[]=> .nil
 |n+1,x::l=> .node x (bt n (alt l)) (bt n (alt l.tail))
def ps:aV->Pos->Pos
 | .FunctionDef _ _ _ _ _ _ _ _ _ p,_=>p
 | .ClassDef _ _ _ _ _ _ _ _ _ _ p,_=>p
 | .Assign [.Name _ p] _ _,_=>p
 |_,p=>p
def tJ:List aV->Pos->Pos
 |[],p=>p
 |s::l,p=>tJ l (ps s p)
def S (b:c6->Obj)(l:List aV)(P:c6)(os:kr):SharedT:=⟨bt 40 (hp b P l),(fin l z0).1,{},#[],{},(fin l z0).2.1,os⟩
open PySem.Calls
def env (p:bL):Env:={scope:=p.main.scope,locals:=mainNs,globals:=mainNs,cells:=[],code:= .ref 13,frame:=some 14}
def cB (p:bL):Code:= .body (Nl p) (env p)
def OD (p:bL)(l:List aV)(q:Pos):Thread:=piecesOf l (env p) (cB p) q [zf default]
def go (o:c6->Obj)(p:bL)(l b:List aV)(w:bw)(os:kr):Option (Flow×SharedT×Code×Pos):=segRunT sM p w 11 (some (.ref 6)) 1 1000 (S o l w.params os) (OD p b (tJ l default))
def gl (o:c6->Obj)(p:bL)(l b:List aV)(w:bw)(os:kr):Option (Flow×SharedT×Code×Pos):=some (.next,S o (l++b) w.params os,cB p,tJ (l++b) default)
abbrev pw:=Nm
def H1 (o:c6->Obj)(l:List aV)(P:c6):bz:=⟨(hp o P l).toArray,{}⟩
def S1 (o:c6->Obj)(l:List aV)(P:c6)(os:kr):aF:=⟨H1 o l P,#[],{},(fin l z0).2.1,os⟩
def pre (o:c6->Obj)(h:c6->bz)(p:bL)(w:bw)(os:kr):Option (aF×Thread):=topGo sM p w 11 (some (.ref 6)) 12 ⟨h w.params,Array.mk [],boot_drawn,boot_toks,os⟩ (topStub p)
def OE (o:c6->Obj)(h:c6->bz)(p:bL)(w:bw)(os:kr):Option (aF×Thread):=some ((S o [] w.params os).abs,⟨denote sM (cB p),cB p,default,[zf default]⟩)
def gf (o:c6->Obj)(h:c6->bz)(p:bL)(w:bw)(os:kr):Option (Flow×aF×Code×Pos):=segRun sM p w 11 (some (.ref 6)) 1 1 (S o [] w.params os).abs (blockOf (Nl p) (env p) (cB p) default [zf default])
def OF (o:c6->Obj)(h:c6->bz)(p:bL)(w:bw)(os:kr):Option (Flow×aF×Code×Pos):=some (.next,(S o [] w.params os).abs,cB p,default)
def fi (o:c6->Obj)(h:c6->bz)(p:bL)(l:List aV)(w:bw)(os:kr):Option aF:=topRun sM p w 11 (some (.ref 6)) 2 (S o l w.params os).abs ⟨doneF .next,cB p,tJ l default,[zf default]⟩
def OG (o:c6->Obj)(h:c6->bz)(l:List aV)(w:bw)(os:kr):Option aF:=some (S1 o l w.params os)
def OH:aV->List Str
 | .FunctionDef nm _ _ _ _ _ _ _ _ _=>[nm]
 | .ClassDef nm _ _ _ _ _ _ _ _ _ _=>[nm]
 | .Assign [.Name x _] _ _=>[x]
 |_=>[]
def q (p:bL)(l:List aV):bL:={p with main:={p.main with body:=l.drop 170}}
def loose (l:List aV):List Str:=(l.take 170).flatMap OH
def Xt (q:bL)(s:aF):Bool:=xlAt q [] s&&recOk [] s
def lk (o:c6->Obj)(h:c6->bz)(p:bL)(l:List aV)(w:bw)(os:kr):=((staticsOk (Xy p.main.body) (h w.params) (H1 o l w.params)&&namesBound p (H1 o l w.params)&&gensDone (S1 o l w.params os)&&laidKept (h w.params) (H1 o l w.params)),
 openSeen (q p l) (loose l) (Xy p.main.body) (Xt (q p l)) true (S1 o l w.params os))
def OI (p:bL)(l:List aV):=(true,openGood (q p l) (loose l))
def OJ (h:c6->bz)(w:bw):=((h w.params).isNs jP&&(Array.mk ([]:List GenState)).size==0,(h w.params).objs.size,(h w.params).nsMap jP "__annotations__")
def B:=Nl pw
abbrev bo:=boot_o_0
abbrev bh:=boot_heap
def R (n k:Nat):Prop:=∀(w:bw) (os:kr),go bo pw (B.take n) ((B.drop n).take k) w os=gl bo pw (B.take n) ((B.drop n).take k) w os
lay_quick Hd.go Hd.gl
theorem go_s:go=go:=rfl
name_quick goQ for Hd.go by Hd.go_s
theorem gl_s:gl=gl:=rfl
name_quick glQ for Hd.gl by Hd.gl_s
theorem OK:∀w os,pre bo bh pw w os=OE bo bh pw w os:=λ_ _=>by kernel_rfl
theorem OL:∀w os,gf bo bh pw w os=OF bo bh pw w os:=λ_ _=>by kernel_rfl
theorem OM:∀w os,fi bo bh pw B w os=OG bo bh B w os:=λ_ _=>by kernel_rfl
theorem ON:∀w,OJ bh w=(true,11,some (.ref 6)):=λ_=>by kernel_rfl
theorem OO:∀w os,lk bo bh pw B w os=OI pw B:=λ_ _=>by kernel_rfl
theorem r0:R 0 8:=λ_ _=>by rw [Fast.goQ_eq,Fast.glQ_eq];kernel_rfl
theorem r1:R 8 13:=λ_ _=>by rw [Fast.goQ_eq,Fast.glQ_eq];kernel_rfl
theorem r2:R 21 9:=λ_ _=>by rw [Fast.goQ_eq,Fast.glQ_eq];kernel_rfl
theorem r3:R 30 2:=λ_ _=>by rw [Fast.goQ_eq,Fast.glQ_eq];kernel_rfl
theorem r4:R 32 2:=λ_ _=>by rw [Fast.goQ_eq,Fast.glQ_eq];kernel_rfl
theorem r5:R 34 2:=λ_ _=>by rw [Fast.goQ_eq,Fast.glQ_eq];kernel_rfl
theorem r6:R 36 4:=λ_ _=>by rw [Fast.goQ_eq,Fast.glQ_eq];kernel_rfl
theorem r7:R 40 5:=λ_ _=>by rw [Fast.goQ_eq,Fast.glQ_eq];kernel_rfl
theorem r8:R 45 24:=λ_ _=>by rw [Fast.goQ_eq,Fast.glQ_eq];kernel_rfl
theorem r9:R 69 8:=λ_ _=>by rw [Fast.goQ_eq,Fast.glQ_eq];kernel_rfl
theorem Aa:R 77 15:=λ_ _=>by rw [Fast.goQ_eq,Fast.glQ_eq];kernel_rfl
theorem OP:R 92 5:=λ_ _=>by rw [Fast.goQ_eq,Fast.glQ_eq];kernel_rfl
theorem OQ:R 97 1:=λ_ _=>by rw [Fast.goQ_eq,Fast.glQ_eq];kernel_rfl
theorem OR:R 98 8:=λ_ _=>by rw [Fast.goQ_eq,Fast.glQ_eq];kernel_rfl
theorem OS:R 106 13:=λ_ _=>by rw [Fast.goQ_eq,Fast.glQ_eq];kernel_rfl
theorem OT:R 119 6:=λ_ _=>by rw [Fast.goQ_eq,Fast.glQ_eq];kernel_rfl
theorem OU:R 125 1:=λ_ _=>by rw [Fast.goQ_eq,Fast.glQ_eq];kernel_rfl
theorem OV:R 126 8:=λ_ _=>by rw [Fast.goQ_eq,Fast.glQ_eq];kernel_rfl
theorem OW:R 134 11:=λ_ _=>by rw [Fast.goQ_eq,Fast.glQ_eq];kernel_rfl
theorem OX:R 145 20:=λ_ _=>by rw [Fast.goQ_eq,Fast.glQ_eq];kernel_rfl
theorem OY:R 165 1:=λ_ _=>by rw [Fast.goQ_eq,Fast.glQ_eq];kernel_rfl
theorem OZ:R 166 1:=λ_ _=>by rw [Fast.goQ_eq,Fast.glQ_eq];kernel_rfl
theorem O0:R 167 4:=λ_ _=>by rw [Fast.goQ_eq,Fast.glQ_eq];kernel_rfl
open PyProof.Rows
def Q (N n:Nat):Prop:=∀(w:bw) (os:kr),topRun sM pw w 11 (some (.ref 6)) N (S bo (B.take n) w.params os).abs (restOf (B.drop n) (env pw) (cB pw) (tJ (B.take n) default) [zf default])=some (S1 bo B w.params os)
theorem eB {n k N:Nat}(r:R n k)(h:Q N (n+k)):Q (1000+N) n:=λw os=>by
 have e:B.take (n+k)=B.take n++(B.drop n).take k:=List.take_add;have d:B.drop n=(B.drop n).take k++B.drop (n+k):=by rw[<-List.drop_drop];exact(il k _).symm
 rw[d];refine piece_app (segRun_of (r w os)) ?_;rw[<-e];exact h w os
theorem O1:Q 2 171:=λw os=>by
 have e:B.take 171=B:=vO (by decide+kernel);have d:B.drop 171=[]:=ku (by decide+kernel);rw[e,d];exact piece_nil (OM w os)
theorem O2:Q 23002 0:=eB r0<|eB r1<|eB r2<|eB r3<|eB r4<|eB r5<|eB r6<|eB r7<|eB r8<|eB r9<|eB Aa<|eB OP<|eB OQ<|eB OR<|eB OS<|eB OT<|eB OU<|eB OV<|eB OW<|eB OX<|eB OY<|eB OZ<|eB O0 O1
theorem O3 (w:bw)(os:kr):topRun sM pw w 11 (some (.ref 6)) 23015 ⟨bh w.params,Array.mk [],boot_drawn,boot_toks,os⟩ (topStub pw)=some (S1 bo B w.params os):=
 go_top (n:=12) (N:=23003) (OK w os) (piece_block (n:=1) (N:=23002) (OL w os) (O2 w os))
theorem left:LeftO pw (q pw B) (loose B) (Xt (q pw B)) Xz (λw=>H1 bo B w.params) 30000 true:=
 LeftO.of_pieces (boot_open rfl rfl λ_=>rfl) ON O3 rfl λw=>funext λos=>by
  have e:=OO w os;exact Prod.ext (congrArg (·.1) e) (Prod.ext (congrArg (·.2) e) rfl)
noncomputable def enum:Nat->List Obj->Frag
 |_,[]=>[]
 |n,o::l=>match alive o with
  |some o=>(n,o)::enum (n+1) l
  |none=>enum (n+1) l
theorem O4 {o g:Obj}(h:alive o=some g):g=o:=by
 obtain⟨a,b,c,d⟩:=o;cases c<;>first|(cases h;done)|(cases h;rfl)
theorem Ab:∀{l:List Obj} {n a:Nat} {o:Obj},(enum n l).lookup a=some o->∃i,a=n+i/\l[i]? =some o/\alive o=some o
 |[],_,_,_,h=>by cases h
 |x::l,n,a,o,h=>by
  unfold enum at h;cases b:alive x with
  |none=>
   rw[b]at h;obtain⟨i,e,g,q⟩:=Ab h;exact⟨i+1,by omega,g,q⟩
  |some y=>
   rw[b]at h;have e:=O4 b;subst e;by_cases j:a=n
   ·subst j;rw[List.lookup_cons_self]at h;cases h;exact⟨0,rfl,rfl,b⟩
   ·dsimp only at h;rw[nF,show(a==n)=false by simpa using j]at h;obtain⟨i,e,g,q⟩:=Ab h;exact⟨i+1,by omega,g,q⟩
noncomputable def Kf (o:c6->Obj)(l:List aV)(P:c6):Frag:=enum 0 (hp o P l)
theorem O5 (o:c6->Obj)(l:List aV)(P:c6):(Kf o l P).In (H1 o l P):=λa x h=>by
 obtain⟨i,e,g,q⟩:=Ab h;rw[vP]at e;subst e;unfold Heap.get? H1;rw[List.getElem?_toArray,g];obtain⟨a,b,c,d⟩:=x;cases c<;>first|rfl|(cases q;done)
abbrev wz:Str:=lY.name
def ws (r:OpenSpec):Bool:=r.wellSaid
def tw (p:bL):Bool:=p.tablesWhole
theorem O6:Hd.ws lY=true:=by kernel_rfl
theorem O7:Hd.tw Hd.pw=true:=by kernel_rfl
theorem O8:(defOf (q pw B) wz).isSome=true:=by kernel_rfl
noncomputable def dk:DefRec:=((defOf (q pw B) wz).get O8).1
theorem h1:defOf (q pw B) wz=some (dk,[]):=by kernel_rfl
theorem h2:pw.theDef wz=some (dk.params,dk.body,dk.scope):=by kernel_rfl
theorem h3:kwWritten? dk.params.kwonlyargs dk.params.kw_defaults=some []:=by kernel_rfl
theorem h4:lY.wellSaid=true:=O6
theorem h5:(chainsOk (q pw B)&&opensWell pw)=true:=by kernel_rfl
theorem h6:pw.bare:=⟨rfl,rfl,rfl,rfl,rfl,O7⟩
theorem h7:∃args,lY.pre args=true/\XA args=true:=⟨[.list [.int 2]],by kernel_rfl,by kernel_rfl⟩
theorem holds (call:WalkOS (q pw B) (loose B) (XL (q pw B) []) (λw h=>(Kf bo B w.params).In h) lY dk [] λf b=>Nn f b):lY.Holds:=
 holds_os (q:=q pw B) (loose:=loose B) (Xt:=Xt (q pw B)) (XP:=XL (q pw B) []) (Yf:=Xz) (Ya:=λw=>H1 bo B w.params) (YP:=λw h=>(Kf bo B w.params).In h) (N:=30000) left (λw s e=>e▸O5 bo B w.params) (λw h g x k a o e=>k a o (x a o e))
  (λs e=>xl_of s (D9.mp e).1) XL.keeps h1 h2 h3 (λs e=>recFacts_of (D9.mp e).2) os_shapes h4 h5 h6 h7 call
abbrev FT:=Option (Option ao)×Option Obj×Bool×Sem (List (Str×ao))
def iN (b:qg):List Str:=b.args.map (·.arg)
def Ac (nm q:Str)(m:ao)(f:Nat)(g:qg)(b:List aV)(sc:fD):lX:=tG nm q g b sc 3 m (.ref (f-1))
def Ad (K:Frag)(h:List ao)(r:Option (Option ao))(nm q:Str)(m:ao)(f:Nat)(g:qg)(b:List aV)(sc:fD):FT:=
 (r,K.lookup f,codeIn K (.ref (f-1)) q&&keepIn K (.ref f)&&isFn K (.ref f)&&Nat.ble (iN g).length 6,bindArgs (Ac nm q m f g b sc) ⟨h.take (iN g).length,[]⟩)
def Ae (h:List ao)(nm q:Str)(m:ao)(f:Nat)(g:qg)(b:List aV)(sc:fD):FT:=
 (some (some (.ref f)),some {cls:= .type "function",data:= .func (Ac nm q m f g b sc)},true,pure ((iN g).zip (h.take (iN g).length)))
def wA (K:Frag)(g:List ao)(c:Str)(C:Nat)(m:ao)(a:Nat):List aV->List FT
 | .FunctionDef nm h b _ _ _ sc _ _ _::l=>Ad K g (vQ K (.ref C) nm) nm (dot c nm) m (a+sz sc-1) h b sc::wA K g c C m (a+sz sc) l
 |_=>[]
def wB (g:List ao)(c:Str)(C:Nat)(m:ao)(a:Nat):List aV->List FT
 | .FunctionDef nm h b _ _ _ sc _ _ _::l=>Ae g nm (dot c nm) m (a+sz sc-1) h b sc::wB g c C m (a+sz sc) l
 |_=>[]
abbrev ST:=List FT×List (Option (Option ao))×Bool×Option Obj
def EX (K:Frag)(g:List ao):aV->Z->ST
 | .FunctionDef nm h b _ _ _ sc _ _ _,(a,_,m,_)=>([Ad K g (nsIn K 3 nm) nm nm m (a+sz sc-1) h b sc],[],true,none)
 | .ClassDef nm bs _ b _ _ _ _ _ sa _,(a,_,m,_)=>match bs with
  |[]=>(wA K g nm (a+9+gb b) m (a+7) b,nsIn K 3 nm::vQ K (.ref (a+9+gb b)) "__setattr__"::sa.map (vQ K (.ref (a+9+gb b)) ·),
    plainGet K (a+9+gb b) Np&&hasDictIn K (a+9+gb b)&&plainOver K (a+9+gb b)&&makesIn K (a+9+gb b)&&keepIn K (.ref (a+9+gb b)),none)
  |_=>([],[nsIn K 3 nm],excIn K (a+9+gb b) [.type "Exception",.type "BaseException",.type "object"] "Exception.__new__",K.lookup (a+9+gb b))
 | .Assign [.Name x _] (.Constant (.int _) _ _) _,_=>([],[nsIn K 3 x],true,none)
 | .Assign [.Name x _] (.UnaryOp _ (.Constant (.int _) _ _) _) _,_=>([],[nsIn K 3 x],true,none)
 |_,_=>([],[],true,none)
def EY (g:List ao):aV->Z->ST
 | .FunctionDef nm h b _ _ _ sc _ _ _,(a,_,m,_)=>([Ae g nm nm m (a+sz sc-1) h b sc],[],true,none)
 | .ClassDef nm bs _ b _ _ _ _ _ sa _,(a,t,m,_)=>match bs with
  |[]=>(wB g nm (a+9+gb b) m (a+7) b,some (some (.ref (a+9+gb b)))::some (some (.builtin "object.__setattr__"))::sa.map (λ_=>some none),true,none)
  |_=>([],[some (some (.ref (a+9+gb b)))],true,some {cls:= .type "type",data:= .cls {name:=nm,bases:=[.type "Exception"],mro:=[.ref (a+9+gb b),.type "Exception",.type "BaseException",.type "object"],ns:=a+8+gb b,qualname:=nm},slots:= #[some (.ref a),none,some (.str nm t),some (.str nm (t+8)),some (.builtin "Exception.__new__"),some (.bool true)]})
 | .Assign [.Name x _] (.Constant (.int i) _ _) _,(_,t,_,_)=>([],[some (some (.int i t))],true,none)
 | .Assign [.Name x _] (.UnaryOp _ (.Constant (.int i) _ _) _) _,(_,t,_,_)=>([],[some (some (.int (-i) (t+1)))],true,none)
 |_,_=>([],[],true,none)
def cU:aV->Str
 | .FunctionDef nm ..=>nm
 | .ClassDef nm ..=>nm
 | .Assign [.Name x _] _ _=>x
 |_=>Np
def g_:aV->Bool
 | .FunctionDef ..=>true
 |_=>false
def kI:aV->List aV
 | .ClassDef _ _ _ b _ _ _ _ _ _ _=>b
 |_=>[]
def EZ:aV->List Str
 | .ClassDef _ _ _ _ _ _ _ _ _ sa _=>sa
 |_=>[]
def nQ:Bool->aV->Bool
 |true,.ClassDef _ [] _ _ _ _ _ _ _ _ _=>true
 |false,.ClassDef _ (_::_) _ _ _ _ _ _ _ _ _=>true
 |_,_=>false
def tK {α:Type}(f:aV->Z->α):List aV->Z->List α
 |[],_=>[]
 |s::l,z=>f s z::tK f l (nx s z)
def FF (o:c6->Obj)(l:List aV)(w:bw)(k j i h g b:ao):List ST:=tK (EX (Kf o l w.params) [k,j,i,h,g,b]) l z0
def FG (l:List aV)(k j i h g b:ao):List ST:=tK (EY [k,j,i,h,g,b]) l z0
theorem O9 (w:bw)(k j i h g b:ao):FF bo B w k j i h g b=FG B k j i h g b:=by kernel_rfl
end Hd
namespace My
open Vacola Vacolb
theorem cf {a b}(h:(Except.ok a:Except ε α)= .ok b):a=b:=by injection h
theorem bj {x}{f:α->Except ε β}{b}(h:(x>>=f)= .ok b):∃a,x= .ok a/\f a= .ok b:=by
 cases x with
 |error e=>cases h
 |ok a=>exact⟨a,rfl,h⟩
theorem cg {b:α}:(oS k t)≠.ok b:=by
 intro h;cases h
theorem tL (h:sN c t= .ok r):t=c::r:=by
 unfold sN at h;split at h
 ·split at h
  ·rename_i d b e;simp_all
  ·cases h
 ·cases h
theorem nR:bX c=true↔48<=c/\c<=57:=by
 unfold bX;simp
theorem E0 (t)(c):dT (t++[c])=10*dT t+(c-48):=by
 unfold dT;simp_all
theorem E2:∀(n) (t g:aq) (f),t.length=n->t≠[]->(∀c∈t,bX c=true)->(t.head?=some 48->t.length=1)->dT t<f->zg f (dT t) g=t++g:=by
 intro n;induction n with
 |zero=>intro t g f k i _ _ _;cases t with|nil=>exact absurd rfl i|cons _ _=>simp at k
 |succ n j=>
  intro t g f k i hd H y;obtain⟨u,c,rfl⟩:∃u c,t=u++[c]:=⟨t.dropLast,t.getLast i,(List.dropLast_concat_getLast i).symm⟩;have L:=nR.mp (hd c (by simp));cases f with
  |zero=>lia
  |succ f=>
   rw[E0]at y⊢;unfold zg;cases u with
   |nil=>
    have e:dT []=0:=rfl
    grind
   |cons a u=>
    have C:¬a=48:=λz=>by
     simp_all
    have J:=nR.mp (hd a (by simp))
    have I:1<=dT (a::u):=by
     have:∀(l:aq) (m:Nat),1<=m->1<=l.foldl (λn c=>10*n+(c-48)) m:=by
      intro l;induction l with
      |nil=>intro m h;exact h
      |cons b l j=>intro m h;exact j _ (show 1<=10*m+(b-48) by lia)
     exact this u _ (show 1<=10*0+(a-48) by lia)
    rw[if_neg (by lia)];have G:(10*dT (a::u)+(c-48))/10=dT (a::u):=by lia
    have F:48+(10*dT (a::u)+(c-48))%10=c:=by lia
    rw[G,F,j (a::u) (c::g) f (by simpa using k) (by simp) (λx o=>hd x (by simp at o⊢;rcases o with h|h<;>simp[h])) (λz=>absurd (by simpa using z) C) (by lia)];simp
theorem takeWhile_all:∀(t:aq),∀c∈t.takeWhile p,p c=true
 |[]=>λ_ h=>by simp at h
 |a::t=>λc h=>by
  by_cases q:p a=true
  ·rw[oU,if_pos q]at h;rcases cj.mp h with e|e
   ·rw[e];exact q
   ·exact takeWhile_all t c e
  simp_all
theorem E3 (h:kx t=some (n,r)):t=sO n++r:=by
 unfold kx at h;dsimp only at h;split at h
 ·cases h
 ·rename_i b;simp only[cQ,aK]at h;obtain⟨h1,h2⟩:=h;subst h1 h2
  have:=E2 _ (t.takeWhile bX) [] (dT (t.takeWhile bX)+1) rfl (λz=>b (.inl z)) (takeWhile_all t) (λz=>by
   have g:¬1<(t.takeWhile bX).length:=λq=>b (.inr ⟨z,q⟩)
   have:0<(t.takeWhile bX).length:=by
    cases e:t.takeWhile bX with
    |nil=>rw[e]at z;cases z
    |cons _ _=>simp
   lia) (oV _)
  unfold sO;simp_all
theorem wC (h:jo a=some x):x<16/\hexSign x=a:=by
 unfold jo at h;split at h
 ·rename_i q;have:=nR.mp q;unfold hexSign
  grind
 ·split at h
  ·simp only[cQ]at h;unfold hexSign
   grind
  simp_all
theorem E4:∀(n) (t s r),t.length<=n->eM t=some (s,r)->t=s.flatMap showByte++(34::r):=by
 intro n;induction n with
 |zero=>
  intro t s r g h;cases t with
  |nil=>simp[eM]at h
  |cons _ _=>simp at g
 |succ n o=>
  intro t s r g h;unfold eM at h;split at h
  ·cases h
  ·simp only[cQ,aK]at h;simp_all
  ·rename_i a b k;split at h
   ·rename_i x y F z;split at h
    ·cases h
    ·rename_i hp;rw[aX]at h;obtain⟨⟨j,i⟩,h1,h2⟩:=h;obtain⟨rfl,rfl⟩:=h2;have:=o k j i (by simp at g;lia) h1;obtain⟨J,C⟩:=wC F;obtain⟨I,u⟩:=wC z;rw[qi];unfold showByte;rw[if_neg hp];have H:(16*x+y)/16=x:=by lia
     have G:(16*x+y)%16=y:=by lia
     rw[H,G,C,u,this];rfl
   simp_all
  ·rename_i c k _ _;split at h
   ·rename_i hp;rw[aX]at h;obtain⟨⟨j,i⟩,h1,h2⟩:=h;obtain⟨rfl,rfl⟩:=h2;have:=o k j i (by simp at g;lia) h1;rw[qi];unfold showByte;rw[if_pos hp,this];rfl
   simp_all
theorem E5 (h:readLit l t=some (v,r)):t=fQ v++r:=by
 unfold readLit at h;split at h
 ·simp only[cQ,aK]at h;obtain⟨rfl,rfl⟩:=h;rfl
 ·simp only[cQ,aK]at h;obtain⟨rfl,rfl⟩:=h;rfl
 ·cases h
 ·rename_i b;split at h
  ·rename_i n s e;split at h
   ·cases h
   ·rename_i i;obtain⟨rfl,rfl⟩:=h;unfold fQ Nq;dsimp only;rw[if_pos (by lia),E3 e];simp_all
  simp_all
 ·rename_i g _;rw[aX]at h;obtain⟨⟨n,s⟩,e,h2⟩:=h;simp only[aK]at h2;obtain⟨rfl,rfl⟩:=h2;exact E3 e
 ·rename_i b;rw[aX]at h;obtain⟨⟨n,s⟩,e,h2⟩:=h;simp only[aK]at h2;obtain⟨rfl,rfl⟩:=h2;unfold fQ showStr;rw[E4 _ b n s (bA _) e];simp
 simp_all
theorem O_ (h:zh l t= .ok (v,r)):t=cS (.leaf l) v++r:=by
 unfold zh at h;split at h
 ·cases h
 ·rename_i x b e;split at h
  ·have:=cf h;obtain⟨rfl,rfl⟩:=this;exact E5 e
  ·cases h
theorem mV (c)(s)(h:l≠[]):dt c (s::l)=s++(c::dt c l):=by
 cases l with
 |nil=>exact absurd rfl h
 |cons _ _=>rfl
theorem Pa (h1:∀t v r,one t= .ok (v,r)->t=f v++r):
 ∀(g) (i) (t) (b) (u),sP one m g i t= .ok (b,u)->b≠[]/\t=dt 44 (b.map f)++u:=by
 intro g;induction g with
 |zero=>intro i t b u h;exact absurd h cg
 |succ g k=>
  intro i t b u h;obtain⟨⟨v,r⟩,C,h⟩:=bj h;have j:=h1 _ _ _ C;dsimp only at h;split at h
  ·exact absurd h cg
  ·split at h
   ·rename_i s;split at h
    ·exact absurd h cg
    ·obtain⟨⟨ws,x⟩,z,h⟩:=bj h;have:=cf h;obtain⟨rfl,rfl⟩:=this;obtain⟨y,o⟩:=k _ _ _ _ z;rw[cu,mV _ _ (by simpa using y),j,o];simp
   ·have:=cf h;obtain⟨rfl,rfl⟩:=this;exact⟨by simp,by rw[j];rfl⟩
def jU (fs:aJ)(e:Entry):Prop:=match e.name with
 |none=>e.here.head?=some 125
 |some n=>n=e.here.takeWhile bQ/\(fs.byName n).isSome=true
theorem nS (h:k8 fs t= .ok e):e.here=t/\e.name=some (t.takeWhile bQ)/\jU fs e:=by
 unfold k8 at h;dsimp only at h;split at h
 ·cases h
 ·split at h
  ·cases h
  ·rename_i _ q;have:=cf h;subst this;refine⟨rfl,rfl,rfl,?_⟩;cases z:fs.byName (t.takeWhile bQ)with
   |none=>rw[z]at q;exact absurd rfl q
   |some _=>rfl
theorem Pb (h:zi fs t= .ok e):e.here=t/\jU fs e:=by
 unfold zi at h;split at h
 ·rename_i q;have:=cf h;subst this;exact⟨rfl,q⟩
 ·obtain⟨a,_,b⟩:=nS h;exact⟨a,b⟩
theorem tM (q:¬h.name=n):(Fields.cons h k r).byName n=r.byName n:=by
 show XB _ ((h,k)::r.list)=XB _ r.list;simp_all
theorem E6:∀fs:aJ,eT fs (fs.list.map λ_=>[])=[]
 | .nil=>by
  rfl
 | .cons h k r=>by
  exact E6 r
theorem E7:∀(fs) (e) (b) (w),e.name=none->gG fs e= .ok (b,w)->eT fs b=[]
 | .nil=>λe b w _ h=>by
  rfl
 | .cons hd k rest=>λe b w n h=>by
  unfold gG at h;rw[n,if_neg (by simp)]at h;split at h
  ·exact absurd h cg
  ·obtain⟨⟨i,g⟩,j,h⟩:=bj h;have:=cf h;simp only[aK]at this;obtain⟨rfl,rfl⟩:=this;exact E7 rest e i g n j
theorem E8 (e:n=t.takeWhile bQ)(h:sN 58 (t.dropWhile bQ)= .ok s):t=n++(58::s):=by
 have:=tL h;rw[e,<-this,oW]
mutual
theorem Af:∀(k:Kind) (t:aq) (v:Val) (r:aq),k9 k t= .ok (v,r)->t=cS k v++r
 | .leaf l=>λt v r h=>by
  unfold k9 at h;exact O_ h
 | .group false fs=>λt v r h=>by
  unfold k9 at h;obtain⟨r1,o,h⟩:=bj h;obtain⟨e,j,h⟩:=bj h;obtain⟨⟨g,u⟩,i,h⟩:=bj h;have:=cf h;simp only[aK]at this;obtain⟨rfl,rfl⟩:=this;obtain⟨a,b⟩:=Pb j;have q:=wD fs e g u b i;rw[tL o,<-a,q];unfold cS;simp[vR,D_]
 | .group true fs=>λt v r h=>by
  unfold k9 at h;obtain⟨r1,o,h⟩:=bj h;obtain⟨e,j,h⟩:=bj h;obtain⟨s,i,h⟩:=bj h;obtain⟨⟨g,u⟩,y,h⟩:=bj h;obtain⟨w,F,h⟩:=bj h;have:=cf h;simp only[aK]at this;obtain⟨rfl,rfl⟩:=this;obtain⟨a,b,_⟩:=nS j;rw[b]at y;obtain⟨x,C,z⟩:=E9 fs _ s g u y;rw[tL o,E8 rfl i,z,tL F];unfold cS;rw[C];simp[vR,D_,dt]
theorem wD:∀(fs:aJ) (e:Entry) (G:List (List Val)) (w:aq),jU fs e->gG fs e= .ok (G,w)->e.here=dt 59 (eT fs G)++(125::w)
 | .nil=>λe G w b h=>by
  unfold gG at h;have:=cf h;simp only[aK]at this;obtain⟨rfl,rfl⟩:=this;unfold jU at b;cases z:e.name with
  |none=>
   rw[z]at b;dsimp only at b;cases q:e.here with
   |nil=>rw[q]at b;cases b
   |cons c r=>
    rw[q]at b;have:c=125:=by simpa using b
    subst this;rfl
  |some n=>
   rw[z]at b;exact absurd b.2 (by simp[D',sQ])
 | .cons hd k rest=>λe G w b h=>by
  unfold gG at h;split at h
  ·rename_i q;obtain⟨s,X,h⟩:=bj h;obtain⟨⟨H,u⟩,W,h⟩:=bj h;obtain⟨f,o,h⟩:=bj h;obtain⟨⟨j,i⟩,y,h⟩:=bj h;have:=cf h;simp only[aK]at this;obtain⟨rfl,rfl⟩:=this;unfold jU at b;rw[q]at b;dsimp only at b;obtain⟨T,L⟩:=Pa (f:=λv=>cS k v) (λt v r=>Af k t v r) _ _ _ _ _ W;rw[E8 b.1 X,L]
   have P:H.isEmpty=false:=by
    cases H with
    |nil=>exact absurd rfl T
    |cons _ _=>rfl
   unfold eT;rw[P];rw[if_neg (by simp)];unfold vS at o;split at o
   ·rename_i r2;obtain⟨a1,a2,F⟩:=nS o;have g:=wD rest f j i F y;rw[a1]at g
    have O:eT rest j≠[]:=by
     intro z;rw[z]at g;unfold jU at F;rw[a2]at F;dsimp only at F;rw[g]at F
     have:(dt 59 []++125::i).takeWhile bQ=[]:=by
      show List.takeWhile bQ (125::i)=[];rw[oU,if_neg (by decide)]
     have C:=o;unfold k8 at C;dsimp only at C;rw[g,this]at C;have U:ip []=false:=rfl;rw[if_pos U]at C;exact absurd C cg
    rw[mV _ _ O,g];simp
   ·rename_i r2;have:=cf o;subst this;have g:=wD rest _ j i (show jU rest ⟨none,125::r2⟩from rfl) y;have M:eT rest j=[]:=E7 rest _ j i rfl y;rw[M]at g⊢;have J:(125::r2:aq)=125::i:=g;rw[J];simp[dt]
   ·exact absurd o cg
  ·rename_i q;split at h
   ·exact absurd h cg
   ·obtain⟨⟨j,i⟩,y,h⟩:=bj h;have:=cf h;simp only[aK]at this;obtain⟨rfl,rfl⟩:=this
    have Y:jU rest e:=by
     unfold jU at b⊢;cases z:e.name with
     |none=>rw[z]at b;exact b
     |some n=>
      rw[z]at b q;dsimp only at b⊢;refine⟨b.1,?_⟩;rw[<-tM (h:=hd) (k:=k) λI=>q (by rw[I])];exact b.2
    have g:=wD rest e j i Y y;unfold eT;exact g
theorem E9:∀(fs:aJ) (name t:aq) (g:List (List Val)) (u:aq),mQ fs name t= .ok (g,u)->∃x,eT fs g=[name++(58::x)]/\t=x++u
 | .nil=>λname t g u h=>by
  unfold mQ at h;exact absurd h cg
 | .cons hd k rest=>λname t g u h=>by
  unfold mQ at h;split at h
  ·rename_i q;obtain⟨⟨v,j⟩,i,h⟩:=bj h;have:=cf h;simp only[aK]at this;obtain⟨rfl,rfl⟩:=this;refine⟨cS k v,?_,Af k _ _ _ i⟩;unfold eT;rw[E6,<-q];rfl
  ·obtain⟨⟨o,j⟩,i,h⟩:=bj h;have:=cf h;simp only[aK]at this;obtain⟨rfl,rfl⟩:=this;obtain⟨x,a,b⟩:=E9 rest _ _ _ _ i;refine⟨x,?_,b⟩;unfold eT;exact a
end
theorem Pc (h:nG fs t= .ok v):g5 fs v=t:=by
 unfold nG at h;split at h
 ·cases h
 ·obtain⟨⟨b,r⟩,e,h⟩:=bj h;dsimp only at h;split at h
  ·rename_i q;have:=cf h;subst this;have:=Af _ _ _ _ e;rw[this,q,eZ];rfl
  ·exact absurd h cg
open Vacolc (joinCols shredKind shredFields shredRow shredRows)
mutual
inductive iy:Kind->Val->Prop
 |leaf {l:bN} {v:Lit}:dG l v=true->iy (.leaf l) (.lit v)
 |group {c:Bool} {fs:aJ} {ss:List (List Val)}:iO fs ss->iy (.group c fs) (.group ss)
inductive iO:aJ->List (List Val)->Prop
 |nil:iO .nil []
 |cons {h:g6} {k:Kind} {r:aJ} {o:List Val} {ss:List (List Val)}:(∀v,v∈o->iy k v)->iO r ss->iO (.cons h k r) (o::ss)
end
theorem qM:∀{l},(∀x∈l,x.length=n)->(bU n l).length=n
 |[],_=>by
  unfold bU;simp_all
 |x::l,h=>by
  have g:=qM (n:=n) (l:=l) λy b=>h y (aR _ b);show(iH (λx y=>x++y) x (bU n l)).length=n;simp_all
theorem Ag (i:c<n):∀{l},(∀x∈l,x.length=n)->(bU n l)[c]? =some (l.flatMap λx=>(x[c]?).getD [])
 |[],_=>by
  unfold bU;simp_all
 |x::l,h=>by
  have b:=Ag (n:=n) i (l:=l) λy g=>h y (aR _ g);show(iH (λx y=>x++y) x (bU n l))[c]? =_;have j:=h x aH;rw[XC,b,eI (by lia),qi,eI (by lia)];rfl
mutual
theorem Ah:∀(k:Kind) (first r d:Nat) (v:Val),iy k v->(bY k first r d v).length=au k
 | .leaf l=>λfirst r d v h=>by
  cases h;unfold bY au;rfl
 | .group c fs=>λfirst r d v h=>by
  cases h with
  |group h=>
   unfold bY au;exact E_ fs c first r d _ h
theorem E_:∀(fs:aJ) (c:Bool) (first r d:Nat) (b:List (List Val)),iO fs b->(e_ fs c first r d b).length=aG fs
 | .nil=>λc first r d b h=>by
  cases h;unfold e_ aG;rfl
 | .cons hd k rest=>λc first r d b h=>by
  cases h with
  |cons y u=>
   rename_i o b;unfold e_ aG;dsimp only;rw[aQ,E_ rest c first r d b u];congr 1;split
   ·rw[zj]
   ·refine qM λx g=>?_;obtain⟨⟨v,i⟩,j,rfl⟩:=dU.mp g;refine Ah k _ _ _ v (y v ?_);have z:=sR j;rw[z.2.2];exact qj _
end
mutual
theorem Fb:∀(k:Kind) (p:List Nat) (r d:Nat),(i3 k p r d).length=au k
 | .leaf _=>λ_ _ _=>by
  unfold i3 au;rfl
 | .group c fs=>λp r d=>by
  unfold i3 au;exact Ai fs c p r d
theorem Ai:∀(fs:aJ) (c:Bool) (p:List Nat) (r d:Nat),(jq fs c p r d).length=aG fs
 | .nil=>λ_ _ _ _=>by
  unfold jq aG;rfl
 | .cons h k rest=>λc p r d=>by
  unfold jq aG;rw[aQ,Fb k,Ai rest]
end
theorem pq (fs):(di fs).length=aG fs:=Ai fs false [] 0 0
theorem Aj (h:iy (.group false fs) v):(c8 fs v).length=(di fs).length:=by
 rw[pq];exact Ah _ 0 0 0 v h
theorem Pd (h:∀v∈rows,iy (.group false fs) v)(i:c<(di fs).length):
 ((qk fs rows)[c]?).getD []=rows.flatMap λv=>((c8 fs v)[c]?).getD []:=by
 unfold qk
 rw[Ag i (λx b=>by
  obtain⟨v,g,rfl⟩:=dU.mp b;exact Aj (h v g))]
 rw[Nr];rfl
theorem Pe {p:Val->Prop}(h1:∀t v r,one t= .ok (v,r)->p v):
 ∀(g) (i) (t) (b) (u),sP one m g i t= .ok (b,u)->∀v∈b,p v:=by
 intro g;induction g with
 |zero=>intro i t b u h;exact absurd h cg
 |succ g j=>
  intro i t b u h;obtain⟨⟨v,r⟩,o,h⟩:=bj h;dsimp only at h;split at h
  ·exact absurd h cg
  ·split at h
   ·split at h
    ·exact absurd h cg
    ·obtain⟨⟨ws,x⟩,k,h⟩:=bj h
     grind
   grind
theorem Fc:∀fs:aJ,iO fs (fs.list.map λ_=>[])
 | .nil=> .nil
 | .cons _ _ r=> .cons (λ_ z=>absurd z (by simp)) (Fc r)
mutual
theorem Ak:∀(k:Kind) (t:aq) (v:Val) (r:aq),k9 k t= .ok (v,r)->iy k v
 | .leaf l=>λt v r h=>by
  unfold k9 zh at h;split at h
  ·cases h
  ·split at h
   ·rename_i q;have:=cf h;simp only[aK]at this;obtain⟨rfl,rfl⟩:=this;exact .leaf q
   ·cases h
 | .group false fs=>λt v r h=>by
  unfold k9 at h;obtain⟨r1,o,h⟩:=bj h;obtain⟨e,j,h⟩:=bj h;obtain⟨⟨b,u⟩,g,h⟩:=bj h;have:=cf h;simp only[aK]at this;obtain⟨rfl,rfl⟩:=this;exact .group (Am fs e b u g)
 | .group true fs=>λt v r h=>by
  unfold k9 at h;obtain⟨r1,o,h⟩:=bj h;obtain⟨e,j,h⟩:=bj h;obtain⟨s,g,h⟩:=bj h;obtain⟨⟨b,u⟩,i,h⟩:=bj h;obtain⟨w,y,h⟩:=bj h;have:=cf h;simp only[aK]at this;obtain⟨rfl,rfl⟩:=this;exact .group (Fd fs _ s b u i)
theorem Am:∀(fs:aJ) (e:Entry) (b:List (List Val)) (w:aq),gG fs e= .ok (b,w)->iO fs b
 | .nil=>λe b w h=>by
  unfold gG at h;have:=cf h;simp only[aK]at this;obtain⟨rfl,rfl⟩:=this;exact .nil
 | .cons hd k rest=>λe b w h=>by
  unfold gG at h;split at h
  ·obtain⟨s,F,h⟩:=bj h;obtain⟨⟨y,u⟩,o,h⟩:=bj h;obtain⟨f,C,h⟩:=bj h;obtain⟨⟨i,g⟩,j,h⟩:=bj h;have:=cf h;simp only[aK]at this;obtain⟨rfl,rfl⟩:=this;exact .cons (Pe (λt v r=>Ak k t v r) _ _ _ _ _ o) (Am rest f i g j)
  ·split at h
   ·exact absurd h cg
   ·obtain⟨⟨i,g⟩,j,h⟩:=bj h;have:=cf h;simp only[aK]at this;obtain⟨rfl,rfl⟩:=this;exact .cons (λ_ z=>absurd z (by simp)) (Am rest e i g j)
theorem Fd:∀(fs:aJ) (name t:aq) (b:List (List Val)) (u:aq),mQ fs name t= .ok (b,u)->iO fs b
 | .nil=>λname t b u h=>by
  unfold mQ at h;exact absurd h cg
 | .cons hd k rest=>λname t b u h=>by
  unfold mQ at h;split at h
  ·obtain⟨⟨v,i⟩,g,h⟩:=bj h;have:=cf h;simp only[aK]at this;obtain⟨rfl,rfl⟩:=this;exact .cons (λy j=>by rw[g7.mp j];exact Ak k _ _ _ g) (Fc rest)
  ·obtain⟨⟨o,i⟩,g,h⟩:=bj h;have:=cf h;simp only[aK]at this;obtain⟨rfl,rfl⟩:=this;exact .cons (λ_ z=>absurd z (by simp)) (Fd rest _ _ _ _ g)
end
theorem Pf (h:nG fs t= .ok v):iy (.group false fs) v:=by
 unfold nG at h;split at h
 ·cases h
 ·obtain⟨⟨b,r⟩,e,h⟩:=bj h;dsimp only at h;split at h
  ·have:=cf h;subst this;exact Ak _ _ _ _ e
  ·exact absurd h cg
def dj (g:Int)(u:aq):Option (Nat×aq):=
 let d:=u.takeWhile bX;if d=[]\/d.head?=some 48\/g<(dT d:Int)then none else some (dT d,u.dropWhile bX)
theorem foldl_ge:∀(l:aq) (m),m<=l.foldl (λn c=>10*n+(c-48)) m
 |[]=>λm=>bA m
 |c::l=>λm=>eA (show m<=10*m+(c-48) by lia) (foldl_ge l _)
theorem Pg (a b):dT a<=dT (a++b):=by
 unfold dT;rw[XD];exact foldl_ge b _
theorem An (hd:∀c∈d,bX c=true)(g:d≠[])(b:d.head?≠some 48):1<=dT d:=by
 cases d with
 |nil=>exact absurd rfl g
 |cons a u=>
  have i:=nR.mp (hd a (by simp));have h:a≠48:=λz=>b (by rw[z];rfl);exact eA (show 1<=10*0+(a-48) by lia) (foldl_ge u _)
theorem Ao:∀{a b:aq},(∀c∈a,p c=true)->(a++b).takeWhile p=a++b.takeWhile p/\(a++b).dropWhile p=b.dropWhile p
 |[],b,_=>⟨rfl,rfl⟩
 |c::a,b,h=>by
  simp_all
theorem Ph {p:Nat->Bool}(h:∀c u,b=c::u->p c=false):b.takeWhile p=[]/\b.dropWhile p=b:=by
 cases b with
 |nil=>exact⟨rfl,rfl⟩
 |cons c u=>
  simp_all
theorem Pj (hd:∀c∈d,bX c=true)(j:bX c=true)(h:g<(dT (d++[c]):Int)):dj g (d++c::u)=none:=by
 unfold dj
 have b:∀x∈d++[c],bX x=true:=λx i=>by
  grind
 have e:d++c::u=(d++[c])++u:=by simp
 rw[e,(Ao b).1];have:=Pg (d++[c]) (u.takeWhile bX)
 grind
theorem Pk (hd:∀c∈d,bX c=true)(j:∀c v,u=c::v->bX c=false)(k:(dT d:Int)<=g)(i:d.head?≠some 48):
 dj g (d++u)=if dT d=0 then none else some (dT d,u):=by
 unfold dj;obtain⟨h1,h2⟩:=Ao (b:=u) hd;obtain⟨h3,h4⟩:=Ph j;rw[h1,h2,h3,h4,eZ];by_cases h:d=[]
 ·subst h;rfl
 ·have:=An hd h i
  grind
theorem Fe:dj g (48::u)=none:=by
 rfl
def dP:bN->aq->Option (Lit×aq)
 | .bit,48::r=>some (.num 0,r)
 | .bit,49::r=>some (.num 1,r)
 | .bit,_=>none
 | .int _,48::r=>some (.num 0,r)
 | .int n,45::r=>(dj (2^(n-1)) r).map λx=>(.num (-(x.1:Int)),x.2)
 | .int n,t=>(dj (2^(n-1)-1) t).map λx=>(.num (x.1:Int),x.2)
 | .text n,34::r=>match eM r with
  |some (s,u)=>if s.length<=n then some (.str s,u)else none
  |none=>none
 | .text _,_=>none
def ju (l:bN)(t:aq):Option (Lit×aq):=match readLit l t with
 |some (v,r)=>if dG l v then some (v,r)else none
 |none=>none
def behind:bN->aq->Bool
 | .int _,c::_=> !bX c
 |_,_=>true
theorem Ff (n)(u:aq):behind (.int n) (u.dropWhile bX)=true:=by
 cases h:u.dropWhile bX with
 |nil=>rfl
 |cons c v=>
  have:bX c=false:=by
   have:=Nt bX u;simp_all
  show(!bX c)=true;simp_all
theorem Fg:kx (48::r)=if behind (.int 0) r=true then some (0,r)else none:=by
 unfold kx;rw[oU,if_pos (show bX 48=true by decide),Ea,if_pos (show bX 48=true by decide)];cases r with
 |nil=>rfl
 |cons c r=>
  by_cases b:bX c=true
  ·have e:behind (.int 0) (c::r)=false:=by
    show(!bX c)=false;simp_all
   simp_all
  ·have e:behind (.int 0) (c::r)=true:=by
    show(!bX c)=true;simp_all
   rw[e,if_pos rfl,oU,if_neg b,Ea,if_neg b];rfl
theorem Fh {g:Int}{t:aq}(h:∀r,t≠48::r):dj g t=match kx t with
 |some (m,s)=>if(m:Int)<=g then some (m,s)else none
 |none=>none:=by
 have b:(t.takeWhile bX).head?≠some 48:=by
  cases t with
  |nil=>simp
  |cons c t=>
   rw[oU]
   grind
 unfold dj kx
 grind
theorem Fi (h:kx t=some (m,r)):r=t.dropWhile bX:=by
 unfold kx at h;simp_all
theorem tN (h:dj g t=some (m,r)):r=t.dropWhile bX/\m≠0:=by
 unfold dj at h;dsimp only at h;split at h
 ·cases h
 ·rename_i q;simp only[cQ,aK]at h;refine⟨h.2.symm,?_⟩;have:=An (takeWhile_all t) (λz=>q (.inl z)) (λz=>q (.inr (.inl z)))
  lia
theorem Ap (n):(1:Int)<=2^n:=by
 have:(0:Int)<2^n:=Int.pow_pos (by decide)
 lia
theorem mf (n)(z):dG (.int n) (.num z)=true↔-(2^(n-1))<=z/\z<2^(n-1):=by
 unfold dG;simp
theorem Aq {l}{t r}{v}:ju l t=some (v,r)↔dP l t=some (v,r)/\behind l r=true:=by
 cases l with
 |bit=>
  have b:behind .bit r=true:=by cases r<;>rfl
  unfold ju dP;cases t with
  |nil=>simp[readLit]
  |cons c t=>
   by_cases h1:c=48
   ·subst h1;simp[readLit,dG,b]
   ·by_cases h2:c=49
    ·subst h2;simp[readLit,dG,b]
    ·have e:readLit .bit (c::t)=none:=by
      unfold readLit;simp_all
     simp_all
 |text n=>
  have b:behind (.text n) r=true:=by cases r<;>rfl
  cases t with
  |nil=>simp[ju,dP,readLit]
  |cons c t=>
   by_cases h1:c=34
   ·subst h1;have e:readLit (.text n) (34::t)=(eM t).map λx=>(.str x.1,x.2):=rfl
    have g:dP (.text n) (34::t)=(match eM t with
     |some (s,u)=>if s.length<=n then some (.str s,u)else none
     |none=>none):=rfl
    unfold ju;rw[e,g];cases h:eM t with
    |none=>simp
    |some x=>simp[dG,b]
   ·have e:readLit (.text n) (c::t)=none:=by
     unfold readLit;simp_all
    have g:dP (.text n) (c::t)=none:=by
     unfold dP;simp_all
    unfold ju;simp_all
 |int n=>
  have F:=Ap (n-1);cases t with
  |nil=>
   have e:ju (.int n) []=none:=rfl;have g:dP (.int n) []=none:=rfl;simp_all
  |cons c t=>
   by_cases h1:c=48
   ·subst h1;have g:dP (.int n) (48::t)=some (.num 0,t):=rfl;have e:readLit (.int n) (48::t)=(kx (48::t)).map λx=>(.num (x.1:Int),x.2):=rfl;have C:behind (.int 0) t=behind (.int n) t:=by cases t<;>rfl
    unfold ju;rw[e,g,Fg,C];by_cases b:behind (.int n) t=true
    ·rw[if_pos b];have i:dG (.int n) (.num 0)=true:=(mf n 0).mpr ⟨by omega,by omega⟩
     grind
    grind
   ·by_cases h2:c=45
    ·subst h2;have g:dP (.int n) (45::t)=(dj (2^(n-1)) t).map λx=>(.num (-(x.1:Int)),x.2):=rfl
     have e:readLit (.int n) (45::t)=(match kx t with
      |some (n,s)=>if n=0 then none else some (.num (-(n:Int)),s)
      |none=>none):=rfl
     unfold ju;rw[e,g];by_cases o:∃r,t=48::r
     ·obtain⟨u,rfl⟩:=o;rw[Fe,Fg];by_cases b:behind (.int 0) u=true
      ·rw[if_pos b];simp
      ·rw[if_neg b];simp
     ·rw[Fh (λr z=>o ⟨r,z⟩)];cases h:kx t with
      |none=>simp
      |some x=>
       obtain⟨m,s⟩:=x;dsimp only;have k:=Fi h
       have y:m≠0:=by
        intro z;subst z;unfold kx at h;dsimp only at h;split at h
        ·cases h
        ·rename_i q;simp only[cQ,aK]at h
         have:=An (takeWhile_all t) (λz=>q (.inl z)) (λz=>by
          cases t with
          |nil=>simp at z
          |cons c t=>
           rw[oU]at z;split at z
           ·have:c=48:=by simpa using z
            exact o ⟨t,by rw[this]⟩
           ·simp at z)
         lia
       rw[if_neg y];have b:behind (.int n) s=true:=by rw[k];exact Ff n t
       by_cases j:(m:Int)<=2^(n-1)
       ·have i:dG (.int n) (.num (-(m:Int)))=true:=(mf n _).mpr ⟨by omega,by omega⟩;rw[if_pos j];dsimp only;rw[if_pos i];constructor
        ·intro h;simp only[cQ,aK]at h;obtain⟨rfl,rfl⟩:=h;exact⟨rfl,b⟩
        ·intro h;exact h.1
       ·have i:¬dG (.int n) (.num (-(m:Int)))=true:=λz=>by
         have:=(mf n _).mp z;omega
        rw[if_neg j];dsimp only;rw[if_neg i];simp
    ·have e:readLit (.int n) (c::t)=(kx (c::t)).map λx=>(.num (x.1:Int),x.2):=by
      unfold readLit;split<;>simp_all
     have g:dP (.int n) (c::t)=(dj (2^(n-1)-1) (c::t)).map λx=>(.num (x.1:Int),x.2):=by
      unfold dP;split<;>simp_all
     unfold ju;rw[e,g,Fh (λr z=>h1 (by injection z))];cases h:kx (c::t)with
     |none=>simp
     |some x=>
      obtain⟨m,s⟩:=x;have k:=Fi h;have b:behind (.int n) s=true:=by rw[k];exact Ff n (c::t)
      dsimp only[fb];by_cases j:(m:Int)<=2^(n-1)-1
      ·have i:dG (.int n) (.num (m:Int))=true:=(mf n _).mpr ⟨by omega,by omega⟩;rw[if_pos j,if_pos i];constructor
       ·intro h;simp only[cQ,aK]at h;obtain⟨rfl,rfl⟩:=h;exact⟨rfl,b⟩
       ·intro h;exact h.1
      ·have i:¬dG (.int n) (.num (m:Int))=true:=λz=>by
        have:=(mf n _).mp z;omega
       rw[if_neg j,if_neg i];simp
theorem Pl (hd:∀c∈d,bX c=true)(g:d≠[])(b:d.head?=some 48->d.length=1):sO (dT d)=d:=by
 have:=E2 _ d [] (dT d+1) rfl g hd b (oV _);unfold sO;simp_all
theorem Fj (h:dj g u=some (n,r)):u=sO n++r:=by
 unfold dj at h;dsimp only at h;split at h
 ·cases h
 ·rename_i q;simp only[cQ,aK]at h;rw[<-h.1,<-h.2,Pl (takeWhile_all u) (λz=>q (.inl z)) (λz=>absurd (.inr (.inl z)) q),oW]
theorem Pn (h:dP l u=some (x,r)):u=fQ x++r:=by
 unfold dP at h;split at h
 ·simp only[cQ,aK]at h;obtain⟨rfl,rfl⟩:=h;rfl
 ·simp only[cQ,aK]at h;obtain⟨rfl,rfl⟩:=h;rfl
 ·cases h
 ·simp only[cQ,aK]at h;obtain⟨rfl,rfl⟩:=h;rfl
 ·rw[aX]at h;obtain⟨⟨n,s⟩,e,h2⟩:=h;simp only[aK]at h2;obtain⟨rfl,rfl⟩:=h2;have g:=(tN e).2;unfold fQ Nq;dsimp only;rw[if_pos (by lia),Fj e];simp_all
 ·rw[aX]at h;obtain⟨⟨n,s⟩,e,h2⟩:=h;simp only[aK]at h2;obtain⟨rfl,rfl⟩:=h2;exact Fj e
 ·split at h
  ·rename_i s b e;split at h
   ·simp only[cQ,aK]at h;obtain⟨rfl,rfl⟩:=h;unfold fQ showStr;rw[E4 _ _ s _ (bA _) e];simp
   simp_all
  simp_all
 simp_all
def mh:aq->Option (Nat×aq)
 |c::r=>(jo c).map λx=>(x,r)
 |[]=>none
def kJ (u:aq):Option (Nat×aq):=match mh u with
 |some (x,g)=>(match mh g with
  |some (y,b)=>if plain (x*16+y)then none else some (x*16+y,b)
  |none=>none)
 |none=>none
def lx:aq->Option (Nat×aq)
 |92::r=>kJ r
 |c::r=>if plain c then some (c,r)else none
 |[]=>none
theorem Ar (h:lx u=some (b,r)):r.length<u.length:=by
 unfold lx at h;split at h
 ·rename_i v;unfold kJ at h;split at h
  ·rename_i x g j;split at h
   ·rename_i y k i;split at h
    ·cases h
    ·simp only[cQ,aK]at h
     have z:g.length<v.length:=by
      cases v with
      |nil=>cases j
      |cons c v=>
       unfold mh at j;rw[aX]at j
       grind
     have o:k.length<g.length:=by
      cases g with
      |nil=>cases i
      |cons c v=>
       unfold mh at i;rw[aX]at i
       grind
     grind
   simp_all
  simp_all
 ·split at h
  ·simp only[cQ,aK]at h;simp_all
  simp_all
 simp_all
theorem As (r:aq):eM (34::r)=some ([],r):=by
 rfl
theorem wF {u:aq}(h:∀r,u≠34::r):eM u=match lx u with
 |some (b,i)=>(eM i).map λz=>(b::z.1,z.2)
 |none=>none:=by
 cases u with
 |nil=>
  rfl
 |cons c u=>
  have o:c≠34:=λz=>h u (by rw[z]);by_cases G:c=92
  ·subst G;have hp:lx (92::u)=kJ u:=rfl;rw[hp];cases u with
   |nil=>
    rfl
   |cons a u=>
    cases u with
    |nil=>
     have e:eM [92,a]=none:=by
      rfl
     rw[e]
     have k:kJ [a]=none:=by
      unfold kJ;cases g:mh [a]with
      |none=>rfl
      |some x=>
       obtain⟨x,i⟩:=x;unfold mh at g;rw[aX]at g;obtain⟨_,_,z⟩:=g;simp only[aK]at z;rw[<-z.2];rfl
     rw[k]
    |cons b u=>
     have e:eM (92::a::b::u)=(match jo a,jo b with
      |some x,some y=>if plain (16*x+y)then none else(eM u).map λz=>((16*x+y)::z.1,z.2)
      |_,_=>none):=by
      rfl
     have j:∀c r,mh (c::r)=(jo c).map λx=>(x,r):=λ_ _=>rfl;rw[e];unfold kJ;cases F:jo a with
     |none=>
      simp_all
     |some x=>
      rw[j,F];dsimp only[fb];cases C:jo b with
      |none=>
       simp_all
      |some y=>
       rw[j,C];dsimp only[fb]
       grind
  ·have e:eM (c::u)=if plain c then(eM u).map λz=>(c::z.1,z.2)else none:=by
    rw[eM]
    ·exact o
    simp_all
   have k:lx (c::u)=if plain c then some (c,u)else none:=by
    unfold lx;simp_all
   grind
theorem Po (h:∀r,u≠48::r)(h2:∀r,u≠49::r):dP .bit u=none:=by
 unfold dP;simp_all
theorem Pp (h:∀r,u≠48::r)(h2:∀r,u≠45::r):dP (.int n) u=(dj (2^(n-1)-1) u).map λx=>(.num (x.1:Int),x.2):=by
 unfold dP;simp_all
theorem Pq (h:∀r,u≠34::r):dP (.text n) u=none:=by
 unfold dP;simp_all
open Vacolc (risingKeys)
def cI (c:Nat):aq->Option aq
 |[]=>none
 |d::r=>if d=c then some r else none
def hG (g u:aq):Option aq:=if u.take g.length=g then some (u.drop g.length)else none
def i9 (one:aq->Option (Val×aq)):Nat->aq->Option (List Val×aq)
 |0,u=>some ([],u)
 |f+1,u=>match cI 44 u with
  |none=>some ([],u)
  |some r=>match one r with
   |none=>none
   |some (v,s)=>(i9 one f s).map λx=>(v::x.1,x.2)
def i_ (m:jQ):Bool:=m== .many||m== .keyed
def jv (one:aq->Option (Val×aq))(m:jQ)(u:aq):Option (List Val×aq):=
 match one u with
 |none=>none
 |some (v,r)=>match(if i_ m=true then i9 one (r.length+1) r else some ([],r))with
  |none=>none
  |some (b,s)=>if m= .keyed/\risingKeys (v::b)=false then none else some (v::b,s)
mutual
def cV:Kind->aq->Option (Val×aq)
 | .leaf l,u=>(dP l u).map λx=>(.lit x.1,x.2)
 | .group false fs,u=>match cI 123 u with
  |none=>none
  |some r=>match eC fs [] r with
   |none=>none
   |some (b,s)=>(cI 125 s).map λw=>(.group b,w)
 | .group true fs,u=>match cI 60 u with
  |none=>none
  |some r=>match fz fs false r with
   |none=>none
   |some (b,t,s)=>if t=true then(cI 62 s).map λw=>(.group b,w)else none
def eC:aJ->aq->aq->Option (List (List Val)×aq)
 | .nil,_,u=>some ([],u)
 | .cons h k rest,b,u=>match hG (b++h.name++[58]) u with
  |some r=>match jv (λx=>cV k x) h.mode r with
   |none=>none
   |some (g,s)=>(eC rest [59] s).map λx=>(g::x.1,x.2)
  |none=>if h.mode= .one then none else(eC rest b u).map λx=>([]::x.1,x.2)
def fz:aJ->Bool->aq->Option (List (List Val)×Bool×aq)
 | .nil,t,u=>some ([],t,u)
 | .cons h k rest,t,u=>match(if t=true then none else hG (h.name++[58]) u)with
  |some r=>match cV k r with
   |none=>none
   |some (v,s)=>(fz rest true s).map λx=>([v]::x.1,x.2)
  |none=>(fz rest t u).map λx=>([]::x.1,x.2)
end
mutual
def mj:Kind->Prop
 | .leaf _=>True
 | .group c fs=>gK c fs
def gK:Bool->aJ->Prop
 |_,.nil=>True
 |c,.cons h k r=>ip h.name=true/\(∀x∈r.list,x.1.name≠h.name)/\(c=true->h.mode= .one)/\(h.mode= .keyed->(dM k).isSome=true)/\mj k/\gK c r
end
def nT:Kind->aq->Bool
 | .leaf l,t=>behind l t
 |_,_=>true
theorem eD:cI c u=some r↔u=c::r:=by
 cases u with
 |nil=>simp[cI]
 |cons d u=>
  show(if d=c then some u else none)=some r↔_;simp_all
theorem hU:cI c (c::r)=some r:=eD.mpr rfl
theorem gg:cI c u=none↔∀r,u≠c::r:=by
 constructor
 ·intro h r e;rw[eD.mpr e]at h
  grind
 ·intro h;cases e:cI c u with
  |none=>rfl
  |some r=>exact absurd (eD.mp e) (h r)
theorem nU:hG g u=some r↔u=g++r:=by
 unfold hG;constructor
 ·intro h;split at h
  ·rename_i e;have:=il g.length u;simp_all
  simp_all
 simp_all
theorem qN:hG g u=none↔∀r,u≠g++r:=by
 constructor
 ·intro h r e;rw[nU.mpr e]at h
  grind
 ·intro h;cases e:hG g u with
  |none=>rfl
  |some r=>exact absurd (nU.mp e) (h r)
theorem ly:sN c u= .ok r↔u=c::r:=by
 constructor
 ·exact tL
 ·intro h;unfold sN;simp_all
theorem nV (h:dj g u=some (n,r)):r.length<u.length:=by
 unfold dj at h;dsimp only at h;split at h
 ·cases h
 ·rename_i q;have h1:=λz=>q (.inl z)
  have h2:(u.takeWhile bX).length+(u.dropWhile bX).length=u.length:=by
   rw[<-aQ,oW]
  have h3:=zk.mpr h1
  grind
theorem Pr:∀(n) (t s r),t.length<=n->eM t=some (s,r)->s.length+r.length<t.length:=by
 intro n;induction n with
 |zero=>
  intro t s r g h;cases t with
  |nil=>simp[eM]at h
  |cons _ _=>simp at g
 |succ n o=>
  intro t s r g h;by_cases i:∃u,t=34::u
  ·obtain⟨u,rfl⟩:=i;rw[As]at h;simp_all
  ·rw[wF (λr z=>i ⟨r,z⟩)]at h;split at h
   ·rename_i b j e;have k:=Ar e;rw[aX]at h
    grind
   simp_all
theorem Fk (h:dP l u=some (v,r)):r.length<u.length:=by
 unfold dP at h;split at h
 ·simp only[cQ,aK]at h;simp_all
 ·simp only[cQ,aK]at h;simp_all
 ·cases h
 ·simp only[cQ,aK]at h;simp_all
 ·rw[aX]at h;obtain⟨⟨n,s⟩,e,h2⟩:=h;simp only[aK]at h2;have:=nV e;rw[<-h2.2,bf]
  lia
 ·rw[aX]at h;obtain⟨⟨n,s⟩,e,h2⟩:=h;have:=nV e;simp_all
 ·split at h
  ·rename_i s b e;split at h
   ·simp only[cQ,aK]at h;have:=Pr _ _ _ _ (bA _) e
    grind
   simp_all
  simp_all
 simp_all
theorem Fl (h1:∀u v r,one u=some (v,r)->r.length<u.length):∀(f) (u) (b) (s),i9 one f u=some (b,s)->s.length+b.length<=u.length
 |0=>λu b s h=>by
  unfold i9 at h;simp_all
 |f+1=>λu b s h=>by
  unfold i9 at h;split at h
  ·simp only[cQ,aK]at h;simp_all
  ·rename_i r e;split at h
   ·cases h
   ·rename_i v w j;rw[aX]at h;obtain⟨⟨i,g⟩,h3,h2⟩:=h;simp only[aK]at h2;obtain⟨rfl,rfl⟩:=h2;have:=Fl h1 f w i g h3;have:=h1 _ _ _ j;rw[eD.mp e,bf,bf]
    lia
theorem Pt (h1:∀u v r,one u=some (v,r)->r.length<u.length)(h:jv one m u=some (vs,s)):s.length+vs.length<=u.length:=by
 unfold jv at h;split at h
 ·cases h
 ·rename_i v r e;split at h
  ·cases h
  ·rename_i ws t b
   have h3:t.length+ws.length<=r.length:=by
    split at b
    ·exact Fl h1 _ _ _ _ b
    simp_all
   grind
mutual
theorem tO:∀(k:Kind) (u:aq) (v:Val) (r:aq),cV k u=some (v,r)->r.length<u.length
 | .leaf l=>λu v r h=>by
  unfold cV at h;rw[aX]at h;obtain⟨⟨x,s⟩,e,h2⟩:=h;simp only[aK]at h2;rw[<-h2.2];exact Fk e
 | .group false fs=>λu v r h=>by
  unfold cV at h;split at h
  ·cases h
  ·rename_i r1 i;split at h
   ·cases h
   ·rename_i j s g;rw[aX]at h;obtain⟨w,b,h2⟩:=h;simp only[aK]at h2;have:=Au fs _ _ _ _ g;rw[eD.mp i,<-h2.2];rw[eD.mp b]at this;simp at this⊢;omega
 | .group true fs=>λu v r h=>by
  unfold cV at h;split at h
  ·cases h
  ·rename_i r1 i;split at h
   ·cases h
   ·rename_i j t s g;split at h
    ·rw[aX]at h;obtain⟨w,b,h2⟩:=h;simp only[aK]at h2;have:=Av fs _ _ _ _ _ g;rw[eD.mp i,<-h2.2];rw[eD.mp b]at this;simp at this⊢;omega
    ·cases h
theorem Au:∀(fs:aJ) (b u:aq) (g:List (List Val)) (s:aq),eC fs b u=some (g,s)->s.length<=u.length
 | .nil=>λb u g s h=>by
  unfold eC at h;simp only[cQ,aK]at h;rw[h.2];exact bA _
 | .cons hd k rest=>λb u g s h=>by
  unfold eC at h;split at h
  ·rename_i r e;split at h
   ·cases h
   ·rename_i y t o;rw[aX]at h;obtain⟨⟨j,i⟩,h3,h2⟩:=h;simp only[aK]at h2;obtain⟨rfl,rfl⟩:=h2;have h4:=Au rest _ _ _ _ h3;have h5:=Pt (λu v r=>tO k u v r) o;rw[nU.mp e];simp only[aQ]at*;omega
  ·split at h
   ·cases h
   ·rw[aX]at h;obtain⟨⟨j,i⟩,h3,h2⟩:=h;simp only[aK]at h2;obtain⟨rfl,rfl⟩:=h2;exact Au rest _ _ _ _ h3
theorem Av:∀(fs:aJ) (t:Bool) (u:aq) (g:List (List Val)) (b:Bool) (s:aq),fz fs t u=some (g,b,s)->s.length<=u.length
 | .nil=>λt u g b s h=>by
  unfold fz at h;simp only[cQ,aK]at h;rw[h.2.2];exact bA _
 | .cons hd k rest=>λt u g b s h=>by
  unfold fz at h;split at h
  ·rename_i r e;split at h
   ·cases h
   ·rename_i v w y;rw[aX]at h;obtain⟨⟨o,j,i⟩,h3,h2⟩:=h;simp only[aK]at h2;obtain⟨rfl,rfl,rfl⟩:=h2;have h4:=Av rest _ _ _ _ _ h3;have h5:=tO k _ _ _ y;split at e
    ·cases e
    ·rw[nU.mp e];simp only[aQ]at*;omega
  ·rw[aX]at h;obtain⟨⟨o,j,i⟩,h3,h2⟩:=h;simp only[aK]at h2;obtain⟨rfl,rfl,rfl⟩:=h2;exact Av rest _ _ _ _ _ h3
end
theorem wG (h1:∀u v r,one u=some (v,r)->r.length<u.length):∀(f g) (u),u.length<f->u.length<g->i9 one f u=i9 one g u
 |0,_=>λ_ h _=>absurd h (k_ _)
 |_+1,0=>λ_ _ h=>absurd h (k_ _)
 |f+1,g+1=>λu k j=>by
  unfold i9;cases e:cI 44 u with
  |none=>rfl
  |some r=>
   dsimp only;cases i:one r with
   |none=>rfl
   |some x=>
    obtain⟨v,s⟩:=x;dsimp only;have:=h1 _ _ _ i;have b:=congrArg f9 (eD.mp e);rw[bf]at b;rw[wG h1 f g s (by lia) (by lia)]
section
variable {mW:aq->Except Fault (Val×aq)}{one:aq->Option (Val×aq)}{qO:aq->Bool}{s:aq}{m:jQ}
def Fm (mW:aq->Except Fault (Val×aq))(m:jQ)(s:aq)(f:Nat)(r:aq)(v0:Val)(b:List Val):Prop:=
 (∃q,r=44::q/\i_ m=true/\sP mW m f (some (dW v0)) q= .ok (b,s))\/((∀q,r≠44::q)/\b=[]/\r=s)
theorem Aw:sP mW m (f+1) prev q= .ok (vs,s)↔
 ∃v r i,mW q= .ok (v,r)/\¬(m= .keyed/\(prev.any λp=> !zl p (dW v))=true)/\Fm mW m s f r v i/\vs=v::i:=by
 constructor
 ·intro h;obtain⟨⟨v,r⟩,g,h⟩:=bj h;dsimp only at h;split at h
  ·exact absurd h cg
  ·rename_i b;split at h
   ·rename_i k;split at h
    ·exact absurd h cg
    ·rename_i u;obtain⟨⟨ws,x⟩,j,h⟩:=bj h;have:=cf h;simp only[aK]at this;obtain⟨rfl,rfl⟩:=this;refine⟨v,44::k,ws,g,b,.inl ⟨k,rfl,?_,j⟩,rfl⟩;unfold i_;cases m<;>simp_all
   ·rename_i o;have:=cf h;simp only[aK]at this;obtain⟨rfl,rfl⟩:=this;exact⟨v,r,[],g,b,.inr ⟨o,rfl,rfl⟩,rfl⟩
 ·rintro⟨v,r,i,g,b,y,rfl⟩;unfold sP;rw[g];show(if m= .keyed/\(prev.any λp=> !zl p (dW v))=true then oS 6 q else _)=_;rw[if_neg b];rcases y with⟨z,rfl,u,j⟩|⟨o,rfl,rfl⟩
  ·show(if m= .one\/m= .opt then _ else _)=_;rw[if_neg (by unfold i_ at u;cases m<;>simp_all)];rw[j];rfl
  simp_all
theorem Fo (h1:∀u v r,mW u= .ok (v,r)↔one u=some (v,r)/\qO r=true)(F:∀u v r,one u=some (v,r)->r.length<u.length)(M:∀r,qO (44::r)=true)(X:qO s=true)(Y:∀q,s≠44::q)(I:i_ m=true):
 ∀(f) (r) (v0) (g),r.length<=f->(Fm mW m s f r v0 g↔i9 one (f+1) r=some (g,s)/\(m= .keyed->risingKeys (v0::g)=true)):=by
 intro f;induction f with
 |zero=>
  intro r v0 g C;have:r=[]:=iq.mp (by lia);subst this;unfold i9;constructor
  ·rintro(⟨q,e,_⟩|⟨_,rfl,rfl⟩)
   ·cases e
   ·exact⟨rfl,λ_=>rfl⟩
  ·rintro⟨h,_⟩;simp only[cI,cQ,aK]at h;exact .inr ⟨by simp,h.1.symm,h.2⟩
 |succ f o=>
  intro r v0 g C;unfold i9;cases e:cI 44 r with
  |none=>
   have j:=gg.mp e;constructor
   ·rintro(⟨q,b,_⟩|⟨_,rfl,rfl⟩)
    ·exact absurd b (j q)
    ·exact⟨rfl,λ_=>rfl⟩
   ·rintro⟨h,_⟩;simp only[cQ,aK]at h;exact .inr ⟨j,h.1.symm,h.2⟩
  |some q=>
   dsimp only;have j:=eD.mp e;subst j;rw[bf]at C;constructor
   ·rintro(⟨H,b,_,U⟩|⟨z,_⟩)
    ·injection b with _ b
     subst b;obtain⟨v,i,G,T,e5,P,rfl⟩:=Aw.mp U;obtain⟨O,_⟩:=(h1 _ _ _).mp T;have:=F _ _ _ O;obtain⟨e8,e9⟩:=(o i v G (by lia)).mp P;unfold risingKeys;simp_all
    ·exact absurd rfl (z q)
   ·rintro⟨h,L⟩;refine .inl ⟨q,rfl,I,?_⟩;cases b:one q with
    |none=>rw[b]at h;cases h
    |some x=>
     obtain⟨v,i⟩:=x;rw[b]at h;rw[aX]at h;obtain⟨⟨k,W⟩,h3,h2⟩:=h;simp only[aK]at h2;obtain⟨rfl,rfl⟩:=h2;have:=F _ _ _ b
     have J:=λz=>by
      have:=L z;unfold risingKeys at this;simpa using this
     have y:=(o i v k (by lia)).mpr ⟨h3,λz=>(J z).2⟩;refine Aw.mpr ⟨v,i,k,(h1 _ _ _).mpr ⟨b,?_⟩,λz=>?_,y,rfl⟩
     ·rcases y with⟨H,rfl,_⟩|⟨_,_,rfl⟩
      ·exact M _
      lia
     simp_all
theorem Fp (h1:∀u v r,mW u= .ok (v,r)↔one u=some (v,r)/\qO r=true)(g:∀u v r,one u=some (v,r)->r.length<u.length)(o:∀r,qO (44::r)=true)(j:qO s=true)(k:∀q,s≠44::q)
 (u) (vs):sP mW m (u.length+1) none u= .ok (vs,s)↔jv one m u=some (vs,s):=by
 rw[Aw];unfold jv;constructor
 ·rintro⟨v,r,F,J,_,C,rfl⟩;obtain⟨i,_⟩:=(h1 _ _ _).mp J;have G:=g _ _ _ i;rw[i];dsimp only;by_cases b:i_ m=true
  ·rw[if_pos b];obtain⟨I,M⟩:=(Fo h1 g o j k b u.length r v F (by lia)).mp C;rw[wG g (r.length+1) (u.length+1) r (by lia) (by lia),I];simp_all
  ·rw[if_neg b];rcases C with⟨_,_,z,_⟩|⟨_,rfl,rfl⟩
   ·exact absurd z b
   ·dsimp only;rw[if_neg λz=>absurd z.2 (by simp[risingKeys])]
 ·intro h;split at h
  ·cases h
  ·rename_i v r e;have G:=g _ _ _ e;by_cases b:i_ m=true
   ·rw[if_pos b]at h;split at h
    ·cases h
    ·rename_i ws t i;split at h
     ·cases h
     ·rename_i H;simp only[cQ,aK]at h;obtain⟨rfl,rfl⟩:=h;rw[wG g (r.length+1) (u.length+1) r (by lia) (by lia)]at i
      have y:=(Fo h1 g o j k b u.length r v ws (by lia)).mpr ⟨i,λz=>by
       cases q:risingKeys (v::ws)with
       |true=>rfl
       |false=>exact absurd ⟨z,q⟩ H⟩
      refine⟨v,r,ws,(h1 _ _ _).mpr ⟨e,?_⟩,by simp,y,rfl⟩;rcases y with⟨L,rfl,_⟩|⟨_,_,rfl⟩
      ·exact o _
      lia
   ·rw[if_neg b]at h;dsimp only at h;split at h
    ·cases h
    ·simp only[cQ,aK]at h;obtain⟨rfl,rfl⟩:=h;exact⟨v,r,[],(h1 _ _ _).mpr ⟨e,j⟩,by simp,.inr ⟨k,rfl,rfl⟩,rfl⟩
end
theorem Fq (h:ip n=true):(∀c∈n,bQ c=true)/\∃c b,n=c::b/\isLow c=true:=by
 unfold ip at h;split at h
 ·cases h
 grind
theorem Ax (h:ip n=true)(e:u=n++58::r):u.takeWhile bQ=n/\u.dropWhile bQ=58::r:=by
 subst e;obtain⟨h1,h2⟩:=Ao (p:=bQ) (b:=58::r) (Fq h).1;rw[h1,h2,oU,if_neg (by decide),Ea,if_neg (by decide),eZ];simp_all
theorem Pu (h1:u.takeWhile bQ=n)(h2:u.dropWhile bQ=58::r):u=n++58::r:=by
 rw[<-h1,<-h2,oW]
def Fs (fs:aJ):Prop:=∀x∈fs.list,x.1.mode≠.one
def Ay (fs:aJ):List (List Val):=fs.list.map λ_=>[]
theorem qP:∀(fs) (e) (g) (w),e.name=none->(gG fs e= .ok (g,w)↔Fs fs/\g=Ay fs/\w=e.here.drop 1)
 | .nil=>λe g w n=>by
  constructor
  ·intro h;have:=cf h;simp only[aK]at this;exact⟨λx z=>absurd z (by simp[sQ]),this.1.symm,this.2.symm⟩
  ·rintro⟨_,rfl,rfl⟩;rfl
 | .cons hd k rest=>λe g w n=>by
  unfold gG;rw[n,if_neg (by simp)];constructor
  ·intro h;split at h
   ·exact absurd h cg
   ·rename_i u;obtain⟨⟨o,j⟩,y,h⟩:=bj h;have:=cf h;simp only[aK]at this;obtain⟨rfl,rfl⟩:=this;obtain⟨a,b,c⟩:=(qP rest e o j n).mp y;refine⟨λx i=>?_,by rw[b];rfl,c⟩;rcases cj.mp i with q|q
    ·rw[q];exact u
    ·exact a x q
  ·rintro⟨a,rfl,rfl⟩;rw[if_neg (a (hd,k) aH)];rw[(qP rest e _ _ n).mpr ⟨λx i=>a x (aR _ i),rfl,rfl⟩];rfl
theorem tP:∀(fs) (b u),(∀x∈fs.list,hG (b++x.1.name++[58]) u=none)->∀i s,(eC fs b u=some (i,s)↔Fs fs/\i=Ay fs/\s=u)
 | .nil=>λb u _ i s=>by
  unfold eC;constructor
  ·intro h;simp only[cQ,aK]at h;exact⟨λx z=>absurd z (by simp[sQ]),h.1.symm,h.2.symm⟩
  ·rintro⟨_,rfl,rfl⟩;rfl
 | .cons hd k rest=>λb u g i s=>by
  unfold eC;rw[g (hd,k) aH];dsimp only;constructor
  ·intro h;split at h
   ·cases h
   ·rename_i y;rw[aX]at h;obtain⟨⟨o,j⟩,h3,h2⟩:=h;simp only[aK]at h2;obtain⟨rfl,rfl⟩:=h2;obtain⟨a,b,c⟩:=(tP rest b u (λx q=>g x (aR _ q)) o j).mp h3;refine⟨λx g=>?_,by rw[b];rfl,c⟩;rcases cj.mp g with q|q
    ·rw[q];exact y
    ·exact a x q
  ·rintro⟨a,rfl,rfl⟩;rw[if_neg (a (hd,k) aH)];rw[(tP rest b s (λx q=>g x (aR _ q)) _ _).mpr ⟨λx g=>a x (aR _ g),rfl,rfl⟩];rfl
theorem Az:∀{c} {fs},gK c fs->∀x∈fs.list,ip x.1.name=true
 |c,.nil,_,x,h=>by cases h
 |c,.cons hd k r,w,x,h=>by
  rcases cj.mp h with q|q
  ·rw[q];exact w.1
  ·exact Az w.2.2.2.2.2 x q
theorem Ft:∀{fs:aJ},(fs.byName n).isSome=true↔∃x∈fs.list,x.1.name=n:=by
 intro fs;unfold D';simp_all
theorem AA (w:gK c fs)(h:(∀x∈fs.list,x.1.name≠here.takeWhile bQ)\/∀r,here.dropWhile bQ≠58::r):∀x∈fs.list,hG (b++x.1.name++[58]) (b++here)=none:=by
 intro x g;refine qN.mpr λr e=>?_;have i:here=x.1.name++58::r:=by simpa using e
 obtain⟨a,d⟩:=Ax (Az w x g) i;rcases h with h|h
 ·exact h x g a.symm
 ·exact h r d
theorem AB (h1:ip (u.takeWhile bQ)=true)(h2:(fs.byName (u.takeWhile bQ)).isSome=true):k8 fs u= .ok {name:=some (u.takeWhile bQ),here:=u}:=by
 unfold k8
 rw[if_neg (by rw[h1];simp),if_neg (by
  cases z:fs.byName (u.takeWhile bQ)with
  |none=>rw[z]at h2;cases h2
  |some _=>simp)]
theorem Pw (g:b=[]\/b=[59])(h:b=[]->∀q,u≠125::q):b++u≠125::w:=by
 rcases g with rfl|rfl
 ·exact h rfl w
 simp_all
theorem AD (g:gK false fs)(j:b=[]\/b=[59])(h:ip (u.takeWhile bQ)=false\/(∀x∈fs.list,x.1.name≠u.takeWhile bQ)\/∀r,u.dropWhile bQ≠58::r)(k:b=[]->∀q,u≠125::q):
 eC fs b (b++u)=some (ss,125::w)↔False:=by
 have nm:∀x∈fs.list,hG (b++x.1.name++[58]) (b++u)=none:=by
  rcases h with h|h
  ·refine AA g (.inl λx i z=>?_);rw[<-z,Az g x i]at h
   grind
  ·exact AA g h
 rw[tP fs b (b++u) nm ss (125::w)];simp only[iff_false];rintro⟨_,_,z⟩;exact Pw j k z.symm
theorem Fu (h:vS fs t= .ok f)(k):nT k t=true/\∀q,t≠44::q:=by
 unfold vS at h;split at h
 ·exact⟨by cases k with
   |leaf l=>cases l<;>rfl
   |group _ _=>rfl,λq z=>by injection z with z _;cases z⟩
 ·exact⟨by cases k with
   |leaf l=>cases l<;>rfl
   |group _ _=>rfl,λq z=>by injection z with z _;cases z⟩
 ·exact absurd h cg
theorem Fv (j:∀(u) (g) (w),(∃e,k8 rest u= .ok e/\gG rest e= .ok (g,w))↔eC rest [59] ([59]++u)=some (g,125::w))(t)(g)(w):
 (∃f,vS rest t= .ok f/\gG rest f= .ok (g,w))↔eC rest [59] t=some (g,125::w):=by
 by_cases i:∃r,t=59::r
 ·obtain⟨r,rfl⟩:=i;exact j r g w
 ·have nm:∀x∈rest.list,hG ([59]++x.1.name++[58]) t=none:=λx y=>qN.mpr λr e=>i ⟨x.1.name++[58]++r,by rw[e];simp⟩;rw[tP rest [59] t nm];by_cases k:∃r,t=125::r
  ·obtain⟨r,rfl⟩:=k;constructor
   ·rintro⟨f,h,o⟩;have:=cf h;subst this;obtain⟨a,b,c⟩:=(qP rest _ g w rfl).mp o;exact⟨a,b,by rw[c];rfl⟩
   ·rintro⟨a,b,c⟩;injection c with _ c
    exact⟨_,rfl,(qP rest _ g w rfl).mpr ⟨a,b,by rw[c];rfl⟩⟩
  ·constructor
   ·rintro⟨f,h,_⟩;unfold vS at h;split at h
    ·rename_i r;simp_all
    ·rename_i r;simp_all
    ·exact absurd h cg
   grind
theorem AE:∀(fs) (u),fz fs true u=some (Ay fs,true,u)
 | .nil=>λu=>by
  rfl
 | .cons hd k rest=>λu=>by
  unfold fz;rw[AE rest u];rfl
theorem Px (k)(w:aq):nT k (62::w)=true:=by
 cases k with
 |leaf l=>cases l<;>rfl
 |group _ _=>rfl
mutual
theorem tQ:∀(k:Kind),mj k->∀(u:aq) (v:Val) (r:aq),k9 k u= .ok (v,r)↔cV k u=some (v,r)/\nT k r=true
 | .leaf l=>λ_ u v r=>by
  unfold k9 cV nT;have key:= @Aq l u r;constructor
  ·intro h;unfold zh at h;split at h
   ·cases h
   ·rename_i x H e;split at h
    ·rename_i q;have:=cf h;simp only[aK]at this;obtain⟨rfl,rfl⟩:=this;have:=(key (v:=x)).mp (by unfold ju;rw[e];dsimp only;rw[if_pos q]);rw[this.1];exact⟨rfl,this.2⟩
    ·cases h
  ·rintro⟨h,o⟩;rw[aX]at h;obtain⟨⟨x,s⟩,e,h2⟩:=h;simp only[aK]at h2;obtain⟨rfl,rfl⟩:=h2;have:=(key (v:=x)).mpr ⟨e,o⟩;unfold ju at this;unfold zh;split at this
   ·rename_i y H b;rw[b];dsimp only;split at this
    ·rename_i q;simp only[cQ,aK]at this;obtain⟨rfl,rfl⟩:=this;rw[if_pos q]
    ·cases this
   ·cases this
 | .group false fs=>λw u v r=>by
  unfold mj at w;unfold k9 cV;have o:nT (.group false fs) r=true:=rfl;rw[o];simp only[and_true];constructor
  ·intro h;obtain⟨r1,j,h⟩:=bj h;obtain⟨e,b,h⟩:=bj h;obtain⟨⟨g,s⟩,i,h⟩:=bj h;have:=cf h;simp only[aK]at this;obtain⟨rfl,rfl⟩:=this;rw[eD.mpr (ly.mp j)];dsimp only;rw[(Fw fs w r1 g s).mp ⟨e,b,i⟩];dsimp only;rw[hU];rfl
  ·intro h;split at h
   ·cases h
   ·rename_i r1 j;split at h
    ·cases h
    ·rename_i g s b;rw[aX]at h;obtain⟨x,i,h2⟩:=h;simp only[aK]at h2;obtain⟨rfl,rfl⟩:=h2;rw[eD.mp i]at b;obtain⟨e,C,F⟩:=(Fw fs w r1 g x).mpr b;rw[ly.mpr (eD.mp j)];show((zi fs r1)>>=_)=_;rw[C];show((gG fs e)>>=_)=_;rw[F];rfl
 | .group true fs=>λw u v r=>by
  unfold mj at w;unfold k9 cV;have o:nT (.group true fs) r=true:=rfl;rw[o];simp only[and_true];constructor
  ·intro h;obtain⟨r1,j,h⟩:=bj h;obtain⟨e,b,h⟩:=bj h;obtain⟨s,i,h⟩:=bj h;obtain⟨⟨g,t⟩,C,h⟩:=bj h;obtain⟨x,F,h⟩:=bj h;have:=cf h;simp only[aK]at this;obtain⟨rfl,rfl⟩:=this;rw[eD.mpr (ly.mp j)];dsimp only;obtain⟨_,O,G⟩:=nS b
   have J:ip (r1.takeWhile bQ)=true:=by
    unfold k8 at b;dsimp only at b;split at b
    ·cases b
    ·rename_i q;simpa using q
   unfold jU at G;rw[O]at G C;dsimp only at F;rw[ly.mp F]at C;rw[(wH fs w r1 g x).mpr ⟨s,J,G.2,ly.mp i,C⟩];dsimp only;rw[if_pos rfl,hU];rfl
  ·intro h;split at h
   ·cases h
   ·rename_i r1 j;split at h
    ·cases h
    ·rename_i g t s b;split at h
     ·rename_i I;subst I;rw[aX]at h;obtain⟨x,i,h2⟩:=h;simp only[aK]at h2;obtain⟨rfl,rfl⟩:=h2;rw[eD.mp i]at b;obtain⟨q,g1,g2,g3,M⟩:=(wH fs w r1 g x).mp b;rw[ly.mpr (eD.mp j)];show((k8 fs r1)>>=_)=_
      have:k8 fs r1= .ok {name:=some (r1.takeWhile bQ),here:=r1}:=by
       unfold k8;dsimp only
       rw[if_neg (by rw[g1];simp),if_neg (by
        cases z:fs.byName (r1.takeWhile bQ)with
        |none=>rw[z]at g2;cases g2
        |some _=>simp)]
      rw[this];show((sN 58 (r1.dropWhile bQ))>>=_)=_;rw[ly.mpr g3];show((mQ fs _ q)>>=_)=_;have L:mQ fs ((some (r1.takeWhile bQ)).getD []) q= .ok (g,62::x):=M;rw[L];show((sN 62 (62::x))>>=λw=>Except.ok (Val.group g,w))=_;rw[ly.mpr rfl];rfl
     ·cases h
theorem Fw:∀(fs:aJ),gK false fs->∀(u:aq) (g:List (List Val)) (w:aq),(∃e,zi fs u= .ok e/\gG fs e= .ok (g,w))↔eC fs [] u=some (g,125::w):=by
 intro fs i u g w;unfold zi;by_cases h:u.head?=some 125
 ·have:∃q,u=125::q:=by
   cases u with
   |nil=>cases h
   |cons c q=>exact⟨q,by simp at h;rw[h]⟩
  obtain⟨q,rfl⟩:=this;rw[if_pos h]
  have nm:=AA i (b:=[]) (here:=125::q) (.inr λr z=>by
   rw[Ea,if_neg (by decide)]at z;injection z with z _
   cases z)
  rw[tP fs [] (125::q) nm g (125::w)];constructor
  ·rintro⟨e,o,k⟩;have:=cf o;subst this;obtain⟨a,b,c⟩:=(qP fs _ g w rfl).mp k;exact⟨a,b,by rw[c];rfl⟩
  ·rintro⟨a,b,c⟩;injection c with _ c
   exact⟨_,rfl,(qP fs _ g w rfl).mpr ⟨a,b,by rw[c];rfl⟩⟩
 ·rw[if_neg h];have j:=wI fs i [] (.inl rfl) u (λ_ q z=>h (by rw[z];rfl)) g w;rw[vT]at j;rw[<-j]
theorem wI:∀(fs:aJ),gK false fs->∀(b:aq),(b=[]\/b=[59])->∀(u:aq),(b=[]->∀q,u≠125::q)->∀(o:List (List Val)) (w:aq),(∃e,k8 fs u= .ok e/\gG fs e= .ok (o,w))↔eC fs b (b++u)=some (o,125::w)
 | .nil=>λG b I u J o w=>by
  rw[AD G I (.inr (.inl λx z=>absurd z (by simp[sQ]))) J];simp only[iff_false];rintro⟨e,i,_⟩;obtain⟨_,_,j⟩:=nS i;obtain⟨_,C,_⟩:=nS i;unfold jU at j;rw[C]at j;exact absurd j.2 (by simp[D',sQ])
 | .cons hd k rest=>λG b I u J o w=>by
  have hw':=G;unfold gK at hw';obtain⟨gn,hd1,_,_,wk,P⟩:=hw'
  have beh1:∀r,nT k (44::r)=true:=λr=>by
   cases k with
   |leaf l=>cases l<;>rfl
   |group _ _=>rfl
  by_cases H:ip (u.takeWhile bQ)=true
  ·by_cases y:hd.name=u.takeWhile bQ
   ·
    have en:k8 (.cons hd k rest) u= .ok {name:=some (u.takeWhile bQ),here:=u}:=AB H (by
     rw[Ft];exact⟨(hd,k),aH,y⟩)
    rw[en];by_cases h58:∃r,u.dropWhile bQ=58::r
    ·obtain⟨r,Y⟩:=h58
     have eu:b++u=(b++hd.name++[58])++r:=by
      rw[Pu y.symm Y];simp
     unfold eC;rw[nU.mpr eu];dsimp only;constructor
     ·rintro⟨e,i,g⟩;have:=cf i;subst this;unfold gG at g;rw[if_pos (by rw[y])]at g;obtain⟨s,e3,g⟩:=bj g;obtain⟨⟨T,t⟩,e4,g⟩:=bj g;obtain⟨f,F,g⟩:=bj g;obtain⟨⟨U,w'⟩,L,g⟩:=bj g;have:=cf g;simp only[aK]at this;obtain⟨rfl,rfl⟩:=this;have M:=ly.mp e3;dsimp only at M F;rw[Y]at M;injection M with _ M
      subst M;obtain⟨X,W⟩:=Fu F k;have e7:=(Fp (λu v r=>tQ k wk u v r) (λu v r=>tO k u v r) beh1 X W r T).mp e4;rw[e7];dsimp only;rw[(Fv (λu o w=>wI rest P [59] (.inr rfl) u (λz=>by cases z) o w) t U w').mp ⟨f,F,L⟩];rfl
     ·intro h;split at h
      ·cases h
      ·rename_i T t i;rw[aX]at h;obtain⟨⟨O,z2⟩,h3,h2⟩:=h;simp only[aK]at h2;obtain⟨rfl,rfl⟩:=h2;obtain⟨f,F,L⟩:=(Fv (λu o w=>wI rest P [59] (.inr rfl) u (λz=>by cases z) o w) t O w).mpr h3;obtain⟨X,W⟩:=Fu F k;have e7:=(Fp (λu v r=>tQ k wk u v r) (λu v r=>tO k u v r) beh1 X W r T).mpr i;refine⟨_,rfl,?_⟩;unfold gG;rw[if_pos (by rw[y])];dsimp only;rw[Y,ly.mpr rfl];show((sP (λx=>k9 k x) hd.mode (r.length+1) none r)>>=_)=_;rw[e7];show((vS rest t)>>=_)=_;rw[F];show((gG rest f)>>=_)=_;rw[L];rfl
    ·rw[AD G I (.inr (.inr λr z=>h58 ⟨r,z⟩)) J];simp only[iff_false];rintro⟨e,i,g⟩;have:=cf i;subst this;unfold gG at g;rw[if_pos (by rw[y])]at g;obtain⟨s,e3,g⟩:=bj g;exact h58 ⟨s,ly.mp e3⟩
   ·
    have nm:hG (b++hd.name++[58]) (b++u)=none:=by
     refine qN.mpr λr e=>?_;rw[c9,c9,XE]at e;have e':u=hd.name++58::r:=by simpa using e
     exact y (Ax gn e').1.symm
    have ih:=λo=>wI rest P b I u J o w;unfold eC;rw[nm];dsimp only;constructor
    ·rintro⟨e,i,g⟩;obtain⟨a1,C,j⟩:=nS i
     have hbn:(rest.byName (u.takeWhile bQ)).isSome=true:=by
      unfold jU at j;rw[C]at j;have:=j.2;rw[tM y]at this;exact this
     unfold gG at g;rw[if_neg (by rw[C];intro z;exact y (kz z).symm)]at g;split at g
     ·exact absurd g cg
     ·rename_i hm;obtain⟨⟨U,w'⟩,L,g⟩:=bj g;have:=cf g;simp only[aK]at this;obtain⟨rfl,rfl⟩:=this;rw[if_neg hm,(ih U).mp ⟨e,by rw[AB H hbn,<-C,<-a1],L⟩];rfl
    ·intro h;split at h
     ·cases h
     ·rename_i hm;rw[aX]at h;obtain⟨⟨O,z2⟩,h3,h2⟩:=h;simp only[aK]at h2;obtain⟨rfl,rfl⟩:=h2;obtain⟨e,i,g⟩:=(ih O).mpr h3;obtain⟨a1,C,j⟩:=nS i;refine⟨e,?_,?_⟩
      ·have hbn:((Fields.cons hd k rest).byName (u.takeWhile bQ)).isSome=true:=by
        unfold jU at j;rw[C]at j;rw[tM y];exact j.2
       rw[AB H hbn,<-C,<-a1]
      ·unfold gG;rw[if_neg (by rw[C];intro z;exact y (kz z).symm),if_neg hm,g];rfl
  ·rw[AD G I (.inl (by simpa using H)) J];simp only[iff_false];rintro⟨e,i,_⟩;unfold k8 at i;dsimp only at i;rw[if_pos (by simpa using H)]at i;cases i
theorem wH:∀(fs:aJ),gK true fs->∀(u:aq) (i:List (List Val)) (w:aq),fz fs false u=some (i,true,62::w)↔∃s,ip (u.takeWhile bQ)=true/\(fs.byName (u.takeWhile bQ)).isSome=true/\u.dropWhile bQ=58::s/\mQ fs (u.takeWhile bQ) s= .ok (i,62::w)
 | .nil=>λG u i w=>by
  unfold fz mQ;constructor
  ·intro h;simp at h
  ·rintro⟨s,_,h,_⟩;exact absurd h (by simp[D',sQ])
 | .cons hd k rest=>λG u i w=>by
  have F:=G;unfold gK at F;obtain⟨H,U,_,_,C,y⟩:=F;unfold fz mQ;rw[if_neg dX];cases e:hG (hd.name++[58]) u with
  |some r=>
   dsimp only
   have o:u=hd.name++58::r:=by
    rw[nU.mp e];simp
   obtain⟨L,J⟩:=Ax H o;rw[L,J];constructor
   ·intro h;split at h
    ·cases h
    ·rename_i v s g;rw[AE]at h;simp only[fb,cQ,aK]at h;obtain⟨rfl,_,rfl⟩:=h;refine⟨r,H,by rw[Ft];exact⟨(hd,k),aH,rfl⟩,rfl,?_⟩;rw[if_pos rfl,(tQ k C r v (62::w)).mpr ⟨g,Px k w⟩];rfl
   ·rintro⟨s,_,_,h1,h2⟩;injection h1 with _ h1
    subst h1;rw[if_pos rfl]at h2;obtain⟨⟨v,t⟩,g,h2⟩:=bj h2;have:=cf h2;simp only[aK]at this;obtain⟨rfl,rfl⟩:=this;obtain⟨O,_⟩:=(tQ k C r v (62::w)).mp g;rw[O];dsimp only;rw[AE];rfl
  |none=>
   dsimp only;have o:=qN.mp e;constructor
   ·intro h;rw[aX]at h;obtain⟨⟨I,T,P⟩,h3,h2⟩:=h;simp only[aK]at h2;obtain⟨rfl,rfl,rfl⟩:=h2;obtain⟨s,g1,g2,g3,j⟩:=(wH rest y u I w).mp h3;have b:¬hd.name=u.takeWhile bQ:=λz=>o s (by rw[z,c9];show u=_++(58::s);rw[<-g3,oW]);refine⟨s,g1,by rw[tM b];exact g2,g3,?_⟩;rw[if_neg b,j];rfl
   ·rintro⟨s,g1,g2,g3,j⟩;have b:¬hd.name=u.takeWhile bQ:=λz=>o s (by rw[z,c9];show u=_++(58::s);rw[<-g3,oW]);rw[tM b]at g2;rw[if_neg b]at j;obtain⟨⟨M,t⟩,g,h2⟩:=bj j;have:=cf h2;simp only[aK]at this;obtain⟨rfl,rfl⟩:=this;rw[(wH rest y u M w).mpr ⟨s,g1,g2,g3,g⟩];rfl
end
theorem tR (g:gK false fs):nG fs t= .ok v↔t.length<=4000/\cV (.group false fs) t=some (v,[]):=by
 have key:=tQ (.group false fs) g t v [];have i:nT (.group false fs) []=true:=rfl;rw[i]at key;simp only[and_true]at key;rw[<-key];unfold nG;constructor
 ·intro h;split at h
  ·cases h
  ·rename_i b;obtain⟨⟨j,r⟩,e,h⟩:=bj h;dsimp only at h;split at h
   ·rename_i q;have:=cf h;subst this;subst q;exact⟨Eb.mp b,e⟩
   ·exact absurd h cg
 ·rintro⟨b,h⟩;rw[if_neg (show¬Vacolb.MOST<t.length from Eb.mpr b),h];rfl
theorem Fx:∀(d:aq) (m),(∀c∈d,bX c=true)->d.foldl (λn c=>10*n+(c-48)) m<(m+1)*10^d.length
 |[]=>λm _=>by simp
 |c::d=>λm h=>by
  have i:=nR.mp (h c (by simp));have g:=Fx d (10*m+(c-48)) λx b=>h x (aR _ b);have h2:(10*m+(c-48)+1)*10^d.length<=(10*(m+1))*10^d.length:=zm _ (by lia)
  grind
theorem Fy:∀(d:aq) (m),m*10^d.length<=d.foldl (λn c=>10*n+(c-48)) m
 |[]=>λm=>by simp
 |c::d=>λm=>by
  have b:=Fy d (10*m+(c-48));have h2:(10*m)*10^d.length<=(10*m+(c-48))*10^d.length:=zm _ (by lia)
  grind
theorem Fz (hd:∀c∈d,bX c=true)(b:d.head?≠some 48)(g:d≠[]):dT d<=999↔d.length<=3:=by
 constructor
 ·intro h;cases d with
  |nil=>simp
  |cons c d=>
   have j:=nR.mp (hd c (by simp));have i:c≠48:=λz=>b (by rw[z];rfl);have h1:=Fy d (10*0+(c-48));have h2:dT (c::d)=d.foldl (λn c=>10*n+(c-48)) (10*0+(c-48)):=rfl;apply XF;intro h3;rw[bf]at h3;have h4:10^3<=10^d.length:=XG (by decide) (by lia);have h5:1*10^d.length<=(10*0+(c-48))*10^d.length:=zm _ (by lia)
   lia
 ·intro h;have h1:=Fx d 0 hd;have h2:dT d=d.foldl (λn c=>10*n+(c-48)) 0:=rfl;have h3:10^d.length<=10^3:=XG (by decide) h
  lia
theorem tS {g}(b:g<=999){t r}{n}:dj g t=some (n,r)↔Nu t=some (n,r)/\(n)<=g:=by
 unfold dj Nu;by_cases h1:t.takeWhile bX=[]
 ·rw[if_pos (.inl h1),if_pos (.inl h1)];simp
 ·by_cases h2:(t.takeWhile bX).head?=some 48
  ·rw[if_pos (.inr (.inl h2)),if_pos (.inr (.inl h2))];simp
  ·have key:=Fz (takeWhile_all (p:=bX) t) h2 h1
   grind
def jV (t:aq):Option (aq×aq):=if ip (t.takeWhile bQ)=true then some (t.takeWhile bQ,t.dropWhile bQ)else none
def jW (choice:Bool):aq->Option (jQ×aq)
 |[]=>none
 |c::r=>if c=33 then some (.one,r)else if choice=true then none else(vU c).map λm=>(m,r)
def ml (b:Nat)(t:aq):Option (bN×aq):=
 match(match cI 98 t with
  |some r=>some (.bit,r)
  |none=>match cI 105 t with
   |some r=>(match dj 64 r with
    |some (n,s)=>if n<2 then none else some (.int n,s)
    |none=>none)
   |none=>match cI 116 t with
    |some r=>(dj 999 r).map λx=>(.text x.1,x.2)
    |none=>none:Option (bN×aq))with
 |none=>none
 |some x=>if b=40 then none else some x
def jX (choice:Bool)(m:jQ)(k:Kind)(t:aq):Option (Option Lit×aq):=match cI 61 t with
 |none=>some (none,t)
 |some r=>match choice,m,k with
  |false,.one,.leaf l=>(dP l r).map λx=>(some x.1,x.2)
  |_,_,_=>none
def gh (b:List g6)(number:Nat)(name:aq):Bool:=b.any λh=>decide (number<=h.number)||(name==h.name)
def hW (rd:Bool->aq->Option (aJ×aq))(depth g:Nat)(b:aq):Option (Kind×aq):=match cI 123 b with
 |some r=>if 6<=depth then none else(rd false r).bind λx=>(cI 125 x.2).map λs=>(Kind.group false x.1,s)
 |none=>match cI 60 b with
  |some r=>if 6<=depth then none else(rd true r).bind λx=>(cI 62 x.2).map λs=>(Kind.group true x.1,s)
  |none=>(ml g b).map λx=>(Kind.leaf x.1,x.2)
def fA:Nat->Nat->Bool->List g6->Nat->aq->Option (aJ×aq)
 |0,_,_,_,_,_=>none
 |fuel+1,depth,choice,h,b,t=>
  match dj 999 t with
  |none=>none
  |some (number,o)=>match jV o with
   |none=>none
   |some (name,k)=>if gh h number name=true then none else match jW choice k with
    |none=>none
    |some (mode,j)=>match hW (λc r=>fA fuel (depth+1) c [] b r) depth b j with
     |none=>none
     |some (kind,i)=>if mode= .keyed/\(dM kind).isNone=true then none else match jX choice mode kind i with
      |none=>none
      |some (dflt,g)=>match cI 59 g with
       |some r=>(fA fuel depth choice ({number:=number,name:=name,mode:=mode,dflt:=dflt}::h) (b+au kind) r).map λx=>(.cons {number:=number,name:=name,mode:=mode,dflt:=dflt} kind x.1,x.2)
       |none=>some (.cons {number:=number,name:=name,mode:=mode,dflt:=dflt} kind .nil,g)
def AF (b:List g6):Prop:=∀h∈b,∀g,b.head?=some g->h.number<=g.number
theorem FC (hd:AF before)(k:name∉before.map (·.name)):
 readNumber before t= .ok (n,t1)↔dj 999 t=some (n,t1)/\gh before n name=false:=by
 have key:= @tS 999 (by decide) t t1 n
 have j:gh before n name=false↔∀h∈before,h.number<n:=by
  unfold gh;rw[Ec]
  grind
 rw[j,key];unfold readNumber;constructor
 ·intro h;split at h
  ·exact absurd h cg
  ·rename_i m r e
   have u:m<=999:=by
    unfold Nu at e;dsimp only at e;split at e
    ·cases e
    ·rename_i q;simp only[cQ,aK]at e;rw[<-e.1]
     exact(Fz (takeWhile_all (p:=bX) t) (λz=>q (.inr (.inl z))) (λz=>q (.inl z))).mpr (by
      apply XF;intro z;exact q (.inr (.inr z)))
   split at h
   ·have:=cf h
    grind
   ·rename_i g y;split at h
    ·rename_i o;have:=cf h;obtain⟨rfl,rfl⟩:=this;refine⟨⟨e,by lia⟩,λx i=>?_⟩;have:=hd x i g rfl
     lia
    ·exact absurd h cg
 ·rintro⟨⟨e,_⟩,h⟩;rw[e];cases before with
  |nil=>rfl
  |cons g b=>
   simp_all
theorem FE:readName before t= .ok (name,t2)↔jV t=some (name,t2)/\name∉before.map (·.name):=by
 unfold readName jV;by_cases b:ip (t.takeWhile bQ)=true
 ·rw[if_neg (by rw[b];simp),if_pos b];by_cases g:before.any (λh=>h.name==t.takeWhile bQ)=true
  ·rw[if_pos g];constructor
   ·intro h;exact absurd h cg
   grind
  grind
 ·rw[if_pos (by simpa using b),if_neg b];constructor
  ·intro h;exact absurd h cg
  simp_all
theorem FH:readMode choice t= .ok (m,r)↔jW choice t=some (m,r):=by
 unfold readMode jW;cases t with
 |nil=>
  constructor
  ·intro h;exact absurd h cg
  simp_all
 |cons c u=>
  dsimp only;by_cases b:c=33
  ·subst b;have:vU 33=some .one:=rfl;simp_all
  ·rw[if_neg b];cases e:vU c with
   |none=>
    constructor
    ·intro h;exact absurd h cg
    simp_all
   |some g=>
    dsimp only
    have i:g≠.one:=by
     rintro rfl;unfold vU at e
     grind
    cases choice with
    |true=>
     rw[if_pos ⟨rfl,i⟩,if_pos rfl];constructor
     ·intro h;exact absurd h cg
     simp_all
    |false=>
     simp_all
theorem tT (h:¬d=c):cI c (d::u)=none:=gg.mpr λr z=>h (by injection z)
theorem FJ {t u s:aq}{lo:Nat}{hi:Int}{mk:Nat->bN}(g:hi<=999)(b:Nat)(e:(b:Int)=hi){x:bN}:sized t u lo b mk= .ok (x,s)↔∃n,dj hi u=some (n,s)/\lo<=n/\x=mk n:=by
 have key:=λn=> @tS hi g u s n;unfold sized;constructor
 ·intro h;split at h
  ·exact absurd h cg
  ·rename_i n r i;split at h
   ·rename_i q
    grind
   ·exact absurd h cg
 grind
def AG (t:aq):Except Fault (bN×aq):=match t with
 |98::r=> .ok (.bit,r)
 |105::r=>sized t r 2 64 .int
 |116::r=>sized t r 1 999 .text
 |_=>oS 1 t
theorem FK (k:used<=40):Ed used t= .ok (l,s)↔ml used t=some (l,s):=by
 have b:∀x:bN×aq,AG t= .ok x↔(match cI 98 t with
  |some r=>some (.bit,r)
  |none=>match cI 105 t with
   |some r=>(match dj 64 r with
    |some (n,s)=>if n<2 then none else some (.int n,s)
    |none=>none)
   |none=>match cI 116 t with
    |some r=>(dj 999 r).map λx=>(.text x.1,x.2)
    |none=>none:Option (bN×aq))=some x:=by
  rintro⟨x,y⟩;cases t with
  |nil=>
   constructor
   ·intro h;exact absurd h cg
   ·intro h;cases h
  |cons c u=>
   by_cases h1:c=98
   ·subst h1;show(Except.ok (Leaf.bit,u):Except Fault (bN×aq))=_↔some (Leaf.bit,u)=_;simp_all
   ·rw[tT h1];by_cases h2:c=105
    ·subst h2;rw[hU];show sized (105::u) u 2 64 .int=_↔_;rw[FJ (hi:=64) (by decide) 64 rfl]
     grind
    ·rw[tT h2];by_cases h3:c=116
     ·subst h3;rw[hU];show sized (116::u) u 1 999 .text=_↔_;rw[FJ (hi:=999) (by decide) 999 rfl];constructor
      ·rintro⟨n,g,o,rfl⟩;simp_all
      ·intro h;rw[aX]at h;obtain⟨⟨n,j⟩,e,h2⟩:=h;have:=(tN e).2
       grind
     ·rw[tT h3];constructor
      ·intro h;unfold AG at h;split at h
       ·rename_i z;simp_all
       ·rename_i z;simp_all
       ·rename_i z;simp_all
       ·exact absurd h cg
      simp_all
 have i:Ed used t=(AG t>>=λx=>if 40<=used then oS 8 t else .ok x):=rfl;rw[i];unfold ml;constructor
 ·intro h;obtain⟨x,g,h⟩:=bj h;rw[(b x).mp g];split at h
  ·exact absurd h cg
  grind
 ·intro h;split at h
  ·cases h
  ·rename_i x e;rw[(b x).mpr e];show(if 40<=used then _ else _)=_
   grind
theorem FL (b:∀l,behind l s=true):readDefault choice m k t= .ok (d,s)↔jX choice m k t=some (d,s):=by
 unfold readDefault jX;cases t with
 |nil=>
  constructor
  ·intro h;have:=cf h;rw[<-this];rfl
  ·intro h;have:=kz h;rw[<-this]
 |cons c u=>
  by_cases h1:c=61
  ·subst h1;rw[hU];cases choice with
   |true=>
    constructor
    ·intro h;exact absurd h cg
    simp_all
   |false=>
    cases m with
    |one=>
     cases k with
     |leaf l=>
      have key:= @Aq l u s
      show(match readLit l u with
       |none=>oS 1 u
       |some (v,s)=>if dG l v then .ok (some v,s)else oS 5 u:Except Fault (Option Lit×aq))=_↔(dP l u).map (λx=>(some x.1,x.2))=_
      constructor
      ·intro h;split at h
       ·exact absurd h cg
       ·rename_i v r e;split at h
        ·rename_i q;have:=cf h;obtain⟨rfl,rfl⟩:=this;rw[((key (v:=v)).mp (by unfold ju;rw[e];dsimp only;rw[if_pos q])).1];rfl
        ·exact absurd h cg
      ·intro h;rw[aX]at h;obtain⟨⟨v,r⟩,e,h2⟩:=h;simp only[aK]at h2;obtain⟨rfl,rfl⟩:=h2;have:=(key (v:=v)).mpr ⟨e,b l⟩;unfold ju at this
       grind
     |group c fs=>
      constructor
      ·intro h;exact absurd h cg
      simp_all
    |opt=>
     constructor
     ·intro h;exact absurd h cg
     simp_all
    |many=>
     constructor
     ·intro h;exact absurd h cg
     simp_all
    |keyed=>
     constructor
     ·intro h;exact absurd h cg
     simp_all
  ·rw[tT h1];simp_all
def HK (i:Nat->Bool->List g6->Nat->aq->aJ->aq->Prop)(depth g:Nat)(b:aq)(kind:Kind)(h:aq):Prop:=
 (∃c fs r,b=vR c::r/\depth<6/\i (depth+1) c [] g r fs h/\kind= .group c fs)\/
 ((∀c r,b≠vR c::r)/\∃l,ml g b=some (l,h)/\kind= .leaf l)
def QR (g depth:Nat)(c:Bool)(h:List g6)(b:Nat)(t:aq)(fs:aJ)(s:aq):Prop:=fA g depth c h b t=some (fs,D_ c::s)
def RR (g depth:Nat)(c:Bool)(h:List g6)(b:Nat)(t:aq)(fs:aJ)(s:aq):Prop:=sS g depth c h b t= .ok (fs,s)
structure QF (K:aq->Kind->aq->Prop)(choice:Bool)(before:List g6)(t:aq)(h:g6)(kind:Kind)(t5:aq):Prop where
 ex:∃t1 t2 t3 t4,dj 999 t=some (h.number,t1)/\jV t1=some (h.name,t2)/\gh before h.number h.name=false/\jW choice t2=some (h.mode,t3)/\K t3 kind t4/\¬(h.mode= .keyed/\(dM kind).isNone=true)/\jX choice h.mode kind t4=some (h.dflt,t5)
theorem Py:vR false=123:=rfl
theorem Pz:vR true=60:=rfl
theorem qQ {x}{a}{f:α->Except ε β}{r}(e:x= .ok a)(h:f a=r):(x>>=f)=r:=by
 subst e;exact h
theorem tU:hW (λc r=>fA fuel (depth+1) c [] used r) depth used t3=some (kind,t4)↔HK (QR fuel) depth used t3 kind t4:=by
 unfold hW;constructor
 ·intro b;split at b
  ·rename_i r g;split at b
   ·cases b
   rename_i hd;rw[iI]at b;obtain⟨⟨k,x⟩,i,h⟩:=b;rw[aX]at h;obtain⟨y,u,j⟩:=h;simp only[aK]at j;obtain⟨rfl,rfl⟩:=j;refine .inl ⟨false,k,r,eD.mp g,by lia,?_,rfl⟩;have o:x=125::y:=eD.mp u;refine vV i ?_;rw[o];rfl
  ·rename_i g;split at b
   ·rename_i r C;split at b
    ·cases b
    rename_i hd;rw[iI]at b;obtain⟨⟨k,x⟩,i,h⟩:=b;rw[aX]at h;obtain⟨y,u,j⟩:=h;simp only[aK]at j;obtain⟨rfl,rfl⟩:=j;refine .inl ⟨true,k,r,eD.mp C,by lia,?_,rfl⟩;have o:x=62::y:=eD.mp u;refine vV i ?_;rw[o];rfl
   ·rename_i C;rw[aX]at b;obtain⟨⟨l,x⟩,i,h⟩:=b;obtain⟨rfl,rfl⟩:=h;refine .inr ⟨λc r z=>?_,l,i,rfl⟩;cases c with
    |false=>exact gg.mp g r z
    |true=>exact gg.mp C r z
 ·rintro(⟨c,k,r,rfl,hd,g,rfl⟩|⟨F,l,g,rfl⟩)
  ·unfold QR at g;cases c with
   |false=>
    rw[Py,hU];dsimp only;rw[if_neg (by lia),g];rfl
   |true=>
    rw[Pz,tT (by decide),hU];dsimp only;rw[if_neg (by lia),g];rfl
  ·rw[show cI 123 t3=none from gg.mpr (F false)];rw[show cI 60 t3=none from gg.mpr (F true),g];rfl
theorem eB:fA (fuel+1) depth choice before used t=some (fs,s)↔
 ∃h kind b,QF (HK (QR fuel) depth used) choice before t h kind b/\((∃r rest,b=59::r/\fA fuel depth choice (h::before) (used+au kind) r=some (rest,s)/\fs= .cons h kind rest)\/((∀r,b≠59::r)/\s=b/\fs= .cons h kind .nil)):=by
 constructor
 ·intro h;unfold fA at h;split at h
  ·cases h
  rename_i number H z;split at h
  ·cases h
  rename_i name G y;split at h
  ·cases h
  rename_i j;split at h
  ·cases h
  rename_i mode F u;split at h
  ·cases h
  rename_i kind C L;split at h
  ·cases h
  rename_i i;split at h
  ·cases h
  rename_i dflt b o;have g:=(tU (fuel:=fuel)).mp L;refine⟨⟨number,name,mode,dflt⟩,kind,b,⟨H,G,F,C,z,y,by simpa using j,u,g,i,o⟩,?_⟩;split at h
  ·rename_i r k;rw[aX]at h;obtain⟨⟨rest,x⟩,J,I⟩:=h;simp only[aK]at I;obtain⟨rfl,rfl⟩:=I;exact .inl ⟨r,rest,eD.mp k,J,rfl⟩
  ·rename_i k;simp only[cQ,aK]at h;exact .inr ⟨gg.mp k,h.2.symm,h.1.symm⟩
 ·rintro⟨⟨number,name,mode,dflt⟩,kind,b,⟨H,G,F,C,z,y,j,u,g,i,o⟩,h⟩;unfold fA;rw[z];dsimp only;rw[y];dsimp only;rw[if_neg (by rw[j];exact dX),u];dsimp only;rw[(tU (fuel:=fuel)).mpr g];dsimp only;rw[if_neg i,o];dsimp only;rcases h with⟨r,rest,rfl,J,rfl⟩|⟨hno,rfl,rfl⟩
  ·rw[hU];simp_all
  ·rw[gg.mpr hno]
theorem tV:∀(i depth) (choice) (k) (b) (t) (fs) (s),fA i depth choice k b t=some (fs,s)->b<=40->b+aG fs<=40
 |0=>λ_ _ _ _ _ _ _ h _=>by
  unfold fA at h
  grind
 |i+1=>λdepth choice k b t fs s h u=>by
  obtain⟨hd,kind,z,⟨H,G,F,C,P,O,I,M,o,j,L⟩,h⟩:=eB.mp h
  have j:b+au kind<=40:=by
   rcases o with⟨c,J,r,rfl,hd,g,rfl⟩|⟨hno,l,g,rfl⟩
   ·unfold au;exact tV i _ _ _ _ _ _ _ g u
   ·unfold au;unfold ml at g;split at g
    ·cases g
    grind
  rcases h with⟨r,rest,rfl,y,rfl⟩|⟨hno,rfl,rfl⟩
  ·have:=tV i _ _ _ _ _ _ _ y j;unfold aG
   lia
  ·unfold aG aG
   lia
theorem FN (h:gh before n name=false):name∉before.map (·.name):=by
 intro z;obtain⟨x,b,e⟩:=dU.mp z;have:=Ec.mp h x b;simp_all
theorem FO (j:gh before h.number h.name=false):AF (h::before):=by
 intro x b g i;have:h=g:=by simpa using i
 subst this;rcases cj.mp b with q|q
 ·rw[q];simp_all
 ·unfold gh at j
  grind
theorem FP (g:∀c r fs s,RR fuel (depth+1) c [] used r fs s↔QR fuel (depth+1) c [] used r fs s)(i:used<=40):
 (match t3 with
   |123::r=>(if DEEP<=depth then oS 7 t3 else(do
     let(fs,s)<-sS fuel (depth+1) false [] used r
     .ok (.group false fs,s)))
   |60::r=>(if DEEP<=depth then oS 7 t3 else(do
     let(fs,s)<-sS fuel (depth+1) true [] used r
     .ok (.group true fs,s)))
   |_=>(Ed used t3).map λx=>(.leaf x.1,x.2):Except Fault (Kind×aq))= .ok (kind,t4)↔HK (QR fuel) depth used t3 kind t4:=by
 have b:∀(c:Bool) (r:aq),((if DEEP<=depth then oS 7 t3 else(do
  let(fs,s)<-sS fuel (depth+1) c [] used r
  .ok (.group c fs,s))):Except Fault (Kind×aq))= .ok (kind,t4)↔∃fs,depth<6/\QR fuel (depth+1) c [] used r fs t4/\kind= .group c fs:=λc r=>by
  constructor
  ·intro h;split at h
   ·exact absurd h cg
   ·rename_i hd;obtain⟨⟨fs,x⟩,u,h⟩:=bj h;have:=cf h;obtain⟨rfl,rfl⟩:=this;exact⟨fs,Nat.lt_of_not_le hd,(g c r fs _).mp u,rfl⟩
  ·rintro⟨fs,hd,h,rfl⟩;rw[if_neg (show¬DEEP<=depth from Nat.not_le.mpr hd)];have:=(g c r fs t4).mpr h;rw[this];rfl
 constructor
 ·intro h;split at h
  ·rename_i r;obtain⟨fs,h1,h2,h3⟩:=(b false r).mp h;exact .inl ⟨false,fs,r,rfl,h1,h2,h3⟩
  ·rename_i r;obtain⟨fs,h1,h2,h3⟩:=(b true r).mp h;exact .inl ⟨true,fs,r,rfl,h1,h2,h3⟩
  ·rename_i o k
   refine .inr ⟨λc r z=>by cases c with
    |false=>exact o r z
    |true=>exact k r z,?_⟩
   cases e:Ed used t3 with
   |error f=>rw[e]at h;cases h
   |ok x=>
    obtain⟨l,y⟩:=x;rw[e]at h;have:=cf h;simp only[aK]at this;obtain⟨rfl,rfl⟩:=this;exact⟨l,(FK i).mp e,rfl⟩
 ·rintro(⟨c,fs,r,rfl,h1,h2,h3⟩|⟨j,l,e,rfl⟩)
  ·cases c with
   |false=>exact(b false r).mpr ⟨fs,h1,h2,h3⟩
   |true=>exact(b true r).mpr ⟨fs,h1,h2,h3⟩
  ·split
   ·rename_i r;exact absurd rfl (j false r)
   ·rename_i r;exact absurd rfl (j true r)
   ·rw[(FK i).mpr e];rfl
theorem wJ (h:bX c=false)(l)(r:aq):behind l (c::r)=true:=by
 cases l with
 |int n=>
  show(!bX c)=true;simp_all
 |_=>rfl
theorem tW:∀(b depth) (choice) (J) (g) (t) (fs) (s),AF J->g<=40->(RR b depth choice J g t fs s↔QR b depth choice J g t fs s)
 |0=>λ_ _ _ _ _ _ _ _ _=>by
  unfold RR QR sS fA;constructor
  ·intro h;exact absurd h cg
  simp_all
 |b+1=>λdepth choice J g t fs s hd G=>by
  unfold QR;rw[eB];have T:∀c r fs s,RR b (depth+1) c [] g r fs s↔QR b (depth+1) c [] g r fs s:=λc r fs s=>tW b (depth+1) c [] g r fs s (λh z=>absurd z (by simp)) G
  have lk:∀{u kind o},HK (QR b) depth g u kind o->g+au kind<=40:=λ{u kind o} k=>by
   rcases k with⟨c,dC,r,rfl,hd,i,rfl⟩|⟨hno,l,i,rfl⟩
   ·unfold au;exact tV b _ _ _ _ _ _ _ i G
   ·unfold au;unfold ml at i;split at i
    ·cases i
    ·split at i
     ·cases i
     lia
  constructor
  ·intro h;unfold RR sS at h;obtain⟨⟨number,P⟩,e1,h⟩:=bj h;obtain⟨⟨name,O⟩,U,h⟩:=bj h;obtain⟨⟨mode,u⟩,y,h⟩:=bj h;obtain⟨⟨kind,o⟩,e4,h⟩:=bj h;dsimp only at h U y;split at h
   ·exact absurd h cg
   rename_i H;obtain⟨⟨dflt,M⟩,I,h⟩:=bj h;dsimp only at h;obtain⟨C,X⟩:=FE.mp U;obtain⟨F,j⟩:=(FC hd X).mp e1;have k:=(FP T G).mp e4;split at h
   ·exact absurd h cg
   ·rename_i c r
    have L:∀l,behind l (c::r)=true:=λl=>by
     split at h
     ·rename_i q;subst q;exact wJ (by decide) l r
     ·split at h
      ·rename_i q;subst q;cases choice<;>exact wJ (by decide) l r
      ·exact absurd h cg
    refine⟨⟨number,name,mode,dflt⟩,kind,c::r,⟨P,O,u,o,F,C,j,FH.mp y,k,H,(FL L).mp I⟩,?_⟩;split at h
    ·rename_i q;subst q;obtain⟨⟨rest,x⟩,i,h⟩:=bj h;have:=cf h;simp only[aK]at this;obtain⟨rfl,rfl⟩:=this;exact .inl ⟨r,rest,rfl,(tW b depth choice _ _ r rest _ (FO j) (lk k)).mp i,rfl⟩
    ·rename_i q;split at h
     ·rename_i W;have:=cf h;simp only[aK]at this;obtain⟨rfl,rfl⟩:=this;exact .inr ⟨λr' z=>q (by injection z),by rw[W],rfl⟩
     ·exact absurd h cg
  ·rintro⟨⟨number,name,mode,dflt⟩,kind,M,⟨P,O,u,o,F,C,j,y,k,H,I⟩,h⟩;dsimp only at F C j y H I
   have L:∀l,behind l M=true:=λl=>by
    rcases h with⟨r,rest,rfl,_,_⟩|⟨_,q,_⟩
    ·exact wJ (by decide) l r
    ·rw[<-q];cases choice<;>exact wJ (by decide) l s
   unfold RR sS;refine qQ ((FC hd (FN j)).mpr ⟨F,j⟩) ?_;refine qQ (FE.mpr ⟨C,FN j⟩) ?_;refine qQ (FH.mpr y) ?_;dsimp only;refine qQ ((FP T G).mpr k) ?_;show(if mode= .keyed/\(dM kind).isNone=true then _ else _)=_;rw[if_neg H];refine qQ ((FL L).mpr I) ?_;rcases h with⟨r,rest,rfl,Y,rfl⟩|⟨hno,rfl,rfl⟩
   ·show(if(59:Nat)=59 then _ else _)=_;rw[if_pos rfl];have:=(tW b depth choice _ _ r rest s (FO (h:=⟨number,name,mode,dflt⟩) j) (lk k)).mpr Y;unfold RR at this;rw[this];rfl
   ·show(if D_ choice=59 then _ else _)=_;rw[if_neg (by cases choice<;>decide),if_pos rfl]
theorem PB (p)(t:aq):(t.takeWhile p).length+(t.dropWhile p).length=t.length:=by
 rw[<-aQ,oW]
theorem tX (h:jV t=some (n,r)):r.length<t.length/\t=n++r/\ip n=true:=by
 unfold jV at h;split at h
 ·rename_i q;simp only[cQ,aK]at h;obtain⟨rfl,rfl⟩:=h;obtain⟨_,c,b,e,_⟩:=Fq q;have h1:=PB bQ t;have h2:=congrArg f9 e;rw[bf]at h2;exact⟨by lia,(oW ..).symm,q⟩
 simp_all
theorem tY (h:jW c t=some (m,r)):r.length<t.length/\(c=true->m= .one):=by
 unfold jW at h;split at h
 ·cases h
 ·split at h
  ·simp only[cQ,aK]at h;simp_all
  ·split at h
   ·cases h
   ·rename_i q;rw[aX]at h
    grind
def iz:bN->Prop
 | .bit=>True
 | .int n=>2<=n/\n<=64
 | .text n=>1<=n/\n<=999
theorem wK (h:ml u t=some (l,r)):r.length<t.length/\iz l/\u≠40:=by
 unfold ml at h;split at h
 ·cases h
 ·rename_i x e;split at h
  ·cases h
  ·rename_i j;simp only[cQ]at h;subst h;refine(λq=>⟨q.1,q.2,j⟩) (?_:r.length<t.length/\iz l);split at e
   ·rename_i s g;obtain⟨rfl,rfl⟩:=e;rw[eD.mp g];exact⟨by simp,trivial⟩
   ·split at e
    ·rename_i s g;split at e
     ·rename_i n i b;split at e
      ·cases e
      ·rename_i k;simp only[cQ,aK]at e;obtain⟨rfl,rfl⟩:=e;have h1:=nV b;have h2:=(tS (by decide)).mp b;rw[eD.mp g,bf];refine⟨by lia,?_⟩;show 2<=n/\n<=64
       lia
     ·cases e
    ·split at e
     ·rename_i s g;rw[aX]at e;obtain⟨⟨n,i⟩,b,h2⟩:=e;simp only[aK]at h2;obtain⟨rfl,rfl⟩:=h2;have h1:=nV b;have h2:=(tS (by decide)).mp b;have h3:=(tN b).2;rw[eD.mp g,bf];refine⟨by lia,?_⟩;show 1<=n/\n<=999
      lia
     ·cases e
theorem wL (h:jX c m k t=some (d,r)):r.length<=t.length:=by
 unfold jX at h;split at h
 ·simp only[cQ,aK]at h;simp_all
 ·rename_i s g;split at h
  ·rw[aX]at h;obtain⟨⟨v,i⟩,b,h2⟩:=h;simp only[aK]at h2;have:=Fk b;rw[eD.mp g,<-h2.2,bf];exact Ee (Ef this)
  simp_all
theorem AH:∀(b depth) (choice) (j) (i) (t) (fs) (s),fA b depth choice j i t=some (fs,s)->s.length<t.length
 |0=>λ_ _ _ _ _ _ _ h=>by
  unfold fA at h
  grind
 |b+1=>λdepth choice j i t fs s h=>by
  obtain⟨hd,kind,H,⟨J,I,o,k,G,F,W,C,u,U,z⟩,h⟩:=eB.mp h;have T:=nV G;have P:=(tX F).1;have O:=(tY C).1;have L:=wL z
  have M:k.length<o.length:=by
   rcases u with⟨c,X,r,rfl,hd,g,rfl⟩|⟨hno,l,g,rfl⟩
   ·have:=AH b _ _ _ _ _ _ _ g
    grind
   ·exact(wK g).1
  rcases h with⟨r,rest,rfl,y,rfl⟩|⟨hno,rfl,rfl⟩
  ·have:=AH b _ _ _ _ _ _ _ y
   grind
  lia
theorem HK.len (g:HK (QR fuel) depth used t3 kind t4):t4.length<t3.length:=by
 rcases g with⟨c,h,r,rfl,hd,b,rfl⟩|⟨hno,l,b,rfl⟩
 ·have:=AH fuel _ _ _ _ _ _ _ b
  grind
 ·exact(wK b).1
theorem wO:∀(f g depth) (choice) (i) (b) (t) (fs) (s),t.length<f->t.length<g->fA f depth choice i b t=some (fs,s)->fA g depth choice i b t=some (fs,s)
 |0,_=>λ_ _ _ _ _ _ _ h _ _=>absurd h (k_ _)
 |_+1,0=>λ_ _ _ _ _ _ _ _ h _=>absurd h (k_ _)
 |f+1,g+1=>λdepth choice i b t fs s hf hg h=>by
  obtain⟨hd,kind,F,⟨H,G,k,j,C,z,O,y,o,M,u⟩,h⟩:=eB.mp h;have Y:=nV C;have X:=(tX z).1;have J:=(tY y).1;have W:=o.len;have I:=wL u
  have L:HK (QR g) depth b k kind j:=by
   rcases o with⟨c,P,r,rfl,hd,U,rfl⟩|q
   ·rw[bf]at J;exact .inl ⟨c,P,r,rfl,hd,wO f g _ _ _ _ _ _ _ (by lia) (by lia) U,rfl⟩
   ·exact .inr q
  refine eB.mpr ⟨hd,kind,F,⟨H,G,k,j,C,z,O,y,L,M,u⟩,?_⟩;rcases h with⟨r,rest,rfl,T,rfl⟩|q
  ·rw[bf]at I;exact .inl ⟨r,rest,rfl,wO f g _ _ _ _ _ _ _ (by lia) (by lia) T,rfl⟩
  ·exact .inr q
theorem PC {x y:Option α}(h:∀a,x=some a↔y=some a):x=y:=by
 cases x with
 |none=>
  cases y with
  |none=>rfl
  |some b=>exact absurd ((h b).mpr rfl) (by simp)
 |some a=>exact((h a).mp rfl).symm
theorem tZ (i:t.length<f)(b:t.length<g)(depth)(choice)(before)(used):fA f depth choice before used t=fA g depth choice before used t:=
 PC λx=>⟨λh=>wO f g depth choice before used t x.1 x.2 i b h,λh=>wO g f depth choice before used t x.1 x.2 b i h⟩
def eP (depth:Nat)(choice:Bool)(g:List g6)(b:Nat)(t:aq):Option (aJ×aq):=fA (t.length+1) depth choice g b t
def mX (depth:Nat)(choice:Bool)(o:List g6)(b:Nat)(t:aq):Option (g6×Kind×aq):=
 match dj 999 t with
 |none=>none
 |some (number,k)=>match jV k with
  |none=>none
  |some (name,j)=>if gh o number name=true then none else match jW choice j with
   |none=>none
   |some (mode,i)=>match hW (λc r=>eP (depth+1) c [] b r) depth b i with
    |none=>none
    |some (kind,h)=>if mode= .keyed/\(dM kind).isNone=true then none else match jX choice mode kind h with
     |none=>none
     |some (dflt,g)=>some ({number:=number,name:=name,mode:=mode,dflt:=dflt},kind,g)
def t8 (depth:Nat)(choice:Bool)(g:List g6)(b:Nat)(t:aq):Option (aJ×aq):=match cI 59 t with
 |some r=>eP depth choice g b r
 |none=>some (.nil,t)
theorem FQ (h:∀c r,r.length<t3.length->rd c r=rd' c r):hW rd depth used t3=hW rd' depth used t3:=by
 unfold hW;cases e:cI 123 t3 with
 |some r=>
  dsimp only;rw[h false r (by rw[eD.mp e];simp)]
 |none=>
  cases b:cI 60 t3 with
  |some r=>
   dsimp only;rw[h true r (by rw[eD.mp b];simp)]
  |none=>rfl
theorem PD (depth:Nat)(choice:Bool)(g:List g6)(b:Nat)(t:aq):eP depth choice g b t=match mX depth choice g b t with
 |none=>none
 |some (h,kind,k)=>(t8 depth choice (h::g) (b+au kind) k).map λx=>(.cons h kind x.1,x.2):=by
 unfold mX;rw[eP,fA];cases W:dj 999 t with
 |none=>rfl
 |some H=>
  obtain⟨number,L⟩:=H;have l1:=nV W;dsimp only;cases U:jV L with
  |none=>rfl
  |some G=>
   obtain⟨name,J⟩:=G;have l2:=(tX U).1;dsimp only;by_cases j:gh g number name=true
   ·rw[if_pos j,if_pos j]
   ·rw[if_neg j,if_neg j];cases T:jW choice J with
    |none=>rfl
    |some F=>
     obtain⟨mode,o⟩:=F;have l3:=(tY T).1;dsimp only
     have u:hW (λc r=>fA t.length (depth+1) c [] b r) depth b o=hW (λc r=>eP (depth+1) c [] b r) depth b o:=
      FQ λc r hr=>tZ (by lia) (by lia) _ _ _ _
     rw[u];cases y:hW (λc r=>eP (depth+1) c [] b r) depth b o with
     |none=>rfl
     |some C=>
      obtain⟨kind,I⟩:=C;rw[<-u]at y;have Y:=(tU.mp y).len;dsimp only;by_cases i:mode= .keyed/\(dM kind).isNone=true
      ·rw[if_pos i,if_pos i]
      ·rw[if_neg i,if_neg i];cases P:jX choice mode kind I with
       |none=>rfl
       |some z=>
        obtain⟨dflt,k⟩:=z;have X:=wL P;dsimp only;unfold t8;cases O:cI 59 k with
        |none=>rfl
        |some r=>
         have M:=congrArg f9 (eD.mp O);rw[bf]at M
         have:fA t.length depth choice ({number:=number,name:=name,mode:=mode,dflt:=dflt}::g) (b+au kind) r=eP depth choice ({number:=number,name:=name,mode:=mode,dflt:=dflt}::g) (b+au kind) r:=
          tZ (by lia) (by lia) _ _ _ _
         simp_all
mutual
def bB:Kind->Nat->Prop
 | .leaf l,_=>iz l
 | .group c fs,n=>1<=n/\fs≠.nil/\bC fs (n-1) c
def bC:aJ->Nat->Bool->Prop
 | .nil,_,_=>True
 | .cons h k r,n,c=>(1<=h.number/\h.number<=999)/\(∀x∈r.list,h.number<x.1.number)/\ip h.name=true/\(∀x∈r.list,x.1.name≠h.name)/\(c=true->h.mode= .one)/\(h.mode= .keyed->(dM k).isSome=true)/\bB k n/\bC r n c
end
mutual
theorem bB.wf:∀{k:Kind} {n:Nat},bB k n->mj k
 | .leaf _,_,_=>by
  unfold mj;trivial
 | .group c fs,n,h=>by
  unfold bB at h;unfold mj;exact bC.wf h.2.2
theorem bC.wf:∀{fs:aJ} {n:Nat} {c:Bool},bC fs n c->gK c fs
 | .nil,_,_,_=>by
  unfold gK;trivial
 | .cons h k r,n,c,w=>by
  unfold bC at w;unfold gK;obtain⟨_,_,u,o,j,i,g,b⟩:=w;exact⟨u,o,j,i,bB.wf g,bC.wf b⟩
end
theorem PF:gh before n name=false↔∀h∈before,h.number<n/\name≠h.name:=by
 unfold gh;simp_all
theorem wQ:∀(j depth) (choice) (i) (o) (t) (fs) (s),fA j depth choice i o t=some (fs,s)->depth<=6->
 bC fs (6-depth) choice/\fs≠.nil/\∀x∈fs.list,∀h∈i,h.number<x.1.number/\x.1.name≠h.name
 |0=>λ_ _ _ _ _ _ _ h _=>by
  unfold fA at h
  grind
 |j+1=>λdepth choice i o t fs s h H=>by
  obtain⟨hd,kind,P,⟨X,W,U,T,y,O,J,M,F,G,e5⟩,h⟩:=eB.mp h;have Y:=(tS (by decide)).mp y;have n0:=(tN y).2;have I:=PF.mp J
  have C:bB kind (6-depth):=by
   rcases F with⟨c,dC,r,rfl,hd,k,rfl⟩|⟨hno,l,k,rfl⟩
   ·obtain⟨a,b,_⟩:=wQ j _ _ _ _ _ _ _ k (by lia);refine⟨by lia,b,?_⟩
    lia
   ·unfold bB;exact(wK k).2.1
  have key:hd.mode= .keyed->(dM kind).isSome=true:=λz=>by
   cases q:dM kind with
   |none=>exact absurd ⟨z,by rw[q];rfl⟩ G
   |some _=>rfl
  have base:∀(rest:aJ),bC rest (6-depth) choice->(∀x∈rest.list,∀h∈hd::i,h.number<x.1.number/\x.1.name≠h.name)->
   bC (.cons hd kind rest) (6-depth) choice/\Fields.cons hd kind rest≠.nil/\∀x∈(Fields.cons hd kind rest).list,∀h∈i,h.number<x.1.number/\x.1.name≠h.name:=λrest a b=>by
   refine⟨?_,(by intro z;cases z),λx g h u=>?_⟩
   ·unfold bC;exact⟨⟨by lia,by lia⟩,λx g=>(b x g hd aH).1,(tX O).2.2,λx g=>(b x g hd aH).2,(tY M).2,key,C,a⟩
   ·rcases cj.mp g with q|q
    ·rw[q];exact I h u
    ·exact b x q h (aR _ u)
  rcases h with⟨r,rest,rfl,L,rfl⟩|⟨hno,rfl,rfl⟩
  ·obtain⟨a,_,b⟩:=wQ j _ _ _ _ _ _ _ L H;exact base rest a b
  ·exact base .nil (by unfold bC;trivial) λx g=>absurd g (by simp[sQ])
theorem qR:sT t= .ok fs↔t.length<=2000/\∃r,t=123::r/\eP 1 false [] 0 r=some (fs,[125]):=by
 unfold sT;have k:Vacola.MOST=2000:=rfl;constructor
 ·intro h;split at h
  ·cases h
  ·rename_i i;refine⟨by lia,?_⟩;split at h
   ·rename_i r;obtain⟨⟨j,x⟩,b,h⟩:=bj h;dsimp only at h;split at h
    ·rename_i q;subst q;have:=cf h;subst this;have:=(tW _ 1 false [] 0 r j [] (λh z=>absurd z (by simp)) (by decide)).mp b;refine⟨r,rfl,?_⟩;unfold eP;rw[tZ (f:=r.length+1) (g:=(123::r).length+1) (by lia) (by simp;lia),this];rfl
    ·exact absurd h cg
   ·exact absurd h cg
 ·rintro⟨i,r,rfl,h⟩;rw[if_neg (by lia)]
  have b:=(tW _ 1 false [] 0 r fs [] (λh z=>absurd z (by simp)) (by decide)).mpr (by
   unfold QR;unfold eP at h;rw[tZ (f:=(123::r).length+1) (g:=r.length+1) (by simp;lia) (by lia),h];rfl)
  exact qQ (a:=(fs,[])) b rfl
structure iP (fs:aJ):Prop where
 ok:bC fs 5 false
 ne:fs≠.nil
 lv:aG fs<=40
theorem PJ (h:sT t= .ok fs):iP fs:=by
 obtain⟨_,r,rfl,h1⟩:=qR.mp h;obtain⟨a,b,_⟩:=wQ _ 1 _ _ _ _ _ _ h1 (by decide);have:=tV _ _ _ _ _ _ _ _ h1 (by decide);exact⟨a,b,by lia⟩
theorem iP.wf (h:iP fs):gK false fs:=bC.wf h.ok
open Vacolc (pieces absent)
abbrev E:=vW
mutual
inductive BK where
 |leaf (l:bN)
 |group (c:Bool) (fs:BF)
inductive BF where
 |nil
 |skip (r:BF)
 |cons (m:jQ) (cap:Option Nat) (k:BK) (r:BF)
end
mutual
def aI:BK->Nat
 | .leaf _=>1
 | .group _ fs=>dH fs
def dH:BF->Nat
 | .nil=>0
 | .skip r=>dH r
 | .cons _ _ k r=>aI k+dH r
end
mutual
def lz:BK->Prop
 | .leaf _=>True
 | .group _ fs=>iQ fs
def iQ:BF->Prop
 | .nil=>True
 | .skip r=>iQ r
 | .cons _ _ k r=>1<=aI k/\lz k/\iQ r
end
def fT:BF->Bool
 | .nil=>false
 | .skip _=>true
 | .cons _ _ _ r=>fT r
def mn (c:Bool)(fs:BF)(b:List (List Val)):Bool:=
 let taken:=(b.filter λo=> !o.isEmpty).length
 !c||(decide (taken<=1)&&(taken==1||fT fs))
def hX (m:jQ)(b:Option Nat)(o:List Val):Bool:=match m,b with
 | .keyed,none=>risingKeys o
 | .keyed,some c=>decide (o.length<=c)
 |_,_=>true
def iA (b:Nat->Val->List (List E))(n f h d:Nat):List Val->List (List E)
 |[]=>eN n [{rep:=f,defn:=d,val:=none}]
 |v::g=>bU n (b f v::g.map (b h))
mutual
def a_:BK->Nat->Nat->Nat->Val->List (List E)
 | .leaf _,f,_,d,.lit v=>[[{rep:=f,defn:=d,val:=some v}]]
 | .leaf _,f,_,d,.group _=>[[{rep:=f,defn:=d,val:=none}]]
 | .group c fs,f,r,d,.group b=>dI fs c f r d b
 | .group _ _,_,_,_,.lit _=>[]
def dI:BF->Bool->Nat->Nat->Nat->List (List Val)->List (List E)
 | .nil,_,_,_,_,_=>[]
 | .skip rest,c,f,r,d,b=>dI rest c f r d b
 | .cons _ _ _ _,_,_,_,_,[]=>[]
 | .cons m _ k rest,c,f,r,d,o::b=>iA (λg v=>a_ k g (r+aw m) (d+defOf c m) v) (aI k) f (r+aw m) d o++dI rest c f r d b
end
def iR (one:List (List E)->Option Val)(m:jQ)(h j:Nat)(b:List (List E)):Option (List Val):=
 let parts:=b.map λg=>if aw m=0 then[g]else cG h g;let count:=(parts.head?.getD []).length;if b.all (oX j)then some []
 else if parts.all (λps=>ps.length==count)then(fw count).mapM λi=>one (parts.map λps=>(ps[i]?).getD [])
 else none
mutual
def dN:BK->Nat->Nat->List (List E)->Option Val
 | .leaf _,_,_,b=>match b with
  |[[e]]=>e.val.map Val.lit
  |_=>none
 | .group c fs,r,d,b=>(fU fs c r d b).bind λg=>if mn c fs g then some (.group g)else none
def fU:BF->Bool->Nat->Nat->List (List E)->Option (List (List Val))
 | .nil,_,_,_,b=>if b.isEmpty then some []else none
 | .skip rest,c,r,d,b=>fU rest c r d b
 | .cons m h k rest,c,r,d,b=>match iR (λx=>dN k (r+aw m) (d+defOf c m) x) m (r+aw m) (d+defOf c m) (b.take (aI k)),fU rest c r d (b.drop (aI k))with
  |some o,some g=>if hX m h o then some (o::g)else none
  |_,_=>none
end
def fB:List Bool->Option Bool
 |[]=>none
 |b::r=>if r.all (λx=>x==b)=true then some b else none
def eQ (r:Nat):List E->Bool
 |[]=>false
 |e::_=>e.rep==r
def reach (d:Nat):List E->Bool
 |[]=>false
 |e::_=>decide (d<=e.defn)
def gL (b:List (List E)):Nat:=(b.head?.getD []).length
def jY (one:List (List E)->Option (Val×List (List E)))(g:List E->Bool):Nat->List (List E)->Option (List Val×List (List E))
 |0,_=>none
 |f+1,b=>match fB (b.map g)with
  |none=>none
  |some false=>some ([],b)
  |some true=>match one b with
   |none=>none
   |some (v,c)=>(jY one g f c).map λx=>(v::x.1,x.2)
def eE (one:List (List E)->Option (Val×List (List E)))(test:List E->Bool)(b:List (List E)):Option (List Val×List (List E)):=jY one test (gL b+1) b
def fV (one:List (List E)->Option (Val×List (List E)))(m:jQ)(j:Option Nat)(h i:Nat)(b:List (List E)):Option (List Val×List (List E)):=
 match fB (b.map (reach i))with
 |none=>none
 |some false=>some ([],b.map ql)
 |some true=>match one b with
  |none=>none
  |some (v,c)=>match(if aw m=1 then eE one (eQ h) c else some ([],c))with
   |none=>none
   |some (g,k)=>if hX m j (v::g)=true then some (v::g,k)else none
mutual
def dD:BK->Nat->Nat->List (List E)->Option (Val×List (List E))
 | .leaf _,_,_,b=>match b with
  |[e::es]=>e.val.map λv=>(Val.lit v,[es])
  |_=>none
 | .group c fs,r,d,b=>match eV fs c r d b with
  |none=>none
  |some (g,x)=>if mn c fs g=true then some (.group g,x)else none
def eV:BF->Bool->Nat->Nat->List (List E)->Option (List (List Val)×List (List E))
 | .nil,_,_,_,_=>some ([],[])
 | .skip rest,c,r,d,b=>eV rest c r d b
 | .cons m g k rest,c,r,d,b=>match fV (λx=>dD k (r+aw m) (d+defOf c m) x) m g (r+aw m) (d+defOf c m) (b.take (aI k))with
  |none=>none
  |some (o,h)=>(eV rest c r d (b.drop (aI k))).map λx=>(o::x.1,h++x.2)
end
def i' (f r d:Nat)(b:List E):Prop:=∃e es,b=e::es/\e.rep=f/\d<=e.defn/\∀x∈es,r<x.rep
def gi (r:Nat)(b:List E):Prop:=∀e es,b=e::es->e.rep<=r
theorem FR (r)(e:E):cG r [e]=[[e]]:=by
 rfl
theorem FU (h:f.rep<=r):cG r (e::f::t)=[e]::cG r (f::t):=by
 rw[cG];simp_all
theorem FV:∀{l:List E},l≠[]->∃p ps,cG r l=p::ps
 |[],h=>absurd rfl h
 |[e],_=>⟨_,_,FR r e⟩
 |e::f::t,_=>by
  by_cases h:f.rep<=r
  ·exact⟨_,_,FU h⟩
  ·rw[cG];rw[if_neg h];obtain⟨p,ps,q⟩:=FV (r:=r) (l:=f::t) (by simp);simp_all
theorem PK (h:¬f.rep<=r)(q:cG r (f::t)=p::ps):cG r (e::f::t)=(e::p)::ps:=by
 rw[cG];rw[if_neg h,q]
theorem px:∀{es:List E} {e} {rest},(∀x∈es,r<x.rep)->gi r rest->cG r (e::es++rest)=(e::es)::cG r rest
 |[],e,rest,_,b=>by
  cases rest with
  |nil=>
   rfl
  |cons f t=>exact FU (b f t rfl)
 |f::es,e,rest,h,b=>by
  have g:=px (r:=r) (es:=es) (e:=f) (rest:=rest) (λx i=>h x (aR _ i)) b;exact PK (Nat.not_le.mpr (h f aH)) g
theorem PL (o:i' f r d a)(k:i' g r d2 b)(j:gi r x)(i:gi r y)(h:a++x=b++y):a=b/\x=y:=by
 obtain⟨e,es,rfl,_,_,h1⟩:=o;obtain⟨u,F,rfl,_,_,h2⟩:=k;have C:=px (e:=e) h1 j;have z:=px (e:=u) h2 i;simp_all
mutual
def cw:BK->Val->Prop
 | .leaf _,v=>∃l,v= .lit l
 | .group _ fs,v=>∃b,v= .group b/\cJ fs b
def cJ:BF->List (List Val)->Prop
 | .nil,b=>b=[]
 | .skip rest,b=>cJ rest b
 | .cons m _ k rest,b=>∃o g,b=o::g/\(∀v∈o,cw k v)/\(aw m=0->o.length<=1)/\cJ rest g
end
theorem wR {f}{P:β->Prop}(h:∀a b,f a=some b->P b):∀{l:List α} {r},l.mapM f=some r->r.length=l.length/\∀b∈r,P b
 |[],r,e=>by
  simp_all
 |a::l,r,e=>by
  rw[sU]at e;cases i:f a with
  |none=>rw[i]at e;cases e
  |some b=>
   cases g:l.mapM f with
   |none=>
    simp_all
   |some bs=>
    obtain⟨h1,h2⟩:=wR h g
    grind
theorem wU {P:Val->Prop}(h:∀x v,one x=some v->P v)(e:iR one m r' d' g=some o):(∀v∈o,P v)/\(aw m=0->o.length<=1):=by
 unfold iR at e;by_cases i:g.all (oX d')=true
 ·rw[if_pos i]at e;simp_all
 ·rw[if_neg i]at e;generalize hp:(g.map λj=>if aw m=0 then[j]else cG r' j)=parts at e;by_cases k:(parts.all λps=>ps.length==(parts.head?.getD []).length)=true
  ·rw[if_pos k]at e;obtain⟨h1,h2⟩:=wR (P:=P) (λa b q=>h _ _ q) e;refine⟨h2,λu=>?_⟩;rw[h1,Nv,<-hp];cases g with
   |nil=>simp
   |cons c g=>simp[u]
  simp_all
mutual
theorem lA:∀(bk:BK) (r d:Nat) (b:List (List E)) (v:Val),dN bk r d b=some v->cw bk v
 | .leaf _=>λr d b v h=>by
  unfold dN at h;unfold cw;split at h
  ·rw[aX]at h;obtain⟨l,_,q⟩:=h;exact⟨l,q.symm⟩
  ·cases h
 | .group c fs=>λr d b v h=>by
  unfold dN at h;rw[iI]at h;obtain⟨g,e,h⟩:=h;split at h
  ·cases h;unfold cw;exact⟨g,rfl,AI fs c r d b g e⟩
  ·cases h
theorem AI:∀(fs:BF) (c:Bool) (r d:Nat) (i:List (List E)) (g:List (List Val)),fU fs c r d i=some g->cJ fs g
 | .nil=>λc r d i g h=>by
  unfold fU at h;unfold cJ;split at h
  ·cases h;rfl
  ·cases h
 | .skip rest=>λc r d i g h=>by
  unfold fU at h;unfold cJ;exact AI rest c r d i g h
 | .cons m z k rest=>λc r d i g h=>by
  unfold fU at h;unfold cJ;split at h
  ·rename_i o j y u;split at h
   ·cases h;obtain⟨a,b⟩:=wU (P:=cw k) (λx v q=>lA k _ _ x v q) y;exact⟨o,j,rfl,a,b,AI rest c r d _ j u⟩
   ·cases h
  ·cases h
end
def mq (n f r d:Nat)(b:List (List E)):Prop:=b.length=n/\∀c∈b,i' f r d c
theorem join_cons (n)(a:List (List E))(S:List (List (List E))):bU n (a::S)=iH (λx y=>x++y) a (bU n S):=rfl
theorem qS (h:∀x∈S,x.length=n):(bU n S).length=n:=qM h
theorem t9 {a b:List (List E)}(h:c∈iH (λx y=>x++y) a b):∃x∈a,∃y∈b,c=x++y:=by
 obtain⟨i,g,rfl⟩:=zo.mp h
 grind
theorem AJ (i:r<r'):∀{S:List (List (List E))},(∀x∈S,mq n r' r' d' x)->∀c∈bU n S,(∀x∈c,r<x.rep)/\gi r' c
 |[],_,c,g=>by
  have:=oY g;subst this;exact⟨λx z=>absurd z (by simp),λe es z=>by cases z⟩
 |a::S,h,c,g=>by
  obtain⟨x,k,y,j,rfl⟩:=t9 g;obtain⟨e,es,rfl,h1,_,h3⟩:=(h a aH).2 x k;obtain⟨o,_⟩:=AJ i (λz b=>h z (aR _ b)) y j;refine⟨λz b=>?_,λC u q=>?_⟩
  ·rcases gm.mp b with q|q
   ·rcases cj.mp q with q|q
    ·rw[q,h1];omega
    ·exact Nat.lt_trans i (h3 z q)
   simp_all
  simp_all
theorem qT (G:m'=0\/m'=1)(hd:d<=dm)(h:∀g v,v∈o->mq n g (r+m') dm (sh g v))(h1:m'=0->o.length<=1):mq n f r d (iA sh n f (r+m') d o):=by
 cases o with
 |nil=>
  refine⟨zj ..,λc b=>?_⟩;rw[oY b];exact⟨_,_,rfl,rfl,bA _,λx z=>absurd z (by simp)⟩
 |cons v j=>
  have C:=h f v aH
  have u:∀x∈j.map (sh (r+m')),mq n (r+m') (r+m') dm x:=λx i=>by
   grind
  constructor
  ·refine qS λx i=>?_;rcases cj.mp i with q|q
   ·rw[q];exact C.1
   ·exact(u x q).1
  ·intro c b;have b:c∈bU n (sh f v::j.map (sh (r+m'))):=b;rw[join_cons]at b;obtain⟨x,i,y,k,rfl⟩:=t9 b;obtain⟨e,es,rfl,h2,h3,h4⟩:=C.2 x i;refine⟨e,es++y,rfl,h2,by lia,λz F=>?_⟩;rcases gm.mp F with q|q
   ·exact Nw (nH _ _) (h4 z q)
   ·rcases G with rfl|rfl
    ·have:j=[]:=iq.mp (by have:=h1 rfl;rw[bf]at this;lia);unfold bU at k;simp_all
    ·exact(AJ (oV r) u y k).1 z q
theorem ja (m):aw m=0\/aw m=1:=by cases m<;>simp[aw]
mutual
theorem gM:∀(bk:BK) (f r d:Nat) (v:Val),cw bk v->mq (aI bk) f r d (a_ bk f r d v)
 | .leaf _=>λf r d v h=>by
  unfold cw at h;obtain⟨l,rfl⟩:=h;unfold a_ aI;refine⟨rfl,λc g=>?_⟩;rw[g7.mp g];exact⟨_,_,rfl,rfl,bA _,λx z=>absurd z (by simp)⟩
 | .group c fs=>λf r d v h=>by
  unfold cw at h;obtain⟨b,rfl,h⟩:=h;unfold a_ aI;exact AK fs c f r d b h
theorem AK:∀(fs:BF) (c:Bool) (f r d:Nat) (i:List (List Val)),cJ fs i->mq (dH fs) f r d (dI fs c f r d i)
 | .nil=>λc f r d i h=>by
  unfold dI dH;exact⟨rfl,λc z=>absurd z (by simp)⟩
 | .skip rest=>λc f r d i h=>by
  unfold cJ at h;unfold dI dH;exact AK rest c f r d i h
 | .cons m C k rest=>λc f r d i h=>by
  unfold cJ at h;obtain⟨o,j,rfl,h1,h2,h3⟩:=h;unfold dI dH;have a:=qT (sh:=λg v=>a_ k g (r+aw m) (d+defOf c m) v) (n:=aI k) (f:=f) (r:=r) (d:=d) (ja m) (nH d (defOf c m)) (o:=o) (λg v y=>gM k g _ _ v (h1 v y)) h2;have b:=AK rest c f r d j h3;refine⟨by rw[aQ,a.1,b.1],λx u=>?_⟩;rcases gm.mp u with q|q
  ·exact a.2 x q
  ·exact b.2 x q
end
abbrev CI:=Nat×Nat×List Nat
mutual
def fW:BK->Nat->Nat->List Nat->List CI
 | .leaf _,r,d,mk=>[(r,d,mk)]
 | .group c fs,r,d,mk=>gx fs c r d mk
def gx:BF->Bool->Nat->Nat->List Nat->List CI
 | .nil,_,_,_,_=>[]
 | .skip rest,c,r,d,mk=>gx rest c r d mk
 | .cons m _ k rest,c,r,d,mk=>fW k (r+aw m) (d+defOf c m) (if aw m=1 then mk++[d+defOf c m]else mk)++gx rest c r d mk
end
mutual
theorem qU:∀(k:BK) (r d:Nat) (mk:List Nat),(fW k r d mk).length=aI k
 | .leaf _=>λ_ _ _=>by
  unfold fW aI;rfl
 | .group c fs=>λr d mk=>by
  unfold fW aI;exact wV fs c r d mk
theorem wV:∀(fs:BF) (c:Bool) (r d:Nat) (mk:List Nat),(gx fs c r d mk).length=dH fs
 | .nil=>λ_ _ _ _=>by
  unfold gx dH;rfl
 | .skip rest=>λc r d mk=>by
  unfold gx dH;exact wV rest c r d mk
 | .cons m b k rest=>λc r d mk=>by
  unfold gx dH;rw[aQ,qU k,wV rest]
end
structure nW (r d:Nat)(mk:List Nat)(x:CI):Prop where
 pre:∃more,x.2.2=mk++more
 len:x.2.2.length=x.1
 PM:r<=x.1
 FW:d<=x.2.1
 deep:∀i,r<=i->i<x.1->∃a,x.2.2[i]? =some a/\d<=a
theorem nW.up {mk}(b:m'=0\/m'=1)(g:mk.length=r)(h:nW (r+m') (d+dm) (if m'=1 then mk++[d+dm]else mk) x):nW r d mk x/\∀i,r<=i->i<x.1->∃a,x.2.2[i]? =some a/\d+dm<=a:=by
 have key:∀i,r<=i->i<x.1->∃a,x.2.2[i]? =some a/\d+dm<=a:=λi h1 h2=>by
  rcases b with rfl|rfl
  ·exact h.deep i h1 h2
  ·by_cases e:i=r
   ·subst e;obtain⟨more,q⟩:=h.pre;simp_all
   ·exact h.deep i (by lia) h2
 refine⟨⟨?_,h.len,by have:=h.PM;lia,by have:=h.FW;lia,λi h1 h2=>?_⟩,key⟩
 ·obtain⟨more,q⟩:=h.pre
  grind
 grind
mutual
theorem FY:∀(k:BK) (r d:Nat) (mk:List Nat),mk.length=r->∀x∈fW k r d mk,nW r d mk x
 | .leaf _=>λr d mk g x b=>by
  unfold fW at b;rw[g7.mp b];exact⟨⟨[],(eZ _).symm⟩,g,bA _,bA _,λi h1 h2=>absurd h2 (Eb.mpr h1)⟩
 | .group c fs=>λr d mk g x b=>by
  unfold fW at b;exact AL fs c r d mk g x b
theorem AL:∀(fs:BF) (c:Bool) (r d:Nat) (mk:List Nat),mk.length=r->∀x∈gx fs c r d mk,nW r d mk x
 | .nil=>λc r d mk g x b=>by
  unfold gx at b;exact absurd b (by simp)
 | .skip rest=>λc r d mk g x b=>by
  unfold gx at b;exact AL rest c r d mk g x b
 | .cons m h k rest=>λc r d mk g x b=>by
  unfold gx at b;rcases gm.mp b with q|q
  ·have:=FY k (r+aw m) (d+defOf c m) _ (by
    rcases ja m with e|e
    ·rw[e,if_neg (by decide),g];rfl
    ·rw[e,if_pos rfl,aQ,g];rfl) x q
   exact(nW.up (ja m) g this).1
  ·exact AL rest c r d mk g x q
end
def jZ (b:List Nat):List E->Prop
 |[]=>True
 |e::t=>(match t with
  |[]=>True
  |f::_=>1<=f.rep->∀a,b[f.rep-1]? =some a->a<=e.defn/\a<=f.defn)/\jZ b t
structure Gd (x:CI)(col:List E):Prop where
 lv:∀e∈col,e.rep<=x.1/\e.defn<=x.2.1/\(e.val.isSome=true↔e.defn=x.2.1)
 ch:jZ x.2.2 col
theorem jZ.right:∀{a b},jZ ms (a++b)->jZ ms b
 |[],_,h=>h
 |e::a,b,h=>by
  exact jZ.right h.2
theorem Gd.right (h:Gd x (a++b)):Gd x b:=⟨λe g=>h.lv e (kC _ g),h.ch.right⟩
theorem jZ.tail:∀{t} {e},jZ ms (e::t)->∀x∈t,1<=x.rep->∀a,ms[x.rep-1]? =some a->a<=x.defn
 |[],_,_,x,b,_,_,_=>absurd b (by simp)
 |f::t,e,h,x,b,h1,a,h2=>by
  rcases cj.mp b with q|q
  ·subst q;exact(h.1 h1 a h2).2
  ·exact jZ.tail h.2 x q h1 a h2
theorem FZ {b c}:∀{tr:List α} {A J},A.length=tr.length->J.length=tr.length->(∀a∈A,i' f r d a)->(∀j∈J,gi r j)->(∀x∈tr,i' g r d2 (b x))->(∀x∈tr,gi r (c x))->
 (iH (λx y=>x++y) A J=tr.map (λx=>b x++c x)↔A=tr.map b/\J=tr.map c)
 |[],A,J,k,i,_,_,_,_=>by
  simp_all
 |x::tr,[],J,k,_,_,_,_,_=>by simp at k
 |x::tr,a::A,[],_,i,_,_,_,_=>by simp at i
 |x::tr,a::A,j::J,k,i,h1,h2,h3,h4=>by
  have z:=FZ (f:=f) (g:=g) (r:=r) (d:=d) (d2:=d2) (b:=b) (c:=c) (tr:=tr) (A:=A) (J:=J) (by simpa using k) (by simpa using i) (λy h=>h1 y (aR _ h)) (λy h=>h2 y (aR _ h))
   (λy h=>h3 y (aR _ h)) (λy h=>h4 y (aR _ h))
  constructor
  ·intro q;injection q with o u
   obtain⟨F,C⟩:=PL (h1 a aH) (h3 x aH) (h2 j aH) (h4 x aH) o;simp_all
  simp_all
theorem Ga {p:α->Bool}{l}(b:l≠[])(h:∀x∈l,p x=true):fB (l.map p)=some true:=by
 cases l with
 |nil=>exact absurd rfl b
 |cons x l=>
  unfold fB;simp_all
theorem Gb {p:α->Bool}{l}(b:l≠[])(h:∀x∈l,p x=false):fB (l.map p)=some false:=by
 cases l with
 |nil=>exact absurd rfl b
 |cons x l=>
  unfold fB;simp_all
theorem Gc {p}{l:List α}(h1:∃x∈l,p x=true)(h2:∃x∈l,p x=false):fB (l.map p)=none:=by
 cases l with
 |nil=>
  rfl
 |cons x l=>
  unfold fB;rw[cu];dsimp only;rw[if_neg];rw[qm,fR];intro z;cases q:p x with
  |true=>
   grind
  |false=>
   grind
theorem three (p:α->Bool)(l:List α):(∀x∈l,p x=true)\/(∀x∈l,p x=false)\/((∃x∈l,p x=true)/\∃x∈l,p x=false):=by
 grind
theorem Ge {f}{g:β->Option γ}:∀(l:List α),(l.map f).mapM g=l.mapM λx=>g (f x)
 |[]=>rfl
 |x::l=>by
  rw[cu,sU,sU,Ge l]
def hZ (one:List (List E)->Option Val)(parts:List (List (List E))):Option (List Val):=
 if parts.all (λps=>ps.length==(parts.head?.getD []).length)then(fw (parts.head?.getD []).length).mapM λi=>one (parts.map λps=>(ps[i]?).getD [])
 else none
theorem wW {α:Type}{one:List (List E)->Option Val}{b:α->List E}{q:α->List (List E)}{tr:List α}(o:tr≠[]):hZ one (tr.map λx=>b x::q x)=match one (tr.map b)with
 |none=>none
 |some v=>(hZ one (tr.map q)).map λj=>v::j:=by
 cases tr with
 |nil=>exact absurd rfl o
 |cons g tr=>
  unfold hZ;have u:(((g::tr).map λx=>b x::q x).head?.getD []).length=(((g::tr).map q).head?.getD []).length+1:=rfl;rw[u];generalize(((g::tr).map q).head?.getD []).length=c
  have y:(((g::tr).map λx=>b x::q x).all λps=>ps.length==c+1)=(((g::tr).map q).all λps=>ps.length==c):=by
   rw[qm,qm];congr 1;funext x;simp
  rw[y]
  have k:(fw (c+1)).mapM (λi=>one (((g::tr).map λx=>b x::q x).map λps=>(ps[i]?).getD []))=(one ((g::tr).map b)).bind λv=>((fw c).mapM λi=>one (((g::tr).map q).map λps=>(ps[i]?).getD [])).map λj=>v::j:=by
   rw[List.range_succ_eq_map,sU,Ge]
   have C:(((g::tr).map λx=>b x::q x).map λps=>(ps[0]?).getD [])=(g::tr).map b:=by
    rw[bZ];rfl
   have z:∀i:Nat,(((g::tr).map λx=>b x::q x).map λps=>(ps[Nat.succ i]?).getD [])=((g::tr).map q).map λps=>(ps[i]?).getD []:=λi=>by
    rw[bZ,bZ];rfl
   rw[C];simp only[z];cases one ((g::tr).map b)with
   |none=>rfl
   |some v=>
    cases(fw c).mapM (λi=>one (((g::tr).map q).map λps=>(ps[i]?).getD []))<;>rfl
  rw[k];cases one ((g::tr).map b)with
  |none=>
   split<;>rfl
  |some v=>
   by_cases h:(((g::tr).map q).all λps=>ps.length==c)=true
   ·rw[if_pos h,if_pos h];rfl
   ·rw[if_neg h,if_neg h];rfl
theorem PN {q}{tr:List α}(h:∀x∈tr,q x=[]):hZ one (tr.map q)=some []:=by
 have e:=eO h;rw[e];unfold hZ;have b:((tr.map λ_=>([]:List (List E))).head?.getD []).length=0:=by cases tr<;>rfl
 simp_all
theorem PQ {q}{tr:List α}(h1:∃x∈tr,q x=[])(h2:∃x∈tr,q x≠[]):hZ one (tr.map q)=none:=by
 unfold hZ;rw[if_neg];rw[qm,fR]
 grind
abbrev Tr:=CI×List E×List E
abbrev Tr.bl (x:Tr):List E:=x.2.1
abbrev Tr.rs (x:Tr):List E:=x.2.2
abbrev Tr.st (x:Tr):List E:=x.2.1++x.2.2
def loc (bk:BK)(f r d:Nat)(b:List (List E)):Option Val:=(dN bk r d b).bind λv=>if a_ bk f r d v=b then some v else none
def iS (fs:BF)(c:Bool)(f r d:Nat)(g:List (List E)):Option (List (List Val)):=(fU fs c r d g).bind λb=>if dI fs c f r d b=g then some b else none
def iT (k:BK)(m:jQ)(f b d h:Nat)(i:List (List E)):Option (List Val):=(iR (λx=>dN k b h x) m b h i).bind λo=>if iA (λg v=>a_ k g b h v) (aI k) f b d o=i then some o else none
def fc (k:BK)(b g:Nat)(h:List (List E)):Option (List Val):=(hZ (λx=>dN k b g x) (h.map (cG b))).bind λo=>if bU (aI k) (o.map (a_ k b b g))=h then some o else none
theorem Gf {P:Val->Prop}(h:∀x v,one x=some v->P v)(e:hZ one parts=some o):∀v∈o,P v:=by
 unfold hZ at e;split at e
 ·exact(wR (P:=P) (λa b q=>h _ _ q) e).2
 simp_all
theorem t_ {α:Type}{k:BK}{f r' d':Nat}{b c:α->List E}{tr:List α}(O:tr≠[])(G:tr.length=aI k)(I:∀x∈tr,i' f r' d' (b x))(H:∀x∈tr,gi r' (c x)):
 ((hZ (λx=>dN k r' d' x) ((tr.map λx=>b x++c x).map (cG r'))).bind λo=>if iA (λg v=>a_ k g r' d' v) (aI k) f r' 0 o=tr.map (λx=>b x++c x)then some o else none)=
 match loc k f r' d' (tr.map b)with
 |none=>none
 |some v=>(fc k r' d' (tr.map c)).map λi=>v::i:=by
 have W:(tr.map λx=>b x++c x).map (cG r')=tr.map λx=>b x::cG r' (c x):=by
  rw[bZ];refine eO λx u=>?_;obtain⟨e,es,q,_,_,h⟩:=I x u;show cG r' (b x++c x)=_;rw[q];exact px h (H x u)
 rw[W,wW O];have X:(tr.map c).map (cG r')=tr.map λx=>cG r' (c x):=by rw[bZ];rfl
 unfold loc fc;rw[X];cases e1:dN k r' d' (tr.map b)with
 |none=>rfl
 |some v=>
  dsimp only[fk];have F:=gM k f r' d' v (lA k _ _ _ v e1);cases Y:hZ (λx=>dN k r' d' x) (tr.map λx=>cG r' (c x))with
  |none=>
   dsimp only[fb];split<;>rfl
  |some i=>
   dsimp only[fb];have M:=Gf (P:=cw k) (λx v q=>lA k _ _ x v q) Y
   have C:∀x∈i.map (a_ k r' r' d'),mq (aI k) r' r' d' x:=λx u=>by
    obtain⟨w,L,rfl⟩:=dU.mp u;exact gM k r' r' d' w (M w L)
   have U:∀j∈bU (aI k) (i.map (a_ k r' r' d')),gi r' j:=λj z=>by
    cases r' with
    |zero=>
     intro e es q;cases i with
     |nil=>
      unfold bU at z;simp_all
     |cons w i=>
      obtain⟨x,u,y,_,rfl⟩:=t9 z;obtain⟨e',es',rfl,h1,_⟩:=(C _ aH).2 x u;simp_all
    |succ r=>exact(AJ (oV r) C j z).2
   have T:(bU (aI k) (i.map (a_ k r' r' d'))).length=tr.length:=by rw[qS λx u=>(C x u).1,G]
   have key:=FZ (f:=f) (g:=f) (r:=r') (d:=d') (d2:=d') (b:=b) (c:=c) (tr:=tr) (A:=a_ k f r' d' v) (J:=bU (aI k) (i.map (a_ k r' r' d'))) (by rw[F.1,G]) T F.2 U I H;have e3:iA (λg v=>a_ k g r' d' v) (aI k) f r' 0 (v::i)=iH (λx y=>x++y) (a_ k f r' d' v) (bU (aI k) (i.map (a_ k r' r' d'))):=rfl
   grind
theorem Gg (g:cols.length=aI k)(h:∀x∈cols,x=[]):fc k r' d' cols=some []:=by
 unfold fc;rw[PN (λx b=>by rw[h x b,cG])];dsimp only[fk,List.map];rw[if_pos];rw[<-g];exact(XH.mpr ⟨rfl,h⟩).symm
theorem Gh:cG r l=[]↔l=[]:=by
 constructor
 ·intro h;cases l with
  |nil=>rfl
  |cons e es=>
   obtain⟨p,ps,q⟩:=FV (r:=r) (l:=e::es) (by simp);simp_all
 ·rintro rfl;rfl
theorem PR (h1:∃x∈cols,x=[])(h2:∃x∈cols,x≠[]):fc k r' d' cols=none:=by
 unfold fc;obtain⟨x,g,i⟩:=h1;obtain⟨y,b,h⟩:=h2;rw[PQ ⟨x,g,Gh.mpr i⟩ ⟨y,b,λz=>h (Gh.mp z)⟩];rfl
structure wX (r' d':Nat)(x:Tr):Prop where
 all:∀e∈x.bl,r'<=e.rep/\(e.rep=r'->d'<=e.defn)
 head:∀e es,x.bl=e::es->e.rep=r'
 rest:∀e es,x.rs=e::es->e.rep<r'
 gd:Gd x.1 x.st
theorem PU (b:wX r' d' x):eQ r' x.st= !x.bl.isEmpty:=by
 cases q:x.bl with
 |nil=>
  show eQ r' (x.bl++x.rs)=_;rw[q,vT];cases g:x.rs with
  |nil=>rfl
  |cons e es=>
   have:=b.rest e es g;show(e.rep==r')=false
   grind
 |cons e es=>
  have:=b.head e es q;show eQ r' (x.bl++x.rs)=_;rw[q];show(e.rep==r')=true;simp_all
theorem AM (ht:∀x:Tr,wX r' d' x->test x.st= !x.bl.isEmpty)(hp:1<=aI k)(ih:∀(f) (tr:List Tr),tr.map (·.1)=fW k r' d' mk->(∀x∈tr,i' f r' d' x.bl/\gi r' x.rs/\Gd x.1 x.st)->
 dD k r' d' (tr.map Tr.st)=(loc k f r' d' (tr.map Tr.bl)).map λv=>(v,tr.map Tr.rs)):
 ∀(F) (tr:List Tr),tr.map (·.1)=fW k r' d' mk->(∀x∈tr,wX r' d' x)->gL (tr.map Tr.st)<F->
  jY (λx=>dD k r' d' x) test F (tr.map Tr.st)=(fc k r' d' (tr.map Tr.bl)).map λI=>(I,tr.map Tr.rs)
 |0=>λ_ _ _ h=>absurd h (k_ _)
 |F+1=>λtr P u O=>by
  have hlen:tr.length=aI k:=by rw[<-qU k r' d' mk,<-P,bb]
  have H:tr≠[]:=λz=>by
   grind
  have go:∀x∈tr,test x.st= !x.bl.isEmpty:=λx i=>ht x (u x i)
  have ego:(tr.map Tr.st).map test=tr.map λx=> !x.bl.isEmpty:=by
   rw[bZ];exact eO go
  unfold jY;rw[ego];rcases three (λx:Tr=> !x.bl.isEmpty) tr with h|h|⟨h1,h2⟩
  ·rw[Ga H h];dsimp only
   let cut:Tr->List E×List E:=λx=>match x.bl with
    |[]=>([],[])
    |e::es=>(e::es.takeWhile (λy=>decide (r'<y.rep)),es.dropWhile λy=>decide (r'<y.rep))
   have C:∀x∈tr,x.bl=(cut x).1++(cut x).2/\i' r' r' d' (cut x).1/\(∀y∈(cut x).2,y∈x.bl)/\gi r' (cut x).2/\(cut x).2.length<x.bl.length:=λx i=>by
    have hx1:=h x i;cases q:x.bl with
    |nil=>rw[q]at hx1;simp at hx1
    |cons e es=>
     have ec:cut x=(e::es.takeWhile (λy=>decide (r'<y.rep)),es.dropWhile λy=>decide (r'<y.rep)):=by
      grind
     rw[ec];have M:=(u x i).head e es q;have hd:=((u x i).all e (by rw[q];exact aH)).2 M;have hdl:(es.dropWhile λy=>decide (r'<y.rep)).length<=es.length:=(Ny _).length_le;refine⟨?_,⟨e,_,rfl,M,hd,λy j=>?_⟩,λy j=>?_,λg t z=>?_,?_⟩
     ·show e::es=e::_++_;simp_all
     ·have:=fR.mp (XI (p:=λy:E=>decide (r'<y.rep)) (l:=es)) y j;simp_all
     ·exact aR _ ((Ny _).subset j)
     ·have:=Nt (λy:E=>decide (r'<y.rep)) es;simp_all
     grind
   let L:Tr->Tr:=λx=>(x.1,(cut x).1,(cut x).2++x.rs);let J:Tr->Tr:=λx=>(x.1,(cut x).2,x.rs)
   have est:tr.map Tr.st=(tr.map L).map Tr.st:=by
    rw[bZ];refine eO λx i=>?_;show x.bl++x.rs=(cut x).1++((cut x).2++x.rs);rw[<-c9,<-(C x i).1]
   have U:=ih r' (tr.map L) (by rw[bZ];exact P) (λy j=>by
    obtain⟨x,i,rfl⟩:=dU.mp j;obtain⟨Y,a2,X,W,_⟩:=C x i;refine⟨a2,?_,?_⟩
    ·intro e es z;have z:(cut x).2++x.rs=e::es:=z;cases q:(cut x).2 with
     |nil=>
      rw[q,vT]at z;have:=(u x i).rest e es z
      lia
     |cons g t=>
      rw[q,ir]at z;injection z with z _
      rw[<-z];exact W g t q
    ·have:=(u x i).gd;show Gd x.1 ((cut x).1++((cut x).2++x.rs));rw[<-c9,<-Y];exact this)
   rw[est,U];have eb:(tr.map L).map Tr.bl=tr.map λx=>(cut x).1:=by rw[bZ];rfl
   have er:(tr.map L).map Tr.rs=(tr.map J).map Tr.st:=by rw[bZ,bZ];rfl
   have ebl:tr.map Tr.bl=tr.map λx=>(cut x).1++(cut x).2:=eO λx i=>(C x i).1;have ls:=t_ (k:=k) (f:=r') (r':=r') (d':=d') (b:=λx=>(cut x).1) (c:=λx=>(cut x).2) H hlen (λx i=>(C x i).2.1) (λx i=>(C x i).2.2.2.1)
   have lm:fc k r' d' (tr.map Tr.bl)=match loc k r' r' d' (tr.map λx=>(cut x).1)with
    |none=>none
    |some v=>(fc k r' d' (tr.map λx=>(cut x).2)).map λI=>v::I:=by
    rw[<-ls,ebl];unfold fc;cases e:hZ (λx=>dN k r' d' x) ((tr.map λx=>(cut x).1++(cut x).2).map (cG r'))with
    |none=>rfl
    |some o=>
     dsimp only[fk];cases o with
     |nil=>
      exfalso
      have ep:(tr.map λx=>(cut x).1++(cut x).2).map (cG r')=tr.map λx=>(cut x).1::cG r' (cut x).2:=by
       rw[bZ];refine eO λx i=>?_;obtain⟨_,⟨e,es,q,_,_,h⟩,_,h4,_⟩:=C x i;show cG r' ((cut x).1++(cut x).2)=_;rw[q];exact px h h4
      rw[ep,wW H]at e;split at e
      ·cases e
      ·rw[aX]at e;obtain⟨_,_,z⟩:=e;cases z
     |cons v I=>rfl
   rw[lm,eb];cases loc k r' r' d' (tr.map λx=>(cut x).1)with
   |none=>rfl
   |some v=>
    dsimp only[fb];rw[er]
    have T:=AM ht hp ih F (tr.map J) (by rw[bZ];exact P) (λy j=>by
     obtain⟨x,i,rfl⟩:=dU.mp j;obtain⟨Y,a2,X,W,_⟩:=C x i;refine⟨λe M=>(u x i).all e (X e M),λe es z=>?_,(u x i).rest,?_⟩
     ·have z:(cut x).2=e::es:=z;have h1:=W e es z;have h2:=((u x i).all e (X e (by rw[z];exact aH))).1
      lia
     ·have:=(u x i).gd
      have h3:Gd x.1 ((cut x).1++((cut x).2++x.rs)):=by
       rw[<-c9,<-Y];exact this
      exact h3.right) (by
     cases tr with
     |nil=>exact absurd rfl H
     |cons G tr'=>
      have h5:=(C G aH).2.2.2.2;have O:(G.bl++G.rs).length<F+1:=O;show((cut G).2++G.rs).length<F;rw[aQ]at O⊢
      lia)
    rw[T];have e3:(tr.map J).map Tr.bl=tr.map λx=>(cut x).2:=by rw[bZ];rfl
    have e4:(tr.map J).map Tr.rs=tr.map Tr.rs:=by rw[bZ];rfl
    rw[e3,e4];cases fc k r' d' (tr.map λx=>(cut x).2)<;>rfl
  ·rw[Gb H h];dsimp only
   have hb:∀x∈tr,x.bl=[]:=λx i=>by
    have:=h x i;simpa using this
   rw[Gg (by rw[bb,hlen]) (λy j=>by
    obtain⟨x,i,rfl⟩:=dU.mp j;exact hb x i)]
   dsimp only[fb]
   have:tr.map Tr.st=tr.map Tr.rs:=eO λx i=>by
    show x.bl++x.rs=x.rs;rw[hb x i];rfl
   rw[this]
  ·rw[Gc h1 h2];dsimp only;obtain⟨x,i,U⟩:=h1;obtain⟨y,j,T⟩:=h2;rw[PR ⟨y.bl,dY j,by simpa using T⟩ ⟨x.bl,dY i,by simpa using U⟩];rfl
theorem Gi:∀{A:List (List E)},A.length=n->iH (λx y=>x++y) A (eN n [])=A
 |[],h=>by
  rfl
 |a::A,h=>by
  subst h;rw[bf,Eg,Ei,eZ,Gi rfl]
theorem PV (m)(cap):hX m cap []=true:=by
 unfold hX;split
 ·rfl
 ·simp
 rfl
theorem PX (c)(m):defOf c m<=1:=by
 cases m with
 |one=>cases c<;>decide
 |_=>exact bA _
theorem PY (hp:1<=aI k)(hmk:mk.length=r)
 (ih:∀(f) (tr:List Tr),tr.map (·.1)=fW k (r+aw m) (d+defOf c m) (if aw m=1 then mk++[d+defOf c m]else mk)->(∀x∈tr,i' f (r+aw m) (d+defOf c m) x.bl/\gi (r+aw m) x.rs/\Gd x.1 x.st)->
   dD k (r+aw m) (d+defOf c m) (tr.map Tr.st)=(loc k f (r+aw m) (d+defOf c m) (tr.map Tr.bl)).map λv=>(v,tr.map Tr.rs))
 (tr:List Tr) (W:tr.map (·.1)=fW k (r+aw m) (d+defOf c m) (if aw m=1 then mk++[d+defOf c m]else mk)) (u:∀x∈tr,i' f r d x.bl/\gi r x.rs/\Gd x.1 x.st):
 fV (λx=>dD k (r+aw m) (d+defOf c m) x) m cap (r+aw m) (d+defOf c m) (tr.map Tr.st)=
  (iT k m f (r+aw m) d (d+defOf c m) (tr.map Tr.bl)).bind λo=>if hX m cap o=true then some (o,tr.map Tr.rs)else none:=by
 have hlen:tr.length=aI k:=by rw[<-qU k,<-W,bb]
 have M:tr≠[]:=λz=>by
  grind
 have hmk':(if aw m=1 then mk++[d+defOf c m]else mk).length=r+aw m:=by
  rcases ja m with e|e
  ·rw[e,if_neg (by decide),hmk];rfl
  simp_all
 have ci:∀x∈tr,nW r d mk x.1/\(∀i,r<=i->i<x.1.1->∃a,x.1.2.2[i]? =some a/\d+defOf c m<=a)/\d+defOf c m<=x.1.2.1:=λx u=>by
  have h1:=FY k _ _ _ hmk' x.1 (by rw[<-W];exact dY u);have h2:=nW.up (ja m) hmk h1;exact⟨h2.1,h2.2,h1.FW⟩
 have hrch:∀x∈tr,reach (d+defOf c m) x.st= !oX (d+defOf c m) x.bl:=λx h=>by
  obtain⟨⟨e,es,q,_⟩,_⟩:=u x h;show reach _ (x.bl++x.rs)=_;rw[q];show decide (d+defOf c m<=e.defn)= !decide (e.defn<d+defOf c m)
  grind
 have erch:(tr.map Tr.st).map (reach (d+defOf c m))=tr.map λx=> !oX (d+defOf c m) x.bl:=by
  rw[bZ];exact eO hrch
 have hbne:∀x∈tr,x.bl≠[]:=λx h z=>by
  obtain⟨⟨e,es,q,_⟩,_⟩:=u x h;rw[q]at z;cases z
 unfold fV;rw[erch];rcases three (λx:Tr=> !oX (d+defOf c m) x.bl) tr with h|h|⟨h1,h2⟩
 ·
  rw[Ga M h];dsimp only
  have X:∀x∈tr,∃e es,x.bl=e::es/\e.rep=f/\d+defOf c m<=e.defn/\∀y∈es,r<y.rep:=λx j=>by
   obtain⟨⟨e,es,q,G,_,U⟩,_⟩:=u x j;refine⟨e,es,q,G,?_,U⟩;have:=h x j;rw[q]at this;have:(!decide (e.defn<d+defOf c m))=true:=this;simp at this
   lia
  have hall:((tr.map Tr.bl).all (oX (d+defOf c m)))≠true:=λz=>by
   cases tr with
   |nil=>exact M rfl
   |cons x0 tr'=>
    have h0:=h x0 aH;have:=fR.mp z x0.bl (dY aH);rw[this]at h0;cases h0
  rcases ja m with e0|e1
  ·
   have hr0:r+aw m=r:=by rw[e0];rfl
   rw[ih f tr W (λx h=>by
    obtain⟨e,es,G,F,U,q4⟩:=X x h;obtain⟨_,b2,b3⟩:=u x h;rw[hr0];exact⟨⟨e,es,G,F,U,q4⟩,b2,b3⟩)]
   have I:iT k m f (r+aw m) d (d+defOf c m) (tr.map Tr.bl)=(loc k f (r+aw m) (d+defOf c m) (tr.map Tr.bl)).map λv=>[v]:=by
    unfold iT loc iR;dsimp only;rw[if_neg hall]
    have Y:((tr.map Tr.bl).map λcol=>if aw m=0 then[col]else cG (r+aw m) col)=tr.map λx=>[x.bl]:=by
     rw[bZ];refine eO λx _=>?_;show(if aw m=0 then[x.bl]else _)=_;rw[if_pos e0]
    rw[Y]
    have hc:((tr.map λx:Tr=>[x.bl]).head?.getD []).length=1:=by
     cases tr with
     |nil=>exact absurd rfl M
     |cons _ _=>rfl
    rw[hc,if_pos (by rw[qm,fR];intro x _;rfl)]
    have hm1:(fw 1).mapM (λi=>dN k (r+aw m) (d+defOf c m) ((tr.map λx:Tr=>[x.bl]).map λps=>(ps[i]?).getD []))=(dN k (r+aw m) (d+defOf c m) (tr.map Tr.bl)).map λv=>[v]:=by
     have e2:(tr.map λx:Tr=>[x.bl]).map (λps=>(ps[0]?).getD [])=tr.map Tr.bl:=by
      rw[bZ];rfl
     show(Nz _ [0])=_;rw[sU,e2];cases dN k (r+aw m) (d+defOf c m) (tr.map Tr.bl)<;>rfl
    rw[hm1];cases e3:dN k (r+aw m) (d+defOf c m) (tr.map Tr.bl)with
    |none=>rfl
    |some v=>
     dsimp only[fb,fk];have hv:=gM k f (r+aw m) (d+defOf c m) v (lA k _ _ _ v e3);have e4:iA (λg v=>a_ k g (r+aw m) (d+defOf c m) v) (aI k) f (r+aw m) d [v]=a_ k f (r+aw m) (d+defOf c m) v:=Gi hv.1;rw[e4];split<;>rfl
   rw[I];cases loc k f (r+aw m) (d+defOf c m) (tr.map Tr.bl)with
   |none=>rfl
   |some v=>
    dsimp only[fb,fk];rw[if_neg (by rw[e0];decide)]
  ·
   have hr1:r+aw m=r+1:=by rw[e1]
   let cut:Tr->List E×List E:=λx=>match x.bl with
    |[]=>([],[])
    |e::es=>(e::es.takeWhile (λy=>decide (r+aw m<y.rep)),es.dropWhile λy=>decide (r+aw m<y.rep))
   have H:∀x∈tr,x.bl=(cut x).1++(cut x).2/\i' f (r+aw m) (d+defOf c m) (cut x).1/\(∀y∈(cut x).2,r<y.rep/\(y.rep=r+aw m->d+defOf c m<=y.defn))/\gi (r+aw m) (cut x).2:=λx j=>by
    obtain⟨e,es,q,he,hd,h4⟩:=X x j
    have ec:cut x=(e::es.takeWhile (λy=>decide (r+aw m<y.rep)),es.dropWhile λy=>decide (r+aw m<y.rep)):=by
     show(match x.bl with
      |[]=>([],[])
      |e::es=>(e::es.takeWhile (λy=>decide (r+aw m<y.rep)),es.dropWhile λy=>decide (r+aw m<y.rep)):List E×List E)=_
     rw[q]
    rw[ec];obtain⟨_,_,gd⟩:=u x j;refine⟨?_,⟨e,_,rfl,he,hd,λy C=>?_⟩,λy C=>?_,λg t z=>?_⟩
    ·rw[q];show e::es=e::_++_;rw[ir,oW]
    ·have:=fR.mp (XI (p:=λy:E=>decide (r+aw m<y.rep)) (l:=es)) y C;simpa using this
    ·have hy':=(Ny (λy:E=>decide (r+aw m<y.rep)) (l:=es)).subset C;refine⟨h4 y hy',λz=>?_⟩;have ch:=gd.ch
     have O:x.st=e::(es++x.rs):=by
      show x.bl++x.rs=_;rw[q];rfl
     rw[O]at ch;have lv:=(gd.lv y (by rw[O];exact aR _ (kD _ hy'))).1;obtain⟨a,J,a2⟩:=(ci x j).2.1 r (bA r) (by lia);have:=ch.tail y (kD _ hy') (by lia) a (by rw[z,hr1];exact J)
     lia
    ·have:=Nt (λy:E=>decide (r+aw m<y.rep)) es;have z:es.dropWhile (λy=>decide (r+aw m<y.rep))=g::t:=z;rw[z]at this;simpa using this
   let t1:Tr->Tr:=λx=>(x.1,(cut x).1,(cut x).2++x.rs);let L:Tr->Tr:=λx=>(x.1,(cut x).2,x.rs)
   have est:tr.map Tr.st=(tr.map t1).map Tr.st:=by
    rw[bZ];refine eO λx u=>?_;show x.bl++x.rs=(cut x).1++((cut x).2++x.rs);rw[<-c9,<-(H x u).1]
   have g1:=ih f (tr.map t1) (by rw[bZ];exact W) (λy C=>by
    obtain⟨x,j,rfl⟩:=dU.mp C;obtain⟨J,a2,a3,a4⟩:=H x j;obtain⟨_,b2,b3⟩:=u x j;refine⟨a2,?_,?_⟩
    ·intro e es z;have z:(cut x).2++x.rs=e::es:=z;cases q:(cut x).2 with
     |nil=>
      rw[q,vT]at z;have:=b2 e es z
      lia
     |cons g t=>
      rw[q,ir]at z;injection z with z _
      rw[<-z];exact a4 g t q
    ·show Gd x.1 ((cut x).1++((cut x).2++x.rs));rw[<-c9,<-J];exact b3)
   rw[est,g1];have eb:(tr.map t1).map Tr.bl=tr.map λx=>(cut x).1:=by rw[bZ];rfl
   have er:(tr.map t1).map Tr.rs=(tr.map L).map Tr.st:=by rw[bZ,bZ];rfl
   have ebl:tr.map Tr.bl=tr.map λx=>(cut x).1++(cut x).2:=eO λx u=>(H x u).1;have ls:=t_ (k:=k) (f:=f) (r':=r+aw m) (d':=d+defOf c m) (b:=λx=>(cut x).1) (c:=λx=>(cut x).2) M hlen (λx u=>(H x u).2.1) (λx u=>(H x u).2.2.2)
   have I:iT k m f (r+aw m) d (d+defOf c m) (tr.map Tr.bl)=match loc k f (r+aw m) (d+defOf c m) (tr.map λx=>(cut x).1)with
    |none=>none
    |some v=>(fc k (r+aw m) (d+defOf c m) (tr.map λx=>(cut x).2)).map λT=>v::T:=by
    refine vV ?_ ls;unfold iT iR;dsimp only;rw[if_neg hall,ebl]
    have Y:((tr.map λx=>(cut x).1++(cut x).2).map λcol=>if aw m=0 then[col]else cG (r+aw m) col)=(tr.map λx=>(cut x).1++(cut x).2).map (cG (r+aw m)):=by
     refine eO λx _=>?_;rw[if_neg (by rw[e1];decide)]
    rw[Y];show(hZ (λx=>dN k (r+aw m) (d+defOf c m) x) _).bind _=_;cases e:hZ (λx=>dN k (r+aw m) (d+defOf c m) x) ((tr.map λx=>(cut x).1++(cut x).2).map (cG (r+aw m)))with
    |none=>rfl
    |some o=>
     dsimp only[fk];cases o with
     |nil=>
      exfalso
      have Y:(tr.map λx=>(cut x).1++(cut x).2).map (cG (r+aw m))=tr.map λx=>(cut x).1::cG (r+aw m) (cut x).2:=by
       rw[bZ];refine eO λx u=>?_;obtain⟨_,⟨e,es,q,_,_,h⟩,_,h4⟩:=H x u;show cG (r+aw m) ((cut x).1++(cut x).2)=_;rw[q];exact px h h4
      rw[Y,wW M]at e;split at e
      ·cases e
      ·rw[aX]at e;obtain⟨_,_,z⟩:=e;cases z
     |cons v T=>rfl
   rw[I,eb];cases loc k f (r+aw m) (d+defOf c m) (tr.map λx=>(cut x).1)with
   |none=>rfl
   |some v=>
    dsimp only[fb];rw[if_pos e1,er]
    have g2:=AM (test:=eQ (r+aw m)) (λx h=>PU h) hp ih (gL ((tr.map L).map Tr.st)+1) (tr.map L) (by rw[bZ];exact W) (λy C=>by
     obtain⟨x,j,rfl⟩:=dU.mp C;obtain⟨J,a2,a3,a4⟩:=H x j;obtain⟨_,b2,b3⟩:=u x j;refine⟨λe he=>⟨by have:=(a3 e he).1;lia,(a3 e he).2⟩,λe es z=>?_,λe es z=>by have:=b2 e es z;lia,?_⟩
     ·have z:(cut x).2=e::es:=z;have h1:=a4 e es z;have h2:=(a3 e (by rw[z];exact aH)).1
      lia
     ·have h3:Gd x.1 ((cut x).1++((cut x).2++x.rs)):=by
       rw[<-c9,<-J];exact b3
      exact h3.right) (oV _)
    have g3:eE (λx=>dD k (r+aw m) (d+defOf c m) x) (eQ (r+aw m)) ((tr.map L).map Tr.st)=_:=g2;rw[g3];have e3:(tr.map L).map Tr.bl=tr.map λx=>(cut x).2:=by rw[bZ];rfl
    have e4:(tr.map L).map Tr.rs=tr.map Tr.rs:=by rw[bZ];rfl
    rw[e3,e4];cases fc k (r+aw m) (d+defOf c m) (tr.map λx=>(cut x).2)<;>rfl
 ·
  rw[Gb M h];dsimp only
  have X:∀x∈tr,x.bl=[{rep:=f,defn:=d,val:=none}]:=λx j=>by
   obtain⟨⟨e,es,q,G,F,U⟩,_,gd⟩:=u x j;have ha:=h x j;rw[q]at ha;have ha:(!decide (e.defn<d+defOf c m))=false:=ha;simp at ha
   have O:x.st=e::(es++x.rs):=by
    show x.bl++x.rs=_;rw[q];rfl
   have hes:es=[]:=by
    cases es with
    |nil=>rfl
    |cons y es=>
     exfalso;have C:=U y aH;have lv:=(gd.lv y (by rw[O];exact aR _ (kD _ aH))).1;obtain⟨a,J,a2⟩:=(ci x j).2.1 (y.rep-1) (by lia) (by lia);have ch:=gd.ch;rw[O,ir]at ch;unfold jZ at ch;have:=(ch.1 (by lia) a J).1
     lia
   rw[q,hes];have lv:=(gd.lv e (by rw[O];exact aH)).2;have hdd:=PX c m;have h1:e.defn=d:=by lia
   have h2:e.val=none:=by
    cases q5:e.val with
    |none=>rfl
    |some z=>
     have:=lv.2.mp (by rw[q5];rfl);have:=(ci x j).2.2
     lia
   obtain⟨a,b,c'⟩:=e;dsimp only at G h1 h2;rw[G,h1,h2]
  have I:iT k m f (r+aw m) d (d+defOf c m) (tr.map Tr.bl)=some []:=by
   unfold iT iR;dsimp only;rw[if_pos]
   ·dsimp only[fk];rw[if_pos];show eN (aI k) _=_;refine(XH.mpr ⟨by rw[bb,hlen],λy C=>?_⟩).symm;obtain⟨x,j,rfl⟩:=dU.mp C;exact X x j
   ·rw[qm,fR];intro x j;have:=h x j;simpa using this
  rw[I];dsimp only[fk];rw[if_pos (PV m cap)]
  have:(tr.map Tr.st).map ql=tr.map Tr.rs:=by
   rw[bZ];refine eO λx j=>?_;show(x.bl++x.rs).tail=_;rw[X x j];rfl
  rw[this]
 ·
  rw[Gc h1 h2];dsimp only
  have I:iT k m f (r+aw m) d (d+defOf c m) (tr.map Tr.bl)=none:=by
   unfold iT;cases e:iR (λx=>dN k (r+aw m) (d+defOf c m) x) m (r+aw m) (d+defOf c m) (tr.map Tr.bl)with
   |none=>rfl
   |some o=>
    dsimp only[fk];rw[if_neg];intro z;obtain⟨x1,j,G⟩:=h1;obtain⟨x2,hx2,F⟩:=h2;obtain⟨s1,s2⟩:=wU (P:=cw k) (λx v q=>lA k _ _ x v q) e;cases o with
    |nil=>
     have z1:∀y∈tr.map Tr.bl,y=[{rep:=f,defn:=d,val:=none}]:=λy C=>by
      rw[<-z]at C;exact oY C
     have w1:=z1 x1.bl (dY j);have w2:=z1 x2.bl (dY hx2);rw[w1]at G;rw[w2]at F;rw[G]at F;cases F
    |cons v T=>
     have cl:=qT (sh:=λg v=>a_ k g (r+aw m) (d+defOf c m) v) (n:=aI k) (f:=f) (r:=r) (d:=d+defOf c m) (dm:=d+defOf c m) (ja m) (bA _) (o:=v::T) (λg w hw=>gM k g _ _ w (s1 w hw)) s2;have z':iA (λg v=>a_ k g (r+aw m) (d+defOf c m) v) (aI k) f (r+aw m) (d+defOf c m) (v::T)=tr.map Tr.bl:=z;rw[z']at cl;obtain⟨e',es',w,_,w3,_⟩:=cl.2 x2.bl (dY hx2);rw[w]at F;have F:(!decide (e'.defn<d+defOf c m))=false:=F;simp at F
     lia
  rw[I];rfl
theorem AN {m:jQ}{u:Option Nat}{k:BK}{rest:BF}{c:Bool}{f r d:Nat}{b:List (List E)}:iS (.cons m u k rest) c f r d b=
 match iT k m f (r+aw m) d (d+defOf c m) (b.take (aI k))with
 |none=>none
 |some o=>if hX m u o=true then(iS rest c f r d (b.drop (aI k))).map λi=>o::i else none:=by
 unfold iS iT;rw[fU];cases G:iR (λx=>dN k (r+aw m) (d+defOf c m) x) m (r+aw m) (d+defOf c m) (b.take (aI k))with
 |none=>rfl
 |some o=>
  obtain⟨C,y⟩:=wU (P:=cw k) (λx v q=>lA k _ _ x v q) G;have cl:=qT (sh:=λg v=>a_ k g (r+aw m) (d+defOf c m) v) (n:=aI k) (f:=f) (r:=r) (d:=d) (dm:=d+defOf c m) (ja m) (nH _ _) (o:=o) (λg w F=>gM k g _ _ w (C w F)) y;cases I:fU rest c r d (b.drop (aI k))with
  |none=>
   dsimp only[fk,fb];split
   ·rfl
   ·split<;>rfl
  |some i=>
   dsimp only[fk,fb];by_cases h:hX m u o=true
   ·rw[if_pos h];dsimp only;rw[dI];by_cases h1:iA (λg v=>a_ k g (r+aw m) (d+defOf c m) v) (aI k) f (r+aw m) d o=b.take (aI k)
    ·rw[if_pos h1];dsimp only;rw[if_pos h,h1];by_cases h2:dI rest c f r d i=b.drop (aI k)
     ·rw[if_pos h2,h2,il,if_pos rfl]
     ·rw[if_neg h2,if_neg];intro z;have:=il (aI k) b;rw[<-z]at this;exact h2 (List.append_cancel_left (z.trans (il _ _).symm))
    ·rw[if_neg h1,if_neg];intro z;refine h1 ?_;rw[<-z,vX cl.1]
   ·rw[if_neg h];dsimp only;split
    ·rfl
    ·rename_i H j;split at j
     ·cases j;rw[if_neg h]
     ·cases j
theorem AO:loc (.group c fs) f r d cols=(iS fs c f r d cols).bind λb=>if mn c fs b=true then some (.group b)else none:=by
 unfold loc iS;rw[dN];cases g:fU fs c r d cols with
 |none=>rfl
 |some b=>
  dsimp only[fk];by_cases h1:mn c fs b=true
  ·rw[if_pos h1];dsimp only;rw[a_];by_cases h2:dI fs c f r d b=cols
   ·rw[if_pos h2,if_pos h2];dsimp only;rw[if_pos h1]
   ·rw[if_neg h2,if_neg h2]
  ·rw[if_neg h1];by_cases h2:dI fs c f r d b=cols
   ·rw[if_pos h2];dsimp only;rw[if_neg h1]
   ·rw[if_neg h2]
mutual
theorem Gj:∀(bk:BK) (r d:Nat) (mk:List Nat) (f:Nat) (tr:List Tr),lz bk->mk.length=r->tr.map (·.1)=fW bk r d mk->(∀x∈tr,i' f r d x.bl/\gi r x.rs/\Gd x.1 x.st)->
 dD bk r d (tr.map Tr.st)=(loc bk f r d (tr.map Tr.bl)).map λv=>(v,tr.map Tr.rs)
 | .leaf l=>λr d mk f tr _ o g i=>by
  unfold fW at g;cases tr with
  |nil=>simp at g
  |cons x C=>
   cases C with
   |cons y z=>simp at g
   |nil=>
    have g:x.1=(r,d,mk):=by simpa using g
    obtain⟨⟨e,es,q,j,I,F⟩,_,gd⟩:=i x aH
    have u:x.st=e::(es++x.rs):=by
     show x.bl++x.rs=_;rw[q];rfl
    have G:es=[]:=by
     cases es with
     |nil=>rfl
     |cons y es=>
      exfalso;have h1:=F y aH;have h2:=(gd.lv y (by rw[u];exact aR _ (kD _ aH))).1;rw[g]at h2;dsimp only at h2;omega
    have lv:=(gd.lv e (by rw[u];exact aH)).2;rw[g]at lv;dsimp only at lv;have hd:e.defn=d:=by omega
    have k:=lv.2.mpr hd;unfold dD loc dN;rw[G]at q
    show(match[x.bl++x.rs]with
     |[e::es]=>e.val.map λv=>(Val.lit v,[es])
     |_=>none:Option (Val×List (List E)))=_
    have:([x].map Tr.bl)=[[e]]:=by
     show[x.bl]=_;rw[q]
    rw[this,q];cases h:e.val with
    |none=>rw[h]at k;cases k
    |some v=>
     show(e.val.map λv=>(Val.lit v,[x.rs]))=fb _ ((e.val.map Val.lit).bind _);rw[h];dsimp only[fb,fk];rw[a_,if_pos]
     ·rfl
     ·obtain⟨a,b,c⟩:=e;dsimp only at j hd h;rw[j,hd,h]
 | .group c fs=>λr d mk f tr hp o g i=>by
  unfold lz at hp;unfold fW at g;unfold dD;rw[AQ fs c r d mk f tr hp o g i,AO];cases iS fs c f r d (tr.map Tr.bl)with
  |none=>rfl
  |some H=>
   dsimp only[fb,fk];split<;>rfl
theorem AQ:∀(fs:BF) (c:Bool) (r d:Nat) (mk:List Nat) (f:Nat) (tr:List Tr),iQ fs->mk.length=r->tr.map (·.1)=gx fs c r d mk->(∀x∈tr,i' f r d x.bl/\gi r x.rs/\Gd x.1 x.st)->
 eV fs c r d (tr.map Tr.st)=(iS fs c f r d (tr.map Tr.bl)).map λj=>(j,tr.map Tr.rs)
 | .nil=>λc r d mk f tr _ _ b _=>by
  unfold gx at b;have:tr=[]:=sV.mp b;subst this;unfold eV iS fU;rfl
 | .skip rest=>λc r d mk f tr hp g b h=>by
  unfold iQ at hp;unfold gx at b;unfold eV;rw[AQ rest c r d mk f tr hp g b h];unfold iS;rw[fU];cases fU rest c r d (tr.map Tr.bl)with
  |none=>rfl
  |some j=>
   dsimp only[fk];rw[dI]
 | .cons m G k rest=>λc r d mk f tr hp g b h=>by
  unfold iQ at hp;obtain⟨C,z,y⟩:=hp;unfold gx at b
  have J:tr.length=aI k+dH rest:=by
   rw[<-bb (f:=λx:Tr=>x.1),b,aQ,qU,wV]
  have I:(tr.take (aI k)).map (·.1)=fW k (r+aw m) (d+defOf c m) (if aw m=1 then mk++[d+defOf c m]else mk):=by
   rw[lg,b,vX (qU k _ _ _)]
  have H:(tr.drop (aI k)).map (·.1)=gx rest c r d mk:=by
   rw[qo,b,XJ (qU k _ _ _)]
  have F:(if aw m=1 then mk++[d+defOf c m]else mk).length=r+aw m:=by
   rcases ja m with e|e
   ·rw[e,if_neg (by decide),g];rfl
   ·rw[e,if_pos rfl,aQ,g];rfl
  unfold eV;rw[<-lg,<-qo];rw[PY (f:=f) C g (λf tr h1 h2=>Gj k _ _ _ f tr z F h1 h2) (tr.take (aI k)) I λx u=>h x (qr u)];rw[AQ rest c r d mk f (tr.drop (aI k)) y g H λx u=>h x (zp u)];rw[AN,<-lg,<-qo];cases iT k m f (r+aw m) d (d+defOf c m) ((tr.take (aI k)).map Tr.bl)with
  |none=>rfl
  |some o=>
   dsimp only[fk];by_cases i:hX m G o=true
   ·rw[if_pos i,if_pos i];dsimp only;cases iS rest c f r d ((tr.drop (aI k)).map Tr.bl)with
    |none=>rfl
    |some j=>
     dsimp only[fb];rw[<-dA,il]
   ·rw[if_neg i,if_neg i];rfl
end
def gN (bk:BK)(b:List (List E)):Option (List Val×List (List E)):=eE (λx=>dD bk 0 0 x) (λl=> !l.isEmpty) b
theorem PZ (hp:lz bk)(o:1<=aI bk)(C:cis=fW bk 0 0 [])(H:cols.length=cis.length)(u:∀x∈cis.zip cols,Gd x.1 x.2/\gi 0 x.2):
 (gN bk cols).map (·.1)=fc bk 0 0 cols:=by
 let tr:List Tr:=(cis.zip cols).map λx=>(x.1,x.2,[])
 have G:tr.map (·.1)=fW bk 0 0 []:=by
  show((cis.zip cols).map λx=>((x.1,x.2,[]):Tr)).map (·.1)=_;rw[bZ,<-C];show(cis.zip cols).map Prod.fst=cis;rw[XM (by lia)]
 have i:tr.map Tr.bl=cols:=by
  show((cis.zip cols).map λx=>((x.1,x.2,[]):Tr)).map Tr.bl=_;rw[bZ];show(cis.zip cols).map Prod.snd=cols;rw[XN (by lia)]
 have F:tr.map Tr.st=cols:=by
  rw[<-i];refine eO λx b=>?_;obtain⟨y,g,rfl⟩:=dU.mp b;show y.2++[]=y.2;rw[eZ]
 have j:∀x∈tr,wX 0 0 x:=λx b=>by
  obtain⟨y,g,rfl⟩:=dU.mp b;obtain⟨g1,g2⟩:=u y g;refine⟨λe _=>⟨bR _,λ_=>bR _⟩,λe es z=>Nat.le_zero.mp (g2 e es z),(λe es z=>by cases z),?_⟩;show Gd y.1 (y.2++[]);rw[eZ];exact g1
 have:=AM (k:=bk) (r':=0) (d':=0) (mk:=[]) (test:=λl=> !l.isEmpty) (λx h=>by
  have:x.rs=[]:=by
   cases q:x.rs with
   |nil=>rfl
   |cons e es=>exact absurd (h.rest e es q) (k_ _)
  show(!(x.bl++x.rs).isEmpty)=_;rw[this,eZ]) o (λf tr h1 h2=>Gj bk 0 0 [] f tr hp rfl h1 h2) (gL (tr.map Tr.st)+1) tr G j (oV _)
 rw[i,F]at this;have h2:gN bk cols=_:=this;rw[h2];cases fc bk 0 0 cols<;>rfl
open Vacolc (keptLeaves keysOk takenOk capacity asmKind asmFields marksKind marksFields marks assemble)
mutual
def cW:Kind->List Nat->List (List Nat)
 | .leaf _,p=>[p]
 | .group _ fs,p=>bV fs p
def bV:aJ->List Nat->List (List Nat)
 | .nil,_=>[]
 | .cons h k rest,p=>cW k (p++[h.number])++bV rest p
end
mutual
theorem wY:∀(k:Kind) (p:List Nat) (r d:Nat),(i3 k p r d).map (·.path)=cW k p
 | .leaf _=>λ_ _ _=>by
  unfold i3 cW;rfl
 | .group c fs=>λp r d=>by
  unfold i3 cW;exact ua fs c p r d
theorem ua:∀(fs:aJ) (c:Bool) (p:List Nat) (r d:Nat),(jq fs c p r d).map (·.path)=bV fs p
 | .nil=>λ_ _ _ _=>by
  unfold jq bV;rfl
 | .cons h k rest=>λc p r d=>by
  unfold jq bV;rw[dA,wY k,ua rest]
end
def nk (kept:List (List Nat))(k:Kind)(p:List Nat):Nat:=((cW k p).filter λx=>kept.contains x).length
def jw (kept:List (List Nat))(fs:aJ)(p:List Nat):Nat:=((bV fs p).filter λx=>kept.contains x).length
theorem Gk (kept)(k)(p):Ej kept k p=nk kept k p:=by
 unfold Ej nk;rw[<-wY k p 0 0,sW,bb];rfl
theorem AR (kept)(h)(k)(rest)(p):jw kept (.cons h k rest) p=nk kept k (p++[h.number])+jw kept rest p:=by
 unfold jw nk;rw[bV,oZ,aQ]
theorem kK (kept)(c)(fs)(p):nk kept (.group c fs) p=jw kept fs p:=by
 unfold jw nk;rw[cW]
def qV (kept:List (List Nat))(k:Kind)(q:List Nat):Option Nat:=match dM k with
 |some (h,l)=>if kept.contains (q++[h.number])then none else some (iu l)
 |none=>none
mutual
def bK (kept:List (List Nat)):Kind->List Nat->BK
 | .leaf l,_=> .leaf l
 | .group c fs,p=> .group c (bF kept fs p)
def bF (kept:List (List Nat)):aJ->List Nat->BF
 | .nil,_=> .nil
 | .cons h k rest,p=>if nk kept k (p++[h.number])=0 then .skip (bF kept rest p)else .cons h.mode (qV kept k (p++[h.number])) (bK kept k (p++[h.number])) (bF kept rest p)
end
section
variable {kept:List (List Nat)}
mutual
theorem mr:∀(k:Kind) (p:List Nat),nk kept k p≠0->aI (bK kept k p)=nk kept k p
 | .leaf _=>λp h=>by
  unfold bK aI;unfold nk cW at h⊢;by_cases q:kept.contains p=true
  ·rw[f_,if_pos q];rfl
  ·rw[f_,if_neg q]at h;exact absurd rfl h
 | .group c fs=>λp h=>by
  unfold bK aI;rw[kK];exact AS fs p
theorem AS:∀(fs:aJ) (p:List Nat),dH (bF kept fs p)=jw kept fs p
 | .nil=>λp=>by
  unfold bF dH jw bV;rfl
 | .cons h k rest=>λp=>by
  rw[bF,AR];by_cases q:nk kept k (p++[h.number])=0
  ·rw[if_pos q,dH,AS rest p,q,vP]
  ·rw[if_neg q,dH,AS rest p,mr k _ q]
end
mutual
theorem wZ:∀(k:Kind) (p:List Nat),lz (bK kept k p)
 | .leaf _=>λp=>by
  unfold bK lz;trivial
 | .group c fs=>λp=>by
  unfold bK lz;exact AU fs p
theorem AU:∀(fs:aJ) (p:List Nat),iQ (bF kept fs p)
 | .nil=>λp=>by
  unfold bF iQ;trivial
 | .cons h k rest=>λp=>by
  rw[bF];by_cases q:nk kept k (p++[h.number])=0
  ·rw[if_pos q,iQ];exact AU rest p
  ·rw[if_neg q,iQ];exact⟨by rw[mr k _ q];omega,wZ k _,AU rest p⟩
end
theorem Gm:∀(fs) (p),fT (bF kept fs p)=fs.list.any λx=>Ej kept x.2 (p++[x.1.number])==0
 | .nil=>λp=>by
  unfold bF fT;rfl
 | .cons h k rest=>λp=>by
  rw[bF];show _=((Ej kept k (p++[h.number])==0)||rest.list.any _);rw[Gk];by_cases q:nk kept k (p++[h.number])=0
  ·rw[if_pos q,fT,q];rfl
  ·rw[if_neg q,fT,Gm rest p];simp[q]
theorem P0 (h:m= .keyed->(dM k).isSome=true):keysOk kept m k q o=hX m (qV kept k q) o:=by
 unfold keysOk hX qV;cases m with
 |keyed=>
  cases e:dM k with
  |none=>
   rw[e]at h;exact absurd (h rfl) (by simp)
  |some x=>
   obtain⟨b,l⟩:=x;dsimp only;split<;>rfl
 |_=>rfl
mutual
theorem Gn:∀(k:Kind) (p:List Nat) (r d:Nat) (b:List (List E)),mj k->zq kept k p r d b=dN (bK kept k p) r d b
 | .leaf l=>λp r d b _=>by
  unfold zq bK dN;rfl
 | .group c fs=>λp r d b w=>by
  unfold mj at w;unfold zq bK dN;rw[AV fs c p r d b w];congr 1;funext ss
  have:takenOk kept c fs p ss=mn c (bF kept fs p) ss:=by
   unfold takenOk mn;rw[Gm]
  rw[this]
theorem AV:∀(fs:aJ) (c:Bool) (p:List Nat) (r d:Nat) (b:List (List E)),gK c fs->NA kept fs c p r d b=fU (bF kept fs p) c r d b
 | .nil=>λc p r d b _=>by
  unfold NA bF fU;rfl
 | .cons h k rest=>λc p r d b w=>by
  unfold gK at w;obtain⟨_,_,_,j,i,g⟩:=w;rw[NA,bF];dsimp only;rw[Gk];by_cases q:nk kept k (p++[h.number])=0
  ·rw[if_pos q,if_pos q,fU,AV rest c p r d b g]
  ·rw[if_neg q,if_neg q,fU,mr k _ q,AV rest c p r d _ g];have e:(λx=>dN (bK kept k (p++[h.number])) (r+aw h.mode) (d+defOf c h.mode) x)=λx=>zq kept k (p++[h.number]) (r+aw h.mode) (d+defOf c h.mode) x:=funext λx=>(Gn k _ _ _ x i).symm;rw[e];unfold iR;dsimp only;simp only[P0 j];rfl
end
theorem P1 (m)(a b):aw (qs m a b)=aw m:=by
 unfold qs;split
 ·rename_i h;rw[h.1];rfl
 ·rfl
theorem P2 (c)(m)(a b):defOf c (qs m a b)=defOf c m:=by
 unfold qs;split
 ·rename_i h;rw[h.1];rfl
 ·rfl
mutual
theorem ub:∀(k:Kind) (p:List Nat),(f' kept k p=none↔nk kept k p=0)
 | .leaf l=>λp=>by
  unfold f' nk cW;rw[f_];by_cases q:kept.contains p=true
  ·rw[if_pos q,if_pos q];simp
  ·rw[if_neg q,if_neg q];simp
 | .group c fs=>λp=>by
  rw[kK,<-Gp fs p];unfold f';cases gH kept fs p with
  |nil=>simp
  |cons h k r=>simp
theorem Gp:∀(fs:aJ) (p:List Nat),(gH kept fs p= .nil↔jw kept fs p=0)
 | .nil=>λp=>by
  unfold gH jw bV;simp
 | .cons h k rest=>λp=>by
  rw[AR,gH];have h1:=ub k (p++[h.number]);cases e:f' kept k (p++[h.number])with
  |none=>
   rw[h1.mp e,vP];exact Gp rest p
  |some j=>
   have:nk kept k (p++[h.number])≠0:=λz=>by
    rw[h1.mpr z]at e;cases e
   simp;omega
end
theorem Gq (g)(z:α->β):∀(l:List α) (n),(l.zipIdx (n+1)).map (λx=>if x.2=0 then z x.1 else g x.1)=l.map g
 |[]=>λ_=>rfl
 |a::l=>λn=>by
  rw[Ek,cu,cu,Gq g z l (n+1)];rfl
theorem Gr (i:au k=n)(b:∀g v,bY k g r' d' v=sh g v)(o:List Val):
 (if o.isEmpty then eN (au k) [({rep:=f,defn:=d,val:=none}:E)]else bU (au k) (o.zipIdx.map λx=>bY k (if x.2=0 then f else r') r' d' x.1))=iA sh n f r' d o:=by
 subst i;cases o with
 |nil=>rfl
 |cons v h=>
  show bU (au k) _=bU (au k) _;congr 1
  have e:∀x:Val×Nat,bY k (if x.2=0 then f else r') r' d' x.1=if x.2=0 then sh f x.1 else sh r' x.1:=λx=>by
   split
   ·exact b _ _
   ·exact b _ _
  simp only[e];rw[Ek,cu];rw[Gq (λv=>sh r' v) (λv=>sh f v) h 0];rfl
mutual
theorem P4:∀(k:Kind) (p:List Nat) (b:Kind),f' kept k p=some b->au b=aI (bK kept k p)/\∀f r d v,bY b f r d v=a_ (bK kept k p) f r d v
 | .leaf l=>λp b h=>by
  unfold f' at h;split at h
  ·cases h;unfold bK aI au;refine⟨rfl,λf r d v=>?_⟩;cases v with
   |lit v=>
    unfold bY a_;rfl
   |group g=>
    unfold bY a_;rfl
  ·cases h
 | .group c fs=>λp b h=>by
  unfold f' at h;obtain⟨h1,h2⟩:=AW fs p;split at h
  ·cases h
  ·rename_i hd j rest e;cases h;rw[e]at h1 h2;unfold bK aI au;refine⟨h1,λf r d v=>?_⟩;cases v with
   |lit v=>
    unfold bY a_;rfl
   |group g=>
    unfold bY a_;exact h2 c f r d g
theorem AW:∀(fs:aJ) (p:List Nat),aG (gH kept fs p)=dH (bF kept fs p)/\∀c f r d b,e_ (gH kept fs p) c f r d b=dI (bF kept fs p) c f r d b
 | .nil=>λp=>by
  unfold gH bF dH aG;refine⟨rfl,λc f r d b=>?_⟩;unfold e_ dI;rfl
 | .cons h k rest=>λp=>by
  obtain⟨h1,h2⟩:=AW rest p;rw[gH,bF];have u:=ub k (kept:=kept) (p++[h.number]);cases e:f' kept k (p++[h.number])with
  |none=>
   rw[if_pos (u.mp e)];dsimp only;rw[dH];refine⟨h1,λc f r d b=>?_⟩;rw[dI];exact h2 c f r d b
  |some j=>
   rw[if_neg λz=>by rw[u.mpr z]at e;cases e];dsimp only;obtain⟨i,y⟩:=P4 k _ j e;rw[dH,aG];refine⟨by rw[i,h1],λc f r d b=>?_⟩;cases b with
   |nil=>
    rw[e_,dI]
   |cons o b=>
    rw[e_,dI];dsimp only;rw[h2 c f r d b];congr 1;have F:aw (qs h.mode k j)=aw h.mode:=P1 _ _ _;have C:defOf c (qs h.mode k j)=defOf c h.mode:=P2 _ _ _ _;rw[F,C];exact Gr i (λg v=>y g _ _ v) o
end
end
theorem AX (w:gK false fs)(picks)(i:List (List E)):assemble fs picks i=fc (bK (bT fs picks) (.group false fs) []) 0 0 i:=by
 unfold assemble;have k:gH (bT fs picks) fs []=jr fs picks:=rfl;obtain⟨h,g⟩:=AW (kept:=bT fs picks) fs [];rw[k]at h g;unfold fc hZ;dsimp only;have y:∀x,dN (bK (bT fs picks) (.group false fs) []) 0 0 x=zq (bT fs picks) (.group false fs) [] 0 0 x:=λx=>(Gn (.group false fs) _ _ _ x (by unfold mj;exact w)).symm;simp only[y]
 have u:∀b,qk (jr fs picks) b=bU (aI (bK (bT fs picks) (.group false fs) [])) (b.map (a_ (bK (bT fs picks) (.group false fs) []) 0 0 0)):=λb=>by
  unfold qk;rw[pq,h]
  have o:c8 (jr fs picks)=a_ (bK (bT fs picks) (.group false fs) []) 0 0 0:=funext λv=>by
   unfold c8;cases v with
   |lit v=>
    unfold bY bK a_;rfl
   |group j=>
    unfold bY bK a_;exact g false 0 0 0 j
  rw[o];unfold bK aI;rfl
 simp only[u];split<;>rfl
open Vacolc (told)
mutual
theorem Gs:∀(k:Kind) (d:Nat) (m:List Nat),(o5 k d m).length=au k
 | .leaf _=>λ_ _=>by
  unfold o5 au;rfl
 | .group c fs=>λd m=>by
  unfold o5 au;exact w9 fs c d m
theorem w9:∀(fs:aJ) (c:Bool) (d:Nat) (m:List Nat),(o6 fs c d m).length=aG fs
 | .nil=>λ_ _ _=>by
  unfold o6 aG;rfl
 | .cons h k rest=>λc d m=>by
  unfold o6 aG;rw[aQ,Gs k,w9 rest]
end
def fH (x:zr×List Nat):CI:=(x.1.rep,x.1.defn,x.2)
section
variable {kept:List (List Nat)}
theorem P5 {g:List (List Nat)}(h:nk kept k p=0):(((i3 k p r d).zip g).filter λx=>kept.contains x.1.path)=[]:=by
 have h1:=iq.mp h;rw[o7]at h1⊢;intro x i;refine h1 x.1.path ?_;rw[<-wY k p r d];exact dY (sX (a:=x.1) (b:=x.2) i).1
mutual
theorem P6:∀(k:Kind) (p:List Nat) (r d:Nat) (mk:List Nat),nk kept k p≠0->fW (bK kept k p) r d mk=(((i3 k p r d).zip (o5 k d mk)).filter λx=>kept.contains x.1.path).map fH
 | .leaf l=>λp r d mk h=>by
  unfold bK fW i3 o5
  have:kept.contains p=true:=by
   cases q:kept.contains p with
   |true=>rfl
   |false=>
    unfold nk cW at h;rw[f_,if_neg (by rw[q];exact dX)]at h;exact absurd rfl h
  show _=(List.filter _ [({path:=p,leaf:=l,rep:=r,defn:=d},mk)]).map fH;rw[f_,if_pos this];rfl
 | .group c fs=>λp r d mk h=>by
  unfold bK fW i3 o5;exact AY fs c p r d mk
theorem AY:∀(fs:aJ) (c:Bool) (p:List Nat) (r d:Nat) (mk:List Nat),gx (bF kept fs p) c r d mk=(((jq fs c p r d).zip (o6 fs c d mk)).filter λx=>kept.contains x.1.path).map fH
 | .nil=>λc p r d mk=>by
  unfold bF gx jq;rfl
 | .cons h k rest=>λc p r d mk=>by
  rw[bF,jq,o6];rw[El (by rw[Fb,Gs]),oZ,dA,<-AY rest c p r d mk];by_cases q:nk kept k (p++[h.number])=0
  ·rw[if_pos q,gx,P5 q];rfl
  ·rw[if_neg q,gx,P6 k _ _ _ _ q]
end
end
mutual
theorem Gu:∀(k:Kind) (p:List Nat),∀x∈cW k p,∃y,x=p++y
 | .leaf _=>λp x h=>by
  unfold cW at h;exact⟨[],by rw[g7.mp h,eZ]⟩
 | .group c fs=>λp x h=>by
  unfold cW at h;obtain⟨n,y,q,_⟩:=AZ fs p x h;exact⟨n::y,q⟩
theorem AZ:∀(fs:aJ) (p:List Nat),∀x∈bV fs p,∃n y,x=p++(n::y)/\∃z∈fs.list,z.1.number=n
 | .nil=>λp x h=>by
  unfold bV at h;exact absurd h (by simp)
 | .cons hd k rest=>λp x h=>by
  unfold bV at h;rcases gm.mp h with q|q
  ·obtain⟨y,e⟩:=Gu k _ x q;exact⟨hd.number,y,by rw[e,c9];rfl,(hd,k),aH,rfl⟩
  ·obtain⟨n,y,e,z,b,g⟩:=AZ rest p x q;exact⟨n,y,e,z,aR _ b,g⟩
end
mutual
theorem P7:∀(k:Kind) (n:Nat) (p:List Nat),bB k n->(cW k p).Nodup
 | .leaf _=>λn p _=>by
  unfold cW;simp
 | .group c fs=>λn p h=>by
  unfold bB at h;unfold cW;exact w_ fs _ c p h.2.2
theorem w_:∀(fs:aJ) (n:Nat) (c:Bool) (p:List Nat),bC fs n c->(bV fs p).Nodup
 | .nil=>λn c p _=>by
  unfold bV;simp
 | .cons h k rest=>λn c p w=>by
  unfold bC at w;obtain⟨_,o,_,_,_,_,j,i⟩:=w;unfold bV;rw[List.nodup_append];refine⟨P7 k n _ j,w_ rest n c p i,λx F y u e=>?_⟩;subst e;obtain⟨z,G⟩:=Gu k _ x F;obtain⟨m,H,b,g,C,I⟩:=AZ rest p x u;rw[G,c9,XE]at b;injection b with b _
  have:=o g C;omega
end
def jx (n:Nat)(l:List Nat):Prop:=l.Pairwise (·<·)/\∀i∈l,i<n
theorem pz {f g:α->Option β}:∀{l:List α},(∀x∈l,f x=g x)->l.filterMap f=l.filterMap g
 |[],_=>rfl
 |a::l,h=>by
  rw[o8,o8,h a aH,pz λx b=>h x (aR _ b)]
theorem uc:∀(L:List α) (j) (b:List Nat),b.Pairwise (·<·)->(∀i∈b,j<=i)->b.filterMap (λi=>L[i-j]?)=((L.zipIdx j).filter λx=>b.contains x.2).map (·.1)
 |[]=>λj b _ _=>by
  simp_all
 |a::L=>λj b hp C=>by
  rw[Ek,f_];cases b with
  |nil=>simp
  |cons i b=>
   have h:=Em.mp hp;by_cases e:i=j
   ·subst e;rw[if_pos (by simp)];have u:=uc L (i+1) b h.2 (λx g=>h.1 x g);rw[o8,qu];show a::b.filterMap _=a::_;congr 1
    have F:b.filterMap (λk=>(a::L)[k-i]?)=b.filterMap λk=>L[k-(i+1)]? :=by
     refine pz λk y=>?_
     grind
    rw[F,u];congr 1;refine vY λx g=>?_
    grind
   ·have G:j<i:=by
     have:=C i aH
     lia
    have o:∀x∈i::b,j+1<=x:=λx g=>by
     grind
    rw[if_neg (by
     intro z;have:=List.elem_iff.mp z;have:=o j this
     lia)]
    rw[<-uc L (j+1) (i::b) hp o];refine pz λk y=>?_
    grind
theorem A0 (w:bC fs n false)(b:(di fs)[i]? =some c):(bT fs picks).contains c.path=picks.contains i:=by
 have nd:=w_ fs n false [] w;have hp:(di fs).map (·.path)=bV fs []:=ua fs false [] 0 0;rw[lh];rw[zt,zt];unfold bT;rw[zu];constructor
 ·rintro⟨j,G,e⟩;rw[aX]at e;obtain⟨H,z,y⟩:=e;have u:(bV fs [])[i]? =some c.path:=by rw[<-hp,dB,b];rfl
  have o:(bV fs [])[j]? =some c.path:=by rw[<-hp,dB,z,<-y];rfl
  obtain⟨F,k⟩:=cK.mp u;obtain⟨C,g⟩:=cK.mp o;have:=(NB nd).mp (k.trans g.symm);simp_all
 ·intro h;exact⟨i,h,by rw[b];rfl⟩
theorem P8 (w:bC fs n false)(h:jx (aG fs) picks):(aO fs picks).map fH=fW (bK (bT fs picks) (.group false fs) []) 0 0 []:=by
 unfold bK fW;rw[AY];unfold aO;have h1:=uc ((di fs).zip (nI fs)) 0 picks h.1 (λ_ _=>bR _);simp only[NC]at h1;rw[h1]
 have h2:(((di fs).zip (nI fs)).zipIdx.filter λx=>picks.contains x.2).map (·.1)=(((di fs).zip (nI fs)).zipIdx.filter λx=>(bT fs picks).contains x.1.1.path).map (·.1):=by
  congr 1;refine vY λx g=>?_;obtain⟨_,j,i⟩:=sR g
  have b:((di fs).zip (nI fs))[x.2]? =some x.1:=by
   rw[i];exact eI _
  rw[zw]at b;exact(A0 w b.1).symm
 rw[h2]
 have h3:(((di fs).zip (nI fs)).zipIdx.filter λx=>(bT fs picks).contains x.1.1.path).map (·.1)=(((di fs).zip (nI fs)).zipIdx.map (·.1)).filter λx=>(bT fs picks).contains x.1.path:=by
  rw[sW];rfl
 rw[h3,ND];rfl
mutual
def Vd:BK->Val->Prop
 | .leaf _,v=>∃l,v= .lit l
 | .group c fs,v=>∃b,v= .group b/\eR fs c b/\mn c fs b=true
def eR:BF->Bool->List (List Val)->Prop
 | .nil,_,b=>b=[]
 | .skip rest,c,b=>eR rest c b
 | .cons m h k rest,c,b=>∃o g,b=o::g/\(∀v∈o,Vd k v)/\(aw m=0->o.length<=1)/\(defOf c m=0->o≠[])/\hX m h o=true/\eR rest c g
end
mutual
theorem Vd.mY:∀{bk:BK} {v:Val},Vd bk v->cw bk v
 | .leaf _,v,h=>by
  unfold Vd at h;unfold cw;exact h
 | .group c fs,v,h=>by
  unfold Vd at h;unfold cw;obtain⟨b,e,h,_⟩:=h;exact⟨b,e,eR.mY h⟩
theorem eR.mY:∀{fs:BF} {c:Bool} {b:List (List Val)},eR fs c b->cJ fs b
 | .nil,c,b,h=>by
  unfold eR at h;unfold cJ;exact h
 | .skip rest,c,b,h=>by
  unfold eR at h;unfold cJ;exact eR.mY h
 | .cons m j k rest,c,b,h=>by
  unfold eR at h;unfold cJ;obtain⟨o,g,e,h1,h2,_,_,h5⟩:=h;exact⟨o,g,e,λv i=>Vd.mY (h1 v i),h2,eR.mY h5⟩
end
theorem Gv {α:Type}{k:BK}{g i:Nat}{b c:α->List E}{tr:List α}(y:tr≠[])(H:tr.length=aI k)(F:∀x∈tr,i' g g i (b x))(C:∀x∈tr,gi g (c x)):
 fc k g i (tr.map λx=>b x++c x)=match loc k g g i (tr.map b)with
  |none=>none
  |some v=>(fc k g i (tr.map c)).map λj=>v::j:=by
 have G:=t_ (k:=k) (f:=g) (r':=g) (d':=i) (b:=b) (c:=c) y H F C;refine vV ?_ G;unfold fc;cases e:hZ (λx=>dN k g i x) ((tr.map λx=>b x++c x).map (cG g))with
 |none=>rfl
 |some o=>
  dsimp only[fk];cases o with
  |nil=>
   exfalso
   have I:(tr.map λx=>b x++c x).map (cG g)=tr.map λx=>b x::cG g (c x):=by
    rw[bZ];refine eO λx u=>?_;obtain⟨e,es,q,_,_,h⟩:=F x u;show cG g (b x++c x)=_;rw[q];exact px h (C x u)
   rw[I,wW y]at e;split at e
   ·cases e
   ·rw[aX]at e;obtain⟨_,_,z⟩:=e;cases z
  |cons v j=>rfl
theorem xa:∀{A:List α} {B:List β},A.length=B.length->(A.zip B).map (·.1)=A/\(A.zip B).map (·.2)=B
 |[],[],_=>⟨rfl,rfl⟩
 |[],_::_,h=>by simp at h
 |_::_,[],h=>by simp at h
 |a::A,b::B,h=>by
  obtain⟨h1,h2⟩:=xa (A:=A) (B:=B) (by simpa using h);rw[zx,cu,cu,h1,h2];exact⟨rfl,rfl⟩
theorem Gw:∀{A J:List (List E)},iH (λx y=>x++y) A J=(A.zip J).map λx=>x.1++x.2
 |[],J=>by simp
 |a::A,[]=>by simp
 |a::A,j::J=>by
  rw[Ei,zx,cu,Gw]
theorem P9 (h:∀x∈S,mq n r' r' d' x):∀c∈bU n S,gi r' c:=λc b=>by
 cases S with
 |nil=>
  unfold bU at b;rw[List.foldr_nil]at b;rw[oY b];intro e es z;cases z
 |cons a S=>
  rw[join_cons]at b;obtain⟨x,g,y,_,rfl⟩:=t9 b;obtain⟨j,i,rfl,h1,_⟩:=(h a aH).2 x g;intro e es q;injection q with q _
  rw[<-q,h1];exact bA _
theorem xb {b:List Val}(h:∀v∈b,cw k v):∀x∈b.map (a_ k r' r' d'),mq (aI k) r' r' d' x:=λx g=>by
 obtain⟨w,i,rfl⟩:=dU.mp g;exact gM k r' r' d' w (h w i)
theorem xc {g:List Val}(C:cw k v)(h:∀w∈g,cw k w)(hp:1<=aI k):∃tr:List (List E×List E),tr≠[]/\tr.length=aI k/\(∀x∈tr,i' f r' d' x.1)/\(∀x∈tr,gi r' x.2)/\
 tr.map (·.1)=a_ k f r' d' v/\tr.map (·.2)=bU (aI k) (g.map (a_ k r' r' d'))/\bU (aI k) (a_ k f r' d' v::g.map (a_ k r' r' d'))=tr.map λx=>x.1++x.2:=by
 have o:=gM k f r' d' v C;have u:=xb (r':=r') (d':=d') h;have F:=qS (S:=g.map (a_ k r' r' d')) λx i=>(u x i).1;obtain⟨j,y⟩:=xa (A:=a_ k f r' d' v) (B:=bU (aI k) (g.map (a_ k r' r' d'))) (by rw[o.1,F]);refine⟨(a_ k f r' d' v).zip (bU (aI k) (g.map (a_ k r' r' d'))),?_,?_,λx i=>?_,λx i=>?_,j,y,Gw⟩
 ·intro z;rw[z]at j;have:=congrArg f9 j;rw[o.1]at this;simp at this
  lia
 ·have:=congrArg f9 j;rw[bb,o.1]at this;exact this
 ·exact o.2 x.1 (sX (a:=x.1) (b:=x.2) i).1
 ·exact P9 u x.2 (sX (a:=x.1) (b:=x.2) i).2
theorem A1 (h:fc k r' d' cols=some o):(∀v∈o,cw k v)/\bU (aI k) (o.map (a_ k r' r' d'))=cols:=by
 unfold fc at h;rw[iI]at h;obtain⟨b,e,h⟩:=h;split at h
 ·rename_i q;cases h;exact⟨Gf (P:=cw k) (λx v q=>lA k _ _ x v q) e,q⟩
 ·cases h
theorem A2 (hp:1<=aI k):∀{o} {i},fc k r' d' i=some o->∀w∈o,∃x,loc k r' r' d' x=some w
 |[],_,_,w,b=>absurd b (by simp)
 |v::J,i,h,w,b=>by
  obtain⟨h1,h2⟩:=A1 h;obtain⟨tr,C,z,y,u,O,M,j⟩:=xc (f:=r') (r':=r') (d':=d') (h1 v aH) (λw b=>h1 w (aR _ b)) hp;rw[cu,j]at h2;rw[<-h2,Gv C z y u]at h;split at h
  ·cases h
  ·rename_i L H;rw[aX]at h;obtain⟨I,G,g⟩:=h;injection g with g F
   subst g F;rcases cj.mp b with q|q
   ·rw[q];exact⟨_,H⟩
   ·exact A2 hp G w q
theorem P_ (hp:1<=aI k)(h:iT k m f j d u cols=some o)(hl:cols.length=aI k):(aw m=0->o.length<=1)/\(d=u->o≠[])/\∀w∈o,∃g x,loc k g j u x=some w:=by
 unfold iT at h;rw[iI]at h;obtain⟨o',e,h⟩:=h;split at h
 ·rename_i H;cases h;obtain⟨W,U⟩:=wU (P:=cw k) (λx v q=>lA k _ _ x v q) e;refine⟨U,λhd z=>?_,λw G=>?_⟩
  ·subst z hd;have H:eN (aI k) [{rep:=f,defn:=d,val:=none}]=cols:=H;unfold iR at e;dsimp only at e
   have hne:¬(cols.all (oX d))=true:=λz=>by
    rw[<-H]at z;have:=fR.mp z [{rep:=f,defn:=d,val:=none}] (List.mem_replicate.mpr ⟨by lia,rfl⟩);have this:decide (d<d)=true:=this;simp at this
   rw[if_neg hne]at e;generalize hp2:(cols.map λC=>if aw m=0 then[C]else cG j C)=parts at e;by_cases F:(parts.all λps=>ps.length==(parts.head?.getD []).length)=true
   ·rw[if_pos F]at e;have:=(wR (P:=λ_=>True) (λ_ _ _=>trivial) e).1;rw[Nv]at this;rw[<-hp2,<-H]at this;have e3:aI k=(aI k-1)+1:=by lia
    rw[e3,Eg,cu]at this;have this:0=(if aw m=0 then[[({rep:=f,defn:=d,val:=none}:E)]]else cG j [{rep:=f,defn:=d,val:=none}]).length:=this;rw[FR]at this;split at this<;>simp at this
   ·rw[if_neg F]at e;cases e
  ·cases o with
   |nil=>exact absurd G (by simp)
   |cons v I=>
    have F:bU (aI k) (a_ k f j u v::I.map (a_ k j j u))=cols:=H;obtain⟨tr,t1,t2,t3,t4,t5,t6,T⟩:=xc (f:=f) (r':=j) (d':=u) (W v aH) (λw G=>W w (aR _ G)) hp;rw[T]at F;unfold iR at e;dsimp only at e;by_cases X:cols.all (oX u)=true
    ·rw[if_pos X]at e;cases e
    ·rw[if_neg X]at e;rcases ja m with e0|e1
     ·
      have hvs:I=[]:=iq.mp (by have:=U e0;rw[bf]at this;lia);subst hvs
      have L:(cols.map λC=>if aw m=0 then[C]else cG j C)=cols.map λx=>[x]:=by
       refine eO λx _=>?_;rw[if_pos e0]
      rw[L]at e
      have hc:((cols.map λx=>[x]).head?.getD []).length=1:=by
       cases cols with
       |nil=>
        simp at hl
        lia
       |cons _ _=>rfl
      rw[hc,if_pos (by rw[qm,fR];intro x _;rfl)]at e
      have e2:(cols.map λx=>[x]).map (λps=>(ps[0]?).getD [])=cols:=by
       rw[bZ];exact XO cols
      have e:Nz (λi=>dN k j u ((cols.map λx=>[x]).map λps=>(ps[i]?).getD [])) [0]=some [v]:=e;rw[sU,e2]at e;have hw':w=v:=by simpa using G
      refine⟨f,cols,?_⟩;unfold loc;cases Y:dN k j u cols with
      |none=>rw[Y]at e;cases e
      |some O=>
       rw[Y]at e;have e:some [O]=some [v]:=e;simp only[cQ,List.cons.injEq,and_true]at e;subst e;dsimp only[fk];rw[if_pos]
       ·rw[hw']
       ·refine vV ?_ F;rw[<-t5];have t6':tr.map (·.2)=eN (aI k) []:=t6;refine eO λx J=>?_
        have:x.2=[]:=by
         have:=dY (f:=λx:List E×List E=>x.2) J;rw[t6']at this;exact oY this
        rw[this,eZ]
     ·
      have L:(cols.map λC=>if aw m=0 then[C]else cG j C)=cols.map (cG j):=by
       refine eO λx _=>?_;rw[if_neg (by rw[e1];decide)]
      rw[L]at e;have e:hZ (λx=>dN k j u x) (cols.map (cG j))=some (v::I):=e;have y:=t_ (k:=k) (f:=f) (r':=j) (d':=u) (b:=λx=>x.1) (c:=λx=>x.2) t1 t2 t3 t4;rw[F,e]at y
      have e5:iA (λg v=>a_ k g j u v) (aI k) f j 0 (v::I)=cols:=by
       rw[<-F,<-T];rfl
      dsimp only[fk]at y;rw[if_pos e5]at y;split at y
      ·cases y
      ·rename_i O e6;have y:=y.symm;rw[aX]at y;obtain⟨vs',e7,M⟩:=y;injection M with M e9
       subst M e9;rcases cj.mp G with q|q
       ·rw[q];exact⟨f,_,e6⟩
       ·obtain⟨x,J⟩:=A2 hp e7 w q;exact⟨_,x,J⟩
 ·cases h
mutual
theorem Gx:∀(bk:BK) (f r d:Nat) (b:List (List E)) (v:Val),lz bk->b.length=aI bk->loc bk f r d b=some v->Vd bk v
 | .leaf l=>λf r d b v _ _ h=>by
  unfold loc at h;rw[iI]at h;obtain⟨j,e,h⟩:=h;split at h
  ·cases h;have:=lA _ _ _ _ _ e;unfold cw at this;unfold Vd;exact this
  ·cases h
 | .group c fs=>λf r d b v hp i h=>by
  unfold lz at hp;unfold aI at i;rw[AO,iI]at h;obtain⟨g,e,h⟩:=h;split at h
  ·rename_i q;cases h;unfold Vd;exact⟨g,rfl,A3 fs c f r d b g hp i e,q⟩
  ·cases h
theorem A3:∀(fs:BF) (c:Bool) (f r d:Nat) (j:List (List E)) (i:List (List Val)),iQ fs->j.length=dH fs->iS fs c f r d j=some i->eR fs c i
 | .nil=>λc f r d j i _ _ h=>by
  unfold iS fU at h;unfold eR;rw[iI]at h;obtain⟨u,e,h⟩:=h;split at e
  ·cases e;split at h
   ·cases h;rfl
   ·cases h
  ·cases e
 | .skip rest=>λc f r d j i hp y h=>by
  unfold iQ at hp;unfold dH at y;unfold eR;refine A3 rest c f r d j i hp y ?_;unfold iS at h⊢;rw[fU]at h;rw[iI]at h⊢;obtain⟨u,e,h⟩:=h;rw[dI]at h;exact⟨u,e,h⟩
 | .cons m U k rest=>λc f r d j i hp y h=>by
  unfold iQ at hp;obtain⟨H,G,F⟩:=hp;unfold dH at y;rw[AN]at h;split at h
  ·cases h
  ·rename_i o e;split at h
   ·rename_i I;rw[aX]at h;obtain⟨u,L,rfl⟩:=h;obtain⟨P,O,M⟩:=P_ H e (by rw[gq];omega);unfold eR;refine⟨o,u,rfl,λw C=>?_,P,λz=>O (by rw[z];rfl),I,A3 rest c f r d _ u F (by rw[o9];omega) L⟩;obtain⟨g,x,b⟩:=M w C;refine Gx k g _ _ x w G ?_ b;unfold loc at b;rw[iI]at b;obtain⟨T,J,b⟩:=b;split at b
    ·rename_i q;cases b;rw[<-q];exact(gM k g _ _ w (lA _ _ _ _ _ J)).1
    ·cases b
   ·cases h
end
theorem A4 (hp:1<=aI k):∀{vs},(∀v∈vs,cw k v/\∀f,loc k f r' d' (a_ k f r' d' v)=some v)->fc k r' d' (bU (aI k) (vs.map (a_ k r' r' d')))=some vs
 |[],_=>Gg (zj ..) λx C=>oY C
 |v::vs,h=>by
  obtain⟨tr,z,y,u,o,j,i,g⟩:=xc (f:=r') (r':=r') (d':=d') (h v aH).1 (λw b=>(h w (aR _ b)).1) hp;rw[cu,g,Gv z y u o,j,(h v aH).2 r'];dsimp only;rw[i,A4 hp λw b=>h w (aR _ b)];rfl
mutual
theorem Gy:∀(bk:BK) (f r d:Nat) (v:Val),lz bk->Vd bk v->loc bk f r d (a_ bk f r d v)=some v
 | .leaf l=>λf r d v _ h=>by
  unfold Vd at h;obtain⟨x,rfl⟩:=h;unfold loc;rw[a_,dN];dsimp only[fk,fb];rw[a_,if_pos rfl]
 | .group c fs=>λf r d v hp h=>by
  unfold lz at hp;unfold Vd at h;obtain⟨b,rfl,h1,h2⟩:=h;rw[AO,a_,A5 fs c f r d b hp h1];dsimp only[fk];rw[if_pos h2]
theorem A5:∀(fs:BF) (c:Bool) (f r d:Nat) (j:List (List Val)),iQ fs->eR fs c j->iS fs c f r d (dI fs c f r d j)=some j
 | .nil=>λc f r d j _ h=>by
  unfold eR at h;subst h;unfold iS;rw[dI,fU];rfl
 | .skip rest=>λc f r d j hp h=>by
  unfold iQ at hp;unfold eR at h;have:=A5 rest c f r d j hp h;unfold iS at this⊢;rw[dI,fU];rw[iI]at this⊢;obtain⟨M,e,h⟩:=this;refine⟨M,e,?_⟩;rw[dI];exact h
 | .cons m cap k rest=>λc f r d j hp h=>by
  unfold iQ at hp;obtain⟨hp1,hp2,hp3⟩:=hp;unfold eR at h;obtain⟨o,M,rfl,h1,h2,h3,h4,h5⟩:=h;have u:∀v∈o,cw k v/\∀f,loc k f (r+aw m) (d+defOf c m) (a_ k f (r+aw m) (d+defOf c m) v)=some v:=λv F=>⟨(h1 v F).mY,λf=>Gy k f _ _ v hp2 (h1 v F)⟩;have cl:=qT (sh:=λg v=>a_ k g (r+aw m) (d+defOf c m) v) (n:=aI k) (f:=f) (r:=r) (d:=d) (dm:=d+defOf c m) (ja m) (nH _ _) (o:=o) (λg w G=>gM k g _ _ w (u w G).1) h2
  have hO:iT k m f (r+aw m) d (d+defOf c m) (iA (λg v=>a_ k g (r+aw m) (d+defOf c m) v) (aI k) f (r+aw m) d o)=some o:=by
   unfold iT;cases o with
   |nil=>
    have hd:defOf c m≠0:=λz=>h3 z rfl
    have P:iR (λx=>dN k (r+aw m) (d+defOf c m) x) m (r+aw m) (d+defOf c m) (iA (λg v=>a_ k g (r+aw m) (d+defOf c m) v) (aI k) f (r+aw m) d [])=some []:=by
     unfold iR;dsimp only;rw[if_pos];show(eN _ _).all _=true;rw[fR];intro x O;rw[oY O];show decide (d<d+defOf c m)=true;simp;omega
    rw[P];dsimp only[fk];rw[if_pos rfl]
   |cons v I=>
    obtain⟨tr,t1,t2,t3,t4,Y,X,W⟩:=xc (f:=f) (r':=r+aw m) (d':=d+defOf c m) (u v aH).1 (λw G=>(u w (aR _ G)).1) hp1;have e0:iA (λg v=>a_ k g (r+aw m) (d+defOf c m) v) (aI k) f (r+aw m) d (v::I)=tr.map λx=>x.1++x.2:=W;have e0':iA (λg v=>a_ k g (r+aw m) (d+defOf c m) v) (aI k) f (r+aw m) 0 (v::I)=tr.map λx=>x.1++x.2:=W
    have hall:¬((tr.map λx=>x.1++x.2).all (oX (d+defOf c m)))=true:=λz=>by
     cases tr with
     |nil=>exact t1 rfl
     |cons L tr'=>
      obtain⟨e,es,q,_,q2,_⟩:=t3 L aH;have:=fR.mp z (L.1++L.2) (dY (f:=λx:List E×List E=>x.1++x.2) aH);rw[q]at this;have this:decide (e.defn<d+defOf c m)=true:=this;simp at this;omega
    have P:iR (λx=>dN k (r+aw m) (d+defOf c m) x) m (r+aw m) (d+defOf c m) (tr.map λx=>x.1++x.2)=some (v::I):=by
     unfold iR;dsimp only;rw[if_neg hall];rcases ja m with J|J
     ·have hvs:I=[]:=iq.mp (by have:=h2 J;rw[bf]at this;omega);subst hvs
      have et:(tr.map λx=>x.1++x.2)=a_ k f (r+aw m) (d+defOf c m) v:=by
       rw[<-Y];have t6':tr.map (·.2)=eN (aI k) []:=X;refine eO λx O=>?_
       have:x.2=[]:=by
        have:=dY (f:=λx:List E×List E=>x.2) O;rw[t6']at this;exact oY this
       rw[this,eZ]
      rw[et]
      have T:((a_ k f (r+aw m) (d+defOf c m) v).map λH=>if aw m=0 then[H]else cG (r+aw m) H)=(a_ k f (r+aw m) (d+defOf c m) v).map λx=>[x]:=by
       refine eO λx _=>?_;rw[if_pos J]
      rw[T];have hlen:=(gM k f (r+aw m) (d+defOf c m) v (u v aH).1).1
      have hc:(((a_ k f (r+aw m) (d+defOf c m) v).map λx=>[x]).head?.getD []).length=1:=by
       cases q:a_ k f (r+aw m) (d+defOf c m) v with
       |nil=>
        rw[q]at hlen;simp at hlen;omega
       |cons _ _=>rfl
      rw[hc,if_pos (by rw[qm,fR];intro x _;rfl)]
      have e2:((a_ k f (r+aw m) (d+defOf c m) v).map λx=>[x]).map (λps=>(ps[0]?).getD [])=a_ k f (r+aw m) (d+defOf c m) v:=by
       rw[bZ];exact XO _
      show Nz (λi=>dN k (r+aw m) (d+defOf c m) (((a_ k f (r+aw m) (d+defOf c m) v).map λx=>[x]).map λps=>(ps[i]?).getD [])) [0]=_;rw[sU,e2];have F:=(u v aH).2 f;unfold loc at F;rw[iI]at F;obtain⟨v',U,y⟩:=F;rw[U];split at y
      ·cases y;rfl
      ·cases y
     ·have T:((tr.map λx=>x.1++x.2).map λH=>if aw m=0 then[H]else cG (r+aw m) H)=(tr.map λx=>x.1++x.2).map (cG (r+aw m)):=by
       refine eO λx _=>?_;rw[if_neg (by rw[J];decide)]
      rw[T];have C:=t_ (k:=k) (f:=f) (r':=r+aw m) (d':=d+defOf c m) (b:=λx=>x.1) (c:=λx=>x.2) t1 t2 t3 t4;rw[Y,(u v aH).2 f]at C;dsimp only at C;rw[X,A4 hp1 λw G=>u w (aR _ G)]at C;dsimp only[fb]at C;rw[iI]at C;obtain⟨o',U,y⟩:=C;split at y
      ·cases y;exact U
      ·cases y
    rw[e0,P];dsimp only[fk];rw[if_pos e0]
  rw[AN,dI,vX cl.1,XJ cl.1,hO];dsimp only;rw[if_pos h4,A5 rest c f r d M hp3 h5];rfl
end
theorem xd (n):iu (.text (n+1))=iu (.text n)+256^(n+1):=by
 show((fw (n+1+1)).map λi=>256^i).foldl (λa b=>a+b) 0=((fw (n+1)).map λi=>256^i).foldl (λa b=>a+b) 0+256^(n+1);rw[List.range_succ (n:=n+1),dA,XD];rfl
theorem A6:∀n:Nat,iu (.text (n+1))=1+256*iu (.text n)
 |0=>by decide
 |n+1=>by
  have h1:=xd (n+1);have h2:=A6 n;have h3:=xd n
  lia
def rk:Nat->aq->Nat
 |0,_=>0
 |_+1,[]=>0
 |n+1,b::s=>1+b*iu (.text n)+rk n s
theorem A7:∀(n) (s),s.length<=n->(∀b∈s,b<=255)->rk n s<iu (.text n)
 |0,s=>λ_ _=>by
  unfold rk;decide
 |n+1,[]=>λ_ _=>by
  unfold rk;rw[A6]
  lia
 |n+1,b::s=>λh g=>by
  unfold rk;rw[A6];have h1:=A7 n s (by simpa using h) λx i=>g x (aR _ i);have h2:=g b aH;have h3:b*iu (.text n)<=255*iu (.text n):=zm _ h2
  lia
theorem Gz:∀(n) (s t),s.length<=n->t.length<=n->(∀b∈s,b<=255)->qw s t=true->rk n s<rk n t
 |0,s,t=>λh1 h2 _ h=>by
  have k:s=[]:=iq.mp (by lia);have j:t=[]:=iq.mp (by lia);subst k j;simp[qw]at h
 |n+1,s,[]=>λ_ _ _ h=>by
  unfold qw at h
  grind
 |n+1,[],b::t=>λ_ _ _ _=>by
  unfold rk
  lia
 |n+1,a::s,b::t=>λh1 h2 i h=>by
  unfold qw at h;unfold rk;have o:=A7 n s (by simpa using h1) λx g=>i x (aR _ g);by_cases e:a<b
  ·have h3:(a+1)*iu (.text n)<=b*iu (.text n):=zm _ e
   grind
  ·have h4:a=b/\qw s t=true:=by simpa[e]using h
   have:=Gz n s t (by simpa using h1) (by simpa using h2) (λx g=>i x (aR _ g)) h4.2;simp_all
def gO (l:bN)(x:Lit):Prop:=dG l x=true/\∀s,x= .str s->∀b∈s,b<=255
def xf:bN->Lit->Nat
 | .bit,.num z=>z.toNat
 | .int n,.num z=>(z+2^(n-1)).toNat
 | .text n,.str s=>rk n s
 |_,_=>0
theorem P' (h:1<=n):(2:Int)^n=2^(n-1)+2^(n-1):=by
 obtain⟨m,rfl⟩:∃m,n=m+1:=⟨n-1,by lia⟩
 grind
theorem Qa (b:iz l)(h:gO l x):xf l x<iu l:=by
 obtain⟨h,g⟩:=h;cases l with
 |bit=>
  cases x with
  |num z=>
   have:z=0\/z=1:=by simpa[dG]using h
   show z.toNat<2
   lia
  |str s=>simp[dG]at h
 |int n=>
  cases x with
  |num z=>
   have h1:=(mf n z).mp h;have h2:=P' (n:=n) (by have:2<=n/\n<=64:=b;lia);show(z+2^(n-1)).toNat<2^n
   grind
  |str s=>simp[dG]at h
 |text n=>
  cases x with
  |num z=>simp[dG]at h
  |str s=>exact A7 n s (by simpa[dG]using h) (g s rfl)
theorem Qb (b:gO l x)(g:gO l y)(h:qx x y=true):xf l x<xf l y:=by
 obtain⟨b,i⟩:=b;obtain⟨g,_⟩:=g;cases l with
 |bit=>
  cases x with
  |num z=>
   cases y with
   |num w=>
    have h1:z=0\/z=1:=by simpa[dG]using b
    have h3:z<w:=by simpa[qx]using h
    show z.toNat<w.toNat
    lia
   |str s=>simp[dG]at g
  |str s=>simp[dG]at b
 |int n=>
  cases x with
  |num z=>
   cases y with
   |num w=>
    have h1:=(mf n z).mp b;have h3:z<w:=by simpa[qx]using h
    show(z+2^(n-1)).toNat<(w+2^(n-1)).toNat
    lia
   |str s=>simp[dG]at g
  |str s=>simp[dG]at b
 |text n=>
  cases x with
  |num z=>simp[dG]at b
  |str s=>
   cases y with
   |num z=>simp[dG]at g
   |str t=>exact Gz n s t (by simpa[dG]using b) (by simpa[dG]using g) (i s rfl) (by simpa[qx]using h)
theorem GA (C:iz l):∀(o),(∀v∈o,∃x,dW v=some x/\gO l x)->risingKeys o=true->∀v i,o=v::i->∀x,dW v=some x->o.length+xf l x<=iu l
 |[]=>λ_ _ v i e _ _=>by cases e
 |[w]=>λh _ v i e x j=>by
  obtain⟨y,u,k⟩:=h w aH;have:=Qa C k
  grind
 |w::b::o=>λh g v i e x j=>by
  cases e;obtain⟨y,u,k⟩:=h w aH;obtain⟨G,F,I⟩:=h b (aR _ aH);rw[j]at u;cases u;unfold risingKeys at g;have g:zl (dW w) (dW b)=true/\risingKeys (b::o)=true:=by simpa using g
  have J:=GA C (b::o) (λz H=>h z (aR _ H)) g.2 b o rfl G F;have h1:=g.1;rw[j,F]at h1;have:=Qb k I h1
  grind
theorem Qc (i:iz l)(h:∀v∈o,∃x,dW v=some x/\gO l x)(g:risingKeys o=true):o.length<=iu l:=by
 cases o with
 |nil=>exact bR _
 |cons v b=>
  obtain⟨x,j,_⟩:=h v aH;have:=GA i (v::b) h g v b rfl x j
  lia
def sel (b:List (List Nat))(ps:List (List Nat))(g:List (List E)):List (List E):=((ps.zip g).filter λx=>b.contains x.1).map (·.2)
section
variable {kept':List (List Nat)}
theorem GB (cols):sel kept' [] cols=[]:=rfl
theorem mZ (p)(ps)(c)(cols):sel kept' (p::ps) (c::cols)=if kept'.contains p then c::sel kept' ps cols else sel kept' ps cols:=by
 unfold sel;rw[zx,f_];split<;>rfl
theorem GC:∀{i b} {j g},i.length=j.length->sel kept' (i++b) (j++g)=sel kept' i j++sel kept' b g
 |[],b,[],g,_=>rfl
 |[],b,_::_,g,h=>by simp at h
 |_::_,b,[],g,h=>by simp at h
 |p::i,b,c::j,g,h=>by
  rw[ir,ir,mZ,mZ,GC (by simpa using h)];split<;>rfl
theorem GD:∀{ps} {A B},ps.length=A.length->ps.length=B.length->sel kept' ps (iH (λx y=>x++y) A B)=iH (λx y=>x++y) (sel kept' ps A) (sel kept' ps B)
 |[],A,B,_,_=>rfl
 |p::ps,[],B,h,_=>by simp at h
 |p::ps,a::A,[],_,h=>by simp at h
 |p::ps,a::A,b::B,h1,h2=>by
  rw[Ei,mZ,mZ,mZ,GD (by simpa using h1) (by simpa using h2)];split<;>rfl
theorem A8 (x):∀(ps),sel kept' ps (eN ps.length x)=eN (ps.filter λp=>kept'.contains p).length x
 |[]=>rfl
 |p::ps=>by
  rw[bf,Eg,mZ,f_,A8 x ps];split<;>rfl
theorem A9:∀{S:List (List (List E))},(∀x∈S,x.length=ps.length)->sel kept' ps (bU ps.length S)=bU (ps.filter λp=>kept'.contains p).length (S.map (sel kept' ps))
 |[],_=>A8 [] ps
 |a::S,h=>by
  rw[cu,join_cons,join_cons,GD (h a aH).symm (qS λx b=>h x (aR _ b)).symm,A9 λx b=>h x (aR _ b)]
theorem Qe (h:∀p∈ps,kept'.contains p=false):sel kept' ps cols=[]:=by
 unfold sel;rw[sV,o7];intro x g;have:=h x.1 (sX (a:=x.1) (b:=x.2) g).1;simp_all
end
mutual
def j4 (g kept:List (List Nat)):Kind->List Nat->Val->Val
 | .leaf _,_,v=>v
 | .group _ fs,p,.group b=> .group (iB g kept fs p b)
 | .group _ _,_,.lit v=> .lit v
def iB (b kept:List (List Nat)):aJ->List Nat->List (List Val)->List (List Val)
 | .nil,_,_=>[]
 | .cons h k rest,p,i=>if nk kept k (p++[h.number])=0 then iB b kept rest p i else match i with
  |[]=>[]
  |o::g=>if nk b k (p++[h.number])=0 then iB b kept rest p g else(o.map λv=>j4 b kept k (p++[h.number]) v)::iB b kept rest p g
end
theorem xg (b kept:List (List Nat))(h:g6)(k:Kind)(rest:aJ)(p:List Nat)(g:List (List Val)):iB b kept (.cons h k rest) p g=if nk kept k (p++[h.number])=0 then iB b kept rest p g else match g with
 |[]=>[]
 |o::i=>if nk b k (p++[h.number])=0 then iB b kept rest p i else(o.map λv=>j4 b kept k (p++[h.number]) v)::iB b kept rest p i:=by
 rfl
mutual
def iU:BK->Val->Prop
 | .leaf l,v=>∀x,v= .lit x->gO l x
 | .group _ fs,v=>∀b,v= .group b->iV fs b
def iV:BF->List (List Val)->Prop
 | .nil,_=>True
 | .skip r,b=>iV r b
 | .cons _ _ k r,b=>∀o g,b=o::g->(∀v∈o,iU k v)/\iV r g
end
section
variable {kept' kept:List (List Nat)}(hs:∀p,kept'.contains p=true->kept.contains p=true)
include hs
theorem ud (h:nk kept k p=0):nk kept' k p=0:=by
 unfold nk at h⊢;rw[iq,o7]at h⊢;exact λx b z=>h x b (hs x z)
theorem GF (ps:List (List Nat)):((ps.filter λp=>kept.contains p).filter λp=>kept'.contains p)=ps.filter λp=>kept'.contains p:=by
 rw[List.filter_filter];refine vY λp _=>?_;cases q:kept'.contains p with
 |false=>rfl
 |true=>rw[hs p q];rfl
mutual
theorem A_:∀(k:Kind) (p:List Nat) (f r d:Nat) (v:Val),nk kept' k p≠0->cw (bK kept k p) v->a_ (bK kept' k p) f r d (j4 kept' kept k p v)=sel kept' ((cW k p).filter λx=>kept.contains x) (a_ (bK kept k p) f r d v)
 | .leaf l=>λp f r d v h b=>by
  unfold bK at b⊢;unfold cw at b;obtain⟨x,rfl⟩:=b
  have:kept'.contains p=true:=by
   cases q:kept'.contains p with
   |true=>rfl
   |false=>
    unfold nk cW at h;rw[f_,if_neg (by rw[q];exact dX)]at h;exact absurd rfl h
  unfold j4 cW a_;rw[f_,if_pos (hs p this),NF,mZ,if_pos this,GB]
 | .group c fs=>λp f r d v h b=>by
  unfold bK at b⊢;unfold cw at b;obtain⟨g,rfl,b⟩:=b;unfold j4 cW a_;exact xh fs p c f r d g b
theorem xh:∀(fs:aJ) (p:List Nat) (c:Bool) (f r d:Nat) (j:List (List Val)),cJ (bF kept fs p) j->dI (bF kept' fs p) c f r d (iB kept' kept fs p j)=sel kept' ((bV fs p).filter λx=>kept.contains x) (dI (bF kept fs p) c f r d j)
 | .nil=>λp c f r d j _=>by
  unfold iB bF dI bV;rfl
 | .cons h k rest=>λp c f r d j i=>by
  rw[bF]at i;rw[xg,bF,bF,bV,oZ];by_cases q:nk kept k (p++[h.number])=0
  ·rw[if_pos q]at i;unfold cJ at i;rw[if_pos q,if_pos q,if_pos (ud hs q),dI,dI,xh rest p c f r d j i];have:(cW k (p++[h.number])).filter (λx=>kept.contains x)=[]:=iq.mp q;rw[this];rfl
  ·rw[if_neg q]at i;unfold cJ at i;obtain⟨o,F,rfl,h1,h2,h3⟩:=i;rw[if_neg q,if_neg q];dsimp only;have y:((cW k (p++[h.number])).filter λx=>kept.contains x).length=aI (bK kept k (p++[h.number])):=(mr k _ q).symm;have cl:=qT (sh:=λg v=>a_ (bK kept k (p++[h.number])) g (r+aw h.mode) (d+defOf c h.mode) v) (n:=aI (bK kept k (p++[h.number]))) (f:=f) (r:=r) (d:=d) (dm:=d+defOf c h.mode) (ja h.mode) (nH _ _) (o:=o) (λg w u=>gM _ g _ _ w (h1 w u)) h2;rw[dI,GC (by rw[cl.1,y])];by_cases b:nk kept' k (p++[h.number])=0
   ·rw[if_pos b,if_pos b,dI,xh rest p c f r d F h3]
    rw[Qe (kept':=kept') (ps:=(cW k (p++[h.number])).filter λx=>kept.contains x) λx C=>by
     unfold nk at b;rw[iq,o7]at b;have:=b x (mR.mp C).1;simpa using this]
    rfl
   ·rw[if_neg b,if_neg b,dI,xh rest p c f r d F h3];congr 1
    have G:(((cW k (p++[h.number])).filter λx=>kept.contains x).filter λx=>kept'.contains x).length=aI (bK kept' k (p++[h.number])):=by
     rw[GF hs];exact(mr k _ b).symm
    cases o with
    |nil=>
     show eN _ _=sel kept' _ (eN _ _);rw[<-y,A8,G]
    |cons v H=>
     show bU _ _=sel kept' _ (bU _ _);rw[<-y,A9,G]
     ·rw[cu];congr 2
      ·exact A_ k _ f _ _ v b (h1 v aH)
      ·rw[bZ,bZ];refine eO λw u=>?_;exact A_ k _ _ _ _ w b (h1 w (aR _ u))
     ·intro x C;rw[y];rcases cj.mp C with z|z
      ·rw[z];exact(gM _ f _ _ v (h1 v aH)).1
      ·obtain⟨w,u,rfl⟩:=dU.mp z;exact(gM _ _ _ _ w (h1 w (aR _ u))).1
end
omit hs in
def taken (b:List (List Val)):Nat:=(b.filter λo=> !o.isEmpty).length
omit hs in
theorem qW (o:List Val)(b:List (List Val)):taken (o::b)=(if o.isEmpty then 0 else 1)+taken b:=by
 unfold taken;rw[f_];cases o with
 |nil=>simp
 |cons v g=>
  simp;omega
theorem A':∀(fs) (p) (b),taken (iB kept' kept fs p b)<=taken b/\(fT (bF kept' fs p)=false->cJ (bF kept fs p) b->taken (iB kept' kept fs p b)=taken b/\fT (bF kept fs p)=false)
 | .nil=>λp b=>by
  unfold iB bF;refine⟨bR _,λ_ h=>?_⟩;unfold cJ at h;simp_all
 | .cons h k rest=>λp b=>by
  rw[xg,bF,bF];by_cases q:nk kept k (p++[h.number])=0
  ·rw[if_pos q,if_pos q,if_pos (ud hs q)];exact⟨(A' rest p b).1,λz=>by unfold fT at z;cases z⟩
  ·rw[if_neg q,if_neg q];cases b with
   |nil=>
    refine⟨bA _,λ_ z=>?_⟩;unfold cJ at z;simp_all
   |cons o i=>
    dsimp only;obtain⟨u,j⟩:=A' rest p i;by_cases g:nk kept' k (p++[h.number])=0
    ·rw[if_pos g,if_pos g];refine⟨?_,λz=>by unfold fT at z;cases z⟩;rw[qW]
     lia
    ·rw[if_neg g,if_neg g,qW,qW];have e:(o.map λv=>j4 kept' kept k (p++[h.number]) v).isEmpty=o.isEmpty:=by cases o<;>rfl
     rw[e];refine⟨by lia,λz w=>?_⟩;unfold fT at z⊢;unfold cJ at w
     grind
theorem Qg (b:dM k=some (h',l))(h1:kept'.contains (q++[h'.number])=true)(g:cw (bK kept k q) v):dW (j4 kept' kept k q v)=dW v:=by
 cases k with
 |leaf _=>cases b
 |group c fs=>
  cases c with
  |true=>cases b
  |false=>
   cases fs with
   |nil=>cases b
   |cons hd j rest=>
    cases j with
    |group _ _=>cases b
    |leaf C=>
     unfold dM at b;dsimp only at b;split at b
     ·cases b
      have h:nk kept' (.leaf l) (q++[h'.number])≠0:=by
       unfold nk cW;simp_all
      have i:=λz=>h (ud hs z);obtain⟨y,rfl,g⟩:=g;rw[bF,if_neg i]at g;obtain⟨o,u,rfl,F,_,_⟩:=g;rw[j4,xg,if_neg i];dsimp only;rw[if_neg h];cases o with
      |nil=>rfl
      |cons w ws=>
       rfl
     simp_all
omit hs in
theorem Ba {g:Val->Val}:∀{o:List Val},(∀v∈o,dW (g v)=dW v)->risingKeys (o.map g)=risingKeys o
 |[],_=>rfl
 |[v],_=>rfl
 |v::w::o,h=>by
  have b:=Ba (o:=w::o) λx i=>h x (aR _ i);rw[cu,cu];rw[cu]at b;unfold risingKeys;rw[b,h v aH,h w (aR _ aH)]
end
theorem ue (w:bB k n)(e:dM k=some (h,l)):iz l/\∃rest,k= .group false (.cons h (.leaf l) rest)/\h.mode= .one:=by
 cases k with
 |leaf _=>cases e
 |group c fs=>
  cases c with
  |true=>cases e
  |false=>
   cases fs with
   |nil=>cases e
   |cons hd i rest=>
    cases i with
    |group _ _=>cases e
    |leaf g=>
     have e:(if hd.mode= .one then some (hd,g)else none)=some (h,l):=e;by_cases q:hd.mode= .one
     ·rw[if_pos q]at e;cases e;have w:=w.2.2;have b:=w.2.2.2.2.2.2.1;exact⟨b,rest,rfl,q⟩
     simp_all
section
variable {kept' kept:List (List Nat)}(hs:∀p,kept'.contains p=true->kept.contains p=true)
include hs
omit hs in
theorem Qh {k:Kind}{n:Nat}(w:bB k n){q:List Nat}{h:g6}{l:bN}(e:dM k=some (h,l))(G:kept.contains (q++[h.number])=true){v:Val}(g:Vd (bK kept k q) v)(b:iU (bK kept k q) v):∃x,dW v=some x/\gO l x:=by
 obtain⟨_,rest,rfl,F⟩:=ue w e
 have C:nk kept (.leaf l) (q++[h.number])≠0:=by
  unfold nk cW;rw[f_,if_pos G];simp
 unfold bK at g b;unfold Vd at g;obtain⟨j,rfl,g,_⟩:=g;unfold iU at b;have b:=b j rfl;rw[bF,if_neg C]at g b;unfold eR at g;obtain⟨o,i,rfl,u,_,y,_,_⟩:=g;unfold iV at b;have b:=(b o i rfl).1;cases o with
 |nil=>exact absurd rfl (y (by rw[F];rfl))
 |cons z H=>
  have h1:=u z aH;have h2:=b z aH;unfold bK at h1 h2;unfold Vd at h1;obtain⟨x,rfl⟩:=h1;unfold iU at h2;exact⟨x,rfl,h2 x rfl⟩
mutual
theorem GG:∀(k:Kind) (n:Nat) (p:List Nat) (v:Val),bB k n->Vd (bK kept k p) v->iU (bK kept k p) v->Vd (bK kept' k p) (j4 kept' kept k p v)
 | .leaf l=>λn p v _ b _=>by
  unfold bK at b⊢;unfold j4;unfold Vd at b⊢;exact b
 | .group c fs=>λn p v w b i=>by
  unfold bB at w;unfold bK at b i⊢;unfold Vd at b;obtain⟨g,rfl,b,h⟩:=b;unfold iU at i;have i:=i g rfl;unfold j4;unfold Vd;refine⟨_,rfl,xi fs _ c p g w.2.2 b i,?_⟩;obtain⟨u,j⟩:=A' hs fs p g;cases c with
  |false=>rfl
  |true=>
   have h:(decide (taken g<=1)&&(taken g==1||fT (bF kept fs p)))=true:=h;show(decide (taken (iB kept' kept fs p g)<=1)&&(taken (iB kept' kept fs p g)==1||fT (bF kept' fs p)))=true;simp at h;cases q:fT (bF kept' fs p)with
   |true=>
    simp;omega
   |false=>
    obtain⟨y,o⟩:=j q b.mY;rw[o]at h;simp at h;simp;omega
theorem xi:∀(fs:aJ) (n:Nat) (c:Bool) (p:List Nat) (i:List (List Val)),bC fs n c->eR (bF kept fs p) c i->iV (bF kept fs p) i->eR (bF kept' fs p) c (iB kept' kept fs p i)
 | .nil=>λn c p i _ b _=>by
  unfold iB bF eR;rfl
 | .cons h k rest=>λn c p i w b g=>by
  unfold bC at w;obtain⟨_,_,_,_,_,J,C,y⟩:=w;rw[bF]at b g;rw[xg,bF];by_cases q:nk kept k (p++[h.number])=0
  ·rw[if_pos q]at b g;unfold eR at b;unfold iV at g;rw[if_pos q,if_pos (ud hs q)];unfold eR;exact xi rest n c p i y b g
  ·rw[if_neg q]at b g;unfold eR at b;obtain⟨o,F,rfl,h1,h2,h3,h4,h5⟩:=b;unfold iV at g;obtain⟨f1,f2⟩:=g o F rfl;rw[if_neg q];dsimp only;by_cases u:nk kept' k (p++[h.number])=0
   ·rw[if_pos u,if_pos u];unfold eR;exact xi rest n c p F y h5 f2
   ·rw[if_neg u,if_neg u];unfold eR;refine⟨_,_,rfl,λv b=>?_,λz=>by rw[bb];exact h2 z,λz e=>h3 z (sV.mp e),?_,xi rest n c p F y h5 f2⟩
    ·obtain⟨x,G,rfl⟩:=dU.mp b;exact GG k n _ x C (h1 x G) (f1 x G)
    ·cases H:h.mode with
     |keyed=>
      rw[H]at h4;have h6:=J H;cases e:dM k with
      |none=>rw[e]at h6;cases h6
      |some x=>
       obtain⟨I,l⟩:=x;unfold qV at h4⊢;rw[e]at h4⊢;dsimp only at h4⊢;by_cases j:kept'.contains (p++[h.number]++[I.number])=true
       ·have t:=hs _ j;rw[if_pos t]at h4;rw[if_pos j];show risingKeys _=true;rw[Ba λv b=>Qg hs e j (h1 v b).mY];exact h4
       ·rw[if_neg j];show decide ((o.map _).length<=iu l)=true;rw[bb,decide_eq_true_iff];by_cases t:kept.contains (p++[h.number]++[I.number])=true
        ·rw[if_pos t]at h4;exact Qc (ue C e).1 (λv b=>Qh C e t (h1 v b) (f1 v b)) h4
        ·rw[if_neg t]at h4;have h4:decide (o.length<=iu l)=true:=h4;simpa using h4
     |_=>rfl
end
end
mutual
def jb:BK->List bN
 | .leaf l=>[l]
 | .group _ fs=>jy fs
def jy:BF->List bN
 | .nil=>[]
 | .skip r=>jy r
 | .cons _ _ k r=>jb k++jy r
end
mutual
theorem uf:∀k:BK,(jb k).length=aI k
 | .leaf _=>by
  unfold jb aI;rfl
 | .group _ fs=>by
  unfold jb aI;exact Bb fs
theorem Bb:∀fs:BF,(jy fs).length=dH fs
 | .nil=>by
  unfold jy dH;rfl
 | .skip r=>by
  unfold jy dH;exact Bb r
 | .cons _ _ k r=>by
  unfold jy dH;rw[aQ,uf k,Bb r]
end
def fX (b:List bN)(g:List (List E)):Prop:=∀x∈b.zip g,∀e∈x.2,∀y,e.val=some y->gO x.1 y
theorem fX.app (h:fX (l1++l2) (c1++c2))(g:l1.length=c1.length):fX l1 c1/\fX l2 c2:=by
 unfold fX at h;rw[El g]at h;exact⟨λx b=>h x (kD _ b),λx b=>h x (kC _ b)⟩
theorem fX.Qi (h1:ls.length=A.length)(h2:ls.length=B.length)(h:fX ls (iH (λx y=>x++y) A B)):fX ls A/\fX ls B:=by
 constructor
 ·intro x b e k y g;obtain⟨i,j,b⟩:=zo.mp b;have z:i<ls.length/\i<A.length:=by rw[qy]at j;lia
  have:x=(ls[i],A[i]):=by rw[<-b,En]
  subst this;refine h (ls[i],A[i]++B[i]'(by lia)) ?_ e (kD _ k) y g;have u:i<(ls.zip (iH (λx y=>x++y) A B)).length:=by rw[qy,XQ];lia
  have o:(ls.zip (iH (λx y=>x++y) A B))[i]=(ls[i],A[i]++B[i]'(by lia)):=by rw[En,XR]
  rw[<-o];exact qj _
 ·intro x b e k y g;obtain⟨i,j,b⟩:=zo.mp b;have z:i<ls.length/\i<B.length:=by rw[qy]at j;lia
  have:x=(ls[i],B[i]):=by rw[<-b,En]
  subst this;refine h (ls[i],A[i]'(by lia)++B[i]) ?_ e (kC _ k) y g;have u:i<(ls.zip (iH (λx y=>x++y) A B)).length:=by rw[qy,XQ];lia
  have o:(ls.zip (iH (λx y=>x++y) A B))[i]=(ls[i],A[i]'(by lia)++B[i]):=by rw[En,XR]
  rw[<-o];exact qj _
theorem fX.join (i:ls.length=n):∀{S:List (List (List E))},(∀x∈S,x.length=n)->fX ls (bU n S)->∀x∈S,fX ls x
 |[],_,_,x,b=>absurd b (by simp)
 |a::S,h,g,x,b=>by
  rw[join_cons]at g;have h1:=h a aH;have h2:=qS (n:=n) (S:=S) λx b=>h x (aR _ b);obtain⟨f1,f2⟩:=fX.Qi (by lia) (by lia) g;rcases cj.mp b with q|q
  ·rw[q]
   lia
  ·exact fX.join i (λx b=>h x (aR _ b)) f2 x q
mutual
theorem xj:∀(k:BK) (f r d:Nat) (v:Val),cw k v->fX (jb k) (a_ k f r d v)->iU k v
 | .leaf l=>λf r d v _ h=>by
  unfold iU;rintro x rfl;rw[jb,a_]at h;exact h (l,_) aH _ aH x rfl
 | .group c fs=>λf r d v b h=>by
  unfold cw at b;obtain⟨g,rfl,b⟩:=b;unfold iU;intro i e;injection e with e
  subst e;rw[jb,a_]at h;exact Be fs c f r d g b h
theorem Be:∀(fs:BF) (c:Bool) (f r d:Nat) (i:List (List Val)),cJ fs i->fX (jy fs) (dI fs c f r d i)->iV fs i
 | .nil=>λc f r d i _ _=>by
  unfold iV;trivial
 | .skip rest=>λc f r d i b h=>by
  unfold cJ at b;unfold iV;rw[jy,dI]at h;exact Be rest c f r d i b h
 | .cons m M k rest=>λc f r d i b h=>by
  unfold cJ at b;obtain⟨o,u,rfl,h1,h2,h3⟩:=b;unfold iV;intro L J e;injection e with I H
  subst I H;rw[jy,dI]at h;have cl:=qT (sh:=λg v=>a_ k g (r+aw m) (d+defOf c m) v) (n:=aI k) (f:=f) (r:=r) (d:=d) (dm:=d+defOf c m) (ja m) (nH _ _) (o:=o) (λg w G=>gM _ g _ _ w (h1 w G)) h2;obtain⟨g1,g2⟩:=h.app (by rw[uf,cl.1]);refine⟨λv b=>?_,Be rest c f r d u h3 g2⟩;cases o with
  |nil=>exact absurd b (by simp)
  |cons w ws=>
   have g1:fX (jb k) (bU (aI k) (a_ k f (r+aw m) (d+defOf c m) w::ws.map (a_ k (r+aw m) (r+aw m) (d+defOf c m)))):=g1
   have j:=fX.join (uf k) (λx F=>by
    rcases cj.mp F with z|z
    ·rw[z];exact(gM k _ _ _ w (h1 w aH)).1
    ·obtain⟨y,C,rfl⟩:=dU.mp z;exact(gM k _ _ _ y (h1 y (aR _ C))).1) g1
   rcases cj.mp b with z|z
   ·rw[z];exact xj k f _ _ w (h1 w aH) (j _ aH)
   ·exact xj k _ _ _ v (h1 v (aR _ z)) (j _ (aR _ (dY z)))
end
theorem Qj (i:∀p,kept'.contains p=true->kept.contains p=true)(w:bB (.group false fs) n)(h1:jw kept' fs []≠0)
 (J:fX (jb (bK kept (.group false fs) [])) cols) (h:fc (bK kept (.group false fs) []) 0 0 cols=some vs):
 ∃F,fc (bK kept' (.group false fs) []) 0 0 (sel kept' ((bV fs []).filter λx=>kept.contains x) cols)=some F:=by
 obtain⟨g,u⟩:=A1 h;have o:nk kept' (.group false fs) []≠0:=by rw[kK];exact h1
 have H:nk kept (.group false fs) []≠0:=λz=>o (ud i z);have lv:=mr (kept:=kept) (.group false fs) [] H;have G:=mr (kept:=kept') (.group false fs) [] o;have hp:1<=aI (bK kept (.group false fs) []):=by lia
 have I:=fX.join (uf _) (λx b=>(xb g x b).1) (by rw[u];exact J)
 have j:∀v∈vs,Vd (bK kept (.group false fs) []) v:=λv j=>by
  obtain⟨x,b⟩:=A2 hp h v j;refine Gx _ 0 0 0 x v (wZ _ _) ?_ b;unfold loc at b;rw[iI]at b;obtain⟨O,L,b⟩:=b;split at b
  ·rename_i q;cases b;rw[<-q];exact(gM _ 0 _ _ v (lA _ _ _ _ _ L)).1
  simp_all
 have y:=λv h2=>
  GG i _ n _ v w (j v h2) (xj _ 0 0 0 v (g v h2) (I _ (dY h2)))
 refine⟨vs.map (j4 kept' kept (.group false fs) []),?_⟩
 have M:=A4 (k:=bK kept' (.group false fs) []) (r':=0) (d':=0) (by lia) (vs:=vs.map (j4 kept' kept (.group false fs) [])) λv h2=>by
  obtain⟨x,b,rfl⟩:=dU.mp h2;exact⟨(y x b).mY,λf=>Gy _ f 0 0 _ (wZ _ _) (y x b)⟩
 rw[<-M];congr 1
 have C:((bV fs []).filter λx=>kept.contains x).length=aI (bK kept (.group false fs) []):=by
  rw[lv,kK];rfl
 rw[<-u,<-C,A9 (λx b=>by rw[C];exact(xb g x b).1),GF i]
 have P:((bV fs []).filter λx=>kept'.contains x).length=aI (bK kept' (.group false fs) []):=by
  rw[G,kK];rfl
 congr 1;rw[bZ,bZ];refine eO λv h2=>?_;have:=A_ i (.group false fs) [] 0 0 0 v o (g v h2);exact this.symm
open Vacolc (Raw entryFault columnFault faultWithin settled judge)
def cnt (b:Nat->Bool)(a n:Nat):Nat:=((ll a n).filter b).length
def gP (b:Nat->Bool)(k:Kind)(a:Nat):Option Nat:=match dM k with
 |some (_,l)=>if b a then none else some (iu l)
 |none=>none
mutual
def br (b:Nat->Bool):Kind->Nat->BK
 | .leaf l,_=> .leaf l
 | .group c fs,a=> .group c (dE b fs a)
def dE (b:Nat->Bool):aJ->Nat->BF
 | .nil,_=> .nil
 | .cons h k rest,a=>if cnt b a (au k)=0 then .skip (dE b rest (a+au k))else .cons h.mode (gP b k a) (br b k a) (dE b rest (a+au k))
end
mutual
theorem Bf:∀(k:Kind) (p:List Nat),(cW k p).length=au k
 | .leaf _=>λ_=>by
  unfold cW au;rfl
 | .group c fs=>λp=>by
  unfold cW au;exact Bg fs p
theorem Bg:∀(fs:aJ) (p:List Nat),(bV fs p).length=aG fs
 | .nil=>λ_=>by
  unfold bV aG;rfl
 | .cons h k rest=>λp=>by
  unfold bV aG;rw[aQ,Bf k,Bg rest]
end
def Tells (b:Nat->Bool)(kept:List (List Nat))(a:Nat)(ps:List (List Nat)):Prop:=∀j p,ps[j]? =some p->b (a+j)=kept.contains p
theorem Tells.app (h:Tells tell kept a (p1++p2)):Tells tell kept a p1/\Tells tell kept (a+p1.length) p2:=by
 refine⟨λj p e=>h j p ?_,λj p e=>?_⟩
 ·obtain⟨l,_⟩:=cK.mp e
  grind
 ·rw[vZ];refine h (p1.length+j) p ?_;rw[NG (nH _ _),zy];omega
theorem GH:∀{ps} {a},Tells tell kept a ps->cnt tell a ps.length=(ps.filter λx=>kept.contains x).length
 |[],a,_=>rfl
 |p::ps,a,h=>by
  have b:=GH (ps:=ps) (a:=a+1) λj q e=>by
   have:=h (j+1) q (by simpa using e);rw[show a+1+j=a+(j+1) by lia];omega
  have g:=h 0 p rfl;unfold cnt at b⊢;rw[bf,List.range'_succ,f_,f_]
  grind
mutual
theorem GJ {b:Nat->Bool}{kept:List (List Nat)}:∀(k:Kind) (p:List Nat) (a:Nat),Tells b kept a (cW k p)->br b k a=bK kept k p
 | .leaf l,p,a,_=>by
  unfold br bK;rfl
 | .group c fs,p,a,h=>by
  unfold br bK;unfold cW at h;rw[GK fs p a h]
theorem GK {b:Nat->Bool}{kept:List (List Nat)}:∀(fs:aJ) (p:List Nat) (a:Nat),Tells b kept a (bV fs p)->dE b fs a=bF kept fs p
 | .nil,p,a,_=>by
  unfold dE bF;rfl
 | .cons h k rest,p,a,j=>by
  unfold bV at j;obtain⟨g,i⟩:=j.app;rw[Bf]at i;rw[dE,bF,GK rest p _ i]
  have C:cnt b a (au k)=nk kept k (p++[h.number]):=by
   rw[<-Bf k (p++[h.number])];exact GH g
  rw[C,GJ k _ a g]
  have z:gP b k a=qV kept k (p++[h.number]):=by
   unfold gP qV;cases e:dM k with
   |none=>rfl
   |some x=>
    obtain⟨o,l⟩:=x;dsimp only
    have:(cW k (p++[h.number]))[0]? =some (p++[h.number]++[o.number]):=by
     cases k with
     |leaf _=>cases e
     |group c fs=>
      cases c with
      |true=>cases e
      |false=>
       cases fs with
       |nil=>cases e
       |cons hd y rest=>
        cases y with
        |group _ _=>cases e
        |leaf u=>
         have e:(if hd.mode= .one then some (hd,u)else none)=some (o,l):=e;by_cases q:hd.mode= .one
         ·rw[if_pos q]at e;cases e;rw[cW,bV,cW];rfl
         ·rw[if_neg q]at e;cases e
    rw[<-g 0 _ this];rfl
  rw[z]
end
theorem GL (w:bC fs n false)(picks):Tells (λi=>picks.contains i) (bT fs picks) 0 (bV fs []):=λj p e=>by
 have hp:=ua fs false [] 0 0;rw[<-hp,dB,aX]at e;obtain⟨c,g,b⟩:=e;rw[<-b,A0 w g,vP]
theorem Bh (w:bC fs n false)(picks):br (λi=>picks.contains i) (.group false fs) 0=bK (bT fs picks) (.group false fs) []:=by
 refine GJ _ _ _ ?_;exact GL w picks
structure lB (D:Nat)(e:Raw):Prop where
 has:e.text.isSome=true↔e.defn=D
 iC:∀t,e.text=some t->∀b∈t,b<=255
theorem Qk:∀(n) (t s r),t.length<=n->eM t=some (s,r)->∀b∈s,b<=255:=by
 intro n;induction n with
 |zero=>
  intro t s r o h;cases t with
  |nil=>simp[eM]at h
  |cons _ _=>simp at o
 |succ n L=>
  intro t s r o h;by_cases C:∃u,t=34::u
  ·obtain⟨u,rfl⟩:=C;rw[As]at h;simp_all
  ·rw[wF (λr z=>C ⟨r,z⟩)]at h;split at h
   ·rename_i b H e;have J:=Ar e
    have P:b<=255:=by
     unfold lx at e;split at e
     ·unfold kJ at e;split at e
      ·rename_i x G j;split at e
       ·rename_i y F i;split at e
        ·cases e
        ·simp only[cQ,aK]at e
         have O:x<16:=by
          unfold mh at j;split at j
          ·rw[aX]at j;obtain⟨z,k,g⟩:=j;simp only[aK]at g;rw[<-g.1];exact(wC k).1
          simp_all
         have M:y<16:=by
          unfold mh at i;split at i
          ·rw[aX]at i;obtain⟨z,k,g⟩:=i;simp only[aK]at g;rw[<-g.1];exact(wC k).1
          grind
         lia
       simp_all
      simp_all
     ·split at e
      ·rename_i c I _ q;unfold plain at q
       grind
      simp_all
     simp_all
    rw[aX]at h
    grind
   simp_all
theorem GN (h:g8 l t=some v):gO l v:=by
 unfold g8 at h;split at h
 ·rename_i k e;split at h
  ·rename_i q;cases h;refine⟨q,?_⟩;rintro s rfl;unfold readLit at e;split at e
   ·cases e
   ·cases e
   ·cases e
   ·split at e
    ·split at e
     ·cases e
     simp_all
    simp_all
   ·rw[aX]at e;simp_all
   ·rw[aX]at e;obtain⟨⟨j,i⟩,g,b⟩:=e;simp only[aK,Lit.str.injEq]at b;rw[<-b.1];exact Qk _ _ _ _ (bA _) g
   simp_all
  simp_all
 simp_all
theorem Ql (c)(e)(l):i4 c (e::l)={rep:=e.rep,defn:=e.defn,val:=e.text.bind (g8 c.leaf)}::i4 c l:=rfl
theorem Qm (h:Eo c ms before e=none)(j:lB c.defn e):
 (e.rep<=c.rep/\e.defn<=c.defn/\((e.text.bind (g8 c.leaf)).isSome=true↔e.defn=c.defn))/\(before=none->e.rep=0)/\(∀b,before=some b->1<=e.rep->∀a,ms[e.rep-1]? =some a->a<=b/\a<=e.defn):=by
 unfold Eo at h;split at h
 ·cases h
 ·rename_i h1;split at h
  ·cases h
  ·rename_i h2;refine⟨⟨by lia,by lia,?_⟩,λg=>?_,λb g k a o=>?_⟩
   ·rw[<-j.has];cases q:e.text with
    |none=>simp
    |some t=>
     cases i:g8 c.leaf t with
     |none=>
      simp_all
     |some v=>simp[i]
   ·subst g;simp_all
   grind
theorem GO:∀{l} {j} {i},sY c ms j i l=none->(∀e∈l,lB c.defn e)->
 (∀e∈i4 c l,e.rep<=c.rep/\e.defn<=c.defn/\(e.val.isSome=true↔e.defn=c.defn))/\(j=none->gi 0 (i4 c l))/\jZ ms (i4 c l)/\
 (∀b,j=some b->∀e es,i4 c l=e::es->1<=e.rep->∀a,ms[e.rep-1]? =some a->a<=b/\a<=e.defn)
 |[],j,i,_,_=>by
  refine⟨λe F=>absurd F (by simp[i4]),λ_ e es z=>(by cases z),(by unfold i4 jZ;trivial),λb _ e es z=>(by cases z)⟩
 |e::l,j,i,h,y=>by
  unfold sY at h;split at h
  ·cases h
  ·rename_i h1;obtain⟨O,M,L⟩:=Qm h1 (y e aH);obtain⟨J,_,I,H⟩:=GO h λx k=>y x (aR _ k);rw[Ql];refine⟨λx k=>?_,λo g u z=>?_,?_,λb o g u z=>?_⟩
   ·rcases cj.mp k with q|q
    ·rw[q];omega
    ·exact J x q
   ·injection z with z _
    rw[<-z];exact sZ (M o)
   ·unfold jZ;refine⟨?_,I⟩;cases q:i4 c l with
    |nil=>trivial
    |cons g u=>exact λC a G=>H e.defn rfl g u q C a G
   ·injection z with z _
    rw[<-z];exact L b o
theorem Qn (h:sY c ms none 0 l=none)(g:∀e∈l,lB c.defn e):Gd (fH (c,ms)) (i4 c l)/\gi 0 (i4 c l):=by
 obtain⟨a,b,d,_⟩:=GO h g;exact⟨⟨a,d⟩,b rfl⟩
theorem ug:∀{j} {b},s_ j b=none↔∀x∈b,sY x.1.1 x.1.2 none 0 x.2=none
 |j,[]=>by
  unfold s_;simp
 |j,x::b=>by
  unfold s_;constructor
  ·intro h;split at h
   ·cases h
   ·rename_i q;intro y g;rcases cj.mp g with z|z
    ·rw[z];omega
    ·exact ug.mp h y z
  ·intro h;rw[h x aH];exact ug.mpr λy g=>h y (aR _ g)
section
variable {kept:List (List Nat)}
mutual
theorem Qo:∀(k:Kind) (p:List Nat) (r d:Nat),nk kept k p≠0->jb (bK kept k p)=((i3 k p r d).filter λx=>kept.contains x.path).map (·.leaf)
 | .leaf l=>λp r d h=>by
  unfold bK jb i3
  have:kept.contains p=true:=by
   cases q:kept.contains p with
   |true=>rfl
   |false=>
    unfold nk cW at h;rw[f_,if_neg (by rw[q];exact dX)]at h;exact absurd rfl h
  rw[f_,if_pos this];rfl
 | .group c fs=>λp r d h=>by
  unfold bK jb i3;exact Bi fs c p r d
theorem Bi:∀(fs:aJ) (c:Bool) (p:List Nat) (r d:Nat),jy (bF kept fs p)=((jq fs c p r d).filter λx=>kept.contains x.path).map (·.leaf)
 | .nil=>λc p r d=>by
  unfold bF jy jq;rfl
 | .cons h k rest=>λc p r d=>by
  rw[bF,jq,oZ,dA,<-Bi rest c p r d];by_cases q:nk kept k (p++[h.number])=0
  ·rw[if_pos q,jy]
   have:((i3 k (p++[h.number]) (r+aw h.mode) (d+defOf c h.mode)).filter λx=>kept.contains x.path)=[]:=by
    unfold nk at q;rw[iq,o7]at q;rw[o7];intro x b;refine q x.path ?_;rw[<-wY k _ (r+aw h.mode) (d+defOf c h.mode)];exact dY b
   rw[this];rfl
  ·rw[if_neg q,jy,Qo k _ _ _ q]
end
end
def cm (fs:aJ):List (zr×List Nat):=(di fs).zip (nI fs)
theorem Qp (fs):(cm fs).length=aG fs:=by
 unfold cm;rw[qy,pq,nI,w9,Nat.min_self]
theorem GP (fs)(i:Nat):((cm fs)[i]?).map (·.1)=(di fs)[i]? :=by
 unfold cm;have h1:=pq fs;have h2:(nI fs).length=aG fs:=w9 fs false 0 []
 grind
theorem Bj:∀{A:List α} {B:List β} {m},(A.zip B).take m=(A.take m).zip (B.take m)
 |[],B,m=>by simp
 |a::A,[],m=>by simp
 |a::A,b::B,0=>rfl
 |a::A,b::B,m+1=>by
  rw[zx,NH,NH,NH,zx,Bj]
theorem xl {f:α->Option β}:∀{l:List α},(∀x∈l,(f x).isSome=true)->(l.filterMap f).length=l.length/\∀m,(l.take m).filterMap f=(l.filterMap f).take m
 |[],_=>⟨rfl,λm=>by simp⟩
 |a::l,h=>by
  obtain⟨h1,h2⟩:=xl (f:=f) (l:=l) λx i=>h x (aR _ i);have g:=h a aH;cases e:f a with
  |none=>rw[e]at g;cases g
  |some b=>
   rw[o8,e];refine⟨by simp[h1],λm=>?_⟩;cases m with
   |zero=>rfl
   |succ m=>
    simp_all
theorem Bk (fs)(picks):aO fs picks=picks.filterMap λi=>(cm fs)[i]? :=rfl
section
variable {fs:aJ}{picks:List Nat}(hr:jx (aG fs) picks)
include hr
theorem GQ:∀i∈picks,((cm fs)[i]?).isSome=true:=λi b=>by
 have:=hr.2 i b;rw[eI (by rw[Qp];exact this)];rfl
theorem j6:(aO fs picks).length=picks.length:=(xl (GQ hr)).1
theorem Bl (m):aO fs (picks.take m)=(aO fs picks).take m:=(xl (GQ hr)).2 m
omit hr in
theorem uh:(aO fs picks).map (·.1.path)=bT fs picks:=by
 rw[Bk,NI];unfold bT;refine pz λi _=>?_;rw[<-GP fs i,NJ];rfl
theorem jx.take (m):jx (aG fs) (picks.take m):=⟨hr.1.sublist (XS _ _),λi b=>hr.2 i (qr b)⟩
theorem xm (w:bC fs n false):((bV fs []).filter λx=>(bT fs picks).contains x)=bT fs picks:=by
 have hp:(di fs).map (·.path)=bV fs []:=ua fs false [] 0 0;have h1:=uc (bV fs []) 0 picks hr.1 (λ_ _=>bR _)
 have h2:bT fs picks=picks.filterMap λi=>(bV fs [])[i]? :=by
  unfold bT
  grind
 refine vV ?_ (h2.trans h1).symm
 have h3:((bV fs []).zipIdx.filter λx=>picks.contains x.2)=(bV fs []).zipIdx.filter λx=>(bT fs picks).contains x.1:=by
  refine vY λx b=>?_;obtain⟨_,h,g⟩:=sR b;have:=GL w picks x.2 x.1 (by rw[g];exact eI _)
  grind
 rw[h3]
 have h4:((bV fs []).zipIdx.filter λx=>(bT fs picks).contains x.1).map (·.1)=((bV fs []).zipIdx.map (·.1)).filter λx=>(bT fs picks).contains x:=by
  rw[sW];rfl
 rw[h4,ND]
theorem Qq (w:bC fs n false):(bT fs picks).Nodup:=by
 rw[<-xm hr w];exact(w_ fs n false [] w).filter _
end
theorem Bm:∀{ps} {g} {m},ps.length=g.length->(∀i p,ps[i]? =some p->kept'.contains p=decide (i<m))->sel kept' ps g=g.take m
 |[],[],m,_,_=>by
  rw[GB,NK]
 |[],_::_,m,h,_=>by simp at h
 |_::_,[],m,h,_=>by simp at h
 |p::ps,c::g,0,h,b=>by
  have j:=b 0 p rfl
  rw[mZ,if_neg (by rw[j];decide),Bm (m:=0) (by simpa using h) λi q e=>by
   rw[b (i+1) q (by simpa using e)];simp]
  rfl
 |p::ps,c::g,m+1,h,b=>by
  have j:=b 0 p rfl
  rw[mZ,if_pos (by rw[j];simp),Bm (m:=m) (by simpa using h) λi q e=>by
   rw[b (i+1) q (by simpa using e)];simp]
  rfl
def bD (b:List (zr×List Nat))(g:List (List Raw)):List (List E):=(b.zip g).map λx=>i4 x.1.1 x.2
theorem xq (h:cols.length=ts.length):(bD ts cols).length=ts.length:=by
 unfold bD;simp_all
theorem Qr (m):bD (ts.take m) (cols.take m)=(bD ts cols).take m:=by
 unfold bD;rw[<-lg,Bj]
structure dO (fs:aJ)(picks:List Nat)(cols:List (List Raw)):Prop where
 ok:bC fs 5 false
 nn:fs≠.nil
 rs:jx (aG fs) picks
 ne:picks≠[]
 ln:cols.length=picks.length
 rw:∀x∈(aO fs picks).zip cols,∀e∈x.2,lB x.1.1.defn e
 nf:∀x∈(aO fs picks).zip cols,sY x.1.1 x.1.2 none 0 x.2=none
theorem dO.take (h:dO fs picks cols)(i:1<=m):dO fs (picks.take m) (cols.take m):=by
 have g:(aO fs (picks.take m)).zip (cols.take m)=((aO fs picks).zip cols).take m:=by rw[Bl h.rs,Bj]
 refine⟨h.ok,h.nn,h.rs.take m,λz=>?_,by rw[gq,gq,h.ln],λx b=>?_,λx b=>?_⟩
 ·have:=congrArg f9 z;have h1:=zk.mpr h.ne
  grind
 ·rw[g]at b;exact h.rw x (qr b)
 ·rw[g]at b;exact h.nf x (qr b)
theorem dO.ui (h:dO fs picks cols):cols.length=(aO fs picks).length:=by rw[j6 h.rs,h.ln]
theorem dO.cnt (h:dO fs picks cols):jw (bT fs picks) fs []=picks.length/\1<=picks.length:=by
 refine⟨?_,zk.mpr h.ne⟩;unfold jw;rw[xm h.rs h.ok,<-uh,bb,j6 h.rs]
theorem dO.rows (h:dO fs picks cols):(gN (br (λi=>picks.contains i) (.group false fs) 0) (bD (aO fs picks) cols)).map (·.1)=assemble fs picks (bD (aO fs picks) cols):=by
 rw[AX (bC.wf h.ok),Bh h.ok]
 have k:nk (bT fs picks) (.group false fs) []≠0:=by
  rw[kK,h.cnt.1];have:=h.cnt.2
  lia
 have lv:=mr (kept:=bT fs picks) (.group false fs) [] k;refine PZ (wZ _ _) (by lia) (cis:=(aO fs picks).map fH) (P8 h.ok h.rs) (by rw[xq h.ui,bb]) λx g=>?_
 have j:((aO fs picks).map fH).zip (bD (aO fs picks) cols)=((aO fs picks).zip cols).map λy=>(fH y.1,i4 y.1.1 y.2):=by
  unfold bD
  have h1:(aO fs picks).map fH=((aO fs picks).zip cols).map λy=>fH y.1:=by
   conv=>lhs;rw[<-(xa (A:=aO fs picks) (B:=cols) h.ui.symm).1]
   simp_all
  grind
 rw[j]at g;obtain⟨y,b,rfl⟩:=dU.mp g;exact Qn (h.nf y b) (h.rw y b)
theorem dO.GR (h:dO fs picks cols):fX (jb (bK (bT fs picks) (.group false fs) [])) (bD (aO fs picks) cols):=by
 have k:jb (bK (bT fs picks) (.group false fs) [])=(aO fs picks).map (·.1.leaf):=by
  unfold bK jb;rw[Bi fs false [] 0 0]
  have h1:((jq fs false [] 0 0).filter λx=>(bT fs picks).contains x.path)=(aO fs picks).map (·.1):=by
   have h1:=uc (di fs) 0 picks h.rs.1 (λ_ _=>bR _);simp only[NC]at h1
   have h2:(aO fs picks).map (·.1)=picks.filterMap λi=>(di fs)[i]? :=by
    rw[Bk,NI];exact pz λi _=>GP fs i
   rw[h2,h1]
   have h3:((di fs).zipIdx.filter λx=>picks.contains x.2)=(di fs).zipIdx.filter λx=>(bT fs picks).contains x.1.path:=by
    refine vY λx b=>?_;obtain⟨_,F,C⟩:=sR b;exact(A0 h.ok (by rw[C];exact eI _)).symm
   rw[h3]
   have h4:((di fs).zipIdx.filter λx=>(bT fs picks).contains x.1.path).map (·.1)=((di fs).zipIdx.map (·.1)).filter λx=>(bT fs picks).contains x.path:=by
    rw[sW];rfl
   rw[h4,ND];rfl
  rw[h1,bZ];rfl
 rw[k];intro x b e o y j
 have g:((aO fs picks).map (·.1.leaf)).zip (bD (aO fs picks) cols)=((aO fs picks).zip cols).map λy=>(y.1.1.leaf,i4 y.1.1 y.2):=by
  unfold bD
  have h1:(aO fs picks).map (·.1.leaf)=((aO fs picks).zip cols).map λy=>y.1.1.leaf:=by
   conv=>lhs;rw[<-(xa (A:=aO fs picks) (B:=cols) h.ui.symm).1]
   simp_all
  grind
 rw[g]at b;obtain⟨z,g,rfl⟩:=dU.mp b;obtain⟨w,_,rfl⟩:=dU.mp o;rw[iI]at j;obtain⟨t,_,u⟩:=j;exact GN u
theorem dO.mono (h:dO fs picks cols)(z:1<=m)(u:assemble fs picks (bD (aO fs picks) cols)=some vs):
 ∃b,assemble fs (picks.take m) ((bD (aO fs picks) cols).take m)=some b:=by
 rw[AX (bC.wf h.ok)]at u⊢;have y:=h.take z
 have F:bT fs (picks.take m)=(bT fs picks).take m:=by
  rw[<-uh,<-uh,Bl h.rs,lg]
 have nd:=Qq h.rs h.ok
 have sub:∀p,(bT fs (picks.take m)).contains p=true->(bT fs picks).contains p=true:=λp hp=>by
  grind
 obtain⟨b,g⟩:=Qj (n:=6) sub (fs:=fs) (by unfold bB;exact⟨by decide,h.nn,h.ok⟩) (by rw[y.cnt.1];have:=y.cnt.2;lia) h.GR u;rw[xm h.rs h.ok]at g
 rw[Bm (m:=m) (by rw[xq h.ui,<-uh,bb]) λi p e=>by
  rw[F,lh,zt,decide_eq_true_iff];obtain⟨G,o⟩:=cK.mp e;constructor
  ·intro hp;obtain⟨j,C,k⟩:=zo.mp hp;rw[gq]at C;rw[XT]at k;have:=(NB nd).mp (o.trans k.symm)
   lia
  ·intro H;rw[zo];exact⟨i,by rw[gq];lia,by rw[XT];exact o⟩]at g
 exact⟨b,g⟩
theorem dO.judge_ok (h:dO fs picks cols)(b:assemble fs picks (bD (aO fs picks) cols)=some vs):nJ fs picks cols= .ok vs:=by
 unfold nJ;dsimp only;rw[ug.mpr h.nf];have e:((aO fs picks).zip cols).map (λx=>i4 x.1.1 x.2)=bD (aO fs picks) cols:=rfl;rw[e]
 have:(fw picks.length).find? (λj=>(assemble fs (picks.take (j+1)) ((bD (aO fs picks) cols).take (j+1))).isNone)=none:=by
  rw[XU];intro j _;obtain⟨g,e⟩:=h.mono (m:=j+1) (by lia) b;simp_all
 rw[this];simp_all
theorem dO.xr (h:dO fs picks cols)(y:assemble fs picks (bD (aO fs picks) cols)=none):
 ∃j,j<picks.length/\(∀i,i<j->(assemble fs (picks.take (i+1)) ((bD (aO fs picks) cols).take (i+1))).isSome=true)/\assemble fs (picks.take (j+1)) ((bD (aO fs picks) cols).take (j+1))=none/\nJ fs picks cols= .error (5,j,0):=by
 have z:assemble fs (picks.take (picks.length-1+1)) ((bD (aO fs picks) cols).take (picks.length-1+1))=none:=by
  have:=h.cnt.2;rw[show picks.length-1+1=picks.length by lia,iJ,vO (by rw[xq h.ui,j6 h.rs];lia)]
  lia
 cases e:(fw picks.length).find? (λj=>(assemble fs (picks.take (j+1)) ((bD (aO fs picks) cols).take (j+1))).isNone)with
 |none=>
  rw[XU]at e;have:=h.cnt.2;have:=e (picks.length-1) (zz.mpr (by lia));simp_all
 |some j=>
  obtain⟨u,o,k⟩:=List.find?_range_eq_some.mp e;refine⟨j,zz.mp o,λi b=>?_,by simpa using u,?_⟩
  ·have:=k i b;cases q:assemble fs (picks.take (i+1)) ((bD (aO fs picks) cols).take (i+1))with
   |none=>rw[q]at this;simp at this
   |some _=>rfl
  ·unfold nJ;dsimp only;rw[ug.mpr h.nf];have g:((aO fs picks).zip cols).map (λx=>i4 x.1.1 x.2)=bD (aO fs picks) cols:=rfl;rw[g,e]
theorem Qs (h:s_ 0 ((aO fs picks).zip cols)=some f):nJ fs picks cols= .error f:=by
 unfold nJ;simp_all
mutual
def d5:BK->Val->Val
 | .leaf _,v=>v
 | .group _ fs,.group b=> .group (fq fs b)
 | .group _ _,.lit v=> .lit v
def fq:BF->List (List Val)->List (List Val)
 | .nil,_=>[]
 | .skip r,b=>[]::fq r b
 | .cons _ _ _ _,[]=>[]
 | .cons _ _ k r,o::b=>(o.map λv=>d5 k v)::fq r b
end
section
variable {kept:List (List Nat)}
mutual
theorem GS:∀(k:Kind) (p:List Nat) (g:Kind) (v:Val),f' kept k p=some g->cw (bK kept k p) v->cS k (d5 (bK kept k p) v)=cS g v
 | .leaf l=>λp g v h b=>by
  unfold f' at h;split at h
  ·cases h;unfold bK d5;rfl
  ·cases h
 | .group c fs=>λp g v h b=>by
  unfold bK at b⊢;unfold cw at b;obtain⟨i,rfl,b⟩:=b;have h1:=Bn fs p i b;unfold f' at h;split at h
  ·cases h
  ·rename_i hd j rest e;cases h;rw[e]at h1;rw[d5,cS,cS,h1]
theorem Bn:∀(fs:aJ) (p:List Nat) (g:List (List Val)),cJ (bF kept fs p) g->eT fs (fq (bF kept fs p) g)=eT (gH kept fs p) g
 | .nil=>λp g _=>by
  unfold bF fq gH eT;rfl
 | .cons h k rest=>λp g b=>by
  rw[bF]at b⊢;rw[gH];have i:=ub k (kept:=kept) (p++[h.number]);cases e:f' kept k (p++[h.number])with
  |none=>
   rw[if_pos (i.mp e)]at b⊢;unfold cJ at b;rw[fq,eT];exact Bn rest p g b
  |some j=>
   rw[if_neg λz=>by rw[i.mpr z]at e;cases e]at b⊢;unfold cJ at b;obtain⟨o,u,rfl,h1,_,h3⟩:=b;rw[fq,eT,eT,Bn rest p u h3];have C:(o.map λv=>d5 (bK kept k (p++[h.number])) v).isEmpty=o.isEmpty:=by cases o<;>rfl
   rw[C,bZ];have y:o.map ((λv=>cS k v)∘λv=>d5 (bK kept k (p++[h.number])) v)=o.map λv=>cS j v:=eO λv b=>GS k _ j v e (h1 v b);rw[y]
end
mutual
theorem uj:∀(k:Kind) (n:Nat),bB k n->1<=au k
 | .leaf _=>λ_ _=>by
  unfold au;exact bA _
 | .group c fs=>λn h=>by
  unfold bB at h;unfold au;cases fs with
  |nil=>exact absurd rfl h.2.1
  |cons hd k rest=>
   have h2:=h.2.2;unfold bC at h2;unfold aG;have:=uj k _ h2.2.2.2.2.2.2.1;omega
end
mutual
theorem Bo:∀(k:Kind) (n:Nat) (p:List Nat),bB k n->(∀x∈cW k p,kept.contains x=true)->f' kept k p=some k/\nk kept k p=au k
 | .leaf l=>λn p _ h=>by
  have hp:=h p (by unfold cW;simp);unfold f' nk cW au;rw[if_pos hp,f_,if_pos hp];exact⟨rfl,rfl⟩
 | .group c fs=>λn p w h=>by
  unfold bB at w;unfold cW at h;obtain⟨h1,h2⟩:=Bp fs _ c p w.2.2 h;rw[kK,h2];unfold f' au;rw[h1];cases fs with
  |nil=>exact absurd rfl w.2.1
  |cons _ _ _=>exact⟨rfl,rfl⟩
theorem Bp:∀(fs:aJ) (n:Nat) (c:Bool) (p:List Nat),bC fs n c->(∀x∈bV fs p,kept.contains x=true)->gH kept fs p=fs/\jw kept fs p=aG fs
 | .nil=>λn c p _ _=>by
  unfold gH jw bV aG;exact⟨rfl,rfl⟩
 | .cons h k rest=>λn c p w b=>by
  unfold bC at w;unfold bV at b;obtain⟨h1,h2⟩:=Bo k n (p++[h.number]) w.2.2.2.2.2.2.1 λx q=>b x (kD _ q);obtain⟨h3,h4⟩:=Bp rest n c p w.2.2.2.2.2.2.2 λx q=>b x (kC _ q);rw[gH,AR,h1,h2,h3,h4,aG];refine⟨?_,rfl⟩;dsimp only
  have:qs h.mode k k=h.mode:=by
   unfold qs;rw[if_neg];rintro⟨_,z⟩;exact z rfl
  rw[this]
end
mutual
theorem GU:∀(k:Kind) (n:Nat) (p:List Nat) (v:Val),bB k n->(∀x∈cW k p,kept.contains x=true)->cw (bK kept k p) v->d5 (bK kept k p) v=v
 | .leaf l=>λn p v _ _ _=>by
  unfold bK d5;rfl
 | .group c fs=>λn p v w h b=>by
  unfold bB at w;unfold cW at h;unfold bK at b⊢;unfold cw at b;obtain⟨g,rfl,b⟩:=b;rw[d5,GV fs _ c p g w.2.2 h b]
theorem GV:∀(fs:aJ) (n:Nat) (c:Bool) (p:List Nat) (i:List (List Val)),bC fs n c->(∀x∈bV fs p,kept.contains x=true)->cJ (bF kept fs p) i->fq (bF kept fs p) i=i
 | .nil=>λn c p i _ _ b=>by
  unfold bF at b⊢;unfold cJ at b;rw[b,fq]
 | .cons h k rest=>λn c p i w j b=>by
  unfold bC at w;unfold bV at j;have z:=(Bo k n (p++[h.number]) w.2.2.2.2.2.2.1 λx q=>j x (kD _ q)).2;have y:=uj k n w.2.2.2.2.2.2.1;rw[bF,if_neg (by omega)]at b⊢;unfold cJ at b;obtain⟨o,u,rfl,h1,_,h3⟩:=b;rw[fq,GV rest n c p u w.2.2.2.2.2.2.2 (λx q=>j x (kC _ q)) h3];congr 1;rw[eO (g:=id) λv b=>GU k n _ v w.2.2.2.2.2.2.1 (λx q=>j x (kD _ q)) (h1 v b),Ep]
end
mutual
theorem GW:∀(k:Kind) (n:Nat) (p:List Nat) (v:Val),bB k n->(∀x∈cW k p,kept.contains x=true)->cw (bK kept k p) v->iU (bK kept k p) v->iy k v
 | .leaf l=>λn p v _ _ b g=>by
  unfold bK at b g;unfold cw at b;obtain⟨x,rfl⟩:=b;unfold iU at g;exact .leaf (g x rfl).1
 | .group c fs=>λn p v w h b g=>by
  unfold bB at w;unfold cW at h;unfold bK at b g;unfold cw at b;obtain⟨i,rfl,b⟩:=b;unfold iU at g;exact .group (GY fs _ c p i w.2.2 h b (g i rfl))
theorem GY:∀(fs:aJ) (n:Nat) (c:Bool) (p:List Nat) (g:List (List Val)),bC fs n c->(∀x∈bV fs p,kept.contains x=true)->cJ (bF kept fs p) g->iV (bF kept fs p) g->iO fs g
 | .nil=>λn c p g _ _ b _=>by
  unfold bF at b;unfold cJ at b;rw[b];exact .nil
 | .cons h k rest=>λn c p g w i b j=>by
  unfold bC at w;unfold bV at i;have z:=(Bo k n (p++[h.number]) w.2.2.2.2.2.2.1 λx q=>i x (kD _ q)).2;have y:=uj k n w.2.2.2.2.2.2.1;rw[bF,if_neg (by omega)]at b j;unfold cJ at b;obtain⟨o,u,rfl,h1,_,h3⟩:=b;unfold iV at j;obtain⟨f1,f2⟩:=j o u rfl;exact .cons (λv b=>GW k n _ v w.2.2.2.2.2.2.1 (λx q=>i x (kD _ q)) (h1 v b) (f1 v b)) (GY rest n c p u w.2.2.2.2.2.2.2 (λx q=>i x (kC _ q)) h3 f2)
end
end
theorem Bq (n):jx n (fw n):=⟨List.pairwise_lt_range,λ_ h=>zz.mp h⟩
theorem GZ (w:bC fs n false):∀x∈bV fs [],(bT fs (fw (aG fs))).contains x=true:=λx b=>by
 have h:=xm (Bq (aG fs)) w
 have h2:(bT fs (fw (aG fs))).length=(bV fs []).length:=by
  rw[<-uh,bb,j6 (Bq _),Nv,Bg]
 have h3:((bV fs []).filter λx=>(bT fs (fw (aG fs))).contains x)=bV fs []:=by
  refine(List.filter_sublist (l:=bV fs [])).eq_of_length ?_;rw[h,h2]
 simp_all
theorem Qt (w:bC fs n false):jr fs (fw (aG fs))=fs:=(Bp fs n false [] w (GZ w)).1
theorem dO.vals (h:dO fs picks cols)(b:assemble fs picks (bD (aO fs picks) cols)=some vs):
 (∀v∈vs,cw (bK (bT fs picks) (.group false fs) []) v/\iU (bK (bT fs picks) (.group false fs) []) v)/\bU picks.length (vs.map (a_ (bK (bT fs picks) (.group false fs) []) 0 0 0))=bD (aO fs picks) cols:=by
 rw[AX (bC.wf h.ok)]at b;obtain⟨i,g⟩:=A1 b
 have k:nk (bT fs picks) (.group false fs) []≠0:=by
  rw[kK,h.cnt.1];have:=h.cnt.2
  lia
 have lv:aI (bK (bT fs picks) (.group false fs) [])=picks.length:=by rw[mr _ _ k,kK,h.cnt.1]
 have o:=fX.join (uf _) (λx j=>(xb i x j).1) (by rw[g];exact h.GR);rw[lv]at g;exact⟨λv b=>⟨i v b,xj _ 0 0 0 v (i v b) (o _ (dY b))⟩,g⟩
theorem Qu {vs:List Val}(C:1<=n)(h:∀v∈vs,mq n 0 0 0 (sh v)):∃c g,bU n (vs.map sh)=c::g/\(c.filter λe=>e.rep==0).length=vs.length:=by
 obtain⟨m,rfl⟩:∃m,n=m+1:=⟨n-1,by lia⟩;induction vs with
 |nil=>
  refine⟨[],eN m [],?_,rfl⟩;rfl
 |cons v vs j=>
  obtain⟨c,g,u,o⟩:=j λw k=>h w (aR _ k);obtain⟨l,b⟩:=h v aH;cases q:sh v with
  |nil=>rw[q]at l;simp at l
  |cons a as=>
   obtain⟨e,es,rfl,i,_,z⟩:=b a (by rw[q];exact aH);refine⟨(e::es)++c,iH (λx y=>x++y) as g,?_,?_⟩
   ·rw[cu,join_cons,u,q];rfl
   ·rw[oZ,aQ,o,f_,if_pos (by simp[i]),bf,bf]
    have:es.filter (λe=>e.rep==0)=[]:=by
     rw[o7]
     grind
    grind
theorem dO.count (h:dO fs picks cols)(g:assemble fs picks (bD (aO fs picks) cols)=some vs):
 ∃c j,cols=c::j/\(c.filter λe=>e.rep==0).length=vs.length:=by
 obtain⟨k,b⟩:=h.vals g
 have o:nk (bT fs picks) (.group false fs) []≠0:=by
  rw[kK,h.cnt.1];have:=h.cnt.2
  lia
 have lv:aI (bK (bT fs picks) (.group false fs) [])=picks.length:=by rw[mr _ _ o,kK,h.cnt.1]
 obtain⟨c,j,y,u⟩:=Qu (n:=picks.length) (vs:=vs) (sh:=a_ (bK (bT fs picks) (.group false fs) []) 0 0 0) h.cnt.2 λv g=>by
  rw[<-lv];exact gM _ 0 0 0 v (k v g).1
 rw[y]at b;cases q:cols with
 |nil=>
  have:=h.ln;rw[q]at this;have:=h.cnt.2;simp at*
  lia
 |cons C z=>
  cases i:aO fs picks with
  |nil=>
   have:=j6 h.rs;rw[i]at this;have:=h.cnt.2;simp at*
   lia
  |cons t F=>
   refine⟨C,z,rfl,?_⟩;rw[q,i]at b;injection b with b _
   rw[<-u,b];unfold Vacolc.settled;rw[sW,bb];rfl
def qX (e:E):Nat:=2+match e.val with
 |none=>0
 |some v=>1+(fQ v).length
def jz (c:List E):Nat:=(c.map qX).sum
def cx (b:List (List E)):Nat:=(b.map jz).sum
theorem G0 (a b):jz (a++b)=jz a+jz b:=by
 unfold jz;simp_all
theorem Qv (a b):cx (a++b)=cx a+cx b:=by
 unfold cx;simp_all
theorem G1:∀{A B},A.length=B.length->cx (iH (λx y=>x++y) A B)=cx A+cx B
 |[],[],_=>rfl
 |[],_::_,h=>by simp at h
 |_::_,[],h=>by simp at h
 |a::A,b::B,h=>by
  have:=G1 (A:=A) (B:=B) (by simpa using h);unfold cx at this⊢;rw[Ei,cu,cu,cu,iv,iv,iv,G0,this]
  lia
theorem Br:∀{S:List (List (List E))},(∀x∈S,x.length=n)->cx (bU n S)=(S.map cx).sum
 |[],_=>by
  show cx (eN n [])=0;unfold cx;rw[List.map_replicate,List.sum_replicate_nat];rfl
 |a::S,h=>by
  have h2:=qS (n:=n) (S:=S) λx b=>h x (aR _ b);rw[join_cons,G1 (by rw[h2];exact h a aH),Br λx b=>h x (aR _ b),cu,iv]
mutual
def jc:Kind->Nat->Prop
 | .leaf _,_=>True
 | .group _ fs,n=>1<=n/\fs≠.nil/\j7 fs (n-1)
def j7:aJ->Nat->Prop
 | .nil,_=>True
 | .cons h k r,n=>h.name.length<=12/\jc k n/\j7 r n
end
theorem xt (h:ip s=true):s.length<=12:=by
 unfold ip at h;split at h
 ·cases h
 simp_all
mutual
theorem bB.nm:∀{k:Kind} {n:Nat},bB k n->jc k n
 | .leaf _,_,_=>by
  unfold jc;trivial
 | .group c fs,n,h=>by
  unfold bB at h;unfold jc;exact⟨h.1,h.2.1,bC.nm h.2.2⟩
theorem bC.nm:∀{fs:aJ} {n:Nat} {c:Bool},bC fs n c->j7 fs n
 | .nil,_,_,_=>by
  unfold j7;trivial
 | .cons h k r,n,c,w=>by
  unfold bC at w;unfold j7;exact⟨xt w.2.2.1,bB.nm w.2.2.2.2.2.2.1,bC.nm w.2.2.2.2.2.2.2⟩
end
section
variable {kept:List (List Nat)}
mutual
theorem G2:∀(k:Kind) (n:Nat) (p:List Nat) (b:Kind),jc k n->f' kept k p=some b->jc b n
 | .leaf l=>λn p b _ h=>by
  unfold f' at h;split at h
  ·cases h;unfold jc;trivial
  ·cases h
 | .group c fs=>λn p b w h=>by
  unfold jc at w;have h1:=Bs fs (n-1) p w.2.2;unfold f' at h;split at h
  ·cases h
  ·rename_i hd j rest e;cases h;rw[e]at h1;unfold jc;exact⟨w.1,(by intro z;cases z),h1⟩
theorem Bs:∀(fs:aJ) (n:Nat) (p:List Nat),j7 fs n->j7 (gH kept fs p) n
 | .nil=>λn p _=>by
  unfold gH j7;trivial
 | .cons h k rest=>λn p w=>by
  unfold j7 at w;rw[gH];cases e:f' kept k (p++[h.number])with
  |none=>exact Bs rest n p w.2.2
  |some j=>
   dsimp only;unfold j7;exact⟨w.1,G2 k n _ j w.2.1 e,Bs rest n p w.2.2⟩
end
end
theorem Bt (c):∀(l),(dt c l).length<=(l.map λt=>t.length+1).sum
 |[]=>bA _
 |[s]=>by
  show s.length<=_;simp
 |s::t::l=>by
  have:=Bt c (t::l);rw[mV c s (by simp),cu,iv,aQ,bf]
  lia
theorem G3 (k)(f r' d' d)(o:List Val):(if o.isEmpty then eN (au k) [({rep:=f,defn:=d,val:=none}:E)]else bU (au k) (o.zipIdx.map λx=>bY k (if x.2=0 then f else r') r' d' x.1))=iA (λg v=>bY k g r' d' v) (au k) f r' d o:=
 Gr rfl (λ_ _=>rfl) o
mutual
theorem G4:∀(k:Kind) (n:Nat),jc k n->1<=au k
 | .leaf _=>λ_ _=>by
  unfold au;exact bA _
 | .group c fs=>λn h=>by
  unfold jc at h;unfold au;cases fs with
  |nil=>exact absurd rfl h.2.1
  |cons hd k rest=>
   have h2:=h.2.2;unfold j7 at h2;unfold aG;have:=G4 k _ h2.2.1;omega
end
theorem Qw (h:∀c∈l,2<=jz c):2*l.length<=cx l:=by
 induction l with
 |nil=>exact bA _
 |cons c l b=>
  have h2:=b λx g=>h x (aR _ g);unfold cx at h2⊢
  grind
theorem Qx (n f d):cx (eN n [({rep:=f,defn:=d,val:=none}:E)])=2*n:=by
 induction n with
 |zero=>rfl
 |succ n b=>
  rw[Eg];unfold cx at b⊢;rw[cu,iv,b];show 2+2*n=_
  lia
mutual
theorem Bu:∀(k:Kind) (n:Nat) (f r d:Nat) (v:Val),jc k n->iy k v->(cS k v).length+16<=(6+9*n)*cx (bY k f r d v)
 | .leaf l=>λn f r d v _ g=>by
  cases g with
  |leaf h=>
   rename_i x;unfold cS bY
   have:cx [[({rep:=f,defn:=d,val:=some x}:E)]]=3+(fQ x).length:=by
    show(2+(1+(fQ x).length))+0+0=_;omega
   rw[this,XW,zA];generalize 9*n*(3+(fQ x).length)=z;omega
 | .group c fs=>λn f r d v w g=>by
  cases g with
  |group g=>
   rename_i b;unfold jc at w;obtain⟨m,rfl⟩:∃m,n=m+1:=⟨n-1,by omega⟩;rw[v8]at w;obtain⟨h1,h2⟩:=G5 fs m c f r d b w.2.2 g;unfold cS bY;have h3:=Bt 59 (eT fs b)
   have h4:2<=cx (e_ fs c f r d b):=by
    have:=G4 (.group c fs) (m+1) (by unfold jc;exact w);unfold au at this;omega
   rw[bf,aQ,fE]
   have h5:(6+9*(m+1))*cx (e_ fs c f r d b)=(6+9*m)*cx (e_ fs c f r d b)+9*cx (e_ fs c f r d b):=by
    rw[<-XW];congr 1
   omega
theorem G5:∀(fs:aJ) (n:Nat) (c:Bool) (f r d:Nat) (b:List (List Val)),j7 fs n->iO fs b->((eT fs b).map λt=>t.length+1).sum<=(6+9*n)*cx (e_ fs c f r d b)/\2*aG fs<=cx (e_ fs c f r d b)
 | .nil=>λn c f r d b _ C=>by
  cases C;unfold eT e_ aG;exact⟨bR _,bR _⟩
 | .cons h k rest=>λn c f r d b w C=>by
  cases C with
  |cons u I=>
   rename_i o b;unfold j7 at w;obtain⟨L,J⟩:=G5 rest n c f r d b w.2.2 I;rw[eT,e_,aG];rw[G3,Qv,zA];cases o with
   |nil=>
    have e:cx (iA (λg v=>bY k g (r+aw h.mode) (d+defOf c h.mode) v) (au k) f (r+aw h.mode) d [])=2*au k:=Qx _ _ _;rw[e];refine⟨?_,by omega⟩;show((eT rest b).map _).sum<=_;omega
   |cons v j=>
    have F:∀(g:Nat) (x:Val),x∈v::j->(bY k g (r+aw h.mode) (d+defOf c h.mode) x).length=au k:=λg x i=>Ah k g _ _ x (u x i)
    have e:cx (iA (λg v=>bY k g (r+aw h.mode) (d+defOf c h.mode) v) (au k) f (r+aw h.mode) d (v::j))=
     cx (bY k f (r+aw h.mode) (d+defOf c h.mode) v)+((j.map λx=>bY k (r+aw h.mode) (r+aw h.mode) (d+defOf c h.mode) x).map cx).sum:=by
     show cx (bU _ (_::_))=_;rw[Br,cu,iv];intro x i;rcases cj.mp i with q|q
     ·rw[q];exact F f v aH
     ·obtain⟨y,z,rfl⟩:=dU.mp q;exact F _ y (aR _ z)
    have key:∀(l:List Val),(∀x∈l,x∈v::j)->((l.map λx=>cS k x).map λt=>t.length+1).sum<=(6+9*n)*((l.map λx=>bY k (r+aw h.mode) (r+aw h.mode) (d+defOf c h.mode) x).map cx).sum:=by
     intro l;induction l with
     |nil=>intro _;exact bR _
     |cons x l H=>
      intro G;have:=Bu k n (r+aw h.mode) (r+aw h.mode) (d+defOf c h.mode) x w.2.1 (u x (G x aH));have:=H λy z=>G y (aR _ z);rw[cu,cu,iv,cu,cu,iv,zA];omega
    have h1:=Bu k n f (r+aw h.mode) (d+defOf c h.mode) v w.2.1 (u v aH);have h2:=key j λx i=>aR _ i;have h3:=Bt 44 ((v::j).map λx=>cS k x);rw[e];refine⟨?_,?_⟩
    ·rw[if_neg (by simp),cu,iv,aQ,bf,zA];rw[cu,cu,iv]at h3;rw[cu];have:=w.1;omega
    ·have h4:2*au k<=cx (bY k f (r+aw h.mode) (d+defOf c h.mode) v):=by
      rw[<-F f v aH];exact Qw λx i=>G6 k f _ _ v (u v aH) x i
     omega
theorem G6:∀(k:Kind) (f r d:Nat) (v:Val),iy k v->∀c∈bY k f r d v,2<=jz c
 | .leaf l=>λf r d v g x b=>by
  cases g with
  |leaf h=>
   unfold bY at b;rw[g7.mp b];show 2<=(2+_)+0;omega
 | .group c fs=>λf r d v g x b=>by
  cases g with
  |group g=>
   unfold bY at b;exact G7 fs c f r d _ g x b
theorem G7:∀(fs:aJ) (c:Bool) (f r d:Nat) (g:List (List Val)),iO fs g->∀x∈e_ fs c f r d g,2<=jz x
 | .nil=>λc f r d g j x i=>by
  unfold e_ at i;exact absurd i (by simp)
 | .cons h k rest=>λc f r d g j x i=>by
  cases j with
  |cons y u=>
   rename_i o g;rw[e_]at i;rw[G3]at i;rcases gm.mp i with q|q
   ·cases o with
    |nil=>
     rw[oY q];exact bA _
    |cons v C=>
     have q:x∈bU _ (_::_):=q;rw[join_cons]at q;obtain⟨a,z,b,_,rfl⟩:=t9 q;rw[G0];have:=G6 k f _ _ v (y v aH) a z;omega
   ·exact G7 rest c f r d g u x q
end
theorem G8 (h:dj g u=some (n,r)):(n)<=g/\1<=n:=by
 have b:=(tN h).2;unfold dj at h
 grind
theorem Qy (h:dP l u=some (x,r)):dG l x=true:=by
 unfold dP at h;split at h
 ·simp only[cQ,aK]at h;rw[<-h.1];rfl
 ·simp only[cQ,aK]at h;rw[<-h.1];rfl
 ·cases h
 ·rename_i n b;simp only[cQ,aK]at h;rw[<-h.1];have:=Ap (n-1);exact(mf n 0).mpr ⟨by omega,by omega⟩
 ·rename_i n b;rw[aX]at h;obtain⟨⟨m,s⟩,e,h2⟩:=h;simp only[aK]at h2;rw[<-h2.1];have h3:=G8 e;exact(mf n _).mpr ⟨by omega,by omega⟩
 ·rename_i n _ _;rw[aX]at h;obtain⟨⟨m,s⟩,e,h2⟩:=h;simp only[aK]at h2;rw[<-h2.1];have h3:=G8 e;exact(mf n _).mpr ⟨by omega,by omega⟩
 ·rename_i n b;split at h
  ·rename_i s g e;split at h
   ·rename_i q;simp only[cQ,aK]at h;rw[<-h.1];simp[dG,q]
   simp_all
  simp_all
 simp_all
theorem Qz (g:dM k=some (h,l))(e:cV k u=some (v,r)):∃x,dW v=some x/\dG l x=true:=by
 cases k with
 |leaf _=>cases g
 |group c fs=>
  cases c with
  |true=>cases g
  |false=>
   cases fs with
   |nil=>cases g
   |cons hd G rest=>
    cases G with
    |group _ _=>cases g
    |leaf F=>
     have g:(if hd.mode= .one then some (hd,F)else none)=some (h,l):=g;by_cases q:hd.mode= .one
     ·rw[if_pos q]at g;cases g;unfold cV at e;split at e
      ·cases e
      ·split at e
       ·cases e
       ·rename_i M s i;rw[aX]at e;obtain⟨w,_,C⟩:=e;simp only[aK]at C;rw[<-C.1];rw[eC]at i;split at i
        ·split at i
         ·cases i
         ·rename_i L t b;rw[aX]at i;obtain⟨⟨J,I⟩,_,z⟩:=i;simp only[aK]at z;rw[<-z.1];unfold jv at b;split at b
          ·cases b
          ·rename_i v0 r0 j;rw[if_neg (by rw[q];decide)]at b;dsimp only at b;split at b
           ·cases b
           ·simp only[cQ,aK]at b;rw[<-b.1];have j:(dP l _).map (λx=>(Val.lit x.1,x.2))=some (v0,r0):=j;rw[aX]at j;obtain⟨⟨x,y⟩,H,o⟩:=j;simp only[aK]at o;rw[<-o.1];exact⟨x,rfl,Qy H⟩
        simp_all
     simp_all
def kL (one:aq->Option (Val×aq))(u:aq):Option (List Val×aq):=i9 one (u.length+1) u
theorem Bv {one:aq->Option (Val×aq)}(h1:∀u v r,one u=some (v,r)->r.length<u.length)(u:aq):kL one u=match cI 44 u with
 |none=>some ([],u)
 |some r=>match one r with
  |none=>none
  |some (v,s)=>(kL one s).map λx=>(v::x.1,x.2):=by
 unfold kL;rw[i9];cases e:cI 44 u with
 |none=>rfl
 |some r=>
  dsimp only;cases g:one r with
  |none=>rfl
  |some x=>
   obtain⟨v,s⟩:=x;dsimp only;have:=h1 _ _ _ g;have b:=congrArg f9 (eD.mp e);rw[bf]at b;rw[wG h1 u.length (s.length+1) s (by lia) (by lia)]
theorem Bw:∀{o},risingKeys o=true↔∀j a b,o[j]? =some a->o[j+1]? =some b->zl (dW a) (dW b)=true
 |[]=>by
  unfold risingKeys;simp
 |[v]=>by
  unfold risingKeys;simp
 |v::w::o=>by
  have k:=Bw (o:=w::o);unfold risingKeys;rw[dZ,k];constructor
  ·rintro⟨h1,h2⟩ j a b i g;cases j with
   |zero=>
    simp_all
   |succ j=>exact h2 j a b (by simpa using i) (by simpa using g)
  ·intro h;exact⟨h 0 v w rfl rfl,λj a b i g=>h (j+1) a b (by simpa using i) (by simpa using g)⟩
mutual
def Wv:Kind->Val->Prop
 | .leaf _,v=>∃x,v= .lit x
 | .group _ fs,v=>∃b,v= .group b/\h_ fs b
def h_:aJ->List (List Val)->Prop
 | .nil,b=>b=[]
 | .cons _ k r,b=>∃o g,b=o::g/\(∀v∈o,Wv k v)/\h_ r g
end
mutual
theorem iy.wv:∀{k:Kind} {v:Val},iy k v->Wv k v
 | .leaf _,_,h=>by
  cases h;unfold Wv;exact⟨_,rfl⟩
 | .group _ _,_,h=>by
  cases h with
  |group h=>
   unfold Wv;exact⟨_,rfl,iO.wv h⟩
theorem iO.wv:∀{fs:aJ} {b:List (List Val)},iO fs b->h_ fs b
 | .nil,_,h=>by
  cases h;unfold h_;rfl
 | .cons _ _ _,_,h=>by
  cases h with
  |cons h1 h2=>
   unfold h_;exact⟨_,_,rfl,λv g=>(h1 v g).wv,iO.wv h2⟩
end
section
variable {kept:List (List Nat)}
mutual
theorem G9:∀(k:Kind) (p:List Nat) (v:Val),cw (bK kept k p) v->Wv k (d5 (bK kept k p) v)
 | .leaf _=>λp v h=>by
  unfold bK at h⊢;unfold cw at h;obtain⟨x,rfl⟩:=h;unfold d5 Wv;exact⟨x,rfl⟩
 | .group c fs=>λp v h=>by
  unfold bK at h⊢;unfold cw at h;obtain⟨b,rfl,h⟩:=h;unfold d5 Wv;exact⟨_,rfl,Bx fs p b h⟩
theorem Bx:∀(fs:aJ) (p:List Nat) (g:List (List Val)),cJ (bF kept fs p) g->h_ fs (fq (bF kept fs p) g)
 | .nil=>λp g h=>by
  unfold bF fq h_;rfl
 | .cons h k rest=>λp g b=>by
  rw[bF]at b⊢;by_cases q:nk kept k (p++[h.number])=0
  ·rw[if_pos q]at b⊢;unfold cJ at b;rw[fq];unfold h_;exact⟨[],_,rfl,λv z=>absurd z (by simp),Bx rest p g b⟩
  ·rw[if_neg q]at b⊢;unfold cJ at b;obtain⟨o,i,rfl,h1,_,h3⟩:=b;rw[fq];unfold h_;refine⟨_,_,rfl,λv b=>?_,Bx rest p i h3⟩;obtain⟨x,j,rfl⟩:=dU.mp b;exact G9 k _ x (h1 x j)
end
end
theorem By (c)(l)(t):dt c (l++[t])=dt c l++((if l=[]then[]else[c])++t):=by
 induction l with
 |nil=>simp[dt]
 |cons s l b=>
  rw[ir,mV c s (by simp),b];cases l with
  |nil=>simp[dt]
  |cons g l=>simp[mV]
theorem G_ (h)(k)(r)(o)(ss):eT (.cons h k r) (o::ss)=(if o=[]then[]else[h.name++(58::dt 44 (o.map λv=>cS k v))])++eT r ss:=by
 rw[eT];cases o with
 |nil=>simp
 |cons v o=>simp
theorem xu (c):∀(a b),dt c (a++b)=dt c a++((if a=[]\/b=[]then[]else[c])++dt c b)
 |[]=>λb=>by simp[dt]
 |[s]=>λb=>by
  cases b with
  |nil=>simp[dt]
  |cons t b=>simp[mV,dt]
 |s::t::a=>λb=>by
  have:=xu c (t::a) b;rw[ir,mV c s (by simp),this,mV c s (by simp)];cases b with
  |nil=>simp
  |cons u b=>simp
abbrev Ent:=vW
def qY (e:Ent):List Nat:=e.rep::e.defn::(match e.val with
 |none=>[]
 |some v=>(fQ v).length::fQ v)
def numsOf (l:List Ent):List Nat:=l.flatMap qY
theorem m4 (a b):numsOf (a++b)=numsOf a++numsOf b:=zB
def cX (es:Nat->List Ent)(a:Nat)(new:List (List Ent)):Nat->List Ent:=λj=>es j++(if a<=j then(new[j-a]?).getD []else[])
theorem G' (es)(a):cX es a []=es:=by
 unfold cX;simp
theorem Ha (es)(a)(x y):cX (cX es a x) (a+x.length) y=cX es a (x++y):=by
 funext j;unfold cX
 grind
theorem QA (es)(a n):cX es a (eN n [])=es:=by
 funext j;unfold cX;rw[XX];split
 ·split<;>simp
 simp
theorem QB (es)(a)(h:x.length=y.length):cX (cX es a x) a y=cX es a (iH (λx y=>x++y) x y):=by
 funext j;unfold cX;rw[c9];by_cases q:a<=j
 ·rw[if_pos q,if_pos q,if_pos q,XC];by_cases h2:j-a<x.length
  ·rw[eI h2,eI (by lia)];rfl
  simp_all
 ·rw[if_neg q,if_neg q,if_neg q];rfl
theorem QC (es)(a n):cX es a (bU n [])=es:=QA es a n
theorem Hb (es)(a n)(b:x.length=n)(g:∀y∈l,y.length=n):cX (cX es a x) a (bU n l)=cX es a (bU n (x::l)):=
 QB es a (by rw[b,qM g])
theorem xw (es)(a)(x)(j):(numsOf (es j)).length<=(numsOf (cX es a x j)).length:=by
 unfold cX;rw[m4,aQ];simp
mutual
theorem qZ:∀(k:Kind) (first r d:Nat) (v:Val),Wv k v->(bY k first r d v).length=au k
 | .leaf l=>λfirst r d v h=>by
  unfold Wv at h;obtain⟨x,rfl⟩:=h;unfold bY au;rfl
 | .group c fs=>λfirst r d v h=>by
  unfold Wv at h;obtain⟨b,rfl,h⟩:=h;unfold bY au;exact Hc fs c first r d _ h
theorem Hc:∀(fs:aJ) (c:Bool) (first r d:Nat) (b:List (List Val)),h_ fs b->(e_ fs c first r d b).length=aG fs
 | .nil=>λc first r d b h=>by
  unfold e_ aG;rfl
 | .cons hd k rest=>λc first r d b h=>by
  unfold h_ at h;obtain⟨o,g,rfl,z,y⟩:=h;unfold e_ aG;dsimp only;rw[aQ,Hc rest c first r d g y];congr 1;split
  ·rw[zj]
  ·refine qM λx j=>?_;obtain⟨⟨v,i⟩,u,rfl⟩:=dU.mp j;refine qZ k _ _ _ v (z v ?_);have C:=sR u;rw[C.2.2];exact qj _
end
def q_ (h:g6)(k:Kind)(c:Bool)(first r d:Nat)(o:List Val):List (List Ent):=
 if o=[]then eN (au k) [{rep:=first,defn:=d,val:=none}]
 else bU (au k) (o.zipIdx.map λx=>bY k (if x.2=0 then first else r+aw h.mode) (r+aw h.mode) (d+defOf c h.mode) x.1)
theorem He (h)(k)(rest)(c)(first r d)(o)(ss):
 e_ (.cons h k rest) c first r d (o::ss)=q_ h k c first r d o++e_ rest c first r d ss:=by
 cases o with
 |nil=>rfl
 |cons v o=>rfl
theorem Hf {o:List Val}(h:∀v∈o,Wv k v):∀y∈(o.zipIdx.map λx=>bY k (if x.2=0 then first else r) r d x.1),y.length=au k:=by
 intro x b;obtain⟨⟨v,i⟩,g,rfl⟩:=dU.mp b;refine qZ k _ _ _ v (h v ?_);have j:=sR g;simp_all
theorem xx (b:∀v∈o,Wv k v):(q_ h k c first r d o).length=au k:=by
 unfold q_;split
 ·rw[zj]
 ·exact qM (Hf b)
theorem QD (k)(first r d)(v)(o):((v::o).zipIdx.map λx=>bY k (if x.2=0 then first else r) r d x.1)=bY k first r d v::(o.map λv=>bY k r r d v):=by
 rw[Ek,cu];congr 1;refine NL λj=>?_;rw[dB,dB,XY];cases o[j]? with
 |none=>rfl
 |some x=>
  simp_all
theorem Hg:∀(f n) (b),b.length<=(zg f n b).length
 |0=>λn b=>bA _
 |f+1=>λn b=>by
  rw[zg];split
  ·simp
  ·refine eA ?_ (Hg f _ _);simp
theorem QE (n):1<=(sO n).length:=by
 rw[sO,zg];split
 ·simp
 ·refine eA ?_ (Hg _ _ _);simp
theorem QG:∀x:Lit,1<=(fQ x).length
 | .num z=>by
  rw[fQ,Nq];split
  ·rw[bf];simp
  ·exact QE _
 | .str s=>by
  rw[fQ,showStr];simp
theorem Hh (c)(f)(g):∀(o:List Val),(∀v∈o,g v<=4*(f v).length)->(o.map g).sum<=4*(dt c (o.map f)).length
 |[]=>λ_=>by simp
 |v::o=>λh=>by
  have h1:=h v aH;have h2:=Hh c f g o λx b=>h x (aR _ b);cases o with
  |nil=>
   simp[dt]at h1⊢;omega
  |cons y o=>
   rw[cu (f:=g),cu (f:=f),mV c (f v) (l:=(y::o).map f) (by simp),iv]
   grind
theorem QH {o:List Val}(g:∀v∈o,Wv k v)(h:n=au k)(i:j<n):
 (((bU n (o.zipIdx.map λx=>bY k (if x.2=0 then first else r) r d x.1))[j]?).getD [])=o.zipIdx.flatMap λx=>((bY k (if x.2=0 then first else r) r d x.1)[j]?).getD []:=by
 rw[Ag i (λy b=>by rw[h];exact Hf g y b),Nr];rfl
theorem Hi (f)(g:Val->Nat):∀(l:List (Val×Nat)),(∀x∈l,(numsOf (f x)).length<=g x.1)->(numsOf (l.flatMap f)).length<=(l.map λx=>g x.1).sum
 |[]=>λ_=>by simp[numsOf]
 |x::l=>λh=>by
  have h1:=h x aH;have h2:=Hi f g l λx b=>h x (aR _ b);rw[qi,m4,aQ,cu,iv]
  lia
theorem QI (g:Val->Nat)(o:List Val):(o.zipIdx.map λx=>g x.1)=o.map g:=by
 refine NL λj=>?_;rw[dB,dB,XY];cases o[j]? <;>rfl
mutual
theorem Hj:∀(k:Kind) (first r d:Nat) (v:Val) (j:Nat),Wv k v->(numsOf (((bY k first r d v)[j]?).getD [])).length<=4*(cS k v).length
 | .leaf l=>λfirst r d v j h=>by
  unfold Wv at h;obtain⟨x,rfl⟩:=h;have:=QG x;rw[bY,cS];cases j with
  |zero=>
   simp[numsOf,qY];omega
  |succ j=>simp[numsOf]
 | .group c fs=>λfirst r d v j h=>by
  unfold Wv at h;obtain⟨b,rfl,h⟩:=h;have:=Hk fs c first r d b j h;rw[bY,cS];simp only[bf,aQ];omega
theorem Hk:∀(fs:aJ) (c:Bool) (first r d:Nat) (b:List (List Val)) (j:Nat),h_ fs b->(numsOf (((e_ fs c first r d b)[j]?).getD [])).length<=4*(dt 59 (eT fs b)).length+2
 | .nil=>λc first r d b j h=>by
  rw[e_];simp[numsOf]
 | .cons hd k rest=>λc first r d b j h=>by
  unfold h_ at h;obtain⟨o,z,rfl,g,F⟩:=h;have H:=Hk rest c first r d z (j-au k) F;rw[He,G_,xu];by_cases u:j<au k
  ·rw[NM (by rw[xx g];exact u)];unfold q_;by_cases y:o=[]
   ·rw[if_pos y,XX,if_pos u];show 2<=_;omega
   ·rw[if_neg y,if_neg y,QH g rfl u]
    have h1:=Hi (λx=>((bY k (if x.2=0 then first else r+aw hd.mode) (r+aw hd.mode) (d+defOf c hd.mode) x.1)[j]?).getD []) (λv=>4*(cS k v).length) o.zipIdx (λx C=>by
     refine Hj k _ _ _ x.1 j (g _ ?_);have G:=sR (x:=x.1) (i:=x.2) C;rw[G.2.2];exact qj _)
    have e:=QI (λv=>4*(cS k v).length) o;rw[e]at h1;have h2:=Hh 44 (λv=>cS k v) (λv=>4*(cS k v).length) o λv _=>bA _
    have h3:(dt 59 [hd.name++(58::dt 44 (o.map λv=>cS k v))]).length>=(dt 44 (o.map λv=>cS k v)).length:=by
     simp[dt];omega
    rw[aQ];omega
  ·rw[NG (by rw[xx g];omega),xx g];simp only[aQ];omega
end
def fI:aJ->aJ->aJ
 | .nil,r=>r
 | .cons h k l,r=> .cons h k (fI l r)
def jd (l:aJ)(h:g6)(k:Kind):aJ:=fI l (.cons h k .nil)
theorem Hl:∀l:aJ,fI l .nil=l
 | .nil=>rfl
 | .cons h k l=>by rw[fI,Hl l]
theorem Hm:∀(l) (h) (k) (r),fI (jd l h k) r=fI l (.cons h k r)
 | .nil=>λh k r=>rfl
 | .cons g b l=>λh k r=>by
  have:=Hm l h k r;unfold jd at this⊢;rw[fI,fI,fI,this]
theorem Hn:∀l r:aJ,(fI l r).list=l.list++r.list
 | .nil=>λr=>rfl
 | .cons h k l=>λr=>by
  show(h,k)::(fI l r).list=_;rw[Hn l r];rfl
theorem Ho:∀l r:aJ,aG (fI l r)=aG l+aG r
 | .nil=>λr=>by
  rw[fI,aG];simp
 | .cons h k l=>λr=>by
  rw[fI,aG,aG,Ho l r]
  lia
theorem Bz (l)(h)(k):aG (jd l h k)=aG l+au k:=by
 unfold jd;rw[Ho,aG,aG];rfl
theorem BA (l)(h)(k):(jd l h k).list=l.list++[(h,k)]:=Hn l _
theorem QJ (l)(n)(name):gh l.reverse n name=gh l n name:=by
 unfold gh;simp_all
theorem Hq:hW (λc r=>eP (d+1) c [] used r) d used t3=hW (λc r=>fA t3.length (d+1) c [] used r) d used t3:=
 FQ λc r b=>tZ (by lia) (by omega) _ _ _ _
theorem QK (h:hW (λc r=>eP (d+1) c [] used r) d used t3=some (k,t4)):t4.length<t3.length:=by
 rw[Hq]at h;exact(tU.mp h).len
theorem Hr (h:hW (λc r=>eP (d+1) c [] used r) d used t3=some (k,t4))(j:used<=40):(∀l,k= .leaf l->iz l)/\(∀c fs,k= .group c fs->fs≠.nil)/\used+au k<=40:=by
 rw[Hq]at h;rcases tU.mp h with⟨c,z,r,i,hd,g,rfl⟩|⟨hno,l,g,rfl⟩
 ·obtain⟨a,b,_⟩:=wQ _ _ _ _ _ _ _ _ g (by lia);have lv:=tV _ _ _ _ _ _ _ _ g j;refine⟨λl e=>?_,λu o e=>?_,?_⟩
  ·first
    |(subst i;cases e)
    |cases e
  ·first
    |(cases e;exact b)
    |(subst i;cases e;exact b)
  ·rw[au]
   lia
 ·have:=wK g;refine⟨λy e=>?_,λu o e=>?_,?_⟩
  ·cases e;simp_all
  ·cases e
  ·rw[au]
   lia
theorem Hs (e:mX d ch b used t=some (h,k,t5))(L:used<=40):t5.length<t.length/\used+au k<=40:=by
 unfold mX at e;cases u:dj 999 t with
 |none=>rw[u]at e;cases e
 |some F=>
  obtain⟨number,J⟩:=F;rw[u]at e;dsimp only at e;cases o:jV J with
  |none=>rw[o]at e;cases e
  |some C=>
   obtain⟨name,I⟩:=C;rw[o]at e;dsimp only at e;split at e
   ·cases e
   ·cases j:jW ch I with
    |none=>rw[j]at e;cases e
    |some z=>
     obtain⟨mode,H⟩:=z;rw[j]at e;dsimp only at e;cases g:hW (λc r=>eP (d+1) c [] used r) d used H with
     |none=>rw[g]at e;cases e
     |some y=>
      obtain⟨kind,G⟩:=y;rw[g]at e;dsimp only at e;split at e
      ·cases e
      ·cases i:jX ch mode kind G with
       |none=>rw[i]at e;cases e
       |some M=>
        rw[i]at e;simp only[cQ,aK]at e;obtain⟨_,rfl,rfl⟩:=e;have W:=nV u;have U:=(tX o).1;have T:=(tY j).1;have P:=QK g;have O:=wL i;exact⟨by lia,(Hr g L).2.2⟩
open Vacolc (takeEntry takeEntries takeColumns)
def pNum:List Int->Option (Nat×List Int)
 |[]=>none
 |n::r=>if n<0 then none else some (n.toNat,r)
def lC (b:Int):Bool:=decide (b<0)||decide (255<b)
def j8 (u:List Int):Option (aq×List Int):=match pNum u with
 |none=>none
 |some (n,m)=>if m.length<n then none else if(m.take n).any lC=true then none else some ((m.take n).map b_,m.drop n)
def j9 (l:bN)(D:Nat)(u:List Int):Option (vW×List Int):=match pNum u with
 |none=>none
 |some (r,h)=>match pNum h with
  |none=>none
  |some (d,b)=>if d=D then(match j8 b with
    |none=>none
    |some (t,g)=>some (⟨r,d,g8 l t⟩,g))
   else some (⟨r,d,none⟩,b)
def fY (l:bN)(e:Raw):vW:=⟨e.rep,e.defn,e.text.bind (g8 l)⟩
theorem rh (h:n<0):pNum (n::r)=none:=by
 rw[pNum,if_pos h]
theorem rj (h:¬n<0):pNum (n::r)=some (n.toNat,r):=by
 rw[pNum,if_neg h]
theorem QL (l)(D)(u):j9 l D u=(qA D u).map λx=>(fY l x.1,x.2):=by
 unfold j9;match u with
 |[]=>rfl
 |[r]=>
  rw[qA]
  ·by_cases g:r<0
   ·rw[rh g];rfl
   ·rw[rj g];rfl
  simp_all
 |r::d::m=>
  unfold qA;dsimp only;by_cases g:r<0
  ·rw[rh g,if_pos (show r<0\/d<0 from .inl g)];rfl
  ·rw[rj g];dsimp only;by_cases hd:d<0
   ·rw[rh hd,if_pos (show r<0\/d<0 from .inr hd)];rfl
   ·rw[rj hd,if_neg (show¬(r<0\/d<0) by rintro(z|z)<;>contradiction)];dsimp only;by_cases i:d.toNat=D
    ·rw[if_pos i,if_pos i];unfold j8;cases m with
     |nil=>rfl
     |cons n m=>
      dsimp only;by_cases j:n<0
      ·rw[rh j,if_pos (show n<0\/m.length<n.toNat\/((m.take n.toNat).any λb=>decide (b<0)||decide (255<b))=true from .inl j)];rfl
      ·rw[rj j];dsimp only;by_cases k:m.length<n.toNat
       ·rw[if_pos k,if_pos (show n<0\/m.length<n.toNat\/((m.take n.toNat).any λb=>decide (b<0)||decide (255<b))=true from .inr (.inl k))];rfl
       ·rw[if_neg k];by_cases h:(m.take n.toNat).any lC=true
        ·rw[if_pos h,if_pos (show n<0\/m.length<n.toNat\/((m.take n.toNat).any λb=>decide (b<0)||decide (255<b))=true from .inr (.inr h))];rfl
        ·rw[if_neg h,if_neg (show¬(n<0\/m.length<n.toNat\/((m.take n.toNat).any λb=>decide (b<0)||decide (255<b))=true) by rintro(z|z|z)<;>first|contradiction|exact h z)];unfold fY;simp_all
    ·rw[if_neg i,if_neg i];rfl
theorem nX (h:pNum u=some (n,r)):u.length=r.length+1/\∃v,u=v::r:=by
 cases u with
 |nil=>cases h
 |cons a u=>
  rw[pNum]at h;simp_all
theorem QM (h:j8 u=some (t,r)):r.length<u.length:=by
 unfold j8 at h;cases e:pNum u with
 |none=>rw[e]at h;cases h
 |some x=>
  rw[e]at h;dsimp only at h;split at h
  ·cases h
  ·split at h
   ·cases h
   ·have:=(nX e).1
    grind
theorem Ht (h:j9 l D u=some (x,r)):r.length+2<=u.length:=by
 unfold j9 at h;cases e:pNum u with
 |none=>rw[e]at h;cases h
 |some y=>
  obtain⟨n,m⟩:=y;rw[e]at h;dsimp only at h;have h1:=(nX e).1;cases g:pNum m with
  |none=>rw[g]at h;cases h
  |some i=>
   obtain⟨o,j⟩:=i;rw[g]at h;dsimp only at h;have h2:=(nX g).1;split at h
   ·cases b:j8 j with
    |none=>rw[b]at h;cases h
    |some k=>
     rw[b]at h;cases h;have:=QM b
     lia
   simp_all
def d6 (l:bN)(D:Nat):Nat->List Int->Option (List vW×List Int)
 |0,u=>some ([],u)
 |n+1,u=>(j9 l D u).bind λx=>(d6 l D n x.2).map λy=>(x.1::y.1,y.2)
theorem BB (l)(D):∀(n) (u),d6 l D n u=(lZ D n u).map λx=>(x.1.map (fY l),x.2)
 |0=>λu=>rfl
 |n+1=>λu=>by
  rw[d6,lZ,QL];cases qA D u with
  |none=>rfl
  |some x=>
   show(d6 l D n x.2).map _=_;rw[BB l D n x.2];show _=fb _ ((lZ D n x.2).map _);cases lZ D n x.2<;>rfl
theorem Hu:∀{n} {u r} {x},d6 l D n u=some (x,r)->r.length+2*n<=u.length/\x.length=n
 |0,u,r,x,h=>by
  cases h;simp_all
 |n+1,u,r,x,h=>by
  rw[d6]at h;cases e:j9 l D u with
  |none=>rw[e]at h;cases h
  |some y=>
   rw[e]at h;have h:(d6 l D n y.2).map (λz=>(y.1::z.1,z.2))=some (x,r):=h;cases b:d6 l D n y.2 with
   |none=>rw[b]at h;cases h
   |some z=>
    have h1:=Ht (show j9 l D u=some (y.1,y.2)from e);have h2:=Hu (show d6 l D n y.2=some (z.1,z.2)from b)
    grind
def fJ:List (bN×Nat)->List Int->Option (List (List vW)×List Int)
 |[],u=>some ([],u)
 |c::b,u=>(pNum u).bind λx=>(d6 c.1 c.2 x.1 x.2).bind λy=>(fJ b y.2).map λz=>(y.1::z.1,z.2)
theorem BC:∀(b) (u),((fJ (b.map λc=>(c.leaf,c.defn)) u).bind λx=>if x.2=[]then some x.1 else none)=(fS b u).map λj=>(b.zip j).map λx=>x.2.map (fY x.1.leaf)
 |[]=>λu=>by
  cases u<;>rfl
 |c::b=>λu=>by
  unfold fS;rw[cu,fJ];cases u with
  |nil=>rfl
  |cons n m=>
   dsimp only;by_cases h:n<0
   ·rw[rh h,if_pos (show n<0\/m.length<2*n.toNat from .inl h)];rfl
   ·rw[rj h];show fk ((d6 c.leaf c.defn n.toNat m).bind _) _=_;rw[BB];by_cases k:m.length<2*n.toNat
    ·rw[if_pos (show n<0\/m.length<2*n.toNat from .inr k)];cases e:lZ c.defn n.toNat m with
     |none=>rfl
     |some x=>
      have:d6 c.leaf c.defn n.toNat m=some (x.1.map (fY c.leaf),x.2):=by rw[BB,e];rfl
      have:=(Hu this).1
      lia
    ·rw[if_neg (show¬(n<0\/m.length<2*n.toNat) by rintro(z|z)<;>contradiction)];cases lZ c.defn n.toNat m with
     |none=>rfl
     |some x=>
      show fk ((fJ _ x.2).map _) _=fb _ ((fS b x.2).map _);have g:=BC b x.2;cases o:fJ (b.map λc=>(c.leaf,c.defn)) x.2 with
      |none=>
       rw[o]at g;cases i:fS b x.2 with
       |none=>rfl
       |some y=>rw[i]at g;cases g
      |some z=>
       cases i:fS b x.2 with
       |none=>
        simp_all
       |some y=>
        simp_all
theorem Hv:∀{b} {u} {x},fS b u=some x->x.length=b.length
 |[],u,x,h=>by
  rw[fS]at h;simp_all
 |c::b,u,x,h=>by
  unfold fS at h;split at h
  ·split at h
   ·cases h
   ·rename_i n m _;cases e:lZ c.defn n.toNat m with
    |none=>rw[e]at h;cases h
    |some y=>
     rw[e]at h;have h:(fS b y.2).map (λz=>y.1::z)=some x:=h;cases g:fS b y.2 with
     |none=>rw[g]at h;cases h
     |some z=>
      rw[g]at h;cases h;rw[bf,bf,Hv g]
  simp_all
inductive Al (R:List E->List E->Prop):List (List E)->List (List E)->Prop
 |nil:Al R [] []
 |cons {a b} {as bs}:R a b->Al R as bs->Al R (a::as) (b::bs)
def lD (a b:List E):Prop:=∃v,v≠[]/\b=v++a
def Suf (a b:List E):Prop:=∃v,b=v++a
theorem lD.eK (h:lD a b):Suf a b:=⟨h.choose,h.choose_spec.2⟩
section
variable {R S T:List E->List E->Prop}
theorem Al.len:∀{a b},Al R a b->a.length=b.length
 |_,_,.nil=>rfl
 |_,_,.cons _ h=>by rw[bf,bf,h.len]
theorem Al.app:∀{a b c d},Al R a b->Al R c d->Al R (a++c) (b++d)
 |_,_,_,_,.nil,h=>h
 |_,_,_,_,.cons x y,h=> .cons x (y.app h)
theorem Al.imp (f:∀a b,R a b->S a b):∀{a b},Al R a b->Al S a b
 |_,_,.nil=> .nil
 |_,_,.cons x y=> .cons (f _ _ x) (y.imp f)
theorem Al.tr (f:∀a b c,R a b->S b c->T a c):∀{a b c},Al R a b->Al S b c->Al T a c
 |_,_,_,.nil,.nil=> .nil
 |_,_,_,.cons x y,.cons h g=> .cons (f _ _ _ x h) (y.tr f g)
theorem Al.xy (f:∀a,R a a):∀(a),Al R a a
 |[]=> .nil
 |x::a=> .cons (f x) (Al.xy f a)
end
theorem Suf.tr (h:Suf a b)(g:Suf b c):Suf a c:=by
 obtain⟨v,rfl⟩:=h;obtain⟨w,rfl⟩:=g;exact⟨w++v,by rw[c9]⟩
theorem Suf.st (h:Suf a b)(g:lD b c):lD a c:=by
 obtain⟨v,rfl⟩:=h;obtain⟨w,i,rfl⟩:=g;exact⟨w++v,λz=>i (List.append_eq_nil_iff.mp z).1,by rw[c9]⟩
theorem BD (h:fB bs=some b):∀x∈bs,x=b:=by
 cases bs with
 |nil=>cases h
 |cons y bs=>
  rw[fB]at h
  grind
theorem Hw:∀{b},(∀x∈b,x≠[])->Al lD (b.map ql) b
 |[],_=> .nil
 |x::b,h=>by
  refine .cons ?_ (Hw λy g=>h y (aR _ g));cases x with
  |nil=>exact absurd rfl (h [] aH)
  |cons e es=>exact⟨[e],by simp,rfl⟩
section
variable {one:List (List E)->Option (Val×List (List E))}{test:List E->Bool}{n:Nat}
def rm (one:List (List E)->Option (Val×List (List E)))(n:Nat):Prop:=∀b v c,b.length=n->(∀x∈b,x≠[])->one b=some (v,c)->Al lD c b
theorem uk (h:test []=false){b:List (List E)}(e:fB (b.map test)=some true):∀x∈b,x≠[]:=λx g z=>by
 have:=BD e (test x) (dY g);simp_all
theorem Hx (j:test []=false)(h1:rm one n):∀(f) (g) (o) (c),g.length=n->jY one test f g=some (o,c)->Al Suf c g
 |0=>λ_ _ _ _ h=>by cases h
 |f+1=>λg o c k h=>by
  rw[jY]at h;cases e:fB (g.map test)with
  |none=>rw[e]at h;cases h
  |some b=>
   rw[e]at h;cases b with
   |false=>
    cases h;exact Al.xy (λa=>⟨[],rfl⟩) _
   |true=>
    cases i:one g with
    |none=>rw[i]at h;cases h
    |some z=>
     obtain⟨v,I⟩:=z;rw[i]at h;obtain⟨⟨C,H⟩,G,F⟩:=aX.mp h;cases F;have u:=h1 _ _ _ k (uk j e) i;have J:=Hx j h1 f I C H (by rw[u.len,k]) G;exact J.tr (λ_ _ _ x y=>x.tr y.eK) u
theorem Hy (h1:rm one n)(k:cols.length=n)(j:∀x∈cols,x≠[])(h:fV one m cap r' d' cols=some (o,c)):Al lD c cols:=by
 rw[fV]at h;cases e:fB (cols.map (reach d'))with
 |none=>rw[e]at h;cases h
 |some b=>
  rw[e]at h;cases b with
  |false=>
   cases h;exact Hw j
  |true=>
   dsimp only at h;cases i:one cols with
   |none=>rw[i]at h;cases h
   |some z=>
    obtain⟨v,C⟩:=z;rw[i]at h;dsimp only at h;have u:=h1 _ _ _ k j i;by_cases q:aw m=1
    ·rw[if_pos q]at h;cases g:eE one (eQ r') C with
     |none=>rw[g]at h;cases h
     |some z=>
      rw[g]at h;dsimp only at h;split at h
      ·cases h;exact(Hx (test:=eQ r') rfl h1 _ _ _ _ (by rw[u.len,k]) g).tr (λ_ _ _ x y=>x.st y) u
      simp_all
    simp_all
end
mutual
theorem Hz:∀(bk:BK) (r d:Nat),rm (λx=>dD bk r d x) (aI bk)
 | .leaf l=>λr d g v c b i h=>by
  have h:dD _ r d g=some (v,c):=h;unfold dD at h;unfold aI at b;cases g with
  |nil=>cases b
  |cons x j=>
   have o:j=[]:=iq.mp (by simpa using b);subst o;cases x with
   |nil=>cases h
   |cons e es=>
    obtain⟨y,_,u⟩:=aX.mp h;cases u;exact .cons ⟨[e],by simp,rfl⟩ .nil
 | .group ch fs=>λr d g v c b i h=>by
  have h:dD _ r d g=some (v,c):=h;unfold dD at h;cases e:eV fs ch r d g with
  |none=>rw[e]at h;cases h
  |some z=>
   obtain⟨k,x⟩:=z;rw[e]at h;dsimp only at h;split at h
   ·cases h;unfold aI at b;exact BE fs ch r d g k _ b i e
   ·cases h
theorem BE:∀(fs:BF) (ch:Bool) (r d:Nat) (b:List (List E)) (i:List (List Val)) (c:List (List E)),b.length=dH fs->(∀x∈b,x≠[])->eV fs ch r d b=some (i,c)->Al lD c b
 | .nil=>λch r d b i c g j h=>by
  unfold eV at h;cases h;unfold dH at g;rw[iq.mp g];exact .nil
 | .skip rest=>λch r d b i c g j h=>by
  unfold eV at h;unfold dH at g;exact BE rest ch r d b i c g j h
 | .cons m G k rest=>λch r d b i c g j h=>by
  unfold eV at h;unfold dH at g;cases e:fV (λx=>dD k (r+aw m) (d+defOf ch m) x) m G (r+aw m) (d+defOf ch m) (b.take (aI k))with
  |none=>rw[e]at h;cases h
  |some z=>
   obtain⟨o,L⟩:=z;rw[e]at h;dsimp only at h;obtain⟨⟨y,H⟩,F,C⟩:=aX.mp h;cases C;have J:=Hy (Hz k _ _) (by rw[gq];omega) (λx u=>j x (qr u)) e;have I:=BE rest ch r d _ y H (by rw[o9];omega) (λx u=>j x (zp u)) F;have:=J.app I;rw[il]at this;exact this
end
section
variable {one:List (List E)->Option (Val×List (List E))}{test:List E->Bool}{P:Val->Prop}
theorem HA (h1:∀g v c,one g=some (v,c)->P v):∀(f) (g) (o) (c),jY one test f g=some (o,c)->∀v∈o,P v
 |0=>λ_ _ _ h=>by cases h
 |f+1=>λg o c h=>by
  rw[jY]at h;cases e:fB (g.map test)with
  |none=>rw[e]at h;cases h
  |some b=>
   rw[e]at h;cases b with
   |false=>
    simp_all
   |true=>
    cases i:one g with
    |none=>rw[i]at h;cases h
    |some z=>
     obtain⟨v,G⟩:=z;rw[i]at h;obtain⟨⟨j,F⟩,C,u⟩:=aX.mp h;cases u;intro y k;rcases cj.mp k with z|z
     ·rw[z];exact h1 _ _ _ i
     ·exact HA h1 f G j F C y z
theorem QN (h1:∀g v c,one g=some (v,c)->P v)(h:fV one m cap r' d' g=some (o,c)):(∀v∈o,P v)/\(aw m=0->o.length<=1):=by
 rw[fV]at h;cases e:fB (g.map (reach d'))with
 |none=>rw[e]at h;cases h
 |some b=>
  rw[e]at h;cases b with
  |false=>
   simp_all
  |true=>
   dsimp only at h;cases j:one g with
   |none=>rw[j]at h;cases h
   |some z=>
    obtain⟨v,u⟩:=z;rw[j]at h;dsimp only at h;by_cases q:aw m=1
    ·rw[if_pos q]at h;cases i:eE one (eQ r') u with
     |none=>rw[i]at h;cases h
     |some z=>
      rw[i]at h;dsimp only at h;split at h
      ·cases h;refine⟨λy k=>?_,λz=>by lia⟩;rcases cj.mp k with z|z
       ·rw[z];exact h1 _ _ _ j
       ·exact HA h1 _ _ _ _ i y z
      simp_all
    grind
end
mutual
theorem QO:∀(bk:BK) (r d:Nat) (b:List (List E)) (v:Val) (c:List (List E)),dD bk r d b=some (v,c)->cw bk v
 | .leaf l=>λr d b v c h=>by
  unfold dD at h;split at h
  ·obtain⟨y,_,i⟩:=aX.mp h;cases i;unfold cw;exact⟨_,rfl⟩
  ·cases h
 | .group ch fs=>λr d b v c h=>by
  unfold dD at h;cases e:eV fs ch r d b with
  |none=>rw[e]at h;cases h
  |some z=>
   obtain⟨g,x⟩:=z;rw[e]at h;dsimp only at h;split at h
   ·cases h;unfold cw;exact⟨_,rfl,xA fs ch r d b g _ e⟩
   ·cases h
theorem xA:∀(fs:BF) (ch:Bool) (r d:Nat) (b:List (List E)) (g:List (List Val)) (c:List (List E)),eV fs ch r d b=some (g,c)->cJ fs g
 | .nil=>λch r d b g c h=>by
  unfold eV at h;cases h;unfold cJ;rfl
 | .skip rest=>λch r d b g c h=>by
  unfold eV at h;unfold cJ;exact xA rest ch r d b g c h
 | .cons m F k rest=>λch r d b g c h=>by
  unfold eV at h;cases e:fV (λx=>dD k (r+aw m) (d+defOf ch m) x) m F (r+aw m) (d+defOf ch m) (b.take (aI k))with
  |none=>rw[e]at h;cases h
  |some z=>
   obtain⟨o,H⟩:=z;rw[e]at h;dsimp only at h;obtain⟨⟨i,G⟩,C,y⟩:=aX.mp h;cases y;unfold cJ;obtain⟨u,j⟩:=QN (P:=λv=>cw k v) (λb v c q=>QO k _ _ b v c q) e;exact⟨o,i,rfl,u,j,xA rest ch r d _ i G C⟩
end
theorem xB (h:Al lD c cols)(g:cols≠[]):gL c<gL cols:=by
 cases h with
 |nil=>exact absurd rfl g
 |cons x y=>
  obtain⟨v,b,rfl⟩:=x;show f9 _<f9 (v++_);have:=zk.mpr b;simp_all
theorem HB (o:1<=n)(k:test []=false)(h1:rm one n):∀(f g) (i),i.length=n->gL i<f->gL i<g->jY one test f i=jY one test g i
 |0,_=>λ_ _ h _=>absurd h (k_ _)
 |_+1,0=>λ_ _ _ h=>absurd h (k_ _)
 |f+1,g+1=>λi j C y=>by
  rw[jY,jY];cases e:fB (i.map test)with
  |none=>rfl
  |some b=>
   cases b with
   |false=>rfl
   |true=>
    cases u:one i with
    |none=>rfl
    |some z=>
     obtain⟨v,c⟩:=z;dsimp only;have a:=h1 _ _ _ j (uk k e) u;have lt:=xB a (λz=>by rw[z]at j;simp at j;lia);rw[HB o k h1 f g c (by rw[a.len,j]) (by lia) (by lia)]
theorem HC {one:List (List E)->Option (Val×List (List E))}{test:List E->Bool}{n:Nat}(j:1<=n)(i:test []=false)(h1:rm one n){g:List (List E)}(h:g.length=n):
 eE one test g=match fB (g.map test)with
  |none=>none
  |some false=>some ([],g)
  |some true=>match one g with
   |none=>none
   |some (v,c)=>(eE one test c).map λx=>(v::x.1,x.2):=by
 unfold eE;rw[jY];cases e:fB (g.map test)with
 |none=>rfl
 |some b=>
  cases b with
  |false=>rfl
  |true=>
   cases k:one g with
   |none=>rfl
   |some z=>
    obtain⟨v,c⟩:=z;dsimp only;have a:=h1 _ _ _ h (uk i e) k;have lt:=xB a (λz=>by rw[z]at h;simp at h;lia);rw[HB j i h1 (gL g) (gL c+1) c (by rw[a.len,h]) (by omega) (by lia)]
theorem BG:∀(fs) (b),cJ fs b->taken (fq fs b)=taken b
 | .nil=>λb h=>by
  rw[h,fq]
 | .skip r=>λb h=>by
  rw[fq,qW,BG r b h];simp
 | .cons m i k r=>λb h=>by
  obtain⟨o,g,rfl,_,_,h⟩:=h;rw[fq,qW,qW,BG r g h];simp_all
theorem QP (w:bB k n)(e:dM k=some (h,l))(T:tell a=true)(I:∀x∈cols,reach d x=true)
 (G:∀x j,cols=x::j->∀t∈x,∀y,t.val=some y->gO l y) (q:dD (br tell k a) r d cols=some (v,c)):(∃x,dW v=some x/\gO l x)/\dW (d5 (br tell k a) v)=dW v:=by
 obtain⟨_,rest,rfl,F⟩:=ue w e
 have H:cnt tell a (au (.leaf l))≠0:=by
  unfold au cnt;simp_all
 rw[br,dE,if_neg H,F,br]at q⊢;unfold dD at q;cases i:eV (.cons .one (gP tell (.leaf l) a) (.leaf l) (dE tell rest (a+au (.leaf l)))) false r d cols with
 |none=>rw[i]at q;cases q
 |some z=>
  rw[i]at q;dsimp only at q;split at q;rotate_left
  ·cases q
  cases q;unfold eV at i
  have J:aI (.leaf l)=1:=by
   rfl
  rw[J]at i;cases b:fV (λx=>dD (.leaf l) (r+aw .one) (d+defOf false .one) x) .one (gP tell (.leaf l) a) (r+aw .one) (d+defOf false .one) (cols.take 1)with
  |none=>rw[b]at i;cases i
  |some z=>
   rw[b]at i;obtain⟨⟨P,W⟩,U,O⟩:=aX.mp i;cases O;rw[fV]at b;cases cols with
   |nil=>cases b
   |cons x j=>
    have C:=I x aH
    have M:fB (((x::j).take 1).map (reach (d+defOf false .one)))=some true:=by
     show fB [reach (d+0) x]=_;rw[XZ,C];rfl
    rw[M]at b;dsimp only at b;cases x with
    |nil=>cases C
    |cons t u=>
     have L:dD (.leaf l) (r+aw .one) (d+defOf false .one) (((t::u)::j).take 1)=t.val.map λv=>(Val.lit v,[u]):=by
      rfl
     rw[L]at b;cases o:t.val with
     |none=>rw[o]at b;cases b
     |some y=>
      rw[o]at b;dsimp only[fb]at b;rw[if_neg (by decide)]at b;dsimp only at b;split at b;rotate_left
      ·cases b
      cases b;have g:=G _ _ rfl t aH y o;refine⟨⟨y,rfl,g⟩,?_⟩;rfl
def jA (x:CI)(g:Option Nat)(e:E):Nat:=
 if x.1<e.rep\/x.2.1<e.defn then 1
 else if e.defn=x.2.1/\e.val=none then 2
 else if e.rep=0 then 0
 else match g with
  |none=>3
  |some b=>if e.defn<(x.2.2[e.rep-1]?).getD 0\/b<(x.2.2[e.rep-1]?).getD 0 then 4 else 0
def ia (x:CI):Option Nat->Nat->List E->Option (Nat×Nat)
 |_,_,[]=>none
 |b,i,e::r=>if jA x b e=0 then ia x (some e.defn) (i+1) r else some (jA x b e,i)
def dq:Nat->List (CI×List E)->Option (Nat×Nat×Nat)
 |_,[]=>none
 |j,x::r=>match ia x.1 none 0 x.2 with
  |some (k,i)=>some (k,j,i)
  |none=>dq (j+1) r
theorem QQ (c)(ms)(before)(e)(h:lB c.defn e):Eo c ms before e=if jA (fH (c,ms)) before (fY c.leaf e)=0 then none else some (jA (fH (c,ms)) before (fY c.leaf e)):=by
 have g:(e.text.any λt=>(g8 c.leaf t).isNone)=true↔((fY c.leaf e).defn=c.defn/\(fY c.leaf e).val=none):=by
  show _↔(e.defn=c.defn/\e.text.bind (g8 c.leaf)=none);rw[<-h.has];cases e.text with
  |none=>simp
  |some t=>simp
 unfold Eo jA
 show _=if(if c.rep<e.rep\/c.defn<e.defn then 1 else if(fY c.leaf e).defn=c.defn/\(fY c.leaf e).val=none then 2 else if e.rep=0 then 0 else(match before with
  |none=>3
  |some b=>if e.defn<(ms[e.rep-1]?).getD 0\/b<(ms[e.rep-1]?).getD 0 then 4 else 0))=0 then none else some (if c.rep<e.rep\/c.defn<e.defn then 1 else if(fY c.leaf e).defn=c.defn/\(fY c.leaf e).val=none then 2 else if e.rep=0 then 0 else(match before with
  |none=>3
  |some b=>if e.defn<(ms[e.rep-1]?).getD 0\/b<(ms[e.rep-1]?).getD 0 then 4 else 0))
 grind
theorem HD (c)(ms):∀(l) (b) (i),(∀e∈l,lB c.defn e)->sY c ms b i l=ia (fH (c,ms)) b i (l.map (fY c.leaf))
 |[]=>λb i _=>by
  rfl
 |e::l=>λb i h=>by
  unfold sY;rw[cu,ia,QQ c ms b e (h e aH)];by_cases q:jA (fH (c,ms)) b (fY c.leaf e)=0
  ·rw[if_pos q,if_pos q];exact HD c ms l _ _ λx g=>h x (aR _ g)
  simp_all
theorem HE:∀(b) (j),(∀x∈b,∀e∈x.2,lB x.1.1.defn e)->s_ j b=dq j (b.map λx=>(fH x.1,x.2.map (fY x.1.1.leaf)))
 |[]=>λj _=>by
  rfl
 |x::b=>λj h=>by
  unfold s_;rw[cu,dq,HD x.1.1 x.1.2 x.2 none 0 (h x aH)];cases ia (fH (x.1.1,x.1.2)) none 0 (x.2.map (fY x.1.1.leaf))with
  |none=>exact HE b (j+1) λy g=>h y (aR _ g)
  |some y=>rfl
theorem HF:∀{es} {b} {i},ia x b i es=none->∀e∈es,∃k,jA x k e=0
 |[],_,_,_,e,g=>by cases g
 |j::es,b,i,h,e,g=>by
  rw[ia]at h;by_cases q:jA x b j=0
  ·rw[if_pos q]at h;rcases cj.mp g with z|z
   ·rw[z];exact⟨b,q⟩
   ·exact HF h e z
  simp_all
theorem QS (h:jA x b e=0):e.rep<=x.1/\e.defn<=x.2.1/\(e.defn=x.2.1->e.val.isSome=true)/\(1<=e.rep->∀a,x.2.2[e.rep-1]? =some a->a<=e.defn):=by
 unfold jA at h;split at h
 ·cases h
 ·rename_i h1;split at h
  ·cases h
  ·rename_i h2;refine⟨by lia,by lia,λq=>?_,λq a i=>?_⟩
   ·cases g:e.val with
    |none=>exact absurd ⟨q,g⟩ h2
    |some y=>rfl
   grind
theorem QT (h:dq j b=none):∀x∈b,ia x.1 none 0 x.2=none:=by
 induction b generalizing j with
 |nil=>exact λx g=>by cases g
 |cons y b i=>
  rw[dq]at h;cases e:ia y.1 none 0 y.2 with
  |some z=>rw[e]at h;cases h
  |none=>
   rw[e]at h
   grind
theorem HG:∀{es} {b} {i k j},ia x b i es=some (k,j)->k≠0
 |[],_,_,_,_,h=>by cases h
 |e::es,b,i,k,j,h=>by
  rw[ia]at h;by_cases q:jA x b e=0
  ·rw[if_pos q]at h;exact HG h
  simp_all
theorem QU (h:qA D u=some (e,r)):lB D e:=by
 unfold qA at h;split at h
 ·split at h
  ·cases h
  ·split at h
   ·rename_i q;split at h
    ·split at h
     ·cases h
     ·rename_i i;cases h;refine⟨⟨λ_=>rfl,λ_=>rfl⟩,λt g b j=>?_⟩
      grind
    simp_all
   ·rename_i q;cases h;exact⟨⟨λz=>(by cases z),λz=>absurd z q⟩,λt g=>by cases g⟩
 simp_all
theorem HH:∀{n} {u r} {es},lZ D n u=some (es,r)->∀e∈es,lB D e
 |0,u,r,es,h,e,g=>by
  cases h
  grind
 |n+1,u,r,es,h,e,g=>by
  rw[lZ]at h;cases b:qA D u with
  |none=>rw[b]at h;cases h
  |some x=>
   rw[b]at h;obtain⟨y,j,i⟩:=aX.mp h;cases i;rcases cj.mp g with z|z
   ·rw[z];exact QU (show qA D u=some (x.1,x.2)from b)
   ·exact HH (show lZ D n x.2=some (y.1,y.2)from j) e z
theorem HI:∀{i} {u} {b},fS i u=some b->∀x∈i.zip b,∀e∈x.2,lB x.1.defn e
 |[],u,b,h,x,g=>by cases g
 |c::i,u,b,h,x,g=>by
  unfold fS at h;split at h
  ·split at h
   ·cases h
   ·rename_i n m _;cases e:lZ c.defn n.toNat m with
    |none=>rw[e]at h;cases h
    |some y=>
     rw[e]at h;obtain⟨z,k,j⟩:=aX.mp h;cases j;rcases cj.mp g with q|q
     ·rw[q];exact HH (show lZ c.defn n.toNat m=some (y.1,y.2)from e)
     ·exact HI k x q
  simp_all
theorem QV:∀y,(fY l e).val=some y->gO l y:=λy h=>by
 obtain⟨t,_,h2⟩:=iI.mp h;exact GN h2
theorem QW (c)(l):i4 c l=l.map (fY c.leaf):=rfl
theorem HJ {α:Type}{f:α->Nat}:∀{L:List α} {s n:Nat} {b:List Nat},L.map f=ll s n->b.Pairwise (·<·)->(∀p∈b,s<=p/\p<s+n)->L.filter (λx=>b.contains (f x))=b.filterMap λi=>L[i-s]?
 |[],s,n,b,h,hp,g=>by
  cases b with
  |nil=>rfl
  |cons p ps=>
   simp_all
 |x::L,s,n,b,h,hp,g=>by
  cases n with
  |zero=>cases h
  |succ n=>
   injection h with h1 h2
   have gt:∀y∈L,s+1<=f y:=λy k=>by
    have:f y∈ll (s+1) n:=by
     rw[<-h2];exact dY k
    simp_all
   rw[f_]
   have tl:∀(ps:List Nat),ps.Pairwise (·<·)->(∀p∈ps,s+1<=p/\p<s+1+n)->L.filter (λy=>ps.contains (f y))=ps.filterMap λi=>(x::L)[i-s]? :=λps h3 h4=>by
    rw[HJ h2 h3 h4];refine pz λi C=>?_
    grind
   cases b with
   |nil=>
    simp_all
   |cons p ps=>
    have o:=Em.mp hp;have F:=g p aH;by_cases q:p=s
    ·subst q;rw[if_pos (by rw[h1];simp),o8]
     have u:(x::L)[p-p]? =some x:=by
      simp_all
     rw[u];rw[<-tl ps o.2 λz j=>⟨o.1 z j,by have:=(g z (aR _ j)).2;lia⟩];refine congrArg _ (vY λy k=>?_)
     grind
    grind
open VacolcNeutral (callOf)
theorem HL (h:Er r=some (x,s)):r=(x.length:Int)::(x++s):=by
 cases r with
 |nil=>cases h
 |cons n r=>
  rw[Er]at h;split at h
  ·rename_i q;cases h;rw[il,gq,zC q.2]
   grind
  simp_all
inductive Dec:List Int->List (List Int)->List Int->Prop
 |schema (x t):Dec (0::(x.length:Int)::(x++t)) [[0],x] t
 |put (x t):Dec (1::(x.length:Int)::(x++t)) [[1],x] t
 |rows (t):Dec (2::t) [[2]] t
 |BH (n) (t):Dec (3::n::t) [[3,n]] t
 |column (n) (t):Dec (4::n::t) [[4,n]] t
 |entries (a b d) (t):Dec (5::a::b::d::t) [[5,a,b,d]] t
 |check (x y t):Dec (6::(x.length:Int)::(x++(y.length:Int)::(y++t))) [[6],x,y] t
 |assemble (x y t):Dec (7::(x.length:Int)::(x++(y.length:Int)::(y++t))) [[7],x,y] t
 |load (x t):Dec (8::(x.length:Int)::(x++t)) [[8],x] t
 |add (x t):Dec (9::(x.length:Int)::(x++t)) [[9],x] t
 |drop (n) (t):Dec (10::n::t) [[10,n]] t
theorem um (h:qB 1 r=some (xs,t)):∃x,xs=[x]/\r=(x.length:Int)::(x++t):=by
 rw[qB]at h;cases e:Er r with
 |none=>rw[e]at h;cases h
 |some z=>
  obtain⟨x,s⟩:=z;rw[e]at h;cases h;exact⟨x,rfl,HL e⟩
theorem HM (h:qB 2 r=some (xs,t)):∃x y,xs=[x,y]/\r=(x.length:Int)::(x++(y.length:Int)::(y++t)):=by
 rw[qB]at h;cases e:Er r with
 |none=>rw[e]at h;cases h
 |some z=>
  obtain⟨x,s⟩:=z;rw[e]at h;dsimp only at h;cases b:qB 1 s with
  |none=>rw[b]at h;cases h
  |some g=>
   obtain⟨j,k⟩:=g;rw[b]at h;cases h;obtain⟨y,rfl,i⟩:=um b;exact⟨x,y,rfl,by rw[HL e,i]⟩
theorem QX (h:Es mS u=some (c,t)):Dec u c t:=by
 cases u with
 |nil=>cases h
 |cons p r=>
  have go:∀n k,mS p=some (n,k)->(if r.length<n then none else match qB k (r.drop n)with
   |none=>none
   |some (i,t)=>some ((p::r.take n)::i,t))=some (c,t):=λn k e=>by
   rw[Es,e]at h;omega
  have j:∀k,mS p=some (0,k)->∃i,qB k r=some (i,t)/\c=[p]::i:=λk e=>by
   have:=go 0 k e;rw[if_neg (k_ _),zD,List.take_zero]at this;cases T:qB k r with
   |none=>rw[T]at this;cases this
   |some z=>
    grind
  have g1:mS p=some (1,0)->∃n,r=n::t/\c=[[p,n]]:=λe=>by
   have:=go 1 0 e;cases r with
   |nil=>rw[if_pos (by decide)]at this;cases this
   |cons n r=>
    rw[if_neg (by simp)]at this;cases this;exact⟨n,rfl,rfl⟩
  have g3:mS p=some (3,0)->∃a b d,r=a::b::d::t/\c=[[p,a,b,d]]:=λe=>by
   have:=go 3 0 e;match r with
   |[]=>rw[if_pos (by decide)]at this;cases this
   |[_]=>rw[if_pos (by simp)]at this;cases this
   |[_,_]=>rw[if_pos (by simp)]at this;cases this
   |a::b::d::r=>
    rw[if_neg (by simp)]at this;cases this;exact⟨a,b,d,rfl,rfl⟩
  by_cases P:p=0
  ·subst P;obtain⟨i,g,rfl⟩:=j 1 rfl;obtain⟨x,rfl,rfl⟩:=um g;exact .schema x t
  by_cases O:p=1
  ·subst O;obtain⟨i,g,rfl⟩:=j 1 rfl;obtain⟨x,rfl,rfl⟩:=um g;exact .put x t
  by_cases L:p=2
  ·subst L;obtain⟨i,g,rfl⟩:=j 0 rfl;cases g;exact .rows t
  by_cases J:p=3
  ·subst J;obtain⟨n,rfl,rfl⟩:=g1 rfl;exact .BH n t
  by_cases I:p=4
  ·subst I;obtain⟨n,rfl,rfl⟩:=g1 rfl;exact .column n t
  by_cases H:p=5
  ·subst H;obtain⟨a,b,d,rfl,rfl⟩:=g3 rfl;exact .entries a b d t
  by_cases G:p=6
  ·subst G;obtain⟨i,g,rfl⟩:=j 2 rfl;obtain⟨x,y,rfl,rfl⟩:=HM g;exact .check x y t
  by_cases F:p=7
  ·subst F;obtain⟨i,g,rfl⟩:=j 2 rfl;obtain⟨x,y,rfl,rfl⟩:=HM g;exact .assemble x y t
  by_cases C:p=8
  ·subst C;obtain⟨i,g,rfl⟩:=j 1 rfl;obtain⟨x,rfl,rfl⟩:=um g;exact .load x t
  by_cases o:p=9
  ·subst o;obtain⟨i,g,rfl⟩:=j 1 rfl;obtain⟨x,rfl,rfl⟩:=um g;exact .add x t
  by_cases M:p=10
  ·subst M;obtain⟨n,rfl,rfl⟩:=g1 rfl;exact .drop n t
  ·have e:mS p=none:=by
    unfold mS;rw[if_neg P,if_neg O,if_neg L,if_neg J,if_neg I,if_neg H,if_neg G,if_neg F,if_neg C,if_neg o,if_neg M]
   rw[Es,e]at h;cases h
theorem Dec.whole (h:Dec u c t):X0 c=c:=by
 cases h<;>rfl
theorem Dec.len (h:Dec u c t):t.length<u.length:=by
 cases h<;>simp<;>lia
inductive nY:List Int->List (List (List Int))->Prop
 |nil:nY [] []
 |cons {u t} {c} {cs}:Dec u c t->nY t cs->nY u (c::cs)
theorem HN:∀{f} {u} {b},v9 mS f u=some b->nY u b
 |_,[],b,h=>by
  rw[v9]at h;cases h;exact .nil
 |0,_::_,_,h=>by
  rw[v9]at h
  grind
 |f+1,p::r,b,h=>by
  rw[v9]at h;cases e:Es mS (p::r)with
  |none=>rw[e]at h;cases h
  |some z=>
   obtain⟨c,t⟩:=z;rw[e]at h;dsimp only at h;cases g:v9 mS f t with
   |none=>rw[g]at h;cases h
   |some i=>
    rw[g]at h;cases h;exact .cons (QX e) (HN g)
theorem nY.map (h:nY u cs):cs.map X0=cs:=by
 induction h with
 |nil=>rfl
 |cons a _ b=>rw[cu,b,a.whole]
def uo (c:List (List Int)):Prop:=PyInside.call PyVacolc.bound c=true
theorem QY (h:NN l=true):∃b,nY l b/\b.length<=240/\(∀c∈b,uo c)/\zE l=zF (zG v_ Y4 b)/\(zE l).length<=10000000:=by
 unfold NN at h;cases e:v9 mS l.length l with
 |none=>rw[e]at h;cases h
 |some g=>
  rw[e]at h;simp only[dZ]at h;obtain⟨⟨⟨⟨_,h2⟩,h3⟩,_⟩,h5⟩:=h;have d:=HN e;refine⟨g,d,of_decide_eq_true h2,λc i=>fR.mp h3 c i,?_,of_decide_eq_true h5⟩;unfold zE PyVacolc.calls;rw[e];dsimp only;rw[d.map]
theorem xC (h:lp [(0,255,0,5000)] [x]=true):x.length<=5000/\Et x=true/\∀b∈x,0<=b/\b<=255:=by
 unfold lp at h;simp only[dZ]at h;obtain⟨⟨⟨_,h2⟩,h3⟩,_⟩:=h
 have h4:∀b∈x,0<=b/\b<=255:=λb g=>by
  have:=fR.mp h3 b g;unfold X1 at this;simp_all
 unfold Et;simp_all
theorem rq (h:lp ((-1000000000000000000,1000000000000000000,0,m)::r) (x::xs)=true):x.length<=m/\(∀b∈x,-1000000000000000000<=b/\b<=1000000000000000000)/\lp r xs=true:=by
 unfold lp at h;simp only[dZ]at h;obtain⟨⟨⟨_,h2⟩,h3⟩,h4⟩:=h;refine⟨of_decide_eq_true h2,λb g=>?_,h4⟩;have:=fR.mp h3 b g;unfold X1 at this;simp_all
theorem numsOf_len (l:List E):(numsOf l).length=jz l:=by
 unfold numsOf jz;rw[List.length_flatMap];congr 1;refine eO λe _=>?_;unfold qY qX;cases e.val with
 |none=>rfl
 |some v=>
  grind
theorem QZ (h:g8 l t=some v):t=fQ v:=by
 unfold g8 at h;split at h
 ·rename_i e;split at h
  ·cases h;have:=E5 e;simp_all
  simp_all
 simp_all
theorem Q0 (h:j8 u=some (t,r)):t.length+1+r.length=u.length:=by
 unfold j8 at h;cases e:pNum u with
 |none=>rw[e]at h;cases h
 |some x=>
  rw[e]at h;dsimp only at h;split at h
  ·cases h
  ·split at h
   ·cases h
   ·have:=(nX e).1
    grind
theorem Q1 (h:j9 l D u=some (x,r)):qX x+r.length<=u.length:=by
 unfold j9 at h;cases e:pNum u with
 |none=>rw[e]at h;cases h
 |some y=>
  obtain⟨n,m⟩:=y;rw[e]at h;dsimp only at h;have h1:=(nX e).1;cases g:pNum m with
  |none=>rw[g]at h;cases h
  |some j=>
   obtain⟨C,o⟩:=j;rw[g]at h;dsimp only at h;have h2:=(nX g).1;split at h
   ·cases b:j8 o with
    |none=>rw[b]at h;cases h
    |some i=>
     obtain⟨k,F⟩:=i;rw[b]at h;cases h;have:=Q0 b;unfold qX;cases z:g8 l k with
     |none=>
      grind
     |some v=>
      dsimp only;rw[QZ z]at this
      lia
   ·cases h;unfold qX
    grind
theorem HP:∀{n} {u r} {x:List E},d6 l D n u=some (x,r)->jz x+r.length<=u.length
 |0,u,r,x,h=>by
  cases h;show 0+_<=_;simp
 |n+1,u,r,x,h=>by
  rw[d6]at h;cases e:j9 l D u with
  |none=>rw[e]at h;cases h
  |some y=>
   rw[e]at h;obtain⟨z,g,b⟩:=aX.mp h;cases b;have h1:=Q1 (show j9 l D u=some (y.1,y.2)from e);have h2:=HP (show d6 l D n y.2=some (z.1,z.2)from g);show(_::z.1.map qX).sum+_<=_;rw[iv];unfold jz at h2
   lia
theorem xD:∀{b} {u r} {x:List (List E)},fJ b u=some (x,r)->cx x+r.length<=u.length
 |[],u,r,x,h=>by
  cases h;show 0+_<=_
  lia
 |c::b,u,r,x,h=>by
  rw[fJ]at h;cases e:pNum u with
  |none=>rw[e]at h;cases h
  |some y=>
   rw[e]at h;have h:(d6 c.1 c.2 y.1 y.2).bind (λy=>(fJ b y.2).map λz=>(y.1::z.1,z.2))=some (x,r):=h;cases g:d6 c.1 c.2 y.1 y.2 with
   |none=>rw[g]at h;cases h
   |some z=>
    rw[g]at h;obtain⟨w,j,i⟩:=aX.mp h;cases i;have k:=(nX (show pNum u=some (y.1,y.2)from e)).1;have h1:=HP (show d6 c.1 c.2 y.1 y.2=some (z.1,z.2)from g);have h2:=xD (show fJ b z.2=some (w.1,w.2)from j);show(_::w.1.map jz).sum+_<=_;rw[iv];unfold cx at h2
    lia
theorem HQ (h:assemble fs picks cols=some vs):qk (jr fs picks) vs=cols:=by
 unfold assemble at h;dsimp only at h;split at h
 ·obtain⟨ws,g,b⟩:=iI.mp h;simp_all
 simp_all
theorem xE:∀{l:List Nat} {x},x∈l->x<=l.sum
 |[],_,h=>by cases h
 |y::l,x,h=>by
  rw[iv];rcases cj.mp h with q|q
  ·lia
  ·have:=xE q
   lia
theorem HR (u:jc (.group false fs) n)(g:∀v∈b,iy (.group false fs) v)(h:qk fs b=cols):
 (b.map λv=>(cS (.group false fs) v).length+16).sum<=(6+9*n)*cx cols/\(b.map λv=>cx (c8 fs v)).sum=cx cols:=by
 have e:(b.map λv=>cx (c8 fs v)).sum=cx cols:=by
  rw[<-h];unfold qk
  rw[Br (λx j=>by
   obtain⟨v,o,rfl⟩:=dU.mp j;exact Aj (g v o)),bZ]
  rfl
 refine⟨?_,e⟩;rw[<-e];clear e h;induction b with
 |nil=>simp
 |cons v b i=>
  have h1:=i λw k=>g w (aR _ k);have h2:=Bu (.group false fs) n 0 0 0 v u (g v aH);rw[cu,cu,iv,iv,zA];unfold c8 at h1⊢;omega
theorem Q2 {j:Nat}:(numsOf ((cols[j]?).getD [])).length<=cx cols:=by
 rw[numsOf_len];cases e:cols[j]? with
 |none=>exact bR _
 |some x=>exact xE (dY (f:=jz) (gI e))
open Vacolc (goodPicks handed rises allPicks)
section
variable {kept:List (List Nat)}
mutual
theorem HS:∀(k:Kind) (p:List Nat) (i:Kind) (v:Val),f' kept k p=some i->cw (bK kept k p) v->iU (bK kept k p) v->iy i v
 | .leaf l=>λp i v h b g=>by
  unfold f' at h;split at h
  ·cases h;unfold bK at b g;unfold cw at b;obtain⟨x,rfl⟩:=b;unfold iU at g;exact .leaf (g x rfl).1
  ·cases h
 | .group c fs=>λp i v h b g=>by
  unfold bK at b g;unfold cw at b;obtain⟨o,rfl,b⟩:=b;unfold iU at g;have h1:=BI fs p o b (g o rfl);unfold f' at h;split at h
  ·cases h
  ·rename_i hd j rest e;cases h;rw[e]at h1;exact .group h1
theorem BI:∀(fs:aJ) (p:List Nat) (i:List (List Val)),cJ (bF kept fs p) i->iV (bF kept fs p) i->iO (gH kept fs p) i
 | .nil=>λp i b _=>by
  unfold bF at b;unfold cJ at b;rw[b];unfold gH;exact .nil
 | .cons h k rest=>λp i b g=>by
  rw[bF]at b g;rw[gH];have y:=ub k (kept:=kept) (p++[h.number]);cases e:f' kept k (p++[h.number])with
  |none=>
   rw[if_pos (y.mp e)]at b g;unfold cJ at b;unfold iV at g;exact BI rest p i b g
  |some j=>
   rw[if_neg λz=>by rw[y.mpr z]at e;cases e]at b g;unfold cJ at b;obtain⟨o,u,rfl,h1,_,h3⟩:=b;unfold iV at g;obtain⟨f1,f2⟩:=g o u rfl;exact .cons (λv b=>HS k _ j v e (h1 v b) (f1 v b)) (BI rest p u h3 f2)
end
end
structure mv (fs:aJ)(picks:List Nat)(aA:List (List Raw)):Prop where
 ok:bC fs 5 false
 nn:fs≠.nil
 rs:jx (aG fs) picks
 ne:picks≠[]
 ln:aA.length=picks.length
 rw:∀x∈(aO fs picks).zip aA,∀e∈x.2,lB x.1.1.defn e
section
variable {fs:aJ}{picks:List Nat}{aA:List (List Raw)}
theorem Q3 (b:List (zr×List Nat))(aA):(b.zip aA).map (λx=>(fH x.1,x.2.map (fY x.1.1.leaf)))=(b.map fH).zip (bD b aA):=by
 induction b generalizing aA with
 |nil=>rfl
 |cons t b g=>
  cases aA with
  |nil=>rfl
  |cons r aA=>
   exact congrArg _ (g aA)
theorem mv.fault (h:mv fs picks aA):dq 0 (((aO fs picks).map fH).zip (bD (aO fs picks) aA))=s_ 0 ((aO fs picks).zip aA):=by
 rw[HE _ _ h.rw,Q3]
theorem mv.Q4 (h:mv fs picks aA)(q:dq 0 (((aO fs picks).map fH).zip (bD (aO fs picks) aA))=none):dO fs picks aA:=by
 rw[h.fault]at q;exact⟨h.ok,h.nn,h.rs,h.ne,h.ln,h.rw,ug.mp q⟩
theorem mv.bad (h:mv fs picks aA)(q:dq 0 (((aO fs picks).map fH).zip (bD (aO fs picks) aA))=some f):nJ fs picks aA= .error f:=Qs (by rw[<-h.fault];exact q)
theorem dO.Q5 (h:dO fs picks aA)(b:1<=m):(gN (br (λi=>(picks.take m).contains i) (.group false fs) 0) ((bD (aO fs picks) aA).take m)).map (·.1)=assemble fs (picks.take m) ((bD (aO fs picks) aA).take m):=by
 have:=(h.take b).rows;rw[Bl h.rs,Qr]at this;omega
end
theorem HU (h:i5 fs l=true):jx (aG fs) (l.map b_)/\l≠[]/\∀i∈l,0<=i/\i.toNat<aG fs:=by
 unfold i5 at h;rw[dZ]at h;obtain⟨h1,h2⟩:=h;unfold zH at h1;rw[dZ]at h1;obtain⟨k,h1⟩:=h1
 have h3:∀i∈l,0<=i/\i.toNat<aG fs:=λi g=>by
  have:=fR.mp h1 i g;unfold at? at this;split at this
  ·cases this
  ·rename_i q;refine⟨by lia,?_⟩;obtain⟨x,j⟩:=NO.mp this;rw[<-pq];exact(cK.mp j).1
 refine⟨⟨?_,λi g=>?_⟩,(λz=>by rw[z]at k;cases k),h3⟩
 ·clear k h1;induction l with
  |nil=>exact .nil
  |cons a l o=>
   cases l with
   |nil=>exact List.pairwise_singleton _ _
   |cons b r=>
    rw[qC,dZ]at h2;have h4:=o h2.2 λi g=>h3 i (aR _ g);have C:=(h3 a aH).1;have y:=of_decide_eq_true h2.1;refine Em.mpr ⟨λx j=>?_,h4⟩;rcases cj.mp j with q|q
    ·rw[q];omega
    ·have:=(Em.mp h4).1 x q;omega
 ·obtain⟨z,u,rfl⟩:=dU.mp g;simp_all
theorem xF:∀{l},qC l=true↔∀j a b,l[j]? =some a->l[j+1]? =some b->a<b
 |[]=>by
  unfold qC;simp
 |[v]=>by
  unfold qC;simp
 |v::w::o=>by
  have k:=xF (l:=w::o);unfold qC;rw[dZ,k,decide_eq_true_eq];constructor
  ·rintro⟨h1,h2⟩ j a b i g;cases j with
   |zero=>
    simp_all
   |succ j=>exact h2 j a b (by simpa using i) (by simpa using g)
  ·intro h;exact⟨h 0 v w rfl rfl,λj a b i g=>h (j+1) a b (by simpa using i) (by simpa using g)⟩
theorem BJ (h:1<=aG fs):i5 fs (fF fs)=true/\(fF fs).map b_=fw (aG fs):=by
 have e:fF fs=(fw (aG fs)).map Int.ofNat:=by
  unfold fF;rw[pq]
 refine⟨?_,?_⟩
 ·unfold i5 zH;rw[dZ,dZ,e];refine⟨⟨?_,fR.mpr λi k=>?_⟩,xF.mpr λj a b u o=>?_⟩
  ·cases q:aG fs with
   |zero=>lia
   |succ n=>
    simp_all
  ·obtain⟨z,g,rfl⟩:=dU.mp k;have:=zz.mp g;unfold at?;rw[eI (by rw[pq];exact this)];rfl
  grind
 ·rw[e,bZ];exact Ep _
end My
set_option tactic.hygienic false
namespace L2
open PySem PySem.Spec PyProof.Rows
inductive V where
 |aB|bl (b:Bool)|int (i:Int)|str (x:Str)|iC (b:Array UInt8)|xG (b:UInt64)|ref (a:ai)|ty (n:String)
 deriving DecidableEq
def RelV:V->ao->Prop
 | .aB,u=>u=Value.none
 | .bl b,u=>u=Value.bool b
 | .int i,u=>∃t,u=Value.int i t
 | .str x,u=>∃t,u=Value.str x t
 | .iC b,u=>∃t,u=Value.bytes b t
 | .xG b,u=>∃t,u=Value.float b t
 | .ref a,u=>u=Value.ref a
 | .ty n,u=>u=Value.type n
abbrev bp:List V->List ao->Prop:=Paired RelV
theorem bp.length (r:bp xs us):xs.length=us.length:=Paired.length r
theorem bp.get:∀{b} {g} {i:Nat} {x},bp b g->b[i]? =some x->∃u,g[i]? =some u/\RelV x u
 |_,_,_,_,.nil,e=>by simp at e
 |_,_,0,_,.cons r _,e=>by simp at e;subst e;exact⟨_,rfl,r⟩
 |_,_,i+1,x,.cons _ t,e=>by
  obtain⟨u,h1,h2⟩:=bp.get (i:=i) (x:=x) t (by simpa using e);simp_all
theorem bp.append:∀{g b} {h ws},bp g h->bp b ws->bp (g++b) (h++ws)
 |_,_,_,_,.nil,s=>s
 |_,_,_,_,.cons r t,s=> .cons r (bp.append t s)
theorem bp.take:∀{xs} {b} (n),bp xs b->bp (xs.take n) (b.take n)
 |_,_,0,_=> .nil
 |_,_,_+1,.nil=> .nil
 |_,_,n+1,.cons r t=> .cons r (bp.take n t)
theorem bp.drop:∀{b} {g} (n),bp b g->bp (b.drop n) (g.drop n)
 |_,_,0,r=>r
 |_,_,_+1,.nil=> .nil
 |_,_,n+1,.cons _ t=>bp.drop n t
def m5:Option V->Option ao->Prop
 |some v,some u=>RelV v u
 |none,none=>True
 |_,_=>False
inductive HO where
 |lst (xs:List V)
 |tup (xs:List V)
 |ins (C dx:ai) (fs:List (Str×V))
 |own (x:ai)
 |gQ (o:Obj) (u:HO)
 |pA (ps:Array ao)
abbrev Hp:=ai->Option HO
def upd (H:Hp)(a:ai)(o:HO):Hp:=λb=>if b=a then some o else H b
theorem jB:upd H a o a=some o:=by unfold upd;rw[if_pos rfl]
theorem du (h:b≠a):upd H a o b=H b:=by unfold upd;rw[if_neg h]
theorem j_ {H:Hp}(h:H a=some o)(g:H b=none):a≠b:=by
 grind
section
variable (P:bL)(w:bw)
def ib (H:Hp)(h:bz)(a:ai):HO->Prop
 | .lst b=>b.length<=bH/\∃(g:List ao) (n:Nat),bp b g/\h.get? a=some {cls:= .type "list",data:= .seq g.toArray n}
 | .tup b=>b.length<=bH/\∃g:List ao,bp b g/\IsTup h a g.toArray
 | .ins C dx fs=>H dx=some (.own a)/\fs.length<=1000/\dx≠a/\h.get? a=some (qD C dx)/\
   ∃i,h.Ns1 dx i/\(∀f,m5 (fs.lookup f) (i f))/\NP i (fs.map (·.1))
 | .own _=>∃o,h.get? a=some o
 | .gQ o u=>h.get? a=some o/\ib H h a u
 | .pA ps=>h.get? a=some {cls:= .none,data:= .fields ps}
def dQ (H:Hp)(h:bz):Prop:=∀a o,H a=some o->ib H h a o
end
section
variable {P:bL}{w:bw}{H H':Hp}{h h':bz}{a:ai}{o:HO}
theorem ib.lt (x:ib H h a o):a<h.objs.size:=by
 cases o with
 |lst b=>obtain⟨_,_,_,_,e⟩:=x;exact eJ e
 |tup b=>obtain⟨_,_,_,p⟩:=x;exact p.lt
 |ins C dx fs=>obtain⟨_,_,_,e,_⟩:=x;exact eJ e
 |own y=>obtain⟨_,e⟩:=x;exact eJ e
 |gQ g u=>obtain⟨e,_⟩:=x;exact eJ e
 |pA ps=>exact eJ (show h.get? a=some _ from x)
theorem ib.bM (x:ib H h a o)(k:∀b u,(b=a\/H b=some (.own a))->h.get? b=some u->h'.get? b=some u)
 (J:∀b,H b=some (.own a)->H' b=some (.own a)) (O:∀b g,H b=some (.tup g)->H' b=some (.tup g)):ib H' h' a o:=by
 induction o with
 |lst g=>obtain⟨z,j,n,r,e⟩:=x;exact⟨z,j,n,r,k _ _ (.inl rfl) e⟩
 |tup g=>obtain⟨z,j,r,i,e,c⟩:=x;exact⟨z,j,r,i,k _ _ (.inl rfl) e,c⟩
 |ins C dx fs=>
  obtain⟨d,z,ne,e,G,⟨F,es,L,M,c⟩,r⟩:=x;exact⟨J _ d,z,ne,k _ _ (.inl rfl) e,G,⟨F,es,L,k _ _ (.inr d) M,c⟩,r⟩
 |own y=>obtain⟨i,e⟩:=x;exact⟨i,k _ _ (.inl rfl) e⟩
 |gQ i u I=>obtain⟨e,q⟩:=x;exact⟨k _ _ (.inl rfl) e,I q⟩
 |pA ps=>
  have e:h.get? a=some {cls:= .none,data:= .fields ps}:=x;exact k a _ (.inl rfl) e
theorem dQ.lt (x:dQ H h)(e:H a=some o):a<h.objs.size:=(x a o e).lt
theorem dQ.fresh (x:dQ H h)(e:h.objs.size<=a):H a=none:=by
 cases q:H a with
 |none=>rfl
 |some u=>exact absurd (iK (x.lt q) e) (qE _)
theorem dQ.kept (x:dQ H h)(k:∀b u,h.get? b=some u->h'.get? b=some u):dQ H h':=λa o e=>
 (x a o e).bM (λb u _ q=>k b u q) (λ_ q=>q) λ_ _ q=>q
theorem dQ.laid (x:dQ H h)(k:∀b u,h.get? b=some u->h'.get? b=some u)(hp:h.objs.size<=a)(new:ib (upd H a o) h' a o):dQ (upd H a o) h':=λb u e=>by
 have g:=x.fresh hp;by_cases i:b=a
 ·subst i;rw[jB]at e;cases e;exact new
 ·rw[du i]at e;exact(x b u e).bM (λc v _ q=>k c v q) (λc q=>by rw[du (j_ q g)];exact q) λc j q=>by rw[du (j_ q g)];exact q
end
def Rd (H:Hp)(a:ai)(u:HO):Prop:=H a=some u\/∃o,H a=some (.gQ o u)
theorem Rd.ok (r:Rd H a u)(x:dQ H h):ib H h a u:=by
 rcases r with r|⟨o,r⟩
 ·exact x a u r
 ·obtain⟨_,q⟩:=x a _ r;omega
def xH:Option HO->Prop
 |some (.lst _)=>True
 |some (.ins _ _ _)=>True
 |_=>False
section
variable {P:bL}{w:bw}{H:Hp}{h h':bz}{x e:ai}{o':HO}
theorem dQ.write (ok:dQ H h)(i:xH (H x))(L:e=x\/H e=some (.own x))(k:∀b u,b≠e->h.get? b=some u->h'.get? b=some u)(I:∃u,h'.get? e=some u)
 (new:ib (upd H x o') h' x o'):dQ (upd H x o') h':=λb u q=>by
 have F:∀c y,H c=some (.own y)->c≠x:=λc y r z=>by subst z;rw[r]at i;exact i
 have C:∀c g,H c=some (.tup g)->c≠x:=λc g r z=>by subst z;rw[r]at i;exact i
 by_cases o:b=x
 ·subst o;rw[jB]at q;cases q;exact new
 ·rw[du o]at q;by_cases J:b=e
  ·have j:H b=some (.own x):=by
    simp_all
   rw[q]at j;cases j;obtain⟨v,G⟩:=I;exact⟨v,by rw[J];exact G⟩
  ·refine(ok b u q).bM (λc v M r=>k c v ?_ r) (λc r=>by rw[du (F c b r)];exact r) λc g r=>by rw[du (C c g r)];exact r
   grind
end
structure Un (fs ex:List ai)(H H':Hp)(h h':bz):Prop where
 keep:∀b o,h.get? b=some o->H b=none->b∉fs->b∉ex->h'.get? b=some o
 slot:∀b o,h.get? b=some o->H b=none->b∈fs->b∉ex->∃sl,h'.get? b=some {o with slots:=sl}
 free:∀b o,h.get? b=some o->H b=none->b∉ex->H' b=none
 there:∀b o,h.get? b=some o->b∉ex->∃o',h'.get? b=some o'
 tups:∀b xs,H b=some (.tup xs)->H' b=some (.tup xs)
 frzs:∀b o u,H b=some (.gQ o u)->H' b=some (.gQ o u)
 tbls:∀b ps,H b=some (.pA ps)->∃more,H' b=some (.pA (ps++more))
section
variable {fs dC ex YZ:List ai}{H H1 H2:Hp}{h h1 h2 h':bz}{a x e:ai}{o:HO}
theorem Un.any (u:Un fs ex H H1 h h1)(q:h.get? b=some ob)(n:H b=none)(g:b∉ex):∃j,h1.get? b=some {ob with slots:=j}:=by
 by_cases i:b∈fs
 ·exact u.slot b ob q n i g
 ·exact⟨ob.slots,u.keep b ob q n i g⟩
theorem Un.kept (k:∀b u,h.get? b=some u->h'.get? b=some u):Un fs ex H H h h':=
 ⟨λb g q _ _ _=>k b g q,λb g q _ _ _=>⟨g.slots,k b g q⟩,λ_ _ _ n _=>n,λb g q _=>⟨g,k b g q⟩,λ_ _ q=>q,λ_ _ _ q=>q,λ_ ps q=>⟨#[],by rw[q];simp⟩⟩
theorem Un.refl:Un fs ex H H h h:=Un.kept λ_ _ q=>q
theorem Un.laid (k:∀b u,h.get? b=some u->h'.get? b=some u)(hp:h.objs.size<=a)(g:H a=none):Un fs ex H (upd H a o) h h' where
 keep:=λb u q _ _ _=>k b u q
 slot:=λb u q _ _ _=>⟨u.slots,k b u q⟩
 free:=λb u q n _=>by rw[du (i6 (iK (eJ q) hp))];exact n
 there:=λb u q _=>⟨u,k b u q⟩
 tups:=λb i q=>by rw[du (j_ q g)];exact q
 frzs:=λb u i q=>by rw[du (j_ q g)];exact q
 tbls:=λb ps q=>⟨#[],by rw[du (j_ q g),q];simp⟩
theorem Un.write (g:xH (H x))(G:e=x\/H e=some (.own x))(k:∀b u,b≠e->h.get? b=some u->h'.get? b=some u)(F:∃u,h'.get? e=some u):Un fs ex H (upd H x o) h h':=by
 have C:∀b,H b=none->b≠x:=λb n z=>by subst z;rw[n]at g;exact g
 have j:∀b,H b=none->b≠e:=λb n z=>by
  simp_all
 have i:∀b u,H b=some u->¬xH (some u)->b≠x:=λb u q nm z=>by subst z;rw[q]at g;exact nm g
 refine⟨λb u q n _ _=>k b u (j b n) q,λb u q n _ _=>⟨u.slots,k b u (j b n) q⟩,λb u q n _=>by rw[du (C b n)];exact n,λb u q _=>?_,
  λb y q=>by rw[du (i b _ q λz=>z)];exact q,λb u y q=>by rw[du (i b _ q λz=>z)];exact q,λb ps q=>⟨#[],by rw[du (i b _ q λz=>z),q];simp⟩⟩
 grind
end
def xI (h:bz)(H:Hp):List ai:=(fw h.objs.size).filter λa=>(H a).isSome
def nZ (h:bz)(H:Hp):bz:=nL h (xI h H)
theorem Q6 (h)(H):(nZ h H).objs.size=h.objs.size:=PySem.W.hideAll_size _ _
theorem Q7 (e:h.get? b=some o)(n:H b=none):(nZ h H).get? b=some o:=
 NQ _ e λg=>by
  have q:=(mR.mp g).2;simp_all
theorem Q8 (e:(nZ h H).get? b=some o):h.get? b=some o/\H b=none:=by
 have g:=NS (xI h H) e;refine⟨g,?_⟩;cases q:H b with
 |none=>rfl
 |some x=>
  have i:b∈xI h H:=mR.mpr ⟨zz.mpr (eJ g),by simp[q]⟩;have z:(nZ h H).get? b=none:=X2 (xI h H) i;simp_all
structure Mod (K:aW)(mg:Str->Option ao)(base:bz):Prop where
 uq:K.In base
 glob:base.Ns jP mg
 blt:∃mb,base.Ns NT mb/\∀x:Str,x≠"__name__"->mb x=zI x
 nolimit:base.NoLimit
structure Cx where
 prog:bL
 w:bw
 K:aW
 mg:Str->Option ao
 base:bz
 A:fm
 N:List Str
 s_0:aF
 H_0:Hp
 env:Env
 outer:List Env
 stack:List Env
 ex:List ai
 fn:Str->Bool
 calm:Bool
 pn:List (ai×Obj)
 xe:ao->aF->Prop
def fe (l:List Env):List ai:=l.filterMap (·.frame)
abbrev Cx.fs (X:Cx):List ai:=fe X.outer
def rA (sc:fD)(x:Str):Prop:=sc.names.lookup x=some .local\/sc.names.lookup x=some .cell\/sc.names.lookup x=some .free
def Loc (sc:fD)(x:Str):Prop:=sc.names.lookup x=some .local\/sc.names.lookup x=some .cell
def Look (env:Env)(h:bz)(m:Str->Option ao)(x:Str)(u:ao):Prop:=
 (env.kindOf x=some .local/\m x=some u)\/((env.kindOf x=some .cell\/env.kindOf x=some .free)/\∃c,env.cells.lookup x=some c/\h.IsCell c (some u))
structure Cx.Ok (X:Cx):Prop where
 mod:Mod X.K X.mg X.base
 kind:X.env.scope.kind= .function
 glob:X.env.globals=jP
 blt:X.env.builtins=NT
 above:X.s_0.heap.objs.size<=X.env.locals
 inj:∀x y c,X.env.cells.lookup x=some c->X.env.cells.lookup y=some c->x=y
 has:∀x,(X.env.kindOf x=some .cell\/X.env.kindOf x=some .free)->∃c,X.env.cells.lookup x=some c
 ur:∀x c,X.fn x=true->X.env.cells.lookup x=some c->X.s_0.heap.objs.size<=c
 hd:X.calm=true->X.A.handled=none
 frames:X.A.frames=some X.stack
 kM:X.stack=X.outer\/(X.stack=X.env::X.outer/\X.env.frame=some X.env.locals)
 xJ:∀b∈X.ex,b≠X.env.locals/\∀x c,X.env.cells.lookup x=some c->c≠b
 bs:∀b o,X.base.get? b=some o->X.s_0.heap.get? b=some o/\X.H_0 b=none
 m6:X.base.objs.size<=X.s_0.heap.objs.size
 uu:∀b o,X.base.get? b=some o->b∉X.ex
 uv:∀b∈X.ex,b∉X.fs
 jC:X.s_0.heap.FunFrames X.base X.outer
 pB:∀b∈X.fs,X.H_0 b=none
structure Inv (X:Cx)(pins:List (ai×Obj))(σ:List (Option V))(H:Hp)(s:aF):Prop where
 ok:X.Ok
 os:s.os=X.s_0.os
 bare:qF s.gens
 base:Un X.fs X.ex X.H_0 H X.s_0.heap s.heap
 loc:∃m,s.heap.Ns X.env.locals m/\∀(i:Nat) (x:Str) (v:V),X.N[i]? =some x->σ[i]? =some (some v)->rA X.env.scope x->∃u,RelV v u/\Look X.env s.heap m x u
 cell:∀x c,X.env.cells.lookup x=some c->∃v,s.heap.IsCell c v
 free:H X.env.locals=none
 kc:∀x c,X.env.cells.lookup x=some c->H c=none
 pin:∀p∈X.pn++pins,s.heap.get? p.1=some p.2/\H p.1=none/\p.1≠X.env.locals/\p.1∉X.fs/\∀v,p.2.data≠.cell v
 az:dQ H s.heap
 len:σ.length=X.N.length
section
variable {X:Cx}{pins:List (ai×Obj)}{σ:List (Option V)}{H H':Hp}{s:aF}{h':bz}
theorem Cx.Ok.Q9 (ok:X.Ok)(e:X.base.get? b=some o):b∉X.fs:=λg=>by
 have:=(ok.jC.mem g).1;simp_all
theorem Inv.bs (I:Inv X pins σ H s):∀b o,X.base.get? b=some o->s.heap.get? b=some o/\H b=none:=λb o e=>
 ⟨I.base.keep b o (I.ok.bs b o e).1 (I.ok.bs b o e).2 (I.ok.Q9 e) (I.ok.uu b o e),I.base.free b o (I.ok.bs b o e).1 (I.ok.bs b o e).2 (I.ok.uu b o e)⟩
theorem Inv.bk (I:Inv X pins σ H s):∀b o,X.base.get? b=some o->s.heap.get? b=some o:=λb o e=>(I.bs b o e).1
theorem Inv.mod (I:Inv X pins σ H s):Mod X.K X.mg X.base:=I.ok.mod
theorem Inv.iD (I:Inv X pins σ H s):X.K.In s.heap:=I.ok.mod.uq.keeps I.bk
theorem Inv.lt (I:Inv X pins σ H s):X.env.locals<s.heap.objs.size:=let⟨_,b,_⟩:=I.loc;b.lt
theorem Inv.sz (I:Inv X pins σ H s):X.s_0.heap.objs.size<=s.heap.objs.size:=eA I.ok.above (Ee I.lt)
theorem Inv.Q_ (I:Inv X pins σ H s){a:ai}(h:s.heap.objs.size<=a):a∉X.fs:=λg=>by
 obtain⟨_,o,b,_⟩:=I.ok.jC.mem g;exact absurd (iK (eJ b) (eA I.sz h)) (qE _)
theorem Inv.pC (I:Inv X pins σ H s):∀x c,X.env.cells.lookup x=some c->c≠X.env.locals:=λx c e z=>by
 obtain⟨v,o,h,hd⟩:=I.cell x c e;obtain⟨m,⟨b,es,j,g,i,_⟩,_⟩:=I.loc;simp_all
theorem Inv.jC (I:Inv X pins σ H s):s.heap.FunFrames X.base X.outer:=by
 have all:∀(l:List Env),(∀b∈fe l,b∈X.fs)->X.s_0.heap.FunFrames X.base l->s.heap.FunFrames X.base l:=by
  intro l;induction l with
  |nil=>intro _ _;trivial
  |cons env r k=>
   intro j F;obtain⟨G,⟨L,o,g,C,y,hd⟩,u⟩:=F;have i:=j L (by unfold fe;rw[o8,g];exact aH);obtain⟨J,e⟩:=I.base.slot L o y (I.ok.pB L i) i λz=>I.ok.uv L z i;exact⟨G,⟨L,_,g,C,e,hd⟩,k (λb h=>j b (by unfold fe;rw[o8,g];exact aR _ h)) u⟩
 exact all X.outer (λ_ h=>h) I.ok.jC
theorem Inv.stack (I:Inv X pins σ H s):s.heap.FunFrames X.base X.stack:=by
 rcases I.ok.kM with e|⟨e,hf⟩
 ·rw[e];exact I.jC
 ·rw[e];obtain⟨m,b,_⟩:=I.loc;refine .cons (by rw[I.ok.kind];decide) hf b ?_ I.jC;exact Heap.get?_none_of_le (eA I.ok.m6 I.ok.above)
theorem Inv.xK (I:Inv X pins σ H s):∀b∈fe X.stack,b∈X.env.locals::X.fs:=λb g=>by
 rcases I.ok.kM with e|⟨e,hf⟩
 ·rw[e]at g;exact aR _ g
 ·rw[e]at g;unfold fe at g;rw[o8,hf]at g;exact g
theorem Inv.xM (I:Inv X pins σ H s):∀b∈fe X.stack,H b=none:=λb g=>by
 rcases cj.mp (I.xK b g)with e|g
 ·rw[e];exact I.free
 ·obtain⟨_,o,h,_⟩:=I.ok.jC.mem g;exact I.base.free b o h (I.ok.pB b g) λz=>I.ok.uv b z g
theorem Inv.step {ch:List ai}(I:Inv X pins σ H s)
 (G:∀b∈ch,(b∈X.ex\/X.s_0.heap.objs.size<=b)/\b≠X.env.locals/\(∀x c,X.env.cells.lookup x=some c->c≠b)/\∀p∈X.pn++pins,p.1≠b)
 (keep:∀b o,b≠X.env.locals->b∉X.fs->b∉ch->s.heap.get? b=some o->H b=none->h'.get? b=some o)
 (slot:∀b o,b≠X.env.locals->b∈X.fs->b∉ch->s.heap.get? b=some o->H b=none->∃L,h'.get? b=some {o with slots:=L}) (free:∀b o,b∉ch->s.heap.get? b=some o->H b=none->H' b=none)
 (there:∀b o,b∉ch->s.heap.get? b=some o->∃C,h'.get? b=some C)
 (tups:∀b xs,H b=some (.tup xs)->H' b=some (.tup xs)) (frzs:∀b o u,H b=some (.gQ o u)->H' b=some (.gQ o u)) (tbls:∀b ps,H b=some (.pA ps)->∃more,H' b=some (.pA (ps++more)))
 (ns:∀m,s.heap.Ns X.env.locals m->h'.Ns X.env.locals m) (az:dQ H' h') (hg:qF g'):
 Inv X pins σ H' {s with heap:=h',gens:=g',drawn:=d',toks:=t'}:=by
 have O:∀b o,X.s_0.heap.get? b=some o->b≠X.env.locals:=λb o e=>i6 (iK (eJ e) I.ok.above)
 have J:∀b o,X.s_0.heap.get? b=some o->b∉X.ex->b∉ch:=λb o e g j=>by
  rcases(G b j).1 with z|z
  ·exact g z
  ·exact absurd (iK (eJ e) z) (qE _)
 have T:∀x c,X.env.cells.lookup x=some c->∀v,s.heap.IsCell c v->h'.IsCell c v:=λx c e v ⟨o,y,hd⟩=>by
  have F:c∉ch:=λz=>(G c z).2.2.1 x c e rfl;by_cases P:c∈X.fs
  ·obtain⟨L,q⟩:=slot c o (I.pC x c e) P F y (I.kc x c e);exact⟨_,q,hd⟩
  ·exact⟨o,keep c o (I.pC x c e) P F y (I.kc x c e),hd⟩
 refine⟨I.ok,I.os,hg,⟨λb o e n j g=>?_,λb o e n j g=>?_,λb o e n g=>?_,λb o e g=>?_,λb xs e=>tups b xs (I.base.tups b xs e),λb o xs e=>frzs b o xs (I.base.frzs b o xs e),λb ps e=>?_⟩,?_,λx c e=>?_,?_,λx c e=>?_,λp hp=>?_,az,I.len⟩
 ·exact keep b o (O b o e) j (J b o e g) (I.base.keep b o e n j g) (I.base.free b o e n g)
 ·obtain⟨L,h⟩:=I.base.slot b o e n j g;obtain⟨U,M⟩:=slot b _ (O b o e) j (J b o e g) h (I.base.free b o e n g);exact⟨U,M⟩
 ·obtain⟨C,h⟩:=I.base.there b o e g;exact free b C (J b o e g) h (I.base.free b o e n g)
 ·obtain⟨C,h⟩:=I.base.there b o e g;exact there b C (J b o e g) h
 ·obtain⟨m1,h⟩:=I.base.tbls b ps e
  grind
 ·obtain⟨m,W,Y⟩:=I.loc;refine⟨m,ns m W,λi x v h M e3=>?_⟩;obtain⟨u,r,l⟩:=Y i x v h M e3;refine⟨u,r,?_⟩;rcases l with l|⟨k,c,e,z⟩
  ·exact .inl l
  ·exact .inr ⟨k,c,e,T x c e _ z⟩
 ·obtain⟨v,z⟩:=I.cell x c e;exact⟨v,T x c e v z⟩
 ·obtain⟨m,⟨o,_,_,y,_⟩,_⟩:=I.loc;exact free _ o (λz=>(G _ z).2.1 rfl) y I.free
 ·obtain⟨v,o,y,hd⟩:=I.cell x c e;exact free c o (λz=>(G c z).2.2.1 x c e rfl) y (I.kc x c e)
 ·obtain⟨e,n,ne,nf,d⟩:=I.pin p hp;have F:p.1∉ch:=λz=>(G p.1 z).2.2.2 p hp rfl;exact⟨keep p.1 p.2 ne nf F e n,free p.1 p.2 F e n,ne,nf,d⟩
theorem Inv.un (I:Inv X pins σ H s)(u:Un X.fs [] H H' s.heap h')(az:dQ H' h'):Inv X pins σ H' {s with heap:=h',toks:=t'}:=by
 obtain⟨m,⟨o,es,M,i,r⟩,_⟩:=id I.loc;obtain⟨G,y⟩:=u.any i I.free (by simp)
 exact I.step (g':=s.gens) (d':=s.drawn) (ch:=[]) (λ_ z=>nomatch z) (λb o _ g _ e n=>u.keep b o e n g (by simp)) (λb o _ g _ e n=>u.slot b o e n g (by simp)) (λb o _ e n=>u.free b o e n (by simp)) (λb o _ e=>u.there b o e (by simp)) u.tups u.frzs u.tbls (λL k=>by
  obtain⟨J,C,F,h,j⟩:=k;rw[i]at h;cases h;exact⟨_,C,F,y,j⟩) az I.bare
theorem Inv.call (I:Inv X pins σ H s)(u:Un (fe X.stack) ch H H' s.heap h')(az:dQ H' h')(F:qF g')
 (k:∀b∈ch,(b∈X.ex\/X.s_0.heap.objs.size<=b)/\b≠X.env.locals/\(∀x c,X.env.cells.lookup x=some c->c≠b)/\∀p∈X.pn++pins,p.1≠b):
 Inv X pins σ H' {s with heap:=h',gens:=g',drawn:=d',toks:=t'}:=by
 obtain⟨m,⟨o,es,T,j,r⟩,_⟩:=id I.loc;obtain⟨M,h⟩:=u.any j I.free λz=>(k _ z).2.1 rfl
 exact I.step (ch:=ch) k (λb o h G g e n=>u.keep b o e n (λz=>(cj.mp (I.xK b z)).elim h G) g) (λb o _ _ g e n=>u.any e n g) (λb o g e n=>u.free b o e n g) (λb o g e=>u.there b o e g) u.tups u.frzs u.tbls (λP C=>by
  obtain⟨O,J,L,i,y⟩:=C;rw[j]at i;cases i;exact⟨_,J,L,h,y⟩) az F
theorem Inv.turned (I:Inv X pins σ H s)(k:∀b o,b≠it->s.heap.get? b=some o->h'.get? b=some o)(F:H it=none)(h:it≠X.env.locals)
 (h1:it∈X.ex\/X.s_0.heap.objs.size<=it) (h2:∀x c,X.env.cells.lookup x=some c->c≠it) (h3:∀p∈X.pn++pins,p.1≠it):Inv X pins σ H {s with heap:=h',toks:=t'}:=by
 refine I.step (g':=s.gens) (d':=s.drawn) (ch:=[it]) (λb y=>?_) (λb o _ _ g e _=>k b o (λz=>g (by simp[z])) e) (λb o _ _ g e _=>⟨o.slots,k b o (λz=>g (by simp[z])) e⟩) (λ_ _ _ _ n=>n)
  (λb o g e=>⟨o,k b o (λz=>g (by simp[z])) e⟩) (λ_ _ e=>e) (λ_ _ _ e=>e) (λb ps e=>⟨#[],by rw[e];simp⟩) (λm j=>?_) (λb u e=>?_) I.bare
 ·have e:b=it:=by simpa using y
  subst e;exact⟨h1,h,h2,h3⟩
 ·obtain⟨o,es,C,i,r⟩:=j;exact⟨o,es,C,k _ o (mT h) i,r⟩
 ·refine(I.az b u e).bM (λc v g q=>k c v ?_ q) (λ_ q=>q) λ_ _ q=>q
  grind
theorem Inv.tok (I:Inv X pins σ H s)(t):Inv X pins σ H {s with toks:=t}:=I.un (h':=s.heap) (t':=t) Un.refl I.az
theorem Inv.kept (I:Inv X pins σ H s)(k:∀b u,s.heap.get? b=some u->h'.get? b=some u):Inv X pins σ H {s with heap:=h',toks:=t'}:=I.un (Un.kept k) (I.az.kept k)
theorem Inv.laid {a:ai}(I:Inv X pins σ H s)(k:∀b u,s.heap.get? b=some u->h'.get? b=some u)(hp:s.heap.objs.size<=a)(new:ib (upd H a o) h' a o):
 Inv X pins σ (upd H a o) {s with heap:=h',toks:=t'}:=I.un (Un.laid k hp (I.az.fresh hp)) (I.az.laid k hp new)
theorem Inv.write (I:Inv X pins σ H s)(g:xH (H x))(i:e=x\/H e=some (.own x))(k:∀b u,b≠e->s.heap.get? b=some u->h'.get? b=some u)(h:∃u,h'.get? e=some u)
 (new:ib (upd H x o) h' x o):Inv X pins σ (upd H x o) {s with heap:=h',toks:=t'}:=I.un (Un.write g i k h) (I.az.write g i k h new)
theorem Inv.weak (I:Inv X pins σ H s)(h:σ'.length=σ.length)(w:∀(i:Nat) v,σ'[i]? =some (some v)->σ[i]? =some (some v)):Inv X pins σ' H s:=
 ⟨I.ok,I.os,I.bare,I.base,let⟨m,b,g⟩:=I.loc;⟨m,b,λi x v o k j=>g i x v o (w i v k) j⟩,I.cell,I.free,I.kc,I.pin,I.az,h.trans I.len⟩
theorem Inv.HV (I:Inv X pins σ H s)(h:∀p∈pins',s.heap.get? p.1=some p.2/\H p.1=none/\p.1≠X.env.locals/\p.1∉X.fs/\∀v,p.2.data≠.cell v):Inv X pins' σ H s:=
 ⟨I.ok,I.os,I.bare,I.base,I.loc,I.cell,I.free,I.kc,λp hp=>(gm.mp hp).elim (λz=>I.pin p (kD _ z)) (h p),I.az,I.len⟩
theorem BL {N:List Str}(g:N.Nodup){i j:Nat}(a:N[i]? =some x)(b:N[j]? =some x):i=j:=by
 obtain⟨h1,k⟩:=cK.mp a;obtain⟨h2,h⟩:=cK.mp b;exact(NB g).mp (k.trans h.symm)
theorem HW (I:Inv X pins σ H s)(hN:X.N.Nodup)(T:X.N[i]? =some x)(F:Loc X.env.scope x)(r:RelV v u)
 (h:∀s',Inv X pins (σ.set i (some v)) H s'->(∃a,Eu a s.heap s'.heap/\(a=X.env.locals\/X.env.cells.lookup x=some a))->Q () s') (hf:X.fn x=true\/X.env.scope.names.lookup x=some .local:=by first|exact .inl rfl|exact .inr rfl|assumption):aZ M A (NU X.env x u) Q E s:=by
 obtain⟨m,hn,hl⟩:=id I.loc;have hcls:(X.env.scope.kind== .class||(X.env.scope.kind== .module&&X.env.locals !=X.env.globals))=false:=by rw[I.ok.kind];rfl
 have hiσ:i<σ.length:=by rw[I.len];exact(cK.mp T).1
 have pC:=I.pC
 have tracked:∀{a:ai} {h':bz},(∃o,s.heap.get? a=some o/\H a=none)->Eu a s.heap h'->dQ H h':=λ{a h'} ha g b ob e=>by
  obtain⟨_,_,hfree⟩:=ha;refine(I.az b ob e).bM (λc U G q=>(g.2 c ?_).trans q) (λ_ q=>q) λ_ _ q=>q
  grind
 rcases F with P|P
 ·refine wpAny_storeName_local P hn (λh' hn' g=>?_) hcls;obtain⟨oL,_,_,hoL,_⟩:=id hn;refine h _ ⟨I.ok,I.os,I.bare,⟨λb o e n O F=>?_,λb o e n O F=>?_,I.base.free,λb o e F=>?_,I.base.tups,I.base.frzs,I.base.tbls⟩,⟨_,hn',λj y Y C J e3=>?_⟩,λy c e=>?_,I.free,I.kc,λp hp=>?_,tracked ⟨oL,hoL,I.free⟩ g,by simpa using I.len⟩ ⟨_,g,.inl rfl⟩
  ·exact(g.2 b (i6 (iK (eJ e) I.ok.above))).trans (I.base.keep b o e n O F)
  ·obtain⟨sl,C⟩:=I.base.slot b o e n O F;exact⟨sl,(g.2 b (i6 (iK (eJ e) I.ok.above))).trans C⟩
  ·obtain⟨o',C⟩:=I.base.there b o e F;exact⟨o',(g.2 b (i6 (iK (eJ e) I.ok.above))).trans C⟩
  ·by_cases L:j=i
   ·subst L;rw[T]at C;cases C;rw[X3 hiσ]at J;cases J;exact⟨u,r,.inl ⟨P,by simp⟩⟩
   ·rw[NV (mT L)]at J;obtain⟨u',r',q⟩:=hl j y Y C J e3;refine⟨u',r',?_⟩;rcases q with⟨k,e⟩|⟨k,c,e,z⟩
    ·refine .inl ⟨k,?_⟩;have:y≠x:=λe=>L (BL hN C (e▸T));simp_all
    ·exact .inr ⟨k,c,e,z.sameBut g (pC y c e)⟩
  ·obtain⟨U,z⟩:=I.cell y c e;exact⟨U,z.sameBut g (pC y c e)⟩
  ·obtain⟨e,n,ne,nf,d⟩:=I.pin p hp;exact⟨(g.2 p.1 ne).trans e,n,ne,nf,d⟩
 ·have hfn:X.fn x=true:=by
   simp_all
  obtain⟨c,G⟩:=I.ok.has x (.inl P);obtain⟨U,z⟩:=I.cell x c G;refine wpAny_storeName_cell I.ok.kind P G z (λh' hc' g=>?_);obtain⟨oc,hoc,hocd⟩:=id z;refine h {s with heap:=h'} ⟨I.ok,I.os,I.bare,⟨λb o e n O F=>?_,λb o e n O F=>?_,I.base.free,λb o e F=>?_,I.base.tups,I.base.frzs,I.base.tbls⟩,⟨m,hn.sameBut g (mT (pC x c G)),λj y Y C J e3=>?_⟩,λy W e=>?_,I.free,I.kc,λp hp=>?_,tracked ⟨oc,hoc,I.kc x c G⟩ g,by simpa using I.len⟩ ⟨c,g,.inr G⟩
  ·exact(g.2 b (i6 (iK (eJ e) (I.ok.ur x c hfn G)))).trans (I.base.keep b o e n O F)
  ·obtain⟨sl,C⟩:=I.base.slot b o e n O F;exact⟨sl,(g.2 b (i6 (iK (eJ e) (I.ok.ur x c hfn G)))).trans C⟩
  ·obtain⟨o',C⟩:=I.base.there b o e F;exact⟨o',(g.2 b (i6 (iK (eJ e) (I.ok.ur x c hfn G)))).trans C⟩
  ·by_cases L:j=i
   ·subst L;rw[T]at C;cases C;rw[X3 hiσ]at J;cases J;exact⟨u,r,.inr ⟨.inl P,c,G,hc'⟩⟩
   ·rw[NV (mT L)]at J;obtain⟨u',r',q⟩:=hl j y Y C J e3;refine⟨u',r',?_⟩;rcases q with q|⟨k,W,e,z'⟩
    ·exact .inl q
    ·refine .inr ⟨k,W,e,z'.sameBut g ?_⟩;rintro rfl;exact L (BL hN C (I.ok.inj _ _ _ e G▸T))
  ·by_cases hcc:W=c
   ·subst hcc;exact⟨_,hc'⟩
   ·obtain⟨w2,z2⟩:=I.cell y W e;exact⟨w2,z2.sameBut g hcc⟩
  ·obtain⟨e,n,ne,nf,d⟩:=I.pin p hp;refine⟨(g.2 p.1 ?_).trans e,n,ne,nf,d⟩;intro q;rw[q,hoc]at e;have q':oc=p.2:=kz e;exact d U (by rw[<-q'];exact hocd)
theorem BM (I:Inv X pins σ H s)(o:X.N.Nodup)(j:X.N[i]? =some x)(g:Loc X.env.scope x)(r:RelV v u)
 (h:∀b,Inv X pins (σ.set i (some v)) H b->Q () b) (k:X.fn x=true\/X.env.scope.names.lookup x=some .local:=by first|exact .inl rfl|exact .inr rfl|assumption):aZ M A (NU X.env x u) Q E s:=
 HW I o j g r (λb y _=>h b y) k
theorem Inv.BN (I:Inv X pins σ H s)(j:s'.os=s.os)(u:Un (fe X.stack) ch H H' s.heap s'.heap)(az:dQ H' s'.heap)(k:qF s'.gens)
 (o:∀b∈ch,(b∈X.ex\/X.s_0.heap.objs.size<=b)/\b≠X.env.locals/\(∀x c,X.env.cells.lookup x=some c->c≠b)/\∀p∈X.pn++pins,p.1≠b):Inv X pins σ H' s':=by
 obtain⟨h',h,i,g,y⟩:=s';have e:=j;subst e;exact I.call (g':=h) (t':=g) (d':=i) u az k o
end
abbrev XK:=ao->Option ai->Hp->Prop
abbrev St:=List (Option V)
abbrev VK:=V->Hp->Prop
abbrev TE:=St->Hp->VK->Prop
abbrev TT:=St->Hp->(Bool->Hp->Prop)->Prop
abbrev TA:=St->Hp->(List V->Hp->Prop)->Prop
structure Ends where
 nx:St->Hp->Prop
 rt:VK
 bk:St->Hp->Prop:=λ_ _=>False
 ct:St->Hp->Prop:=λ_ _=>False
abbrev TS:=Ends->St->Hp->Prop
def EP (X:Cx)(h:List (ai×Obj))(σ:St)(Q:VK)(u:ao)(g:aF):Prop:=∃v b,Inv X h σ b g/\RelV v u/\Q v b
def TP (X:Cx)(i:List (ai×Obj))(σ:St)(Q:Bool->Hp->Prop)(b:Bool)(h:aF):Prop:=∃g,Inv X i σ g h/\Q b g
def AP (X:Cx)(j:List (ai×Obj))(σ:St)(Q:List V->Hp->Prop)(h:List ao)(i:aF):Prop:=∃b g,Inv X j σ g i/\bp b h/\Q b g
def SP (X:Cx)(i:List (ai×Obj))(D:Ends)(f:Flow)(h:aF):Prop:=
 match f with
 | .next=>∃g b,Inv X i g b h/\D.nx g b
 | .brk=>∃g b,Inv X i g b h/\D.bk g b
 | .cont=>∃g b,Inv X i g b h/\D.ct g b
 | .ret u=>∃v g b,Inv X i g b h/\RelV v u/\D.rt v b
def PE (X:Cx)(e:cC)(t:TE):Prop:=
 ∀(b:List (ai×Obj)) (s:aF) (σ:St) (H:Hp) (Q:VK),Inv X b σ H s->t σ H Q->aZ (aT X.prog X.w) X.A (cb e X.env) (EP X b σ Q) X.xe s
def PT (X:Cx)(e:cC)(t:TT):Prop:=
 ∀(b:List (ai×Obj)) (s:aF) (σ:St) (H:Hp) (Q:Bool->Hp->Prop),Inv X b σ H s->t σ H Q->aZ (aT X.prog X.w) X.A (zJ e X.env (cb e X.env)) (TP X b σ Q) X.xe s
def PW (X:Cx)(e:cC)(t:TT):Prop:=
 ∀(whole:Sem ao) (b:List (ai×Obj)) (s:aF) (σ:St) (H:Hp) (Q:Bool->Hp->Prop),Inv X b σ H s->t σ H Q->aZ (aT X.prog X.w) X.A (zJ e X.env whole) (TP X b σ Q) X.xe s
theorem PW.pt (h:PW X e t):PT X e t:=h _
def PA (X:Cx)(es:List cC)(t:TA):Prop:=
 ∀(pos:Pos) (b:List (ai×Obj)) (s:aF) (σ:St) (H:Hp) (Q:List V->Hp->Prop),Inv X b σ H s->t σ H Q->aZ (aT X.prog X.w) X.A (spliced (iw pos (cD es X.env))) (AP X b σ Q) X.xe s
def PS (X:Cx)(st:aV)(t:TS):Prop:=
 ∀(b:List (ai×Obj)) (s:aF) (σ:St) (H:Hp) (D:Ends),Inv X b σ H s->t D σ H->aZ (aT X.prog X.w) X.A (exec st X.env) (SP X b D) X.xe s
def ic (X:Cx)(st:List aV)(t:TS):Prop:=
 ∀(b:List (ai×Obj)) (s:aF) (σ:St) (H:Hp) (D:Ends),Inv X b σ H s->t D σ H->aZ (aT X.prog X.w) X.A (execs st X.env) (SP X b D) X.xe s
theorem bc {t:Sem α}{Q Q'}(h:aZ M A t Q E s)(b:∀a s,Q a s->Q' a s):aZ M A t Q' E s:=l_ h b λ_ _ x=>x
section
variable {X:Cx}
def bg (i:Nat):TE:=λσ H Q=>match σ[i]? with
 |some (some v)=>Q v H
 |_=>False
set_option tactic.hygienic true in
theorem bg.of (h:bg i σ H Q):∃v,σ[i]? =some (some v)/\Q v H:=by
 unfold bg at h;split at h
 ·rename_i v e;exact⟨v,e,h⟩
 simp_all
theorem bg.to (e:σ[i]? =some (some v))(h:Q v H):bg i σ H Q:=by
 unfold bg;simp_all
def tC (v:V):TE:=λ_ H Q=>Q v H
theorem Ra {pos}(C:X.N[i]? =some x)(j:rA X.env.scope x)(hd:(x==("__debug__":Str))=false:=by decide)(z:(x==("__classdict__":Str))=false:=by decide):PE X (.Name x pos) (bg i):=by
 intro g s σ H Q I h;obtain⟨v,e,h⟩:=bg.of h;obtain⟨m,k,y⟩:=I.loc;obtain⟨u,r,l⟩:=y i x v C e j;have fin:EP X g σ Q u s:=⟨v,H,I,r,h⟩;rcases l with⟨b,o⟩|⟨b,c,hc,hcell⟩
 ·exact NW (X4 I.ok.kind b k o fin) hd
 ·rcases b with b|b
  ·exact NW (X5 I.ok.kind b hc hcell fin) hd
  ·exact NW (wpAny_loadName_free I.ok.kind b hc hcell fin z) hd
theorem aY {i j pos}:PE X (.Constant (.int i) j pos) (tC (.int i)):=λ_ _ _ H _ I h=>wpAny_Constant_int ⟨.int i,H,I.tok _,⟨_,rfl⟩,h⟩
theorem kN {b j pos}:PE X (.Constant (.bool b) j pos) (tC (.bl b)):=λ_ _ _ H _ I h=>Constant_bool ⟨.bl b,H,I,rfl,h⟩
theorem m7 {j pos}:PE X (.Constant .none j pos) (tC .aB):=λ_ _ _ H _ I h=>Constant_none ⟨.aB,H,I,rfl,h⟩
def Gl (X:Cx)(x:Str):Prop:=X.env.kindOf x=some .globalImplicit
theorem pD {σ:St}(I:Inv X pins σ H s)(g:Gl X x)(b:X.mg x=some u)(h:Q u s)
 (hd:(x==("__debug__":Str))=false:=by decide):aZ (aT X.prog X.w) X.A (cb (.Name x pos) X.env) Q E s:=
 X6 I.ok.kind g (Calls.loadGlobal_global (by rw[I.ok.glob];exact I.mod.glob.keeps I.bk) b h) hd
theorem uw {E}{σ:St}{pos}(I:Inv X pins σ H s)(j:Gl X x)(i:X.mg x=none)(b:zI x=some u)(h:Q u s)
 (g:x≠"__name__":=by decide) (hd:(x==("__debug__":Str))=false:=by decide):aZ (aT X.prog X.w) X.A (cb (.Name x pos) X.env) Q E s:=by
 obtain⟨k,h1,h2⟩:=I.mod.blt;exact X6 I.ok.kind j (Calls.loadGlobal_builtin (by rw[I.ok.glob];exact I.mod.glob.keeps I.bk) i (by rw[I.ok.blt];exact h1.keeps I.bk) ((h2 x g).trans b) h) hd
theorem Rb (g:Gl X x)(b:X.mg x=some u)(r:RelV v u)(hd:(x==("__debug__":Str))=false:=by decide):PE X (.Name x pos) (tC v):=
 λ_ _ _ H _ I h=>pD I g b ⟨v,H,I,r,h⟩ hd
def ux (x y:V)(H:Hp)(k:Int->Int->Hp->Prop):Prop:=match x,y with
 | .int i,.int j=>k i j H
 |_,_=>False
theorem ux.of (h:ux x y H k):∃i j,x= .int i/\y= .int j/\k i j H:=by
 unfold ux at h;split at h
 ·exact⟨_,_,rfl,rfl,h⟩
 simp_all
variable {a b:cC}{ta tb:TE}{pos:Pos}
def IB (x:V)(H:Hp)(Q:Bool->Hp->Prop):Prop:=match x with
 | .bl c=>Q c H
 |_=>False
theorem IB.of (h:IB x H Q):∃c,x= .bl c/\Q c H:=by
 unfold IB at h;split at h
 ·exact⟨_,rfl,h⟩
 simp_all
def tB (t:TE):TT:=λσ H Q=>t σ H λx H1=>IB x H1 Q
theorem c_ (h:PE X e t)(o:∀whole,zJ e X.env whole=(do let v<-whole;zK e.pos;zL [v] (truthy v)):=by intro _;rfl):PT X e (tB t):=by
 intro j s σ H Q I k;refine isTrue_plain (bc (h j s σ H _ I k) λv y g=>?_) (o _);obtain⟨x,H1,u,r1,i⟩:=g;obtain⟨d,rfl,q⟩:=IB.of i;cases r1;exact qG ⟨H1,u,q⟩
variable {tA xN:TT}{rest:List cC}
def HX (t u:TT):TT:=λσ H Q=>t σ H λc H1=>if c=true then u σ H1 Q else Q false H1
def HY (t u:TT):TT:=λσ H Q=>t σ H λc H1=>if c=true then Q true H1 else u σ H1 Q
def HZ (t:TT):TT:=λσ H Q=>t σ H λc H1=>Q (!c) H1
theorem xO (i:PT X a tA):PW X (.BoolOp .And [a] pos) tA:=by
 intro j g s σ H Q I h;refine isTrue_and (bc (i g s σ H Q I h) λc k e=>?_);cases c with
 |true=>exact isTrue_and_nil e
 |false=>exact e
theorem kP (i:PT X a tA):PW X (.BoolOp .Or [a] pos) tA:=by
 intro j g s σ H Q I h;refine isTrue_or (bc (i g s σ H Q I h) λc k e=>?_);cases c with
 |false=>exact isTrue_or_nil e
 |true=>exact e
theorem xP (z:PT X a tA)(y:PW X (.BoolOp .And (b::rest) pos) xN):PW X (.BoolOp .And (a::b::rest) pos) (HX tA xN):=by
 intro o i s σ H Q I h;refine isTrue_and (bc (z i s σ H _ I h) λc u k=>?_);obtain⟨H1,j,g⟩:=k;cases c with
 |true=>exact y o i u σ H1 Q j g
 |false=>exact⟨H1,j,g⟩
theorem jD (z:PT X a tA)(y:PW X (.BoolOp .Or (b::rest) pos) xN):PW X (.BoolOp .Or (a::b::rest) pos) (HY tA xN):=by
 intro o i s σ H Q I h;refine isTrue_or (bc (z i s σ H _ I h) λc u k=>?_);obtain⟨H1,j,g⟩:=k;cases c with
 |true=>exact⟨H1,j,g⟩
 |false=>exact y o i u σ H1 Q j g
theorem lE (i:PT X a tA):PT X (.UnaryOp .Not a pos) (HZ tA):=by
 intro g s σ H Q I h;exact isTrue_not (i g s σ H (λc H1=>Q (!c) H1) I h)
def Rc (ta tb:TE):TE:=λσ H Q=>ta σ H λx H1=>∃c,x= .bl c/\if c=true then tb σ H1 Q else Q (.bl false) H1
def Rf (ta tb:TE):TE:=λσ H Q=>ta σ H λx H1=>∃c,x= .bl c/\if c=true then Q (.bl true) H1 else tb σ H1 Q
theorem rB {op}(h:PE X a t):PE X (.BoolOp op [a] pos) t:=λg s σ H Q I i=>BoolOp_one (h g s σ H Q I i)
theorem uy (y:PE X a ta)(u:PE X (.BoolOp .And (b::rest) pos) tb):PE X (.BoolOp .And (a::b::rest) pos) (Rc ta tb):=by
 intro i s σ H Q I h;refine BoolOp_and (bc (y i s σ H _ I h) λv o k=>?_);obtain⟨x,H1,j,r1,g⟩:=k;obtain⟨c,rfl,g⟩:=g;cases r1;refine qG ?_;cases c with
 |true=>exact u i o σ H1 Q j g
 |false=>exact⟨.bl false,H1,j,rfl,g⟩
theorem BO (y:PE X a ta)(u:PE X (.BoolOp .Or (b::rest) pos) tb):PE X (.BoolOp .Or (a::b::rest) pos) (Rf ta tb):=by
 intro i s σ H Q I h;refine BoolOp_or (bc (y i s σ H _ I h) λv o k=>?_);obtain⟨x,H1,j,r1,g⟩:=k;obtain⟨c,rfl,g⟩:=g;cases r1;refine qG ?_;cases c with
 |false=>exact u i o σ H1 Q j g
 |true=>exact⟨.bl true,H1,j,rfl,g⟩
def H_ (t:TT)(ta tb:TE):TE:=λσ H Q=>t σ H λc H1=>if c=true then ta σ H1 Q else tb σ H1 Q
theorem BP (u:PT X c tA)(z:PE X a ta)(y:PE X b tb):PE X (.IfExp c a b pos) (H_ tA ta tb):=by
 intro g s σ H Q I h;refine wpAny_IfExp (bc (u g s σ H _ I h) λd i o=>?_);obtain⟨H1,k,j⟩:=o;cases d with
 |true=>exact z g i σ H1 Q k j
 |false=>exact y g i σ H1 Q k j
end
def ax (K:aW)(H:Hp)(a:ai)(xs:List V):Prop:=
 Rd H a (.lst xs)\/
  ∃(o:Obj) (b:Array ao) (n:Nat),K.lookup a=some o/\o.cls= .type "list"/\o.dict=none/\o.data= .seq b n/\b.size<=bH/\bp xs b.toList
def ke (K:aW)(H:Hp)(a:ai)(g:List V):Prop:=
 Rd H a (.tup g)\/
  ∃(o:Obj) (b:Array ao) (n:Nat),K.lookup a=some o/\o.cls= .type "tuple"/\o.data= .seq b n/\b.size<=bH/\bp g b.toList
def Rg:ao->Option V
 | .none=>some .aB
 | .bool b=>some (.bl b)
 | .int i _=>some (.int i)
 | .str x _=>some (.str x)
 | .bytes b _=>some (.iC b)
 | .float b _=>some (.xG b)
 | .ref a=>some (.ref a)
 | .type n=>some (.ty n)
 |_=>none
theorem RelV.abs (r:RelV x u):Rg u=some x:=by
 cases x with
 |aB=>cases r;rfl
 |bl _=>cases r;rfl
 |int _=>obtain⟨t,rfl⟩:=r;rfl
 |str _=>obtain⟨t,rfl⟩:=r;rfl
 |iC _=>obtain⟨t,rfl⟩:=r;rfl
 |xG _=>obtain⟨t,rfl⟩:=r;rfl
 |ref _=>cases r;rfl
 |ty _=>cases r;rfl
theorem RelV.inj (r:RelV x u)(q:RelV y u):x=y:=kz (r.abs.symm.trans q.abs)
theorem bp.inj:∀{g b} {h},bp g h->bp b h->g=b
 |_,_,_,.nil,.nil=>rfl
 |_,_,_,.cons r t,.cons j i=>by rw[r.inj j,bp.inj t i]
section
variable {X:Cx}{pins:List (ai×Obj)}{σ:St}{H:Hp}{s:aF}{a:ai}{xs ys:List V}
theorem ax.of {K}(h:H a=some (.lst xs)):ax K H a xs:= .inl (.inl h)
theorem ke.of {K}(h:H a=some (.tup xs)):ke K H a xs:= .inl (.inl h)
theorem Inv.list (I:Inv X pins σ H s)(h:ax X.K H a xs):∃b:List ao,bp xs b/\PlainL s.heap a b.toArray/\xs.length<=bH:=by
 rcases h with h|⟨o,b,n,hk,hc,hd,hs,hz,r⟩
 ·obtain⟨z,b,n,r,e⟩:=h.ok I.az;exact⟨b,r,⟨_,n,e,rfl,rfl,rfl⟩,z⟩
 ·refine⟨b.toList,r,⟨o,n,I.iD a o hk,hc,hd,by simpa using hs⟩,?_⟩;have e:=r.length;simp_all
theorem Inv.tuple (I:Inv X pins σ H s)(h:ke X.K H a xs):∃b:List ao,bp xs b/\IsTup s.heap a b.toArray/\xs.length<=bH:=by
 rcases h with h|⟨o,b,n,hk,hc,hs,hz,r⟩
 ·obtain⟨z,b,r,p⟩:=h.ok I.az;exact⟨b,r,p,z⟩
 ·refine⟨b.toList,r,⟨o,I.iD a o hk,hc,n,by simpa using hs⟩,?_⟩;have e:=r.length;simp_all
theorem Inv.xQ (I:Inv X pins σ H s)(h:ax X.K H a xs)(u:ax X.K H a ys):xs=ys:=by
 obtain⟨k,r,⟨o,n,e,_,_,d⟩,_⟩:=I.list h;obtain⟨j,i,⟨z,C,b,_,_,g⟩,_⟩:=I.list u;rw[e]at b;cases b;rw[d]at g;injection g with y _
 have:k=j:=by simpa using congrArg Array.toList y
 subst this;exact r.inj i
end
section
variable {X:Cx}{pins:List (ai×Obj)}{σ:St}{H:Hp}{s:aF}{E:ao->aF->Prop}
end
section
variable {X:Cx}{st:aV}{rest:List aV}{t u:TS}{e:cC}{te:TE}{pos:Pos}
def n4:TS:=λD σ H=>D.nx σ H
def kQ (t u:TS):TS:=λD σ H=>t {D with nx:=u D} σ H
theorem aS:ic X [] n4:=λ_ _ σ H _ I h=>zM ⟨σ,H,I,h⟩
theorem ah (h1:PS X st t)(h2:ic X rest u):ic X (st::rest) (kQ t u):=by
 intro b s σ H D I h;refine X7 (bc (h1 b s σ H {D with nx:=u D} I h) λf i q=>?_);cases f with
 |next=>
  obtain⟨g,k,j,q⟩:=q;exact h2 b i g k D j q
 |ret v=>exact q
 |brk=>exact q
 |cont=>exact q
theorem ak (h1:PS X st t):ic X [st] t:=by
 intro b s σ H D I h;refine X7 (bc (h1 b s σ H D I h) λf g q=>?_);cases f with
 |next=>exact zM q
 |ret v=>exact q
 |brk=>exact q
 |cont=>exact q
theorem Inv.quiet {σ:St}(I:Inv X pins σ H s):interactive X.env=false:=by simp[interactive,I.ok.kind]
def mw (te:TE):TS:=λD σ H=>te σ H λ_ H1=>D.nx σ H1
theorem ba (j:PE X e te)(i:tf e none pos.line X.env=pure false:=by rfl):PS X (.Expr e pos) (mw te):=by
 intro g s σ H D I h;exact wpAny_Expr_any (bc (j g s σ H _ I h) λv o ⟨x,H1,k,r1,b⟩=>⟨σ,H1,k,b⟩) I.quiet i
def lF (te:TE):TS:=λD σ H=>te σ H D.rt
theorem aC (i:PE X e te):PS X (.Return (some e) pos) (lF te):=by
 intro g s σ H D I h;exact wpAny_Return_some (bc (i g s σ H _ I h) λv k ⟨x,H1,j,r1,b⟩=>⟨x,σ,H1,j,r1,b⟩)
def Rh:TS:=λD _ H=>D.rt .aB H
theorem Ri:PS X (.Return none pos) Rh:=λ_ _ σ H _ I h=>wpAny_Return_none ⟨.aB,σ,H,I,rfl,h⟩
def m8 (c:TT)(t u:TS):TS:=λD σ H=>c σ H λb H1=>if b=true then t D σ H1 else u D σ H1
theorem aL (y:PT X c tc)(C:ic X a t)(z:ic X b u):PS X (.If c a b pos) (m8 tc t u):=by
 intro g s σ H D I h;refine wpAny_If (bc (y g s σ H _ I h) λd i o=>?_);obtain⟨H1,k,j⟩:=o;cases d with
 |true=>exact C g i σ H1 D k j
 |false=>exact z g i σ H1 D k j
end
abbrev TG:=V->St->Hp->(St->Hp->Prop)->Prop
abbrev uz:=List V->St->Hp->(St->Hp->Prop)->Prop
def PG (X:Cx)(target:cC)(t:TG):Prop:=
 ∀(g:List (ai×Obj)) (s:aF) (σ:St) (H:Hp) (v:V) (u:ao) (Q:St->Hp->Prop),Inv X g σ H s->RelV v u->t v σ H Q->
  aZ (aT X.prog X.w) X.A (assign target X.env u) (λ_ i=>∃b h,Inv X g b h i/\Q b h) X.xe s
def uA (X:Cx)(k:List cC)(t:uz):Prop:=
 ∀(i:List (ai×Obj)) (s:aF) (σ:St) (H:Hp) (g:List V) (h:List ao) (Q:St->Hp->Prop),Inv X i σ H s->bp g h->t g σ H Q->
  aZ (aT X.prog X.w) X.A (assignInOrder ((tj k X.env).map (·.2)) h) (λ_ o=>∃b j,Inv X i b j o/\Q b j) X.xe s
abbrev Ia:=V->V->Hp->VK->Prop
def Ib (X:Cx)(op:Operator)(t:Ia):Prop:=
 ∀(b:List (ai×Obj)) (s:aF) (σ:St) (H:Hp) (x y:V) (v u:ao) (Q:VK),Inv X b σ H s->RelV x v->RelV y u->t x y H Q->
  aZ (aT X.prog X.w) X.A (NX op v u) (EP X b σ Q) X.xe s
section
variable {X:Cx}{pos:Pos}
def pF (i:Nat):TG:=λv σ H Q=>Q (σ.set i (some v)) H
theorem dF (i){x}(k:X.N.Nodup:=by assumption)(g:X.N[i]? =some x:=by rfl)(b:Loc X.env.scope x:=by first|exact Or.inl rfl|exact Or.inr rfl)(j:X.fn x=true\/X.env.scope.names.lookup x=some .local:=by first|exact .inl rfl|exact .inr rfl|assumption):PG X (.Name x pos) (pF i):=by
 intro z s σ H v u Q I r h;exact X8 (BM I k g b r (λy o=>⟨_,H,o,h⟩) j)
def Ic:uz:=λb σ H Q=>b=[]/\Q σ H
def BQ (t:TG)(u:uz):uz:=λg σ H Q=>∃v r,g=v::r/\t v σ H λb h=>u r b h Q
theorem BR:uA X [] Ic:=by
 intro i s σ H b g Q I r h;obtain⟨e,h⟩:=h;exact assignInOrder_nil ⟨σ,H,I,h⟩
theorem rC (h1:PG X e t)(h2:uA X es u)
 (y:(tj (e::es) X.env).map (·.2)=assign e X.env::(tj es X.env).map (·.2):=by rfl):uA X (e::es) (BQ t u):=by
 intro b s σ H F J Q I r h;obtain⟨v,G,z,h⟩:=h;subst z;cases r with
 |cons r k=>
  rw[y];refine assignInOrder_cons (bc (h1 b s σ H _ _ _ I r h) λ_ j i=>?_);obtain⟨g,H1,C,o⟩:=i;exact h2 b j g H1 _ _ Q C k o
inductive xR (K)(n)(t:uz)(v:V)(σ)(H)(Q):Prop|mk (a) (xs):v= .ref a->ke K H a xs->xs.length=n->t xs σ H Q->xR K n t v σ H Q
theorem uB {k}(M:X.calm=true)(h:uA X es t)
 (J:(tj es X.env).length=n:=by rfl) (F:(tj es X.env).findIdx? (·.1)=none:=by rfl):PG X (.Tuple es k pos) (xR X.K n t):=by
 intro j s σ H v u Q I r g;obtain⟨a,y,P,G,L,g⟩:=g;subst P;cases r;obtain⟨U,i,C,W⟩:=I.tuple G;refine assign_Tuple_tuple (I.ok.hd M) C (by simp[J,<-L,i.length]) F λO z=>?_;have T:Inv X j σ H {s with heap:=O}:=I.kept (t':=s.toks) λb o e=>z b o (i6 (eJ e)) e;exact h j _ σ H y _ Q T (by simpa using i) g
def xS (b:TE)(g:TG):TS:=λD σ H=>b σ H λx H1=>g x σ H1 D.nx
theorem aN (i){x}{pos'}(C:PE X e te)(F:X.N.Nodup:=by assumption)(u:X.N[i]? =some x:=by rfl)(k:Loc X.env.scope x:=by first|exact Or.inl rfl|exact Or.inr rfl)(o:tf e (some (.Name x pos')) pos.line X.env=pure false:=by rfl)(z:X.fn x=true\/X.env.scope.names.lookup x=some .local:=by first|exact .inl rfl|exact .inr rfl|assumption):
 PS X (.Assign [.Name x pos'] e pos) (xS te (pF i)):=by
 intro j s σ H D I h;refine wpAny_Assign_Name (bc (C j s σ H _ I h) λv M b=>?_) o;obtain⟨y,H1,J,r1,g⟩:=b;exact BM J F u k r1 (λL G=>⟨_,H1,G,g⟩) z
def Rj (i:Nat)(g:TE)(b:Ia):TS:=λD σ H=>∃x,σ[i]? =some (some x)/\g σ H λy H1=>b x y H1 λz h=>D.nx (σ.set i (some z)) h
theorem uC (i){x}{pos'}(he:PE X e te)(P:Ib X op ti)(hN:X.N.Nodup:=by assumption)(C:X.N[i]? =some x:=by rfl)(o:Loc X.env.scope x:=by first|exact Or.inl rfl|exact Or.inr rfl)(Y:X.fn x=true\/X.env.scope.names.lookup x=some .local:=by first|exact .inl rfl|exact .inr rfl|assumption):
 PS X (.AugAssign (.Name x pos') op e pos) (Rj i te ti):=by
 intro j s σ H D I h;obtain⟨v,e1,h⟩:=h;obtain⟨m,T,W⟩:=I.loc;have F:rA X.env.scope x:=by rcases o with k|k;exact .inl k;exact .inr (.inl k)
 obtain⟨u,r,l⟩:=W i x v C e1 F;refine wpAny_AugAssign_Name ?_
 have go:aZ (aT X.prog X.w) X.A (cb e X.env) (λw J=>aZ (aT X.prog X.w) X.A (NX op u w) (λr G=>aZ (aT X.prog X.w) X.A (NU X.env x r) (λ_=>SP X j D .next) X.xe G) X.xe J) X.xe s:=by
  refine bc (he j s σ H _ I h) λw L g=>?_;obtain⟨y,H1,I1,r1,O⟩:=g;refine bc (P j L σ H1 v y u w _ I1 r r1 O) λz s2 g=>?_;obtain⟨zv,H2,I2,r2,M⟩:=g;exact BM I2 hN C o r2 (λs3 I3=>⟨_,H2,I3,M⟩) Y
 rcases l with⟨b,U⟩|⟨b,c,hc,hcell⟩
 ·exact X4 I.ok.kind b T U go
 ·rcases b with b|b
  ·exact X5 I.ok.kind b hc hcell go
  ·rcases o with k|k
   ·have:X.env.scope.names.lookup x=some .free:=b;simp_all
   ·have:X.env.scope.names.lookup x=some .free:=b;simp_all
inductive Ie (f:Int->Int->Int)(x y:V)(H)(Q:VK):Prop|mk (i j):x= .int i->y= .int j->Q (.int (f i j)) H->Ie f x y H Q
theorem uD:Ib X .Add (Ie λi j=>i+j):=by
 intro o s σ H x y v u Q I r1 r2 h;obtain⟨i,j,g,b,q⟩:=h;subst g;subst b;obtain⟨t,rfl⟩:=r1;obtain⟨k,rfl⟩:=r2;exact iadd_int ⟨.int _,H,I.tok _,⟨_,rfl⟩,q⟩
def Rk (c:TT)(tb:TS):TS:=λD σ H=>∃W:Nat->St->Hp->Prop,(∃m,W m σ H)/\∀m σ H,W m σ H->
 c σ H λb H1=>if b=true then∃N:St->Hp->Prop,(∀g i,N g i->∃h,h<m/\W h g i)/\tb {D with nx:=N,ct:=N,bk:=D.nx} σ H1 else D.nx σ H1
theorem mx (hp:Ew (aT X.prog X.w) X.A X.env X.xe)(hc:PT X c tc)(hb:ic X body tb):PS X (.While c body [] pos) (Rk tc tb):=by
 intro y s σ H D I h;obtain⟨W,⟨m0,Y⟩,turn⟩:=h;refine wpAny_While (codeAny_whileLoop (λn s'=>∃J P,Inv X y J P s'/\W n J P) ?_ m0 ⟨σ,H,I,Y⟩);rintro n s1 ⟨j,H1,I1,U⟩;refine tm hp (bc (hc y s1 j H1 _ I1 (turn n j H1 U)) λb s2 T=>?_);obtain⟨O,M,o⟩:=T;cases b with
 |true=>
  obtain⟨N,L,o⟩:=o;refine tm hp (bc (hb y s2 j O _ M o) λf s3 k=>?_);cases f with
  |next=>
   obtain⟨g,i,G,z⟩:=k;obtain⟨C,F,u⟩:=L g i z;exact⟨C,F,g,i,G,u⟩
  |cont=>
   obtain⟨g,i,G,z⟩:=k;obtain⟨C,F,u⟩:=L g i z;exact⟨C,F,g,i,G,u⟩
  |brk=>exact k
  |ret v=>exact k
 |false=>
  exact zM ⟨j,O,M,o⟩
end
structure It where
 go:Nat->Hp->Prop
 n6:Nat->Hp->V->Hp->Prop
 stop:Nat->Hp->Prop
def kf (X:Cx)(g:List (ai×Obj))(H:Hp)(b:ai):Prop:=
 H b=none/\b≠X.env.locals/\b∉X.fs/\(b∈X.ex\/X.s_0.heap.objs.size<=b)/\(∀x c,X.env.cells.lookup x=some c->c≠b)/\∀p∈X.pn++g,p.1≠b
theorem Inv.rD {σ:St}{b:ai}(I:Inv X pins σ H s)(g:s.heap.objs.size<=b)(h:H' b=none):kf X pins H' b:=by
 refine⟨h,NY (iK I.lt g),I.Q_ g,.inr (eA I.sz g),λx c e z=>?_,λp hp z=>?_⟩
 ·obtain⟨v,q⟩:=I.cell x c e;exact absurd (iK q.lt (by rw[z];exact g)) (qE _)
 ·exact absurd (iK (eJ (I.pin p hp).1) (by rw[z];exact g)) (qE _)
structure Turn (P:bL)(w:bw)(K:aW)(tg:cC)(J:It)(fp:List ai)(it:ai)(tn:Nat->bz->Prop):Prop where
 mem:it∈fp
 obj:∀i h,tn i h->∀b∈fp,∃o,h.get? b=some o/\∀v,o.data≠.cell v
 keep:∀i h h',tn i h->(∀b∈fp,∀o,h.get? b=some o->h'.get? b=some o)->tn i h'
 item:∀(X:Cx),X.prog=P->X.w=w->X.K=K->X.calm=true->∀(i:Nat) (pins:List (ai×Obj)) (s:aF) (σ:St) (H:Hp) (E:ao->aF->Prop),Inv X pins σ H s->(∀b∈fp,kf X pins H b)->tn i s.heap->J.go i H->
  aZ (aT P w) X.A (pyNext (.ref it)) (λr s1=>∃u,r=some u/\
   aZ (aT P w) X.A (NZ tg (.ref it) u) (λ_ s2=>∃x H',Inv X pins σ H' s2/\RelV x u/\J.n6 i H x H'/\tn (i+1) s2.heap/\∀b∈fp,H' b=none) E s1) E s
 done:∀(X:Cx),X.prog=P->X.w=w->X.K=K->X.calm=true->∀(i:Nat) (pins:List (ai×Obj)) (s:aF) (σ:St) (H:Hp) (E:ao->aF->Prop),Inv X pins σ H s->(∀b∈fp,kf X pins H b)->tn i s.heap->J.stop i H->
  aZ (aT P w) X.A (pyNext (.ref it)) (λr s1=>r=none/\Inv X pins σ H s1) E s
 self:∀(A:fm) (i:Nat) (s:aF) (Q:ao->aF->Prop) (E:ao->aF->Prop),tn i s.heap->Q (.ref it) s->aZ (aT P w) A (pyIter (.ref it)) Q E s
abbrev TI:=St->Hp->(It->Hp->Prop)->Prop
def Ig (X:Cx)(j:List (ai×Obj))(σ:St)(u:cC)(R:It->Hp->Prop)(y:ao)(i:aF):Prop:=
 ∃(k:ai) (o:List ai) (h:Nat->bz->Prop) (J:It) (g:Hp),y= .ref k/\Inv X j σ g i/\Turn X.prog X.w X.K u J o k h/\h 0 i.heap/\(∀b∈o,kf X j g b)/\R J g
def PI (X:Cx)(h iter:cC)(g:TI):Prop:=
 ∀(b:List (ai×Obj)) (s:aF) (σ:St) (H:Hp) (R:It->Hp->Prop),Inv X b σ H s->g σ H R->
  aZ (aT X.prog X.w) X.A (cb iter X.env) (λv i=>aZ (aT X.prog X.w) X.A (pyIter v) (Ig X b σ h R) X.xe i) X.xe s
theorem Ih (g:s.heap.get? it=some o)(j:o.cls= .type n)(hd:o.data= .fields vs)
 (i:["enumerate","zip","dict_itemiterator","dict_reverseitemiterator","odict_iterator","itertools.zip_longest","itertools.pairwise"].contains n=false) (b:Q () s):aZ M A (NZ tg (.ref it) u) Q E s:=by
 cases tg<;>first
  |exact fG b
  |(cases u<;>first
     |exact fG b
     |(refine cH (wpAny_load g ?_)
       rw[j,hd];show aZ M A (if(["enumerate","zip","dict_itemiterator","dict_reverseitemiterator","odict_iterator","itertools.zip_longest","itertools.pairwise"].contains n&&vs[0]? ==some (tp _))=true then _ else _) Q E s;rw[if_neg (by intro h;rw[i,mU]at h;cases h)];exact fG b))
def n8 (K:aW)(a:ai):It:=
 ⟨λi H=>∃b x,ax K H a b/\b[i]? =some x,λi H x g=>g=H/\∀b,ax K H a b->b[i]? =some x,λi H=>∃b,ax K H a b/\b.length<=i⟩
def pG (lo:Int)(n:Nat):It:=⟨λi _=>i<n,λi H x b=>b=H/\x= .int (lo+i),λi _=>n<=i⟩
theorem Rl {P:bL}{w:bw}{K:aW}{tg:cC}(a g:ai):Turn P w K tg (n8 K a) [g] g (λi h=>h.IsListIter g a i)where
 mem:=by simp
 obj:=λi h st b j=>by
  obtain⟨o,e,c,d⟩:=st;simp_all
 keep:=λi h C st k=>st.at λo e=>k g (by simp) o e
 item:=by
  intro X M J O hc i pins s σ H E I z st L;subst M J O;obtain⟨xs,x,y,G⟩:=L;obtain⟨aE,F,p,hz⟩:=I.list y;obtain⟨u,hu,ru⟩:=F.get G;obtain⟨Y,f1,f2,W,U,T⟩:=z g (by simp);refine wpAny_pyNext_list_item st p.isList (x:=u) (by simpa using hu) λC st' sb=>?_;have I1:Inv X pins σ H {s with heap:=C}:=I.turned (t':=s.toks) (λb o j e=>(sb.2 b j).trans e) Y f1 W U T;obtain⟨o,e,c,d⟩:=id st';exact⟨u,rfl,Ih (s:={s with heap:=C}) e c d (by decide) ⟨x,H,I1,ru,⟨rfl,λys hy=>by rw[I.xQ hy y];exact G⟩,st',λb j=>(z b j).1⟩⟩
 done:=by
  intro X M J O hc i pins s σ H E I z st L;subst M J O;obtain⟨xs,y,G⟩:=L;obtain⟨aE,F,p,hz⟩:=I.list y;obtain⟨Y,f1,f2,W,U,T⟩:=z g (by simp);have hl:=F.length;exact wpAny_pyNext_list_end (I.ok.hd hc) st p.isList (by simp;lia) λC eb=>⟨rfl,I.turned (t':=s.toks) (λb o j e=>eb b o j e) Y f1 W U T⟩
 self:=λ_ _ _ _ _ st h=>wpAny_pyIter_listiter st h
theorem Rm {P:bL}{w:bw}{K:aW}{tg:cC}(g:ai)(lo:Int)(n:Nat):Turn P w K tg (pG lo n) [g] g (λi h=>IsRangeIter h g (lo+(i:Nat)*1) ((n:Int)-(i:Nat)) 1)where
 mem:=by simp
 obj:=λi h st b j=>by
  simp_all
 keep:=λi h y st k=>k g (by simp) _ st
 item:=by
  intro X Y U hK C i T s σ H E I u st z;subst Y U hK;obtain⟨L,f1,f2,J,G,F⟩:=u g (by simp);have W:=Walks.range (prog:=X.prog) (w:=X.w) (I.ok.hd C) g lo 1 n;refine W.item i s _ _ z st λv y M hv O kk=>?_;obtain⟨t,rfl⟩:=hv;have I1:Inv X T σ H {s with heap:=y,toks:=M}:=I.turned (λb o j e=>kk b o (by simpa using j) e) L f1 J G F;refine⟨_,rfl,Ih (s:={s with heap:=y,toks:=M}) (n:="range_iterator") O rfl rfl (by decide) ⟨.int (lo+i),H,I1,⟨t,?_⟩,⟨rfl,rfl⟩,O,λb j=>(u b j).1⟩⟩;simp_all
 done:=by
  intro X Y U hK C i T s σ H E I u st z;obtain⟨L,f1,f2,J,G,F⟩:=u g (by simp);exact wpAny_pyNext_range_end (I.ok.hd C) st (by have:n<=i:=z;lia) λy eb=>⟨rfl,I.turned (t':=s.toks) (λb o j e=>eb b o j e) L f1 J G F⟩
 self:=λ_ _ _ _ _ st h=>wpAny_pyIter_rangeiter st h
section
variable {X:Cx}{tg:cC}
inductive Ii (K)(x:V)(H)(R:It->Hp->Prop):Prop|mk (a):x= .ref a->(∃xs,ax K H a xs)->R (n8 K a) H->Ii K x H R
def Ij (K:aW)(tl:TE):TI:=λσ H R=>tl σ H λx H1=>Ii K x H1 R
theorem fg (z:PE X l tl):PI X tg l (Ij X.K tl):=by
 intro u s σ H R I h;refine bc (z u s σ H _ I h) λv g j=>?_;obtain⟨x,H1,i,r1,k⟩:=j;obtain⟨a,e,⟨xs,y⟩,q⟩:=k;subst e;cases r1;obtain⟨G,F,p,J⟩:=i.list y;refine wpAny_pyIter_list p.isList ?_;refine⟨g.heap.objs.size,[g.heap.objs.size],_,_,H1,rfl,i.kept (t':=g.toks) λb o e=>jR _ e,Rl a _,⟨_,nM _ rfl,rfl,rfl⟩,λb C=>?_,q⟩;have e:b=g.heap.objs.size:=by simpa using C
 subst e;exact i.rD (bA _) (i.az.fresh (bA _))
theorem Ik {σ:St}{lo hi}(I:Inv X pins σ H s)(h1: -(2^62)<=lo)(h2:lo<2^62)(h3: -(2^62)<=hi)(h4:hi<2^62)
 (q:R (pG lo (hi-lo).toNat) H):aZ (aT X.prog X.w) X.A (pyIter (.ref s.heap.objs.size)) (Ig X pins σ tg R) E {s with heap:=s.heap.push {cls:= .type "range",data:= .fields #[.int lo t,.int hi u,.int 1 v]},toks:=tk}:=by
 refine wpAny_pyIter_range (IsRange.new ..) (small_one h1 h2 h3 h4) ?_;have g:Inv X pins σ H {s with heap:=s.heap.push {cls:= .type "range",data:= .fields #[.int lo t,.int hi u,.int 1 v]},toks:=tk}:=I.kept λb o e=>jR _ e
 refine⟨(s.heap.push {cls:= .type "range",data:= .fields #[.int lo t,.int hi u,.int 1 v]}).objs.size,[(s.heap.push {cls:= .type "range",data:= .fields #[.int lo t,.int hi u,.int 1 v]}).objs.size],_,_,H,rfl,
  g.kept (t':=tk) λb o e=>jR _ e,Rm _ lo (hi-lo).toNat,?_,λb h=>?_,q⟩
 ·have j:lo+((0:Nat):Int)*1=lo:=by simp
  have i:(((hi-lo).toNat:Nat):Int)-((0:Nat):Int)=Y5 lo hi 1:=by rw[rangeSize_one];split<;>lia
  rw[j,i];exact nM _ rfl
 ·have e:b=(s.heap.push {cls:= .type "range",data:= .fields #[.int lo t,.int hi u,.int 1 v]}).objs.size:=by simpa using h
  subst e;exact g.rD (bA _) (g.az.fresh (bA _))
inductive Il (vs:List V)(H)(R:It->Hp->Prop):Prop|mk (j):vs=[.int j]-> -(2^62)<=j->j<2^62->R (pG 0 j.toNat) H->Il vs H R
def Rn (g:TA):TI:=λσ H R=>g σ H λb H1=>Il b H1 R
inductive Im (vs:List V)(H)(R:It->Hp->Prop):Prop|mk (i j):vs=[.int i,.int j]->(-(2^62)<=i/\i<2^62/\ -(2^62)<=j/\j<2^62)->R (pG i (j-i).toNat) H->Im vs H R
def Ro (g:TA):TI:=λσ H R=>g σ H λb H1=>Im b H1 R
theorem BS (z:Gl X "range")(y:X.mg "range"=none)(C:PA X [a] ta)(u:cD [a] X.env=[(false,cb a X.env)]:=by rfl):PI X tg (.Call (.Name "range" p) [a] [] pos) (Rn ta):=by
 intro o s σ H R I h;refine Call_ (uw I z y boot_range (Ex (bc (C pos o s σ H _ I h) λJ L g=>?_) u rfl));obtain⟨G,H1,F,r1,b⟩:=g;obtain⟨j,e,b,k,q⟩:=b;subst e;cases r1 with
 |cons r i=>
  cases i;obtain⟨t,rfl⟩:=r;exact call_range_1 (Ik F (by lia) (by lia) b k (by simpa using q))
theorem BU {p pos}(M:Gl X "range")(L:X.mg "range"=none)(O:PA X [a,b] ta)(J:cD [a,b] X.env=[(false,cb a X.env),(false,cb b X.env)]:=by rfl)(o:cD [b] X.env=[(false,cb b X.env)]:=by rfl):
 PI X tg (.Call (.Name "range" p) [a,b] [] pos) (Ro ta):=by
 intro G s σ H R I h;refine Call_ (uw I M L boot_range (Ex (bc (O pos G s σ H _ I h) λU Y u=>?_) (by rw[J,o]) (by rw[o];rfl)));obtain⟨T,H1,P,r1,k⟩:=u;obtain⟨i,j,e,⟨k,F,C,z⟩,q⟩:=k;subst e;cases r1 with
 |cons r g=>
  cases g with
  |cons y g=>
   cases g;obtain⟨t,rfl⟩:=r;obtain⟨W,rfl⟩:=y;exact call_range_2 (Ik P k F C z q)
def Rp (o:TI)(g:TG)(tb:TS):TS:=λD σ H=>o σ H λJ H1=>∃W:Nat->Nat->St->Hp->Prop,(∃m,W 0 m σ H1)/\∀i m σ H,W i m σ H->
 (J.stop i H/\D.nx σ H)\/(J.go i H/\∃N:St->Hp->Prop,(∀h b,N h b->∃j,j<m/\W (i+1) j h b)/\∀x b,J.n6 i H x b->g x σ b λk u=>tb {D with nx:=N,ct:=N,bk:=D.nx} k u)
def uE (g:List ai)(h:bz):List (ai×Obj):=g.filterMap λb=>(h.get? b).map λo=>(b,o)
theorem BV (g:b∈fp)(e:h.get? b=some o):(b,o)∈uE fp h:=zu.mpr ⟨b,g,by rw[e];rfl⟩
theorem Rq (hp:p∈uE fp h):p.1∈fp/\h.get? p.1=some p.2:=by
 obtain⟨b,g,e⟩:=zu.mp hp;cases q:h.get? b with
 |none=>rw[q]at e;cases e
 |some o=>
  grind
theorem Inv.pinned {σ:St}(I:Inv X pins σ H s)(g:∀b∈fp,kf X pins H b)(i:∀b∈fp,∃o,s.heap.get? b=some o/\∀v,o.data≠.cell v):Inv X (pins++uE fp s.heap) σ H s:=
 I.HV λp hp=>(gm.mp hp).elim (λz=>I.pin p (kC _ z)) λz=>by
  obtain⟨h,e⟩:=Rq z;obtain⟨j,f1,f2,_⟩:=g p.1 h
  grind
theorem Inv.xT {σ:St}(I:Inv X (pins++pl) σ H s):Inv X pins σ H s:=I.HV λp hp=>I.pin p (kC _ (kD _ hp))
theorem gj (hp:Ew (aT X.prog X.w) X.A X.env X.xe)(hc:X.calm=true)(hi:PI X tg iter wi)(hg:PG X tg g)(k:ic X body tb)
 (hs:∀x,Ey iter X.env x=pure x:=by intro _;rfl):PS X (.For tg iter body [] pos) (Rp wi g tb):=by
 intro G s σ H D I h;refine wpAny_For (bc (hi G s σ H _ I h) λv s1 h1=>bc h1 λitv s2 h2=>?_) hs;obtain⟨it,U,tn,J,H2,e,I2,T,st2,f2,W,⟨m0,w0⟩,turn⟩:=h2;subst e;have stat:∀{C:Hp},(∀b∈U,C b=none)->∀b∈U,kf X G C b:=λhn b k=>⟨hn b k,(f2 b k).2⟩;refine codeAny_forLoop_any (λn s'=>∃i M C,Inv X G M C s'/\tn i s'.heap/\(∀b∈U,C b=none)/\W i n M C) ?_ m0 ⟨0,σ,H2,I2,st2,λb k=>(f2 b k).1,w0⟩;rintro n s3 ⟨i,L,Y,I3,st3,fr3,w3⟩;rcases turn i n L Y w3 with⟨stop,qn⟩|⟨go,N,hN,step⟩
 ·refine tm hp (bc (T.done X rfl rfl rfl hc i G s3 L Y X.xe I3 (stat fr3) st3 stop) λr s4 ⟨hr,I4⟩=>?_);subst hr;exact zM ⟨L,Y,I4,qn⟩
 ·refine tm hp (bc (T.item X rfl rfl rfl hc i G s3 L Y X.xe I3 (stat fr3) st3 go) λr s4 O=>?_);obtain⟨u,hr,h4⟩:=O;subst hr;refine tm hp (bc h4 λ_ s5 O=>?_);obtain⟨x,H5,I5,r5,y5,st5,fr5⟩:=O;have I5':=I5.pinned (stat fr5) (T.obj _ _ st5);refine tm hp (bc (hg _ s5 L H5 x u _ I5' r5 (step x H5 y5)) λ_ s6 O=>?_);obtain⟨σ6,H6,I6,q6⟩:=O;refine tm hp (bc (k _ s6 σ6 H6 _ I6 q6) λf s7 F=>?_)
  have again:∀{j:St} {z:Hp},Inv X (G++uE U s5.heap) j z s7->N j z->∃m,m<n/\∃i M C,Inv X G M C s7/\tn i s7.heap/\(∀b∈U,C b=none)/\W i m M C:=λ{j z} y P=>by
   obtain⟨m',hm,w7⟩:=hN j z P;refine⟨m',hm,i+1,j,z,y.xT,T.keep _ _ _ st5 λb k o e=>(y.pin (b,o) (kC _ (kC _ (BV k e)))).1,λb k=>?_,w7⟩;obtain⟨o,e,d⟩:=T.obj _ _ st5 b k;exact(y.pin (b,o) (kC _ (kC _ (BV k e)))).2.1
  cases f with
  |next=>obtain⟨j,z,y,P⟩:=F;exact again y P
  |cont=>obtain⟨j,z,y,P⟩:=F;exact again y P
  |brk=>obtain⟨j,z,y,F⟩:=F;exact⟨j,z,y.xT,F⟩
  |ret v=>obtain⟨x7,j,z,y,r7,F⟩:=F;exact⟨x7,j,z,y.xT,r7,F⟩
end
theorem kR {K}{g:TG}{tb:TS}{D:Ends}(Pv:Nat->St->Hp->Prop)(I:Pv 0 σ H)(F:∀i σ H,i<=xs.length->Pv i σ H->ax K H a xs)
 (C:∀i x σ H,xs[i]? =some x->Pv i σ H->g x σ H λh k=>tb {D with nx:=Pv (i+1),ct:=Pv (i+1),bk:=D.nx} h k) (hd:∀σ H,Pv xs.length σ H->D.nx σ H):
 ∃W:Nat->Nat->St->Hp->Prop,(∃m,W 0 m σ H)/\∀i m σ H,W i m σ H->
  ((n8 K a).stop i H/\D.nx σ H)\/((n8 K a).go i H/\∃N:St->Hp->Prop,(∀j b,N j b->∃o,o<m/\W (i+1) o j b)/\∀x b,(n8 K a).n6 i H x b->g x σ b λh k=>tb {D with nx:=N,ct:=N,bk:=D.nx} h k):=by
 refine⟨λi m σ H=>m=xs.length-i/\i<=xs.length/\Pv i σ H,⟨xs.length,by simp,bR _,I⟩,?_⟩;rintro i m σ H ⟨rfl,G,p⟩;have q:=F i σ H G p;by_cases u:i<xs.length
 ·refine .inr ⟨⟨xs,xs[i],q,by simp[u]⟩,Pv (i+1),λj b z=>⟨xs.length-(i+1),by lia,rfl,u,z⟩,λx b y=>?_⟩;obtain⟨e,y⟩:=y;subst e;exact C i x σ _ (y xs q) p
 ·have e:i=xs.length:=by lia
  subst e;exact .inl ⟨⟨xs,q,bA _⟩,hd σ H p⟩
theorem rE {lo}{g:TG}{tb:TS}{D:Ends}(Pv:Nat->St->Hp->Prop)(C:Pv 0 σ H)
 (F:∀i σ H,i<n->Pv i σ H->g (.int (lo+i)) σ H λh k=>tb {D with nx:=Pv (i+1),ct:=Pv (i+1),bk:=D.nx} h k) (hd:∀σ H,Pv n σ H->D.nx σ H):
 ∃W:Nat->Nat->St->Hp->Prop,(∃m,W 0 m σ H)/\∀i m σ H,W i m σ H->
  ((pG lo n).stop i H/\D.nx σ H)\/((pG lo n).go i H/\∃N:St->Hp->Prop,(∀j b,N j b->∃o,o<m/\W (i+1) o j b)/\∀x b,(pG lo n).n6 i H x b->g x σ b λh k=>tb {D with nx:=N,ct:=N,bk:=D.nx} h k):=by
 refine⟨λi m σ H=>m=n-i/\i<=n/\Pv i σ H,⟨n,by simp,bR _,C⟩,?_⟩;rintro i m σ H ⟨rfl,G,p⟩;by_cases u:i<n
 ·refine .inr ⟨u,Pv (i+1),λj b z=>⟨n-(i+1),by lia,rfl,u,z⟩,λx b y=>?_⟩;obtain⟨e,y⟩:=y;simp_all
 ·have e:i=n:=by lia
  subst e;exact .inl ⟨bA _,hd σ H p⟩
abbrev R2:=V->V->Hp->VK->Prop
def dR (X:Cx)(f:ao->ao->Sem ao)(r:R2):Prop:=
 ∀(b:List (ai×Obj)) (s:aF) (σ:St) (H:Hp) (x y:V) (v u:ao) (Q:VK),Inv X b σ H s->RelV x v->RelV y u->r x y H Q->
  aZ (aT X.prog X.w) X.A (f v u) (EP X b σ Q) X.xe s
def BW (X:Cx)(f:ao->Sem ao)(r:V->Hp->VK->Prop):Prop:=
 ∀(b:List (ai×Obj)) (s:aF) (σ:St) (H:Hp) (x:V) (v:ao) (Q:VK),Inv X b σ H s->RelV x v->r x H Q->
  aZ (aT X.prog X.w) X.A (f v) (EP X b σ Q) X.xe s
def xU (X:Cx)(f:ao)(r:List V->Hp->VK->Prop):Prop:=
 ∀(h:List (ai×Obj)) (s:aF) (σ:St) (H:Hp) (b:List V) (g:List ao) (Q:VK),Inv X h σ H s->bp b g->r b H Q->
  aZ (aT X.prog X.w) X.A (call f g) (EP X h σ Q) X.xe s
def iE (r:R2)(b tb:TE):TE:=λσ H Q=>b σ H λx H1=>tb σ H1 λy g=>r x y g Q
def Rr (r:V->Hp->VK->Prop)(b:TE):TE:=λσ H Q=>b σ H λx H1=>r x H1 Q
inductive rI (C:Int->Int->Prop)(g:Int->Int->V)(x y:V)(H)(Q:VK):Prop|mk (i j):x= .int i->y= .int j->C i j->Q (g i j) H->rI C g x y H Q
inductive jE (g:Int->Int->V)(x y:V)(H)(Q:VK):Prop|mk (i j):x= .int i->y= .int j->Q (g i j) H->jE g x y H Q
def rU (g:Int->V):V->Hp->VK->Prop:=λx H Q=>∃i,x= .int i/\Q (g i) H
section
variable {X:Cx}{a b c:cC}{ta tb tc:TE}{pos:Pos}
theorem BX (L:PE X a ta)(J:PE X b tb){σ:St}{R:V->V->Hp->Prop}(I:Inv X pins σ H s)
 (h:ta σ H λx H1=>tb σ H1 λy g=>R x y g) {f:ao->ao->Sem ao}
 (G:∀v u i x y g,Inv X pins σ g i->RelV x v->RelV y u->R x y g->aZ (aT X.prog X.w) X.A (f v u) Q X.xe i):
 aZ (aT X.prog X.w) X.A (cb a X.env) (λv o=>aZ (aT X.prog X.w) X.A (cb b X.env) (λu k=>aZ (aT X.prog X.w) X.A (f v u) Q X.xe k) X.xe o) X.xe s:=by
 refine bc (L pins s σ H _ I h) λv z j=>?_;obtain⟨x,H1,O,r1,F⟩:=j;refine bc (J pins z σ H1 _ O F) λu i j=>?_;obtain⟨y,g,M,r2,C⟩:=j;exact G v u i x y g M r1 r2 C
theorem de (o:dR X (zN op) r)(C:PE X a ta)(z:PE X b tb):PE X (.BinOp a op b pos) (iE r ta tb):=by
 intro k s σ H Q I h;exact wpAny_BinOp (BX C z I h λv u g x y G F j i q=>o k g σ G x y v u Q F j i q)
theorem Io (k:BW X (unaryOp op) r)(o:PE X a ta):PE X (.UnaryOp op a pos) (Rr r ta):=by
 intro g s σ H Q I h;exact UnaryOp_ (bc (o g s σ H _ I h) λv i ⟨x,H1,u,r1,j⟩=>k g i σ H1 x v Q u r1 j)
theorem Rt {g:Int->Int->Int}
 (rule:∀(i j) (t u) (s) (Q) (E),C i j->Q (.int (g i j) s.toks) {s with toks:=s.toks+1}->aZ (aT X.prog X.w) X.A (f (.int i t) (.int j u)) Q E s):
 dR X f (rI C λi j=> .int (g i j)):=by
 intro G s σ H x y v u Q I z o h;obtain⟨i,j,rfl,rfl,F,q⟩:=h;obtain⟨t,rfl⟩:=z;obtain⟨k,rfl⟩:=o;exact rule i j t k s _ _ F ⟨.int (g i j),H,I.tok _,⟨_,rfl⟩,q⟩
theorem Ip {g:Int->Int->Int}
 (rule:∀(i j) (t u) (s) (Q) (E),Q (.int (g i j) s.toks) {s with toks:=s.toks+1}->aZ (aT X.prog X.w) X.A (f (.int i t) (.int j u)) Q E s):
 dR X f (jE λi j=> .int (g i j)):=by
 intro C s σ H x y v u Q I z o h;obtain⟨i,j,rfl,rfl,q⟩:=h;obtain⟨t,rfl⟩:=z;obtain⟨k,rfl⟩:=o;exact rule i j t k s _ _ ⟨.int (g i j),H,I.tok _,⟨_,rfl⟩,q⟩
theorem xV {g:Int->Int->Bool}
 (rule:∀(i j) (t u) (s) (Q) (E),Q (.bool (g i j)) s->aZ (aT X.prog X.w) X.A (f (.int i t) (.int j u)) Q E s):
 dR X f (jE λi j=> .bl (g i j)):=by
 intro C s σ H x y v u Q I z o h;obtain⟨i,j,rfl,rfl,q⟩:=h;obtain⟨t,rfl⟩:=z;obtain⟨k,rfl⟩:=o;exact rule i j t k s _ _ ⟨.bl (g i j),H,I,rfl,q⟩
def BY (i j:Int):Prop:=(-(2^64)<i/\i<2^64)\/(-(2^64)<j/\j<2^64)
theorem BY.ok (h:BY i j):IntMulOk i j:=by
 rcases h with⟨h1,h2⟩|⟨h1,h2⟩
 ·exact .of_left (intBits_le_64 h1 h2)
 ·exact .of_right (intBits_le_64 h1 h2)
theorem lG:dR X (zN .Add) (jE λi j=> .int (i+j)):=Ip λ_ _ _ _ _ _ _ q=>add_int q
theorem kg:dR X (zN .Sub) (jE λi j=> .int (i-j)):=Ip λ_ _ _ _ _ _ _ q=>sub_int q
theorem xW:dR X (zN .Mult) (rI BY λi j=> .int (i*j)):=Rt λ_ _ _ _ _ _ _ g q=>mul_int q g.ok
theorem Ru {g:Int->Int}
 (rule:∀(i) (t) (s) (Q) (E),Q (.int (g i) s.toks) {s with toks:=s.toks+1}->aZ (aT X.prog X.w) X.A (f (.int i t)) Q E s):
 BW X f (rU λi=> .int (g i)):=by
 intro k s σ H x v Q I j h;obtain⟨i,rfl,q⟩:=h;obtain⟨t,rfl⟩:=j;exact rule i t s _ _ ⟨.int (g i),H,I.tok _,⟨_,rfl⟩,q⟩
theorem Iq:BW X (unaryOp .USub) (rU λi=> .int (-i)):=Ru λ_ _ _ _ _ q=>neg_int q
end
def Ir:V->V->Bool
 | .aB,.aB=>true| .aB,.int _=>true| .int _,.aB=>true| .aB,.bl _=>true| .bl _,.aB=>true| .aB,.str _=>true| .str _,.aB=>true
 | .int _,.int _=>true| .bl _,.bl _=>true| .str _,.str _=>true| .iC _,.iC _=>true
 | .int _,.str _=>true| .str _,.int _=>true| .bl _,.str _=>true| .str _,.bl _=>true
 |_,_=>false
def rG:R2:=λx y H Q=>Ir x y=true/\Q (.bl (decide (x=y))) H
def Rv:R2:=λx y H Q=>Ir x y=true/\Q (.bl (!decide (x=y))) H
theorem Iu:decide (V.int i=V.int j)=(i==j):=by
 rw[lh];simp
theorem Iv:decide (V.bl i=V.bl j)=(i==j):=by
 rw[lh];simp
theorem Iw:decide (V.str i=V.str j)=(i==j):=by
 rw[lh];simp
theorem Iy:decide (V.iC i=V.iC j)=(i.toList==j.toList):=by
 rw[lh];simp_all
section
variable {X:Cx}{a b c:cC}{ta tb tc:TE}{pos:Pos}
theorem d7 {σ:St}(I:Inv X pins σ H s)(q:Q (.bl k) H)(e:k=k'):EP X pins σ Q (.bool k') s:=by
 subst e;exact⟨.bl k,H,I,rfl,q⟩
theorem cy:dR X (gJ .Eq) rG:=by
 intro C s σ H x y v u Q I z g h;obtain⟨o,q⟩:=h;cases x with
 |aB=>
  cases z;cases y with
  |aB=>cases g;exact Y6 (d7 I q (by simp))
  |bl j=>cases g;exact Y7 (d7 I q (by simp))
  |int j=>obtain⟨k,rfl⟩:=g;exact Y8 (d7 I q (by simp))
  |str j=>obtain⟨k,rfl⟩:=g;exact Y9 (d7 I q (by simp))
  |_=>exact absurd (show false=true from o) dX
 |bl i=>
  cases z;cases y with
  |aB=>cases g;exact Y_ (d7 I q (by simp))
  |bl j=>cases g;exact eq_bool (d7 I q Iv)
  |str j=>obtain⟨k,rfl⟩:=g;exact Y' (d7 I q (by simp))
  |_=>exact absurd (show false=true from o) dX
 |int i=>
  obtain⟨t,rfl⟩:=z;cases y with
  |aB=>cases g;exact Za (d7 I q (by simp))
  |int j=>obtain⟨k,rfl⟩:=g;exact eq_int (d7 I q Iu)
  |str j=>obtain⟨k,rfl⟩:=g;exact Zb (d7 I q (by simp))
  |_=>exact absurd (show false=true from o) dX
 |str i=>
  obtain⟨t,rfl⟩:=z;cases y with
  |aB=>cases g;exact Zc (d7 I q (by simp))
  |bl j=>cases g;exact Zd (d7 I q (by simp))
  |int j=>obtain⟨k,rfl⟩:=g;exact Ze (d7 I q (by simp))
  |str j=>obtain⟨k,rfl⟩:=g;exact eq_str (d7 I q Iw)
  |_=>exact absurd (show false=true from o) dX
 |iC i=>
  obtain⟨t,rfl⟩:=z;cases y with
  |iC j=>obtain⟨k,rfl⟩:=g;exact PySem.W.eq_bytes (d7 I q Iy)
  |_=>exact absurd (show false=true from o) dX
 |_=>cases y<;>exact absurd (show false=true from o) dX
theorem je:dR X (gJ .NotEq) Rv:=by
 intro C s σ H x y v u Q I z g h;obtain⟨o,q⟩:=h;cases x with
 |aB=>
  cases z;cases y with
  |aB=>cases g;exact Zf (d7 I q (by simp))
  |bl j=>cases g;exact Zg (d7 I q (by simp))
  |int j=>obtain⟨k,rfl⟩:=g;exact Zh (d7 I q (by simp))
  |str j=>obtain⟨k,rfl⟩:=g;exact Zi (d7 I q (by simp))
  |_=>exact absurd (show false=true from o) dX
 |bl i=>
  cases z;cases y with
  |aB=>cases g;exact Zj (d7 I q (by simp))
  |bl j=>cases g;exact ne_bool (d7 I q (congrArg not Iv))
  |str j=>obtain⟨k,rfl⟩:=g;exact Zk (d7 I q (by simp))
  |_=>exact absurd (show false=true from o) dX
 |int i=>
  obtain⟨t,rfl⟩:=z;cases y with
  |aB=>cases g;exact Zl (d7 I q (by simp))
  |int j=>obtain⟨k,rfl⟩:=g;exact ne_int (d7 I q (congrArg not Iu))
  |str j=>obtain⟨k,rfl⟩:=g;exact Zm (d7 I q (by simp))
  |_=>exact absurd (show false=true from o) dX
 |str i=>
  obtain⟨t,rfl⟩:=z;cases y with
  |aB=>cases g;exact Zn (d7 I q (by simp))
  |bl j=>cases g;exact Zo (d7 I q (by simp))
  |int j=>obtain⟨k,rfl⟩:=g;exact Zp (d7 I q (by simp))
  |str j=>obtain⟨k,rfl⟩:=g;exact ne_str (d7 I q (congrArg not Iw))
  |_=>exact absurd (show false=true from o) dX
 |iC i=>
  obtain⟨t,rfl⟩:=z;cases y with
  |iC j=>obtain⟨k,rfl⟩:=g;exact PySem.W.ne_bytes (d7 I q (congrArg not Iy))
  |_=>exact absurd (show false=true from o) dX
 |_=>cases y<;>exact absurd (show false=true from o) dX
theorem jf:dR X (gJ .Lt) (jE λi j=> .bl (decide (i<j))):=xV λ_ _ _ _ _ _ _ q=>lt_int q
theorem jF:dR X (gJ .LtE) (jE λi j=> .bl (decide (i<=j))):=xV λ_ _ _ _ _ _ _ q=>le_int q
theorem iW:dR X (gJ .Gt) (jE λi j=> .bl (decide (j<i))):=xV λ_ _ _ _ _ _ _ q=>gt_int q
theorem uF:dR X (gJ .GtE) (jE λi j=> .bl (decide (j<=i))):=xV λ_ _ _ _ _ _ _ q=>ge_int q
theorem xX:dR X (gJ .Is) (λx y H Q=>y= .aB/\Q (.bl (decide (x= .aB))) H):=by
 intro j s σ H x y v u Q I g i h;obtain⟨rfl,q⟩:=h;cases i;refine is_none_gen (d7 I q ?_)
 cases x<;>first
  |(cases g;rfl)
  |(obtain⟨t,rfl⟩:=g;rfl)
theorem dR.or (h:dR X f r)(k:dR X f r'):dR X f (λx y H Q=>r x y H Q\/r' x y H Q):=by
 intro j s σ H x y v u Q I i g q;rcases q with q|q
 ·exact h j s σ H x y v u Q I i g q
 ·exact k j s σ H x y v u Q I i g q
theorem Iz (b)(h:op≠.In:=by decide)(h2:op≠.NotIn:=by decide):Ez op b=false:=by
 have i:(op==CmpOp.In)=false:=by cases op<;>first|rfl|exact absurd rfl h
 have g:(op==CmpOp.NotIn)=false:=by cases op<;>first|rfl|exact absurd rfl h2
 cases b<;>simp[Ez,i,g]
theorem jg (o:dR X (gJ op) r)(F:PE X a ta)(C:PE X b tb)(z:Ez op b=false:=by exact Iz _):PE X (.Compare a [op] [b] pos) (iE r ta tb):=by
 intro k s σ H Q I h;exact wpAny_Compare1 (BX F C I h λv u g x y J G j i q=>o k g σ J x y v u Q G j i q) z
def my (t:TE):TT:=λσ H Q=>t σ H λx g=>IB x g Q
theorem aP (J:dR X (gJ op) r)(O:PE X a ta)(M:PE X b tb)(L:Ez op b=false:=by exact Iz _):PT X (.Compare a [op] [b] pos) (my (iE r ta tb)):=by
 intro g s σ H Q I h
 refine wpAny_isTrue_Compare1 (bc (O g s σ H _ I h) λv j ⟨x,H1,U,r1,F⟩=>bc (M g j σ H1 _ U F) λu i ⟨y,Y,T,r2,C⟩=>
  bc (J g i σ Y x y v u _ T r1 r2 C) λc s3 ⟨z,W,P,r3,G⟩=>?_) L
 obtain⟨k,e,o⟩:=IB.of G;subst e;cases r3;exact qG ⟨W,P,o⟩
def IA (r i:R2)(ta tb tc:TE):TE:=λσ H Q=>ta σ H λx H1=>tb σ H1 λy o=>r x y o λz g=>∃k,z= .bl k/\
 (if k=true then tc σ g λh j=>i y h j Q else Q (.bl false) g)
theorem BZ (W:dR X (gJ op) r)(U:dR X (gJ op') r')(ha:PE X a ta)(hb:PE X b tb)(hc:PE X c tc)
 (Y:lastMarks [op,op'] [b,c]=false:=by with_unfolding_all rfl):PE X (.Compare a [op,op'] [b,c] pos) (IA r r' ta tb tc):=by
 intro g s σ H Q I h
 refine Compare_chain (bc (ha g s σ H _ I h) λv M ⟨x,H1,I1,r1,T⟩=>chain_link (bc (hb g M σ H1 _ I1 T) λu L ⟨y,H2,I2,r2,P⟩=>
  bc (W g L σ H2 x y v u _ I2 r1 r2 P) λd J ⟨z,o,j,r3,k,e,i⟩=>?_)) Y
 subst e;cases r3;refine qG ?_;cases k with
 |false=>exact ite_ff ⟨.bl false,o,j,rfl,i⟩
 |true=>exact ite_tt (chain_last (bc (hc g J σ o _ j i) λF G ⟨C,H4,I4,r4,O⟩=>U g G σ H4 y C u F Q I4 r2 r4 O))
theorem IC (ho:dR X (gJ op) r)(Y:dR X (gJ op') r')(ha:PE X a ta)(hb:PE X b tb)(hc:PE X c tc)
 (hm:lastMarks [op,op'] [b,c]=false:=by with_unfolding_all rfl):PT X (.Compare a [op,op'] [b,c] pos) (my (IA r r' ta tb tc)):=by
 intro g s σ H Q I h
 refine isTrue_chain (bc (ha g s σ H _ I h) λv M ⟨x,H1,I1,r1,U⟩=>test_link (bc (hb g M σ H1 _ I1 U) λu L ⟨y,H2,I2,r2,T⟩=>
  bc (ho g L σ H2 x y v u _ I2 r1 r2 T) λd J ⟨z,o,j,r3,k,e,i⟩=>?_)) hm
 subst e;cases r3;refine qG ?_;cases k with
 |false=>
  exact ite_ff ⟨o,j,i⟩
 |true=>
  refine ite_tt (test_last (bc (hc g J σ o _ j i) λF G ⟨C,H4,I4,r4,P⟩=>bc (Y g G σ H4 y C u F _ I4 r2 r4 P) λd' s5 ⟨z2,H5,I5,r5,W⟩=>?_));obtain⟨k2,e2,O⟩:=IB.of W;subst e2;cases r5;exact qG ⟨H5,I5,O⟩
theorem ID:(bH)<2^63:=by rw[bq];decide
theorem vals1 (r:bp [x] us):∃u,us=[u]/\RelV x u:=by
 cases r with
 |cons r1 r2=>cases r2;exact⟨_,rfl,r1⟩
end
structure pH (h:bz)(x dx C:ai)(mA:Str->Option ao):Prop where
 obj:h.get? x=some (qD C dx)
 ns:h.Ns1 dx mA
 ne:dx≠x
set_option tactic.hygienic true in
theorem Rw {h:bz}(n:h.Ns1 dx mA):∃b,h.get? dx=some b/\∀name,EA name b=some (mA name):=by
 obtain⟨o,es,C,i,hd,u,_,j⟩:=n;refine⟨o,i,λname=>?_⟩;have e:=j name;unfold nsFind findBy at e;rw[<-Array.find?_toList]at e;unfold EA;rw[hd];dsimp only;split
 ·rename_i y q;simp_all
 ·rename_i q
  have a:es.toList.any (·.refKey)=false:=by
   rw[Ec];intro y g;obtain⟨z,t,k⟩:=u y (Array.mem_toList_iff.mp g);simp[DictEntry.refKey,k]
  simp_all
theorem pH.look (I:pH h x dx C mA):∃b,EB h x (qD C dx) C (some b)/\∀name,EA name b=some (mA name):=
 let⟨b,g,i⟩:=Rw I.ns
 ⟨b,⟨I.obj,rfl,rfl,g⟩,i⟩
section
variable {prog:bL}{w:bw}{A:fm}{E:ao->aF->Prop}{s:aF}{K:aW}{x dx C f:ai}{mA:Str->Option ao}{name:Str}{v:ao}
theorem get_map (X:K.In s.heap)(I:pH s.heap x dx C mA)(k:EC K C name=true)(j:N0 K C=true)
 (o:lq K (.ref C) name=some none) (g:mA name=some v) (b:X9 v=true) (h:Q v {s with toks:=s.toks+1}):
 aZ (aT prog w) A (getAttr (.ref x) name expr) Q E s:=by
 obtain⟨u,J,i⟩:=I.look;exact PySem.W.get_value X J (N1 k).1 (PySem.W.findObj_own j o rfl (by rw[i,g])) b h
theorem Rx (X:K.In s.heap)(I:pH s.heap x dx C mA)(b:EC K C name=true)
 (o:lq K (.ref C) name=some (some (.ref f))) (j:N2 K (.ref f)=true) (i:mA name=none) (h:Q (.ref f,[.ref x]) s):
 aZ (aT prog w) A (wa (.ref x) name pl) Q E s:=by
 obtain⟨g,J,k⟩:=I.look;exact PySem.W.method_fn X J (N1 b).1 (N1 b).2 o (beq_iff_eq.mp j) (by show(EA name g).map (·.isSome)=some false;rw[k,i];rfl) h
theorem Ry (X:K.In s.heap)(I:pH s.heap x dx C mA)
 (z:lq K (.ref C) "__setattr__"=some (some (.builtin "object.__setattr__"))) (hp:zO K C=true) (u:N5 K C name=some none) (G:N0 K C=true)
 (o:NP mA ns) (T:ns.length<=bH)
 (h:∀g,pH g x dx C (λy=>if y=name then some v else mA y)->Eu dx s.heap g->Q () {s with heap:=g,toks:=s.toks+2}):
 aZ (aT prog w) A (setAttr (.ref x) name v) Q E s:=by
 obtain⟨O,J,U⟩:=I.look;refine PySem.W.set_plain X J z (PySem.W.osa_open (s:={s with toks:=s.toks+1}) (r:=none) X J hp u λb=>?_);obtain⟨cd,M,L⟩:=X_ G;have k:=I.obj;refine cH (fG (cH (cH (wpAny_loadPart k (cH (Zq (s:={s with toks:=s.toks+1}) (PySem.W.looks_clsIn X M) ?_))))));rw[L];refine fG (a:=some dx) (cH (fG (cH ?_)));refine wpAny_nsSet1 (s:={s with toks:=s.toks+1}) I.ns λg j i=>?_;obtain⟨P,W,Y,F,H,jG⟩:=j.count (Zr name v o);refine cH (wpAny_lookBehind F (by rw[H];exact pastItsLine_dict (eA jG (by rw[bf];lia))) ?_);exact fG (h _ ⟨(i.2 _ (mT I.ne)).trans I.obj,j,I.ne⟩ i)
theorem Rz (X:K.In s.heap)(b:X' K C=true)
 (g:lq K (.ref C) "__init__"=some (some (.ref f))) (i:PySem.W.typeIn K (.ref f)=some (.type "function"))
 (h:tq (aT prog w) (A.under (.builtin "type.__call__" ⟨.ref C::vs,kw⟩)) (.call (.ref f) ⟨.ref (s.heap.objs.size+1)::vs,kw⟩) (PySem.W.InitBack (s.heap.objs.size+1) R)
   {s with heap:=(s.heap.push o_).push (qD C s.heap.objs.size)}):
 tq (aT prog w) A (.call (.ref C) ⟨vs,kw⟩) R s:=by
 exact PySem.W.make_core (PySem.W.makes_of X b) (Yb X g) (λself=>PySem.W.bind_fn X self i) (.inl rfl) h
end
def fK (f:Str)(v:V):List (Str×V)->List (Str×V)
 |[]=>[(f,v)]
 |(g,x)::r=>if g=f then(g,v)::r else(g,x)::fK f v r
theorem IE (f g)(v):∀fs:List (Str×V),(fK f v fs).lookup g=if g=f then some v else fs.lookup g
 |[]=>by
  show Yc g [(f,v)]=_
  grind
 |(k,x)::r=>by
  have b:=IE f g v r;rw[show fK f v ((k,x)::r)=(if k=f then(k,v)::r else(k,x)::fK f v r)from rfl]
  grind
theorem B0 (f)(v):∀fs:List (Str×V),f∈(fK f v fs).map (·.1)/\∀g,g∈fs.map (·.1)->g∈(fK f v fs).map (·.1)
 |[]=>⟨by simp[fK],λg h=>by simp at h⟩
 |(k,x)::r=>by
  obtain⟨i,b⟩:=B0 f v r;rw[show fK f v ((k,x)::r)=(if k=f then(k,v)::r else(k,x)::fK f v r)from rfl]
  grind
theorem IF (f)(v):∀fs:List (Str×V),(fK f v fs).length<=fs.length+1
 |[]=>by simp[fK]
 |(k,x)::r=>by
  have b:=IF f v r;rw[show fK f v ((k,x)::r)=(if k=f then(k,v)::r else(k,x)::fK f v r)from rfl]
  grind
theorem m5.some_of (r:m5 (some v) o):∃u,o=some u/\RelV v u:=by
 cases o with
 |none=>exact(show False from r).elim
 |some u=>exact⟨u,rfl,r⟩
theorem m5.none_of (r:m5 none o):o=none:=by
 cases o with
 |none=>rfl
 |some u=>exact(show False from r).elim
theorem RA (r:RelV v u):X9 u=true:=by
 cases v with
 |aB=>cases(show u=Value.none from r);rfl
 |bl b=>cases(show u=Value.bool b from r);rfl
 |int i=>obtain⟨t,e⟩:=(show∃t,u=Value.int i t from r);cases e;rfl
 |str x=>obtain⟨t,e⟩:=(show∃t,u=Value.str x t from r);cases e;rfl
 |iC b=>obtain⟨t,e⟩:=(show∃t,u=Value.bytes b t from r);cases e;rfl
 |xG b=>obtain⟨t,e⟩:=(show∃t,u=Value.float b t from r);cases e;rfl
 |ref a=>cases(show u=Value.ref a from r);rfl
 |ty n=>cases(show u=Value.type n from r);rfl
section
variable {P:bL}{w:bw}{H H':Hp}{h h':bz}{a C dx:ai}{fs dC:List (Str×V)}
theorem xY (az:dQ H h)(e:H a=some (.ins C dx fs)):∃b,pH h a dx C b/\(∀f,m5 (fs.lookup f) (b f))/\NP b (fs.map (·.1))/\fs.length<=1000/\H dx=some (.own a):=by
 obtain⟨d,z,ne,g,b,n,r,q⟩:=(show ib H h a (.ins C dx fs)from az a _ e);exact⟨b,⟨g,n,ne⟩,r,q,z,d⟩
end
structure gy (K:aW)(C:ai):Prop where
 pg:EC K C Np=true
 hd:N0 K C=true
 po:zO K C=true
 sa:lq K (.ref C) "__setattr__"=some (some (.builtin "object.__setattr__"))
theorem gy.get {K}(c:gy K C)(f):EC K C f=true:=c.pg
def jH (K:aW)(C:ai)(f:Str):Prop:=lq K (.ref C) f=some none
theorem jH.RB {K}(n:jH K C f):N5 K C f=some none:=by
 unfold N5;rw[show lq K (.ref C) f=some none from n];rfl
structure uG (K:aW)(C:ai)(m:Str)(f:ai):Prop where
 at_:lq K (.ref C) m=some (some (.ref f))
 fn:N2 K (.ref f)=true
 kp:tu K (.ref f)=true
section
variable {X:Cx}{pins:List (ai×Obj)}{σ:St}{H:Hp}{s:aF}{a C dx:ai}{fs:List (Str×V)}{f:Str}{v:V}{A:fm}{E:ao->aF->Prop}
theorem IG (I:Inv X pins σ H s)(e:H a=some (.ins C dx fs))(c:gy X.K C)(n:jH X.K C f)(l:fs.lookup f=some v)
 (h:∀u g,Inv X pins σ H g->RelV v u->Q u g):aZ (aT X.prog X.w) A (getAttr (.ref a) f b) Q E s:=by
 obtain⟨j,O,r,_,_,_⟩:=xY I.az e;obtain⟨u,k,i⟩:=m5.some_of (v:=v) (o:=j f) (by rw[<-l];exact r f);exact get_map I.iD O (c.get f) c.hd n k (RA i) (h u _ (I.tok _) i)
theorem IH (I:Inv X pins σ H s)(e:H a=some (.ins C dx fs))(c:gy X.K C)(k:uG X.K C m g)(l:fs.lookup m=none)
 (h:Q (.ref g,[.ref a]) s):aZ (aT X.prog X.w) A (wa (.ref a) m pl) Q E s:=by
 obtain⟨i,O,r,_,_,_⟩:=xY I.az e;have b:=m5.none_of (by rw[<-l];exact r m);exact Rx I.iD O (c.get m) k.at_ k.fn b h
theorem II (I:Inv X pins σ H s)(e:H a=some (.ins C dx fs))(c:gy X.K C)(n:jH X.K C f)(Y:fs.length<1000)(J:RelV y u)
 (h:∀k,Inv X pins σ (upd H a (.ins C dx (fK f y fs))) k->Q () k):aZ (aT X.prog X.w) A (setAttr (.ref a) f u) Q E s:=by
 obtain⟨L,O,r,j,_,F⟩:=xY I.az e;have M:(fs.map (·.1)).length<=bH:=by rw[bb,bq];lia
 refine Ry I.iD O c.sa c.po n.RB c.hd j M λU i G=>h _ ?_;have hd:∃o,U.get? dx=some o:=let⟨o,_,_,W,_⟩:=i.ns;⟨o,W⟩;refine I.write (x:=a) (e:=dx) (by rw[e];exact True.intro) (.inr F) (λb q T z=>(G.2 b T).trans z) hd ?_;refine⟨by rw[du O.ne];exact F,?_,O.ne,i.obj,_,i.ns,λg=>?_,λg P=>?_⟩
 ·have:=IF f y fs;lia
 ·show m5 ((fK f y fs).lookup g) (if g=f then some u else L g);rw[IE];by_cases q:g=f
  ·rw[if_pos q,if_pos q];exact J
  simp_all
 ·by_cases q:g=f
  ·rw[q];exact(B0 f y fs).1
  ·refine(B0 f y fs).2 g (j g λz=>P ?_);simp_all
theorem Inv.made (I:Inv X pins σ H s):Inv X pins σ (upd (upd H s.heap.objs.size (.own (s.heap.objs.size+1))) (s.heap.objs.size+1) (.ins C s.heap.objs.size []))
 {s with heap:=(s.heap.push o_).push (qD C s.heap.objs.size)}:=by
 have g:(s.heap.push o_).get? s.heap.objs.size=some o_:=nM s.heap rfl
 have k:((s.heap.push o_).push (qD C s.heap.objs.size)).get? (s.heap.objs.size+1)=some (qD C s.heap.objs.size):=by
  have:=nM (s.heap.push o_) (o:=qD C s.heap.objs.size) rfl;simp_all
 have j:(s.heap.push o_).Ns s.heap.objs.size (λ_=>none):=⟨o_,#[],_,g,rfl,(λe i=>absurd i (by simp)),λ_=>rfl⟩;have z:=I.laid (a:=s.heap.objs.size) (o:= .own (s.heap.objs.size+1)) (h':=s.heap.push o_) (t':=s.toks) (λb u q=>jR _ q) (bA _) ⟨_,g⟩;refine z.laid (a:=s.heap.objs.size+1) (o:= .ins C s.heap.objs.size []) (t':=s.toks) (λb u q=>jR _ q) (sZ (nO _ _)) ?_;have ne:s.heap.objs.size≠s.heap.objs.size+1:=i6 (oV _);refine⟨by rw[du ne,jB],bR _,ne,k,λ_=>none,(Heap.Ns1.of_empty j).at λo q=>jR _ q,λ_=>True.intro,λy h=>absurd rfl h⟩
theorem RC (g:wb e f env (cb e env)=cb e env)
 (h:aZ (aT prog w) A (cb e env) (λo b=>aZ (aT prog w) A (getAttr o f true) Q E b) E s):aZ (aT prog w) A (cb (.Attribute e f pos) env) Q E s:=
 Attribute_any_ h (by rw[arm_eval_Attribute,g])
end
inductive gR (K)(f)(x:V)(H)(Q:VK):Prop|mk (a C dx) (fs) (v):x= .ref a->H a=some (.ins C dx fs)->gy K C->jH K C f->fs.lookup f=some v->Q v H->gR K f x H Q
def gS (K:aW)(b:TE)(f:Str):TE:=λσ H Q=>b σ H λx H1=>gR K f x H1 Q
inductive xZ (K)(f)(x y:V)(H)(R:Hp->Prop):Prop|mk (a C dx) (fs):x= .ref a->H a=some (.ins C dx fs)->gy K C->jH K C f->fs.length<1000->R (upd H a (.ins C dx (fK f y fs)))->xZ K f x y H R
def uH (K:aW)(g b:TE)(f:Str):TS:=λD σ H=>b σ H λy H1=>g σ H1 λx h=>xZ K f x y h (D.nx σ)
def B1 (X:Cx)(op:Operator)(rd:V->V->Hp->VK->Prop):Prop:=
 ∀(b:List (ai×Obj)) (s:aF) (σ:St) (H:Hp) (x y:V) (u v:ao) (Q:VK),Inv X b σ H s->RelV x u->RelV y v->rd x y H Q->aZ (aT X.prog X.w) X.A (NX op u v) (EP X b σ Q) X.xe s
def IJ (K:aW)(j i:TE)(rd:V->V->Hp->VK->Prop)(f:Str):TS:=λD σ H=>j σ H λx H1=>∃a C dx fs v,x= .ref a/\H1 a=some (.ins C dx fs)/\gy K C/\jH K C f/\fs.lookup f=some v/\
 i σ H1 λy k=>rd v y k λz h=>∃g b,h a=some (.ins C g b)/\b.length<1000/\D.nx σ (upd h a (.ins C g (fK f z b)))
section
variable {X:Cx}{o e value:cC}{f:Str}{pos pos' kh:Pos}{ta tv:TE}
theorem ay (k:PE X e ta)(y:wb e f X.env (cb e X.env)=cb e X.env):PE X (.Attribute e f pos) (gS X.K ta f):=by
 intro j s σ H Q I h;refine RC y (bc (k j s σ H _ I h) λu M b=>?_);obtain⟨x,H1,G,g,a,C,dx,fs,v,ex,z,c,n,l,q⟩:=b;subst ex;obtain rfl:u=Value.ref a:=g;exact IG G z c n l λJ L F i=>⟨v,H1,F,i,q⟩
theorem bI (J:PE X o ta)(F:PE X value tv)(G:tf value (some (.Attribute o f pos')) pos.line X.env=pure false):PS X (.Assign [.Attribute o f pos'] value pos) (uH X.K ta tv f):=by
 intro b s σ H D I h;refine plainObj_wpAny_Assign_Attribute (bc (F b s σ H _ I h) λu g ⟨y,H1,P,i,q⟩=>bc (J b g σ H1 _ P q) λz U ⟨x,W,O,j,a,C,dx,fs,ex,L,c,n,l,k⟩=>?_) G;subst ex;obtain rfl:z=Value.ref a:=j;exact II O L c n l i λT M=>⟨σ,_,M,k⟩
theorem mz (Y:PE X o ta)(U:PE X value tv)(W:B1 X op rd):PS X (.AugAssign (.Attribute o f kh) op value pos) (IJ X.K ta tv rd f):=by
 intro b s σ H D I h;refine wpAny_AugAssign_AttributeAny (bc (Y b s σ H _ I h) λP s1 g=>?_);obtain⟨x,H1,I1,J,a,C,dx,fs,v,ex,ea,c,n,l,q⟩:=g;subst ex;obtain rfl:P=Value.ref a:=J;refine IG I1 ea c n l λu k I2 L=>bc (U b k σ H1 _ I2 q) λi j ⟨y,H2,I3,G,O⟩=>bc (W b j σ H2 v y u i _ I3 L G O) λw4 s4 ⟨z,H3,I4,F,dx',dC,ea',T,M⟩=>?_;exact II I4 ea' c n T F λs5 I5=>⟨σ,_,I5,M⟩
def RD:V->V->Hp->VK->Prop:=λx y H Q=>ux x y H λi j H=>Q (.int (i+j)) H
theorem n9:B1 X .Add RD:=by
 rintro z s σ H x y u v Q I h g k;obtain⟨i,j,rfl,rfl,q⟩:=ux.of k;obtain⟨t,rfl⟩:=(show∃t,u=Value.int i t from h);obtain⟨b,rfl⟩:=(show∃b,v=Value.int j b from g);exact Zs ⟨.int (i+j),H,I.tok _,⟨_,rfl⟩,q⟩
end
section
variable {X:Cx}{pins:List (ai×Obj)}{σ:St}{H:Hp}{s:aF}{A:fm}{E:ao->aF->Prop}{Q:ao->aF->Prop}{c:ao}{b:Bool}
end
structure cR (k:Nat)(A:fm):Prop where
 hd:A.handled=none
 dp:A.depth+3*k+5<recursionLimit
 un:A.units+16*k+200<qH
theorem cR.mono (r:cR k A)(h:j<=k):cR j A:=⟨r.hd,by have:=r.dp;lia,by have:=r.un;lia⟩
theorem cR.deeper (r:cR (k+1) A)(env):cR k (A.deeper env):=
 ⟨r.hd,by have:=r.dp;show A.depth+1+3*k+5<_;lia,by have:=r.un;show A.units+3+16*k+200<_;lia⟩
theorem RE {A:fm}:(A.under (.builtin "type.__call__" ⟨.ref C::us,kw⟩)).depth=A.depth+1:=by
 rfl
theorem RF {A:fm}:(A.under (.builtin "type.__call__" ⟨.ref C::us,kw⟩)).units=A.units+1:=by
 rfl
theorem cR.make (r:cR (k+1) A)(C)(us)(kw):cR k (A.under (.builtin "type.__call__" ⟨.ref C::us,kw⟩)):=
 ⟨r.hd,by have:=r.dp;rw[RE];lia,by have:=r.un;rw[RF];lia⟩
theorem cR.depth (r:cR k A):A.depth<recursionLimit:=by have:=r.dp;lia
theorem cR.units (r:cR k A):A.units+64<qH:=by have:=r.un;lia
def dJ:TA:=λ_ H Q=>Q [] H
def dr (g:TE)(tr:TA):TA:=λσ H Q=>g σ H λx H1=>tr σ H1 λb h=>Q (x::b) h
section
variable {X:Cx}{e:cC}{es:List cC}{te:TE}{t:TA}{pos:Pos}
theorem ag:PA X [] dJ:=λ_ _ _ _ H Q I h=>Calls.spliced_nil ⟨[],H,I,.nil,h⟩
theorem ae (z:PE X e te)(y:PA X es t)(o:cD (e::es) X.env=(false,cb e X.env)::cD es X.env:=by rfl):PA X (e::es) (dr te t):=by
 intro pos b s σ H Q I h;rw[o];refine Calls.spliced_cons (bc (z b s σ H _ I h) λu i g=>?_);obtain⟨x,H1,F,r1,k⟩:=g;exact bc (y pos b i σ H1 _ F k) λJ L ⟨xs,G,C,r2,j⟩=>⟨x::xs,G,C,.cons r1 r2,j⟩
def RG (t:TA):TE:=λσ H Q=>t σ H λb H1=>b.length<=bH/\∀p,H1 p=none->Q (.ref p) (upd H1 p (.tup b))
def pI (t:TA):TE:=λσ H Q=>t σ H λb H1=>b.length<=bH/\∀p,H1 p=none->Q (.ref p) (upd H1 p (.lst b))
theorem RH {x1}(h:PA X es t):PE X (.Tuple es x1 pos) (RG t):=by
 intro o s σ H Q I y;refine wpAny_Tuple_spliced (bc (h pos o s σ H _ I y) λk g ⟨j,H1,i,r,z,q⟩=>⟨by rw[<-r.length];exact z,?_⟩);have C:=i.az.fresh (bA _);refine⟨.ref g.heap.objs.size,upd H1 g.heap.objs.size (.tup j),i.laid (t':=g.toks) (λb u e=>jR _ e) (bA _) ?_,rfl,q _ C⟩;exact⟨z,k,r,⟨_,nM _ rfl,rfl,_,rfl⟩⟩
theorem bO (h:PA X es t):PE X (.List es pos) (pI t):=by
 intro k s σ H Q I o;refine wpAny_List_spliced (bc (h pos k s σ H _ I o) λj g ⟨xs,H1,i,r,z,q⟩=>⟨by rw[<-r.length];exact z,?_⟩);have y:=i.az.fresh (bA _);refine⟨.ref g.heap.objs.size,upd H1 g.heap.objs.size (.lst xs),i.laid (t':=g.toks) (λb u e=>jR _ e) (bA _) ?_,rfl,q _ y⟩;exact⟨z,j,0,r,nM _ rfl⟩
end
abbrev Sp:=List V->Hp->VK->XK->Prop
abbrev n_:=List Env->Hp->aF->XK->ao->aF->Prop
structure pJ (P:bL)(w:bw)(K:aW)(mg:Str->Option ao)(base:bz)(A:fm)(outer:List Env)(s:aF)(H:Hp):Prop where
 frames:A.frames=some outer
 mod:Mod K mg base
 bs:∀b o,base.get? b=some o->s.heap.get? b=some o/\H b=none
 m6:base.objs.size<=s.heap.objs.size
 jC:s.heap.FunFrames base outer
 pB:∀b∈fe outer,H b=none
 az:dQ H s.heap
 bare:qF s.gens
def CE (outer:List Env)(P:bL)(w:bw)(H:Hp)(s:aF)(Q:VK)(u:ao)(b:aF):Prop:=
 ∃v g,b.os=s.os/\qF b.gens/\Un (fe outer) [] H g s.heap b.heap/\dQ g b.heap/\RelV v u/\Q v g
def CR (g:n_)(outer:List Env)(P:bL)(w:bw)(H:Hp)(s:aF)(Q:VK)(E:XK)(r:Result)(b:aF):Prop:=
 match r with
 | .ok (.ret u)=>CE outer P w H s Q u b
 | .ok _=>False
 | .error e=>g outer H s E e b
structure gz (P:bL)(w:bw)(K:aW)(mg:Str->Option ao)(base:bz)(CX:n_)(k:Nat)(f:ai)(fd:lX)(ps:List Str)(sp:Sp):Prop where
 len:∀vs H Q E,sp vs H Q E->vs.length=ps.length
 run:∀(A:fm) (outer:List Env) (s:aF) (H:Hp) (args:Args) (us:List ao) (vs:List V) (Q:VK) (E:XK),cR k A->pJ P w K mg base A outer s H->wc s fd args (ps.zip us)->bp vs us->sp vs H Q E->
  tq (aT P w) A (.call (.ref f) args) (CR CX outer P w H s Q E) s
theorem pJ.make {K}(e:pJ P w K mg base A outer s H)(C)(us)(kw):
 pJ P w K mg base (A.under (.builtin "type.__call__" ⟨.ref C::us,kw⟩)) outer s H:=⟨by first|exact e.frames|(simpa[Around.under,Code.envs,Code.isFrame,pushEnvs]using e.frames),e.mod,e.bs,e.m6,e.jC,e.pB,e.az,e.bare⟩
section
variable {X:Cx}{pins:List (ai×Obj)}{σ:St}{H:Hp}{s s':aF}
theorem Inv.IK (I:Inv X pins σ H s):pJ X.prog X.w X.K X.mg X.base X.A X.stack s H:=
 ⟨I.ok.frames,I.ok.mod,I.bs,eA I.ok.m6 I.sz,I.stack,I.xM,I.az,I.bare⟩
theorem Inv.after (I:Inv X pins σ H s)(h:CE X.stack X.prog X.w H s Q u s'):EP X pins σ Q u s':=by
 obtain⟨v,k,os,bare,un,az,r,q⟩:=h;obtain⟨j,g,d,t,i⟩:=s';obtain rfl:i=s.os:=os;exact⟨v,k,I.call (h':=j) (g':=g) (d':=d) (t':=t) (ch:=[]) un az bare (λb z=>absurd z (by simp)),r,q⟩
end
def mB (g:Sp)(h:List V)(E:XK)(t:TA):TE:=λσ H Q=>t σ H λb H1=>g (b++h) H1 Q E
inductive B2 (C)(m)(x:V)(H:Hp)(R:Prop):Prop
 |mk (a dx) (fs):x= .ref a->H a=some (.ins C dx fs)->fs.lookup m=none->R->B2 C m x H R
def rH (C:ai)(m:Str)(h:Sp)(i:List V)(E:XK)(g:TE)(t:TA):TE:=λσ H Q=>g σ H λx H1=>B2 C m x H1 (t σ H1 λb j=>h (x::(b++i)) j Q E)
def rJ (C:ai)(g:Sp)(h:List V)(E:XK)(t:TA):TE:=λσ H Q=>t σ H λb H1=>∀x dx,H1 x=none->H1 dx=none->dx≠x->
 g (.ref x::(b++h)) (upd (upd H1 dx (.own x)) x (.ins C dx [])) (λv i=>v= .aB/\Q (.ref x) i) E
def Binds (K:aW)(h:lX)(ps:List Str)(g:List ao):Prop:=
 ∀(s:aF) (b:List ao),K.In s.heap->(b++g).length=ps.length->wc s h ⟨b,[]⟩ (ps.zip (b++g))
theorem Binds.all {K}(h:∀b:List ao,b.length=ps.length->bindArgs fd ⟨b,[]⟩=pure (ps.zip b)):Binds K fd ps []:=λs b _ g=>by
 rw[eZ]at g⊢;exact .of_eq (h b g)
def fZ (h:n_)(X:Cx)(E:XK):Prop:=∀(g:List (ai×Obj)) (σ:St) (H:Hp) (s:aF) (e:ao) (b:aF),Inv X g σ H s->h X.stack H s E e b->X.xe e b
section
variable {X:Cx}{CX:n_}{k:Nat}{f C:ai}{fd:lX}{ps:List Str}{sp:Sp}{fC:List V}{ds:List ao}{E:XK}{x m:Str}{p pos apos:Pos}{e o:cC}{es:List cC}{ta:TE}{t:TA}
theorem x6 {σ:St}(F:gz X.prog X.w X.K X.mg X.base CX k f fd ps sp)(j:cR k X.A)(z:Binds X.K fd ps ds)(hd:bp fC ds)(i:fZ CX X E)
 (I:Inv X pins σ H s) (r:bp vs us) (h:sp (vs++fC) H Q E):aZ (aT X.prog X.w) X.A (call (.ref f) us) (EP X pins σ Q) X.xe s:=by
 have r2:=r.append hd;have y:(us++ds).length=ps.length:=by rw[<-r2.length];exact F.len _ _ _ _ h
 refine N6 (ED (F.run X.A X.stack s H ⟨us,[]⟩ (us++ds) (vs++fC) Q E j I.IK (z s us I.iD y) r2 h) λr g b=>?_);cases r with
 |error e=>exact i pins σ H s e g I b
 |ok G=>
  cases G with
  |ret u=>exact I.after b
  |next=>exact ma b
  |brk=>exact ma b
  |cont=>exact ma b
theorem RI (F:gz X.prog X.w X.K X.mg X.base CX k f fd ps sp)(j:cR k X.A)(G:Gl X x)(y:X.mg x=some (.ref f))(z:tu X.K (.ref f)=true)(M:Binds X.K fd ps ds)(hd:bp fC ds)(i:fZ CX X E)
 (O:PA X (e::es) t) (L:(x==("__debug__":Str))=false:=by decide) (J:cD (e::es) X.env=(false,cb e X.env)::cD es X.env:=by rfl) (u:(iw pos (cD es X.env)).any (·.1)=false:=by rfl):
 PE X (.Call (.Name x p) (e::es) [] pos) (mB sp fC E t):=by
 intro g s σ H Q I h;refine zP (pD I G y ?_ L);refine N7 (h₀:=X.base) I.ok.mod.uq z (bc (O pos g s σ H _ I h) λT U ⟨P,H1,b,r,q⟩=>⟨b.iD,?_⟩) J u;exact x6 F j M hd i b r q
theorem RJ (F:gz X.prog X.w X.K X.mg X.base CX k f fd ps sp)(g:cR k X.A)(u:Gl X x)(i:X.mg x=some (.ref f))(j:tu X.K (.ref f)=true)(z:Binds X.K fd ps ds)(hd:bp fC ds)(b:fZ CX X E)
 (y:(x==("__debug__":Str))=false:=by decide):PE X (.Call (.Name x p) [] [] pos) (mB sp fC E dJ):=by
 intro G s σ H Q I h;refine zP (pD I u i ?_ y);exact N8 I.iD j (x6 (us:=[]) F g z hd b I .nil h)
theorem RK {pl}(he:PE X o ta)(c:gy X.K C)(y:uG X.K C m f)(F:gz X.prog X.w X.K X.mg X.base CX k f fd ps sp)(W:cR k X.A)(hb:Binds X.K fd ps ds)(hd:bp fC ds)(P:fZ CX X E)(ha:PA X (e::es) t)
 (U:cD (e::es) X.env=(false,cb e X.env)::cD es X.env:=by rfl) (Y:(iw pos (cD es X.env)).any (·.1)=false:=by rfl)
 (T:cb (.Call (.Attribute o m apos) (e::es) [] pos) X.env=(do
   let j<-cb o X.env
   zK apos.atName
   let(f,first)<-zL [j] (wa j m pl)
   EE pos f first (iw pos (cD (e::es) X.env)) (wd pos (we [] X.env))):=by rfl):
 PE X (.Call (.Attribute o m apos) (e::es) [] pos) (rH C m sp fC E ta t):=by
 intro i s σ H Q I h;refine Yd (pl:=pl) (bc (he i s σ H _ I h) λu L J=>?_) T;obtain⟨x,H1,G,M,a,dx,fs,ex,ea,l,q⟩:=J;subst ex;obtain rfl:u=Value.ref a:=M;refine IH G ea c y l ?_;refine N7 (first:=[.ref a]) (h₀:=X.base) I.ok.mod.uq y.kp (bc (ha pos i L σ H1 _ G q) λg s2 ⟨b,H2,z,r,O⟩=>⟨z.iD,?_⟩) U Y;exact x6 (us:= .ref a::g) (vs:= .ref a::b) F W hb hd P z (.cons rfl r) O
theorem RL (M:PE X o ta)(c:gy X.K C)(i:uG X.K C m f)(F:gz X.prog X.w X.K X.mg X.base CX k f fd ps sp)(L:cR k X.A)(O:Binds X.K fd ps ds)(hd:bp fC ds)(G:fZ CX X E)
 (J:cb (.Call (.Attribute o m apos) [] [] pos) X.env=(do
   let g<-cb o X.env
   zK apos.atName
   let(f,first)<-zL [g] (wa g m pl)
   EE pos f first (iw pos (cD [] X.env)) (wd pos (we [] X.env))):=by rfl):
 PE X (.Call (.Attribute o m apos) [] [] pos) (rH C m sp fC E ta dJ):=by
 intro z s σ H Q I h;refine Yd (pl:=pl) (bc (M z s σ H _ I h) λu T j=>?_) J;obtain⟨x,H1,b,y,a,dx,fs,ex,P,l,q⟩:=j;subst ex;obtain rfl:u=Value.ref a:=y;refine IH b P c i l ?_;exact N8 (first:=[.ref a]) b.iD i.kp (x6 (us:=[.ref a]) (vs:=[.ref a]) F L O hd G b (.cons rfl .nil) q)
structure Mk (K:aW)(C f:ai):Prop where
 makes:X' K C=true
 init:lq K (.ref C) "__init__"=some (some (.ref f))
 fn:N2 K (.ref f)=true
 kp:tu K (.ref C)=true
theorem IL {σ:St}(M:Mk X.K C f)(F:gz X.prog X.w X.K X.mg X.base CX k f fd ps sp)(J:cR (k+1) X.A)(O:Binds X.K fd ps ds)(hd:bp fC ds)
 (G:fZ CX X E) (I:Inv X pins σ H s) (r:bp vs us)
 (h:∀x dx,H x=none->H dx=none->dx≠x->sp (.ref x::(vs++fC)) (upd (upd H dx (.own x)) x (.ins C dx [])) (λv U=>v= .aB/\Q (.ref x) U) E):
 aZ (aT X.prog X.w) X.A (call (.ref C) us) (EP X pins σ Q) X.xe s:=by
 have i:=h (s.heap.objs.size+1) s.heap.objs.size (I.az.fresh (Ye _)) (I.az.fresh (bA _)) (i6 (oV _));have g:=Inv.made (C:=C) I;have r2:bp (V.ref (s.heap.objs.size+1)::(vs++fC)) (Value.ref (s.heap.objs.size+1)::(us++ds)):= .cons rfl (r.append hd)
 have L:(Value.ref (s.heap.objs.size+1)::us++ds).length=ps.length:=by
  have e:=r2.length;rw[F.len _ _ _ _ i]at e;exact e.symm
 refine N6 (Rz (f:=f) I.iD M.makes M.init (beq_iff_eq.mp M.fn) (ED (F.run _ X.stack _ _ ⟨Value.ref (s.heap.objs.size+1)::us,[]⟩ (Value.ref (s.heap.objs.size+1)::(us++ds)) _ _ E (J.make C us [])
  (g.IK.make C us []) (O _ (Value.ref (s.heap.objs.size+1)::us) g.iD L) r2 i) λr j b=>?_))
 cases r with
 |error e=>exact G pins σ _ _ e j g b
 |ok P=>
  cases P with
  |ret u=>
   obtain⟨v,W,T,y,ev,z⟩:=g.after b;subst ev;exact⟨y,⟨V.ref (s.heap.objs.size+1),W,T,rfl,z⟩⟩
  |next=>exact ma b
  |brk=>exact ma b
  |cont=>exact ma b
theorem RM (M:Mk X.K C f)(F:gz X.prog X.w X.K X.mg X.base CX k f fd ps sp)(j:cR (k+1) X.A)(z:Gl X x)(y:X.mg x=some (.ref C))(L:Binds X.K fd ps ds)(hd:bp fC ds)(i:fZ CX X E)
 (O:PA X (e::es) t) (J:(x==("__debug__":Str))=false:=by decide) (G:cD (e::es) X.env=(false,cb e X.env)::cD es X.env:=by rfl) (u:(iw pos (cD es X.env)).any (·.1)=false:=by rfl):
 PE X (.Call (.Name x p) (e::es) [] pos) (rJ C sp fC E t):=by
 intro g s σ H Q I h;refine zP (pD I z y ?_ J);refine N7 (h₀:=X.base) I.ok.mod.uq M.kp (bc (O pos g s σ H _ I h) λT U ⟨P,H1,b,r,q⟩=>⟨b.iD,?_⟩) G u;exact IL M F j L hd i b r q
theorem RN (M:Mk X.K C f)(F:gz X.prog X.w X.K X.mg X.base CX k f fd ps sp)(g:cR (k+1) X.A)(j:Gl X x)(i:X.mg x=some (.ref C))(y:Binds X.K fd ps ds)(hd:bp fC ds)(b:fZ CX X E)
 (u:(x==("__debug__":Str))=false:=by decide):PE X (.Call (.Name x p) [] [] pos) (rJ C sp fC E dJ):=by
 intro z s σ H Q I h;refine zP (pD I j i ?_ u);exact N8 I.iD M.kp (IL (us:=[]) M F g y hd b I .nil h)
end
section
variable {X:Cx}{CX:n_}{k:Nat}{f C:ai}{fd:lX}{ps ks:List Str}{sp:Sp}{E:XK}{x m:Str}{p pos apos Y0:Pos}{e o:cC}{es:List cC}{Y1:List zQ}{te ta:TE}{t tk:TA}{nm:Option Str}
variable {g:List ao->List ao->List ao}{gV:List V->List V->List V}
end
structure jh (N P:List Str)(sc:fD):Prop where
 kind:sc.kind= .function
 co:sc.isCoroutine=false
 gen:sc.isGenerator=false
 nd:N.Nodup
 pre:N.take P.length=P
 par:∀x∈P,sc.names.lookup x=some .local\/sc.names.lookup x=some .cell
 RO:∀y∈sc.names,y.2≠.free
theorem IM {kindOf}:∀{b} {m},(∀v,(x,v)∉b)->tz kindOf b m x=m x
 |[],_,_=>rfl
 |(n,v)::r,m,h=>by
  unfold tz;rw[IM λw g=>h w (aR _ g)];split
  ·have:x≠n:=by rintro rfl;exact h v aH
   simp_all
  rfl
theorem IP {kindOf}:∀{b} {m},(∀v,(x,v)∉b)->tD kindOf b m x=m x
 |[],_,_=>rfl
 |(n,v)::r,m,h=>by
  unfold tD;rw[IP λw g=>h w (aR _ g)];split
  ·rfl
  grind
theorem IQ {kindOf}:∀{P:List Str} {b} {i:Nat} {m},P.Nodup->P[i]? =some x->b[i]? =some v->kindOf x=some .local->
 tz kindOf (P.zip b) m x=some v
 |[],_,_,_,_,h,_,_=>by simp at h
 |_::_,[],_,_,_,_,h,_=>by simp at h
 |p::P,w::b,0,m,nd,h1,h2,g=>by
  simp at h1 h2;subst h1;subst h2;show tz kindOf ((p,w)::P.zip b) m p=_;unfold tz;rw[IM λv j=>(pb.mp nd).1 (sX j).1,if_pos g];simp
 |p::P,w::b,i+1,m,nd,h1,h2,g=>by
  show tz kindOf ((p,w)::P.zip b) m x=_;exact IQ (i:=i) (pb.mp nd).2 (by simpa using h1) (by simpa using h2) g
theorem IS {kindOf}:∀{P:List Str} {b} {i:Nat} {m},P.Nodup->P[i]? =some x->b[i]? =some v->kindOf x≠some .local->
 tD kindOf (P.zip b) m x=some v
 |[],_,_,_,_,h,_,_=>by simp at h
 |_::_,[],_,_,_,_,h,_=>by simp at h
 |p::P,w::b,0,m,nd,h1,h2,g=>by
  simp at h1 h2;subst h1;subst h2;show tD kindOf ((p,w)::P.zip b) m p=_;unfold tD;rw[IP λv j=>(pb.mp nd).1 (sX j).1,if_neg g];simp
 |p::P,w::b,i+1,m,nd,h1,h2,g=>by
  show tD kindOf ((p,w)::P.zip b) m x=_;exact IS (i:=i) (pb.mp nd).2 (by simpa using h1) (by simpa using h2) g
def start (N:List Str)(b:List V):St:=b.map some++eN (N.length-b.length) none
def ie (i:n_)(P:bL)(w:bw)(K:aW)(mg:Str->Option ao)(base:bz)(N:List Str)(b:Str)(scope:fD)(f:ai)(g:ao)(A:fm)(outer:List Env)(s:aF)(H:Hp)(E:XK):Cx where
 prog:=P
 w:=w
 K:=K
 mg:=mg
 base:=base
 A:=A.deeper (kE b scope s.heap.objs.size f g)
 N:=N
 s_0:=s
 H_0:=H
 env:=kE b scope s.heap.objs.size f g
 outer:=outer
 stack:=kE b scope s.heap.objs.size f g::outer
 ex:=[]
 calm:=true
 fn:=λ_=>true
 pn:=[]
 xe:=λe j=>aZ (aT P w) (A.deeper (kE b scope s.heap.objs.size f g)) (EF (kE b scope s.heap.objs.size f g) e) (λ_ h=>i outer H s E e h) (λk h=>i outer H s E k h) j
theorem IT {sc:fD}(h:sc.names.lookup x=some .cell):∃c,(gu n sc.names []).lookup x=some c:=by
 have q:=Yg sc.names n [] (.inl h);exact NO.mp q
theorem RP {K}
 (S:jh N ps scope) (hd:A.handled=none) (g:pJ P w K mg base A outer s H) (T:vs.length=ps.length) (r:bp vs us)
 (x:InCallC s s.heap.objs.size (tz (kE qual scope s.heap.objs.size f cd).kindOf (ps.zip us) λ_=>none) (gu (s.heap.objs.size+1) scope.names []) (tD (kE qual scope s.heap.objs.size f cd).kindOf (ps.zip us) λ_=>none) s1):
 Inv (ie CX P w K mg base N qual scope f cd A outer s H E) [] (start N vs) H s1:=by
 have O:ps.length<=N.length:=by have:=congrArg f9 S.pre;rw[gq]at this;lia
 obtain⟨h1,M,rfl,G⟩:=x.done;have o:∀b:ai,b∉(ie CX P w K mg base N qual scope f cd A outer s H E).ex:=λb z=>absurd (show b∈([]:List ai)from z) (by simp)
 refine⟨⟨g.mod,S.kind,rfl,rfl,bA _,λy z c h1 h2=>?_,λy j=>?_,λy c _ h=>?_,λ_=>hd,Around.frames_deeper g.frames,.inr ⟨rfl,rfl⟩,λb z=>absurd z (o b),g.bs,g.m6,λb _ _=>o b,λb z=>absurd z (o b),g.jC,g.pB⟩,
  rfl,g.bare,Un.kept G,⟨_,x.toInCall.ns,λi y v h1 h2 h3=>?_⟩,λy c h=>⟨_,x.cell y c h⟩,g.az.fresh (bA _),λy c h=>?_,λp hp=>absurd (show p∈([]:List (ai×Obj))from hp) (by simp),g.az.kept G,?_⟩
 ·exact name_of_addr x.apart (jS h1) (jS h2)
 ·have j:scope.names.lookup y=some .cell\/scope.names.lookup y=some .free:=j;rcases j with j|j
  ·exact IT j
  ·exact absurd rfl (S.RO _ (jS j))
 ·exact Ee (x.above y c (jS h))
 ·have J:i<vs.length:=by
   unfold start at h2
   grind
  have L:vs[i]? =some v:=by
   unfold start at h2;rw[NM (by simpa using J),dB]at h2;cases e:vs[i]? with
   |none=>rw[e]at h2;cases h2
   |some a=>rw[e]at h2;cases h2;rfl
  obtain⟨u,F,I⟩:=r.get L
  have hp:ps[i]? =some y:=by
   rw[<-S.pre,List.getElem?_take_of_lt (by lia)];exact h1
  have C:ps.Nodup:=by rw[<-S.pre];exact S.nd.sublist (XS _ _)
  refine⟨u,I,?_⟩;rcases S.par y (gI hp)with k|k
  ·exact .inl ⟨k,IQ C hp F k⟩
  ·obtain⟨c,e⟩:=IT (n:=s.heap.objs.size+1) k;refine .inr ⟨.inl k,c,e,?_⟩;have q:=x.cell y c e;rw[IS C hp F (by show scope.names.lookup y≠_;rw[k];decide)]at q
   lia
 ·exact g.az.fresh (Ee (x.above y c (jS h)))
 ·unfold start;show _=N.length;simp_all
theorem RQ {K:aW}
 (lk:K.lookup f=some ⟨oc,od,.func (zR name qual params body scope dV kV doc pm an bu ct),osl⟩) (hcd:N9 K bu qual=true) (S:jh N ps scope)
 (len:∀g H Q E,sp g H Q E->g.length=ps.length)
 (hbody:∀(A) (outer) (s) (H) (g) (Q) (E),cR k (A.deeper (kE qual scope s.heap.objs.size f bu))->sp g H Q E->
   ∃t,ic (ie CX P w K mg base N qual scope f bu A outer s H E) body t/\t {nx:=λ_ h=>Q .aB h,rt:=Q} (start N g) H):
 gz P w K mg base CX (k+1) f (zR name qual params body scope dV kV doc pm an bu ct) ps sp:=by
 refine⟨len,λA outer s H args T g Q E G j hb r M=>?_⟩;have hl:=len _ _ _ _ M;have O:=j.mod.uq.keeps λb o e=>(j.bs b o e).1;have U:=j.mod.nolimit.keeps λb o e=>(j.bs b o e).1
 have hkind:∀y∈ps.zip T,scope.names.lookup y.1=some .local\/(scope.names.lookup y.1=some .cell/\((gu (s.heap.objs.size+1) scope.names []).lookup y.1).isSome=true):=λ⟨n,v⟩ W=>by
  rcases S.par n (sX W).1 with q|q
  ·exact .inl q
  ·exact .inr ⟨q,Yg _ _ _ (.inl q)⟩
 refine codeAny_call_function G.depth (O _ _ lk) rfl S.co S.gen rfl (PySem.W.codeRec_of O hcd) (hb _ _ _ _ ?_);refine wpAny_newFunctionEnv_cells S.kind hkind λenv he L x=>?_;subst he;refine⟨U.keeps x.toInCall.keep,codeAny_func ?_⟩;obtain⟨t,X,Y⟩:=hbody A outer s H g Q E (G.deeper _) M;have I:Inv (ie CX P w K mg base N qual scope f bu A outer s H E) [] (start N g) H L:=RP S G.hd j hl r x;refine l_ (X [] L (start N g) H _ I Y) (λfl C i=>?_) λe C i=>i
 have fin:∀{z:St} {h:Hp} {v:V} {u:ao},Inv (ie CX P w K mg base N qual scope f bu A outer s H E) [] z h C->RelV v u->Q v h->CE outer P w H s Q u C:=
  λ{z h v u} J F q=>⟨v,h,J.os,J.bare,J.base,J.az,F,q⟩
 cases fl with
 |ret u=>
  obtain⟨v,z,h,J,F,q⟩:=i;exact fin J F q
 |next=>
  obtain⟨z,h,J,q⟩:=i;exact fin (v:=V.aB) (u:=Value.none) J rfl q
 |brk=>
  obtain⟨_,_,_,q⟩:=i;simp_all
 |cont=>
  obtain⟨_,_,_,q⟩:=i;simp_all
section
variable {X:Cx}{x:Str}{p pos:Pos}{e:cC}{es:List cC}{t:TA}{id T:String}{r:List V->Hp->VK->Prop}
def IU (r:List V->Hp->VK->Prop)(t:TA):TE:=λσ H Q=>t σ H λb H1=>r b H1 Q
theorem cM (J:xU X (.builtin id) r)(C:Gl X x)(z:X.mg x=none)(o:zI x=some (.builtin id))(L:PA X (e::es) t)(y:x≠"__name__":=by decide)(G:(x==("__debug__":Str))=false:=by decide)
 (F:cD (e::es) X.env=(false,cb e X.env)::cD es X.env:=by rfl) (u:(iw pos (cD es X.env)).any (·.1)=false:=by rfl):PE X (.Call (.Name x p) (e::es) [] pos) (IU r t):=by
 intro b s σ H Q I h;refine zP (uw I C z o ?_ y G);exact Zt (bc (L pos b s σ H _ I h) λi j ⟨g,H1,M,r1,k⟩=>J b j σ H1 g i Q M r1 k) F u
end
end L2
namespace HT
open PySem PyProof.Rows
theorem RS (A)(s)(a)(t)(c)(u):∃e,EG A s (.int a t) (.int c u) e/\(e=true↔a=c):=
 ⟨(a==c),Yh a t c u,by simp⟩
section
open PySem.SeqAt
open PySem.AutoSeq1 (wpAny_loadPart')
open PySem.MeetsSeq PySem.MeetsSeq2 PySem.MeetsSeq3
end
section
variable {prog:bL}{w:bw}{A:fm}{E:ao->aF->Prop}{s:aF}
def gT (n d:Nat):Option Int->Nat
 |none=>d
 |some v=>if v<0 then(v+(n:Int)).toNat else min v.toNat n
theorem uI (n d k:Nat):gT n d (some (k))=min k n:=by
 rfl
end
end HT
namespace L2
open PySem PySem.Spec PyProof.Rows
abbrev TO:=St->Hp->(Option Int->Hp->Prop)->Prop
def PO (X:Cx)(e:Option cC)(t:TO):Prop:=
 ∀(b:List (ai×Obj)) (s:aF) (σ:St) (H:Hp) (Q:Option Int->Hp->Prop),Inv X b σ H s->t σ H Q->
  aZ (aT X.prog X.w) X.A (evalPart e X.env) (λu h=>∃o g,Inv X b σ g h/\IsPart u o/\Q o g) X.xe s
def RT:TO:=λ_ H Q=>Q none H
def RU (t:TE):TO:=λσ H Q=>t σ H λx H1=>∃i,x= .int i/\Q (some i) H1
section
variable {X:Cx}{e:cC}{te:TE}{lo hi:Option cC}{tl th:TO}{pos p2:Pos}
theorem B3:PO X none RT:=by
 intro b s σ H Q I h;exact fG ⟨none,H,I,.none,h⟩
theorem ji (h:PE X e te):PO X (some e) (RU te):=by
 intro j s σ H Q I k;refine bc (h j s σ H _ I k) λu y b=>?_;obtain⟨x,H1,o,r1,g⟩:=b;obtain⟨i,rfl,q⟩:=g;obtain⟨t,rfl⟩:=r1;exact⟨some i,H1,o,.int i t,q⟩
def B4 (X:Cx)(r:V->Option Int->Option Int->Hp->VK->Prop):Prop:=
 ∀(h:List (ai×Obj)) (s:aF) (σ:St) (H:Hp) (x:V) (v vl b:ao) (lo hi:Option Int) (g:ai) (Q:VK),Inv X h σ H s->RelV x v->s.heap.IsSliceOf g vl b .none->IsPart vl lo->IsPart b hi->r x lo hi H Q->
  ∃T id,typeLookup (.type T) "__getitem__"=pure (some (.builtin id))/\s.TypeIs v T/\aZ (aT X.prog X.w) X.A (getItem v (.ref g)) (EP X h σ Q) X.xe s
def RV (r:V->Option Int->Option Int->Hp->VK->Prop)(te:TE)(tl th:TO):TE:=λσ H Q=>te σ H λx H1=>tl σ H1 λl g=>th σ g λu b=>r x l u b Q
theorem m9 (P:B4 X r)(Y:PE X e te)(U:PO X lo tl)(M:PO X hi th):PE X (.Subscript e (.Slice lo hi none p2) pos) (RV r te tl th):=by
 intro i s σ H Q I h;refine Subscript_ (bc (Y i s σ H _ I h) λv z o=>?_);obtain⟨x,H1,I1,r1,G⟩:=o;refine wpAny_Slice (bc (U i z σ H1 _ I1 G) λvl y ⟨l,H2,I2,L,F⟩=>bc (M i y σ H2 _ I2 F) λj g ⟨u,k,I3,J,C⟩=>?_);refine fG ?_;have I4:Inv X i σ k {g with heap:=g.heap.push {cls:= .type "slice",data:= .fields #[vl,j,.none]}}:=I3.kept (t':=g.toks) λb ob q=>jR _ q;obtain⟨T,id,hT,O,W⟩:=P i {g with heap:=g.heap.push {cls:= .type "slice",data:= .fields #[vl,j,.none]}} σ k x v vl j l u g.heap.objs.size Q I4 r1 (Zu ..) L J C;exact tail_any (ops:=[.ref g.heap.objs.size,v]) O hT W (by with_unfolding_all rfl)
def kS (b:List V)(lo hi:Option Int):List V:=(b.drop (HT.gT b.length 0 lo)).take (HT.gT b.length b.length hi-HT.gT b.length 0 lo)
theorem RW (xs)(lo hi):(kS xs lo hi).length<=xs.length:=by
 unfold kS;rw[gq,o9]
 lia
end
def pK (n:Nat)(i:Int):Option Nat:=if 0<=i then(if i<n then some i.toNat else none)else if-(n:Int)<=i then some (i+n).toNat else none
def oh {α:Type}(b:List α)(i:Int):Option α:=(pK b.length i).bind λj=>b[j]?
theorem RX (h:pK n i=some j):N_ i n=some j/\j<n/\ -(n)<=i/\i<n:=by
 unfold pK at h;by_cases b:0<=i
 ·rw[if_pos b]at h;by_cases h1:i<n
  ·rw[if_pos h1]at h;have e:=kz h;exact⟨by rw[seqIndex_of b h1,e],by lia,by lia,h1⟩
  simp_all
 ·rw[if_neg b]at h;by_cases h1: -(n:Int)<=i
  ·rw[if_pos h1]at h;have e:=kz h;exact⟨by rw[seqIndex_neg (by lia) h1,e],by lia,h1,by lia⟩
  simp_all
theorem RY {b:List α}{v}(h:oh b i=some v):∃j,N_ i b.length=some j/\b[j]? =some v/\j<b.length/\ -(b.length:Int)<=i/\i<b.length:=by
 unfold oh at h;cases e:pK b.length i with
 |none=>rw[e]at h;cases h
 |some j=>
  rw[e]at h;obtain⟨h1,h2,h3,h4⟩:=RX e;exact⟨j,h1,h,h2,h3,h4⟩
theorem uJ {b:List α}{j:Nat}{v}(h:b[j]? =some v):oh b (j)=some v:=by
 have g:=(cK.mp h).1
 have e:pK b.length (j:Int)=some j:=by
  unfold pK;simp_all
 unfold oh;rw[e];exact h
def RZ (b:cC):Prop:=∀o i,subscripted b false o i=operate [o,i] (getItem o i)
def B5 (X:Cx)(r:R2):Prop:=
 ∀(value slice:cC) (b:List (ai×Obj)) (s:aF) (σ:St) (H:Hp) (x y:V) (v u:ao) (Q:VK),Inv X b σ H s->RelV x v->RelV y u->r x y H Q->
  subscripted slice false v u=operate [v,u] (getItem v u)->aZ (aT X.prog X.w) X.A (subscriptTail value slice v u) (EP X b σ Q) X.xe s
def IV (X:Cx)(id:String)(r:V->List V->Hp->VK->Prop):Prop:=
 ∀(h:List (ai×Obj)) (s:aF) (σ:St) (H:Hp) (x:V) (b:List V) (v:ao) (g:List ao) (Q:VK),Inv X h σ H s->RelV x v->bp b g->r x b H Q->
  aZ (aT X.prog X.w) X.A (call (.builtin id) (v::g)) (EP X h σ Q) X.xe s
section
variable {X:Cx}{a b:cC}{ta tb:TE}{pos:Pos}
theorem d8 (z:B5 X r)(F:PE X a ta)(C:PE X b tb)(o:RZ b:=by exact λ_ _=>rfl):PE X (.Subscript a b pos) (iE r ta tb):=by
 intro k s σ H Q I h;exact Subscript_ (BX F C I h λv u g x y J G j i q=>z a b k g σ J x y v u Q G j i q (o _ _))
inductive pL (K)(x y:V)(H)(Q:VK):Prop|mk (p) (xs) (i) (v):x= .ref p->y= .int i->ax K H p xs->oh xs i=some v->Q v H->pL K x y H Q
theorem dS:B5 X (pL X.K):=by
 intro value slice o s σ H x y v u Q I M L h C;obtain⟨p,W,i,z,rfl,rfl,T,U,q⟩:=h;cases M;obtain⟨t,rfl⟩:=L;obtain⟨P,r,g,Y⟩:=I.list T;obtain⟨j,h1,h2,h3,h4,h5⟩:=RY U;obtain⟨w,G,O⟩:=r.get h2;have hl:=r.length;have hn:=ID;have fin:EP X o σ Q w s:=⟨z,H,I,O,q⟩;by_cases F:0<=i
 ·have k:i.toNat=j:=by
   rw[seqIndex_of F h5]at h1;simp_all
  exact item_listR g.isList F (by lia) (by rw[k];simpa using G) fin C
 ·have k:(i+(P.toArray.size:Int)).toNat=j:=by
   rw[seqIndex_neg (by lia) h4]at h1;simp_all
  exact subscriptTail_builtinR (x:=w) g.isList.typeIs Yi.lookup
   (wpAny_getItem_list_neg (Q:=λr J=>r=w/\EP X o σ Q r J) g.isList (by lia) (by rw[iL]<;>lia) (by lia) (by rw[k];simpa using G) ⟨rfl,fin⟩) C
theorem R0 (lo hi)(n):(tE lo hi none n).1=((HT.gT n 0 lo:Nat):Int)/\(tE lo hi none n).2.1=((HT.gT n n hi:Nat):Int)/\(tE lo hi none n).2.2=1:=by
 refine⟨?_,?_,rfl⟩
 ·cases lo with
  |none=>simp[tE,HT.gT]
  |some i=>
   simp only[tE,HT.gT,Yj,show(1:Int)>0 by decide,if_true];by_cases h:i<0
   ·simp only[h,if_true]<;>lia
   ·simp only[h,if_false]<;>lia
 ·cases hi with
  |none=>simp[tE,HT.gT]
  |some i=>
   simp only[tE,HT.gT,Yj,show(1:Int)>0 by decide,if_true];by_cases h:i<0
   ·simp only[h,if_true]<;>lia
   ·simp only[h,if_false]<;>lia
theorem R1 (g:List ao)(lo hi):slicePick g.toArray lo hi none=((g.drop (HT.gT g.length 0 lo)).take (HT.gT g.length g.length hi-HT.gT g.length 0 lo)).toArray:=by
 obtain⟨h1,h2,h3⟩:=R0 lo hi g.toArray.size;unfold slicePick;rw[h1,h2,h3];simp only[sliceRange_one,pick_run,iL]<;>rfl
inductive B6 (K)(x:V)(lo hi)(H)(Q:VK):Prop|mk (a:ai) (xs):x= .ref a->ax K H a xs->(∀p,H p=none->Q (.ref p) (upd H p (.lst (kS xs lo hi))))->B6 K x lo hi H Q
theorem lH:B4 X (B6 X.K):=by
 intro M s σ H x v vl J lo i L Q I k F y u h;obtain⟨a,g,rfl,C,q⟩:=h;cases k;obtain⟨P,r,j,z⟩:=I.list C;have G:=r.length;refine⟨"list",_,Yi.lookup,j.isList.typeIs,?_⟩;refine wpAny_getItem_list_slice j.isList F y u .none (by simp) ?_ (by rw[iL]<;>lia);rw[R1,<-G];refine⟨.ref s.heap.objs.size,_,I.laid (t':=s.toks) (o:= .lst (kS g lo i)) (λb O q=>jR _ q) (bA _) ?_,rfl,q _ (I.az.fresh (bA _))⟩;exact⟨eA (RW g lo i) z,_,0,(r.drop (HT.gT g.length 0 lo)).take (HT.gT g.length g.length i-HT.gT g.length 0 lo),nM _ rfl⟩
def oj:V->Bool
 | .aB=>true
 | .bl _=>true
 | .int _=>true
 | .str _=>true
 |_=>false
def kT:V->V->Bool
 | .aB,.aB=>true
 | .bl a,.bl b=>a==b
 | .bl a,.int b=>(if a then 1 else 0)==b
 | .int a,.bl b=>a==(if b then 1 else 0)
 | .int a,.int b=>a==b
 | .str a,.str b=>a==b
 |_,_=>false
theorem R3 (i:RelV y u)(g:RelV x v)(k:oj y=true)(j:oj x=true):EG A s u v (kT y x):=by
 cases y with
 |aB=>
  cases i;cases x with
  |aB=>cases g;exact Yk _
  |bl b=>cases g;exact SeqAt.EqAt.none_bool b
  |int b=>obtain⟨t,rfl⟩:=g;exact SeqAt.EqAt.none_int b t
  |str b=>obtain⟨t,rfl⟩:=g;exact SeqAt.EqAt.none_str b t
  |_=>exact absurd (show false=true from j) dX
 |bl a=>
  cases i;cases x with
  |aB=>cases g;exact SeqAt.EqAt.bool_none a
  |bl b=>cases g;exact SeqAt.EqAt.bool_bool a b
  |int b=>obtain⟨t,rfl⟩:=g;exact SeqAt.EqAt.bool_int a b t
  |str b=>obtain⟨t,rfl⟩:=g;exact SeqAt.EqAt.bool_str a b t
  |_=>exact absurd (show false=true from j) dX
 |int a=>
  obtain⟨h,rfl⟩:=i;cases x with
  |aB=>cases g;exact SeqAt.EqAt.int_none a h
  |bl b=>cases g;exact SeqAt.EqAt.int_bool a h b
  |int b=>obtain⟨t,rfl⟩:=g;exact Yh a h b t
  |str b=>obtain⟨t,rfl⟩:=g;exact SeqAt.EqAt.int_str a h b t
  |_=>exact absurd (show false=true from j) dX
 |str a=>
  obtain⟨h,rfl⟩:=i;cases x with
  |aB=>cases g;exact SeqAt.EqAt.str_none a h
  |bl b=>cases g;exact SeqAt.EqAt.str_bool a h b
  |int b=>obtain⟨t,rfl⟩:=g;exact SeqAt.EqAt.str_int a h b t
  |str b=>obtain⟨t,rfl⟩:=g;exact SeqAt.EqAt.str_str a h b t
  |_=>exact absurd (show false=true from j) dX
 |_=>exact absurd (show false=true from k) dX
def m_ (x:V)(u:ao):Bool:=match u with
 | .none=>kT .aB x
 | .bool b=>kT (.bl b) x
 | .int i _=>kT (.int i) x
 | .str z _=>kT (.str z) x
 |_=>false
theorem IW (r:RelV y u)(f:oj y=true):m_ x u=kT y x:=by
 cases y with
 |aB=>cases r;rfl
 |bl b=>cases r;rfl
 |int i=>obtain⟨t,rfl⟩:=r;rfl
 |str z=>obtain⟨t,rfl⟩:=r;rfl
 |_=>exact absurd (show false=true from f) dX
theorem B7:∀{g} {h},bp g h->g.all oj=true->h.any (m_ x)=g.any λy=>kT y x
 |_,_,.nil,_=>rfl
 |y::g,u::h,.cons r t,f=>by
  rw[Yl,dZ]at f;rw[zS,zS,IW r f.1,B7 t f.2]
theorem B8 (j:RelV x v)(k:oj x=true):∀{h} {i},bp h i->h.all oj=true->∀u∈i,EG A s u v (m_ x u)
 |_,_,.nil,_=>λu g=>by cases g
 |y::h,u::i,.cons r t,f=>λo g=>by
  rw[Yl,dZ]at f;rcases cj.mp g with rfl|g
  ·rw[IW r f.1];exact R3 r j f.1 k
  ·exact B8 j k t f.2 o g
def x8 (x:V)(g:List V):Bool:=g.any λy=>kT y x
def IX (K:aW)(neg:Bool):R2:=λx y H Q=>∃p g,y= .ref p/\(ax K H p g\/ke K H p g)/\oj x=true/\g.all oj=true/\Q (.bl (if neg then !x8 x g else x8 x g)) H
theorem B9:dR X (gJ .NotIn) (IX X.K true):=by
 intro J s σ H x y v u Q I o C h;obtain⟨p,G,rfl,i,z,fs,q⟩:=h;cases C;rcases i with i|i
 ·obtain⟨g,r,j,F⟩:=I.list i;refine SeqAt.notIn_listAt (m_ x) j.isList (λw k=>B8 o z r fs w (by simpa using k)) ⟨.bl _,H,I,rfl,?_⟩;rw[show g.toArray.any (m_ x)=g.any (m_ x) by simp,B7 r fs];exact q
 ·obtain⟨g,r,j,F⟩:=I.tuple i;refine SeqAt.notIn_tupleAt (m_ x) j (λw k=>B8 o z r fs w (by simpa using k)) ⟨.bl _,H,I,rfl,?_⟩;rw[show g.toArray.any (m_ x)=g.any (m_ x) by simp,B7 r fs];exact q
inductive uK (K)(xs:List V)(H)(Q:VK):Prop|mk (p) (ys):xs=[.ref p]->(ax K H p ys\/ke K H p ys)->Q (.int ys.length) H->uK K xs H Q
theorem cE:xU X (.builtin "len") (uK X.K):=by
 intro G s σ H xs F Q I r h;obtain⟨p,o,rfl,g,q⟩:=h;obtain⟨u,rfl,y⟩:=vals1 r;cases y;have J:=ID;rcases g with g|g
 ·obtain⟨z,i,j,C⟩:=I.list g;have k:=i.length;exact Calls.call_len_list j.isList (by simp only[iL]<;>lia) ⟨.int o.length,H,I.tok _,⟨s.toks+1,by rw[iL,k]⟩,q⟩
 ·obtain⟨z,i,j,C⟩:=I.tuple g;have k:=i.length;exact len_tuple j (by simp only[iL]<;>lia) ⟨.int o.length,H,I.tok _,⟨s.toks+1,by rw[iL,k]⟩,q⟩
def IY (K:aW)(T:String)(x:V)(H:Hp):Prop:=match x with
 | .ref p=>T="list"/\∃g,ax K H p g
 |_=>False
theorem R4 {σ:St}(I:Inv X pins σ H s)(r:RelV x v)(ty:IY X.K T x H):
 s.TypeIs v T/\∀a,v= .ref a->∃h,s.heap.get? a=some h/\h.dict=none:=by
 cases x with
 |ref p=>
  cases r;obtain⟨rfl,j,i⟩:=ty;obtain⟨k,_,g,_⟩:=I.list i;refine⟨g.isList.typeIs,λa e=>?_⟩;cases e;obtain⟨o,n,e,c,hd,_⟩:=g;exact⟨o,e,hd⟩
 |_=>cases ty
def pM (K:aW)(T:String)(r:V->List V->Hp->VK->Prop)(to:TE)(t:TA):TE:=λσ H Q=>to σ H λx H1=>IY K T x H1/\t σ H1 λg h=>r x g h Q
variable {o e:cC}{es:List cC}{to:TE}{t:TA}{name:Str}{apos gU:Pos}{T id:String}{r:V->List V->Hp->VK->Prop}
theorem d9 (J:PlainAttrs T)(slot:Slot T name id)(L:typeOf (.builtin id)=pure (.type "method_descriptor"))(U:IV X id r)(P:PE X o to)(ha:PA X (e::es) t)
 (hbase:wb o name X.env (cb o X.env)=cb o X.env:=by rfl)
 (Y:((iw gU (cD (e::es) X.env)).all (λx=> !x.1)&&(wd gU (we [] X.env)).all (λx=>x.1.isSome)
   &&decide ((e::es).length+([]:List zQ).length+(if([]:List zQ).isEmpty then 0 else 1)<30))=true:=by rfl)
 (W:(apos.endLine==gU.line)=true:=by rfl) (M:cD (e::es) X.env=(false,cb e X.env)::cD es X.env:=by rfl) (O:(iw gU (cD es X.env)).any (·.1)=false:=by rfl):
 PE X (.Call (.Attribute o name apos) (e::es) [] gU) (pM X.K T r to t):=by
 intro g s σ H Q I h;refine wpAny_Call_method_late hbase Y W rfl (bc (P g s σ H _ I h) λv C k=>?_);obtain⟨x,H1,j,r1,ty,G⟩:=k;obtain⟨h1,h2⟩:=R4 j r1 ty;refine⟨T,id,J,slot,L,h1,h2,?_⟩;have i:=ha gU g C σ H1 _ j G;rw[M]at i⊢;refine Calls.callWith_builtin (by show(false||(iw gU (cD es X.env)).any (·.1))=false;rw[O]<;>rfl) (Calls.evalArgs_plain ?_);exact bc i λy z ⟨u,H2,I2,r2,F⟩=>U g z σ H2 x u v y Q I2 r1 r2 F
end
def B_ (X:Cx)(id:String)(r:V->List V->Hp->VK->Prop):Prop:=
 ∀(h:List (ai×Obj)) (s:aF) (σ:St) (H:Hp) (x:V) (b:List V) (v:ao) (g:List ao) (Q:VK),Inv X h σ H s->RelV x v->bp b g->r x b H Q->
  aZ (aT X.prog X.w) X.A (call (.builtin id) (v::g)) (EP X h σ Q) X.xe s
theorem bp.one:∀{x} {b},bp [x] b->∃u,b=[u]/\RelV x u
 |_,_,.cons r .nil=>⟨_,rfl,r⟩
theorem bp.eraseIdx:∀{b} {g} (i),bp b g->bp (b.eraseIdx i) (g.eraseIdx i)
 |_,_,_,.nil=> .nil
 |_,_,0,.cons _ t=>t
 |_,_,i+1,.cons r t=> .cons r (bp.eraseIdx i t)
theorem IZ:∀(l:List α) (i),(l.eraseIdx i).length<=l.length
 |[],_=>bA _
 |_::_,0=>Ye _
 |_::r,i+1=>Nat.succ_le_succ (IZ r i)
section
variable {X:Cx}{pins:List (ai×Obj)}{σ:St}{H:Hp}{s:aF}{l b:ai}{xs ys zs:List V}
theorem Inv.Ca {g its':List ao}(I:Inv X pins σ H s)(y:H l=some (.lst xs))
 (e:s.heap.get? l=some {cls:= .type "list",data:= .seq g.toArray n}) (k:f g.toArray=its'.toArray) (i:bp ys its') (h:ys.length<=bH):
 Inv X pins σ (upd H l (.lst ys)) {s with heap:=s.heap.update l (Obj.mapSeq f),toks:=t'}:=by
 have q:=PySem.IsL.update e f;rw[k]at q;refine I.write (x:=l) (e:=l) (by rw[y];exact trivial) (.inl rfl) (λz u o j=>(Oa s.heap (Obj.mapSeq f) (mT o)).trans j) ⟨_,q⟩ ?_;exact⟨h,its',_,i,q⟩
theorem Inv.R5 (I:Inv X pins σ H s)(h:bp ys aE)(g:ys.length<=bH):
 Inv X pins σ (upd H s.heap.objs.size (.lst ys)) {s with heap:=s.heap.push {cls:= .type "list",data:= .seq aE.toArray},toks:=t'}:=
 I.laid (λ_ _ q=>jR _ q) (bA _) ⟨g,aE,0,h,nM _ rfl⟩
theorem Inv.fresh (I:Inv X pins σ H s):H s.heap.objs.size=none:=I.az.fresh (bA _)
theorem Inv.om (I:Inv X pins σ H s)(h:H l=some (.lst xs)):xs.length<=bH/\∃(g:List ao) (n:Nat),bp xs g/\xs.length=g.length/\s.heap.get? l=some {cls:= .type "list",data:= .seq g.toArray n}:=by
 obtain⟨z,g,n,r,e⟩:=I.az l _ h;exact⟨z,g,n,r,r.length,e⟩
theorem R6 (h:n<=bH):Ob n=false:=by
 unfold Ob;simp_all
end
section
variable {X:Cx}
inductive mC (x:V)(vs)(H)(Q:VK):Prop|mk (l) (xs) (y):x= .ref l->vs=[y]->H l=some (.lst xs)->xs.length<bH->Q .aB (upd H l (.lst (xs++[y])))->mC x vs H Q
theorem f6:B_ X "list.append" mC:=by
 intro J s σ H x C v G Q I i j h;obtain⟨l,o,y,rfl,rfl,g,L,q⟩:=h;cases i;obtain⟨u,rfl,k⟩:=j.one;obtain⟨z,b,n,r,M,e⟩:=I.om g;refine Oc F.slot_list_append ⟨_,e,rfl⟩ F.entry_list_append (F.args_list_append_2 _ _) (PySem.list_append l b.toArray n u (by rw[iL];lia)) ⟨e,?_⟩;refine⟨.aB,_,I.Ca (its':=b++[u]) g e (by simp) (r.append (.cons k .nil)) ?_,rfl,q⟩;rw[aQ,fE]
 lia
inductive oo (x:V)(vs:List V)(H)(Q:VK):Prop|mk (l b) (xs zs):x= .ref l->vs=[.ref b]->H l=some (.lst xs)->H b=some (.lst zs)->xs.length+zs.length<=bH->Q .aB (upd H l (.lst (xs++zs)))->oo x vs H Q
theorem rK:B_ X "list.extend" oo:=by
 intro Y s σ H x U v W Q I k o h;obtain⟨l,b,T,O,rfl,rfl,j,L,hz,q⟩:=h;cases k;obtain⟨u,rfl,y⟩:=o.one;cases y;obtain⟨z,g,n,r,hl,e⟩:=I.om j;obtain⟨P,i,C,r2,hl2,M⟩:=I.om L;have G:g.toArray.size+i.toArray.size<=bH:=by rw[iL,iL];lia
 have J:¬(!g.toArray.isEmpty&&Ob (g.toArray.size+i.toArray.size))=true:=by
  rw[R6 G,Ym];simp_all
 refine Oc F.slot_list_extend ⟨_,e,rfl⟩ F.entry_list_extend (F.args_list_extend_2 _ _)
  (AutoSeq1.list_extend_list_list_0 l g.toArray n b i.toArray C J (by rw[iL];lia) (by lia)) ⟨e,M,?_⟩
 refine⟨.aB,_,I.Ca (its':=g++i) j e (by simp) (r.append r2) ?_,rfl,q⟩;simp_all
inductive I0 (x:V)(vs:List V)(H)(Q:VK):Prop|mk (l) (xs) (i) (k) (y):x= .ref l->vs=[.int i]->H l=some (.lst xs)-> -(2^63)<=i->i<2^63->N_ i xs.length=some k->xs[k]? =some y->Q y (upd H l (.lst (xs.eraseIdx k)))->I0 x vs H Q
theorem R7:B_ X "list.pop" I0:=by
 intro W s σ H x T v U Q I o G h;obtain⟨l,j,i,k,y,rfl,rfl,g,h1,h2,P,L,q⟩:=h;cases o;obtain⟨u,rfl,J⟩:=G.one;obtain⟨t,rfl⟩:=J;obtain⟨z,b,n,r,O,e⟩:=I.om g;obtain⟨w,M,C⟩:=r.get L
 refine Oc F.slot_list_pop ⟨_,e,rfl⟩ F.entry_list_pop (F.args_list_pop_2 _ _)
  (MeetsSeq.list_pop_at l b.toArray n i t k w (fitsIndex_both h1 h2) (by rw[iL,<-O];exact P) (by rw[<-Array.getElem?_toList];exact M) (by rw[iL];lia)) ⟨e,?_⟩
 refine⟨y,_,I.Ca (its':=b.eraseIdx k) g e ?_ (r.eraseIdx k) ?_,C,q⟩
 ·show b.toArray.eraseIdxIfInBounds k=(b.eraseIdx k).toArray;simp_all
 ·have:=IZ j k
  lia
inductive rL (x y:V)(H)(Q:VK):Prop|mk (l b) (xs zs):x= .ref l->y= .ref b->H l=some (.lst xs)->H b=some (.lst zs)->xs.length+zs.length<=bH->(∀p,H p=none->Q (.ref p) (upd H p (.lst (xs++zs))))->rL x y H Q
theorem lI:dR X (zN .Add) rL:=by
 intro O s σ H x y v u Q I k j h;obtain⟨l,b,M,J,rfl,rfl,o,C,T,q⟩:=h;cases k;cases j;obtain⟨z,i,n,r,W,e⟩:=I.om o;obtain⟨L,g,P,r2,U,G⟩:=I.om C;refine PySem.P.add_list e G ?_ (by rw[iL,iL];omega);have F:i.toArray++g.toArray=(i++g).toArray:=by simp
 rw[F];exact⟨.ref _,_,I.R5 (t':=s.toks) (r.append r2) (by rw[aQ];omega),rfl,q _ I.fresh⟩
end
section
variable {prog:bL}{w:bw}{A:fm}{E:ao->aF->Prop}{s:aF}
end
section
variable {X:Cx}
end
section
variable {prog:bL}{w:bw}{A:fm}{E:ao->aF->Prop}{s:aF}{l:ai}{aE:List ao}{ns:List Int}{Q:ao->aF->Prop}
end
section
variable {X:Cx}
end
mutual
inductive Dp (K:aW)(H:Hp):V->pd->Prop
 |aB:Dp K H .aB .none
 |bl (b:Bool):Dp K H (.bl b) (.bool b)
 |int (i:Int):Dp K H (.int i) (.int i)
 |str (x:Str):Dp K H (.str x) (.str x)
 |lst {a:ai} {xs:List V} {ds:List pd}:ax K H a xs->pN K H xs ds->Dp K H (.ref a) (.list ds)
 |tup {a:ai} {xs:List V} {ds:List pd}:ke K H a xs->pN K H xs ds->Dp K H (.ref a) (.tuple ds)
inductive pN (K:aW)(H:Hp):List V->List pd->Prop
 |nil:pN K H [] []
 |cons {v:V} {vs:List V} {d:pd} {ds:List pd}:Dp K H v d->pN K H vs ds->pN K H (v::vs) (d::ds)
end
section
variable {X:Cx}{pins:List (ai×Obj)}{σ:St}{H:Hp}{s:aF}
mutual
theorem Dp.reads (I:Inv X pins σ H s):∀(d:pd) (v:V) (u:ao),Dp X.K H v d->RelV v u->∃as,Reads s.heap u d as
 | .none=>λ_ _ h r=>by
  cases h;cases r;exact⟨_,Reads.none⟩
 | .bool b=>λ_ _ h r=>by
  cases h;cases r;exact⟨_,Reads.bool b⟩
 | .int i=>λ_ _ h r=>by
  cases h;obtain⟨t,rfl⟩:=r;exact⟨_,Reads.int i t⟩
 | .str x=>λ_ _ h r=>by
  cases h;obtain⟨t,rfl⟩:=r;exact⟨_,Reads.str x t⟩
 | .list G=>λ_ _ h r=>by
  cases h with
  |lst k F=>
   cases r;obtain⟨j,g,⟨o,n,z,C,_,hd⟩,_⟩:=I.list k;obtain⟨as,y⟩:=Dp.readsAll I G _ j F g;exact⟨_,Reads.list z C hd y⟩
 | .tuple G=>λ_ _ h r=>by
  cases h with
  |tup k F=>
   cases r;obtain⟨j,g,⟨o,z,C,n,hd⟩,_⟩:=I.tuple k;obtain⟨as,y⟩:=Dp.readsAll I G _ j F g;exact⟨_,Reads.tuple z C hd y⟩
 | .dict _=>λ_ _ h _=>by cases h
theorem Dp.readsAll (I:Inv X pins σ H s):∀(b:List pd) (g:List V) (i:List ao),pN X.K H g b->bp g i->∃as,ReadsAll s.heap i b as
 |[]=>λ_ _ h r=>by
  cases h;cases r;exact⟨_,ReadsAll.nil⟩
 |d::b=>λ_ _ h r=>by
  cases h with
  |cons h1 h2=>
   cases r with
   |cons r1 r2=>
    obtain⟨as,k⟩:=Dp.reads I d _ _ h1 r1;obtain⟨bs,j⟩:=Dp.readsAll I b _ _ h2 r2;exact⟨_,ReadsAll.cons k j⟩
end
end
section
variable {X:Cx}
def I_ (K:aW):R2:=λx y H Q=>∃d e,Dp K H x d/\Dp K H y e/\wg d=true/\wg e=true/\Q (.bl (EH d e)) H
def R8 (K:aW):R2:=λx y H Q=>∃d e,Dp K H x d/\Dp K H y e/\wg d=true/\wg e=true/\Q (.bl (!EH d e)) H
theorem Cb (k:X.A.units+64<qH):dR X (gJ .Eq) (I_ X.K):=by
 intro z s σ H x y v u Q I j i h;obtain⟨d,e,hd,o,g,b,q⟩:=h;obtain⟨as,r1⟩:=Dp.reads I d x v hd j;obtain⟨bs,r2⟩:=Dp.reads I e y u o i;exact SeqAt.compareEq_shaped r1 r2 g b k ⟨.bl _,H,I,rfl,q⟩
theorem R9 (k:X.A.units+64<qH):dR X (gJ .NotEq) (R8 X.K):=by
 intro z s σ H x y v u Q I j i h;obtain⟨d,e,hd,o,g,b,q⟩:=h;obtain⟨as,r1⟩:=Dp.reads I d x v hd j;obtain⟨bs,r2⟩:=Dp.reads I e y u o i;exact SeqAt.compareNe_shaped r1 r2 g b k ⟨.bl _,H,I,rfl,q⟩
end
abbrev Ja (h:bz)(c:ai)(v:Option ao):Prop:=h.IsCell c v
def R_ (scope sc:fD):fD:=
 {scope with names:=scope.names.map λ(n,k)=>if(k== .free&&sc.kind== .function&&sc.names.lookup n==some .cell)then(n,.cell)else(n,k)}
def f7 (cells:List (Str×ai)):List (Str×NameKind)->List (Str×ai)->List (Str×ai)
 |[],b=>b
 |(n,k)::r,b=>if k== .free then f7 cells r ((n,(cells.lookup n).getD 0)::b)else f7 cells r b
theorem Jb (env)(f)
 (i:∀n k c,f (n,k) c=if k== .free then(do let a<-cellOf env n;pure (.yield ((n,a)::c)))else pure (.yield c)):
 ∀(names) (b),(∀y∈names,y.2= .free->∃c,env.cells.lookup y.1=some c)->forIn names b f=pure (f7 env.cells names b)
 |[]=>λb _=>by rw[List.forIn_nil];rfl
 |(n,k)::r=>λb h=>by
  rw[List.forIn_cons,i];have u:=λb=>Jb env f i r b λy j=>h y (aR _ j);unfold f7;by_cases g:(k==NameKind.free)=true
  ·rw[if_pos g,if_pos g];obtain⟨c,o⟩:=h (n,k) aH (by simpa using g);have e:cellOf env n=pure c:=by unfold cellOf;rw[o]
   simp_all
  simp_all
theorem R' (h:∀y∈scope.names,y.2= .free->∃c,env.cells.lookup y.1=some c):closureFor scope env=pure (f7 env.cells scope.names []):=by
 simp only[closureFor];rw[Jb env _ (λn k c=>rfl) scope.names [] h];rfl
theorem mem_lookup:∀{l:List (Str×α)} {n} {c},(n,c)∈l->∃g,l.lookup n=some g
 |(k,v)::r,n,c,h=>by
  rw[nF];cases b:n==k with
  |true=>exact⟨_,rfl⟩
  |false=>
   rcases cj.mp h with e|h
   ·cases e;simp at b
   ·exact mem_lookup h
set_option tactic.hygienic true in
theorem x9:∀{names} {g} {n} {c},(n,c)∈f7 cells names g->(n,c)∈g\/((n,.free)∈names/\c=(cells.lookup n).getD 0)
 |[],_,_,_,h=> .inl h
 |(m,k)::r,g,n,c,h=>by
  unfold f7 at h;split at h
  ·rename_i b;have b:k= .free:=by simpa using b
   rcases x9 h with h|⟨h1,h2⟩
   ·rcases cj.mp h with e|h
    ·cases e;exact .inr ⟨b▸aH,rfl⟩
    ·exact .inl h
   ·exact .inr ⟨aR _ h1,h2⟩
  ·rcases x9 h with h|⟨h1,h2⟩
   ·exact .inl h
   simp_all
theorem Cc:∀{names} {b} {p},p∈b->p∈f7 cells names b
 |[],_,_,h=>h
 |(m,k)::r,b,p,h=>by
  unfold f7;split
  ·exact Cc (aR _ h)
  ·exact Cc h
theorem Cd:∀{names} {acc} {n},(n,.free)∈names->(n,(cells.lookup n).getD 0)∈f7 cells names acc
 |(m,k)::r,acc,n,h=>by
  unfold f7;rcases cj.mp h with e|h
  ·cases e;exact Cc aH
  ·split
   ·exact Cd h
   ·exact Cd h
set_option tactic.hygienic true in
theorem uL:∀{names} {h:bz} {i} {x} {c},(x,c)∈gu h.objs.size names i->
 (x,c)∈i\/((x,.cell)∈names/\h.objs.size<=c/\Ja (qI h names) c none)
 |[],_,_,_,_,h=> .inl h
 |(n,k)::r,h,i,x,c,b=>by
  unfold gu at b;unfold qI;split at b
  ·rename_i g;rw[if_pos g];have g:k= .cell:=by simpa using g
   rw[<-nO h {cls:= .type "cell",data:= .cell none}]at b;rcases uL b with b|⟨h1,h2,h3⟩
   ·rcases cj.mp b with e|b
    ·cases e;exact .inr ⟨g▸aH,bA _,_,EI r _ _ _ (nM _ rfl),rfl⟩
    ·exact .inl b
   ·rw[nO]at h2;exact .inr ⟨aR _ h1,EJ h2,h3⟩
  ·rename_i g;rcases uL b with b|⟨h1,h2,h3⟩
   ·exact .inl b
   simp_all
theorem x_:∀{names} {n} {acc} {p},p∈acc->p∈gu n names acc
 |[],_,_,_,h=>h
 |(m,k)::r,n,acc,p,h=>by
  unfold gu;split
  ·exact x_ (aR _ h)
  ·exact x_ h
theorem Ce:∀{names} {n} {acc} {x},(x,.cell)∈names->∃c,(x,c)∈gu n names acc
 |(m,k)::r,n,acc,x,h=>by
  unfold gu;rcases cj.mp h with e|h
  ·cases e;exact⟨n,x_ aH⟩
  ·split
   ·exact Ce h
   ·exact Ce h
set_option tactic.hygienic true in
theorem Cf:∀{names} {h:bz} {g:List (Str×ai)} {x y} {c},(∀p∈g,p.2<h.objs.size)->(∀x y c,(x,c)∈g->(y,c)∈g->x=y)->
 (x,c)∈gu h.objs.size names g->(y,c)∈gu h.objs.size names g->x=y
 |[],_,_,_,_,_,_,j,h1,h2=>j _ _ _ h1 h2
 |(n,k)::r,h,g,x,y,c,o,j,h1,h2=>by
  unfold gu at h1 h2;split at h1
  ·rename_i i;rw[if_pos i]at h2;rw[<-nO h {cls:= .type "cell",data:= .cell none}]at h1 h2;refine Cf (h:=h.push _) (λp hp=>?_) (λx y c a b=>?_) h1 h2
   ·rw[nO];rcases cj.mp hp with rfl|hp
    ·exact oV _
    ·exact Ef (o p hp)
   grind
  ·rename_i i;rw[if_neg i]at h2;exact Cf o j h1 h2
theorem Sa {code}
 (h:Q (newEnv scope s.heap.objs.size globals (gu (s.heap.objs.size+1) scope.names closure) qual func code (some around) builtins)
   {s with heap:=qI (s.heap.push {cls:= .type "dict",data:= .dict #[]}) scope.names}):
 aZ M A (newFunctionEnv scope globals closure [] qual func code (some around) builtins) Q E s:=by
 simp only[newFunctionEnv,Option.isSome_some,if_true];refine cH (wpAny_alloc ?_);refine cH (wpAny_layCells _ (λn k c=>rfl) scope.names closure _ _ ?_);rw[show({s with heap:=s.heap.push {cls:= .type "dict",data:= .dict #[]}}:aF).heap.objs.size=s.heap.objs.size+1 from nO ..];exact cH (fG (fG h))
theorem Cg {sc:fD}:∀{names:List (Str×NameKind)} {x} {k},
 (names.map λ(n,k)=>if(k==NameKind.free&&sc.kind== .function&&sc.names.lookup n==some .cell)then(n,NameKind.cell)else(n,k)).lookup x=some k->
 ∃i,names.lookup x=some i/\(k=i\/(i= .free/\k= .cell))
 |[],_,_,h=>by simp at h
 |(n,g)::r,x,k,h=>by
  have o:= @Cg sc r x k;have b:Yc x ((if(g==NameKind.free&&sc.kind== .function&&sc.names.lookup n==some .cell)=true then(n,NameKind.cell)else(n,g))::(r.map _))=some k:=h;cases j:x==n with
  |true=>
   grind
  |false=>
   simp only[nF,j];by_cases u:(g==NameKind.free&&sc.kind== .function&&sc.names.lookup n==some .cell)=true
   ·rw[if_pos u]at b;simp only[nF,j]at b;exact o b
   ·rw[if_neg u]at b;simp only[nF,j]at b;exact o b
structure uM (N:List Str)(sc scope:fD)(own:List (Str×Nat)):Prop where
 kind:scope.kind= .function
 uniq:∀y∈scope.names,scope.names.lookup y.1=some y.2
 ix:∀p∈own,N[p.2]? =some p.1
 free:∀y∈scope.names,y.2= .free->sc.names.lookup y.1=some .cell\/sc.names.lookup y.1=some .free
 own:∀y∈scope.names,y.2= .local\/y.2= .cell->y.1∈own.map (·.1)\/y.1∉N
def wipe (σ:St):List Nat->St
 |[]=>σ
 |v::b=>(wipe σ b).set v none
theorem Ci (σ):∀b:List Nat,(wipe σ b).length=σ.length
 |[]=>rfl
 |v::b=>by unfold wipe;rw[List.length_set,Ci σ b]
theorem Cj:∀{b},(wipe σ b)[i]? =some (some x)->σ[i]? =some (some x)/\i∉b
 |[],h=>⟨h,by simp⟩
 |v::b,h=>by
  unfold wipe at h;by_cases g:v=i
  ·subst g
   grind
  ·rw[NV g]at h;obtain⟨h1,h2⟩:=Cj h
   grind
abbrev Cx.gf (X:Cx)(s:aF)(H:Hp)(scope:fD)(g:Env)(b:List ai):Cx:={X with s_0:=s,H_0:=H,env:=g,outer:=X.stack,ex:=b,fn:=λx=>scope.names.lookup x==some .cell,pn:=[],xe:=λ_ _=>False}
section
variable {X:Cx}{pins:List (ai×Obj)}{σ:St}{H:Hp}{s:aF}
theorem Sb (I:Inv X pins σ H s)(ok:uM X.N X.env.scope scope own)(hN:X.N.Nodup)(P:∀b∈fp,kf X pins H b/\b<s.heap.objs.size):
 Inv (X.gf s H scope (i7 scope (gu (s.heap.objs.size+1) scope.names (f7 X.env.cells scope.names [])) s.heap.objs.size X.env) fp) [] (wipe σ (own.map (·.2))) H {s with heap:=qI (s.heap.push {cls:= .type "dict",data:= .dict #[]}) scope.names}:=by
 have hfree:∀y∈scope.names,y.2= .free->∃c,X.env.cells.lookup y.1=some c:=λy C e=>by
  rcases ok.free y C e with k|k
  ·exact I.ok.has _ (.inl k)
  ·exact I.ok.has _ (.inr k)
 generalize T:i7 scope (gu (s.heap.objs.size+1) scope.names (f7 X.env.cells scope.names [])) s.heap.objs.size X.env=g;have kp:∀b o,s.heap.get? b=some o->(qI (s.heap.push {cls:= .type "dict",data:= .dict #[]}) scope.names).get? b=some o:=λb o e=>EI _ _ _ _ (jR _ e);have Y:g.locals=s.heap.objs.size:=by rw[<-T];rfl
 have O:g.cells=gu (s.heap.objs.size+1) scope.names (f7 X.env.cells scope.names []):=by rw[<-T];rfl
 have hsc:g.scope=R_ scope X.env.scope:=by rw[<-T];rfl
 rw[<-nO s.heap {cls:= .type "dict",data:= .dict #[]}]at O
 have cm:∀{y c},(y,c)∈f7 X.env.cells scope.names []->X.env.cells.lookup y=some c/\c<s.heap.objs.size:=λ{y c} h=>by
  rcases x9 h with h|⟨h1,rfl⟩
  ·cases h
  ·obtain⟨c,hc⟩:=hfree _ h1 rfl;rw[hc];obtain⟨w,z⟩:=I.cell _ _ hc;exact⟨rfl,z.lt⟩
 have mem:∀{y c},g.cells.lookup y=some c->(X.env.cells.lookup y=some c/\c<s.heap.objs.size)\/(s.heap.objs.size+1<=c/\Ja (qI (s.heap.push {cls:= .type "dict",data:= .dict #[]}) scope.names) c none):=λ{y c} e=>by
  rw[O]at e;rcases uL (jS e)with h|⟨_,h2,h3⟩
  ·exact .inl (cm h)
  simp_all
 have look:∀{y},scope.names.lookup y=some .free->∃c,g.cells.lookup y=some c/\X.env.cells.lookup y=some c:=λ{y} U=>by
  have C:(y,NameKind.free)∈scope.names:=jS U;obtain⟨c',j⟩:=mem_lookup (x_ (names:=scope.names) (n:=(s.heap.push {cls:= .type "dict",data:= .dict #[]}).objs.size) (Cd (cells:=X.env.cells) (acc:=[]) C));rw[<-O]at j;refine⟨c',j,?_⟩;rw[O]at j;rcases uL (jS j)with h|⟨h1,_,_⟩
  ·exact(cm h).1
  ·have:=ok.uniq _ h1;rw[U]at this;cases this
 have okB:(X.gf s H scope g fp).Ok:=by
  refine⟨I.ok.mod,by show g.scope.kind=_;rw[hsc];exact ok.kind,by show g.globals=_;rw[<-T];exact I.ok.glob,by show g.builtins=_;rw[<-T];exact I.ok.blt,by show s.heap.objs.size<=g.locals;rw[Y];exact bA _,
   λy z c L J=>?_,λy C=>?_,λy c z e=>?_,I.ok.hd,I.ok.frames,.inl rfl,λb G=>⟨?_,λy c e z=>?_⟩,I.bs,eA I.ok.m6 I.sz,λb o e G=>?_,λb G z=>?_,I.stack,I.xM⟩
  ·have L:g.cells.lookup y=some c:=L;have J:g.cells.lookup z=some c:=J;rw[O]at L J;refine Cf (λp hp=>?_) (λy z c a b=>I.ok.inj y z c (cm a).1 (cm b).1) (jS L) (jS J);rw[nO];exact Ef (cm (y:=p.1) (c:=p.2) hp).2
  ·show∃c,g.cells.lookup y=some c
   have key:∀k,g.kindOf y=some k->(k= .cell\/k= .free)->∃c,g.cells.lookup y=some c:=λk M hk'=>by
    unfold Env.kindOf at M;rw[hsc]at M;obtain⟨F,e,r⟩:=Cg M
    have:F= .cell\/F= .free:=by
     rcases r with rfl|⟨rfl,_⟩
     ·exact hk'
     ·exact .inr rfl
    rcases this with rfl|rfl
    ·obtain⟨c,h⟩:=Ce (n:=(s.heap.push {cls:= .type "dict",data:= .dict #[]}).objs.size) (acc:=f7 X.env.cells scope.names []) (jS e);obtain⟨c',j⟩:=mem_lookup h;exact⟨c',by rw[O];exact j⟩
    ·obtain⟨c,h1,_⟩:=look e;exact⟨c,h1⟩
   rcases C with C|C
   ·exact key _ C (.inl rfl)
   ·exact key _ C (.inr rfl)
  ·have z:(scope.names.lookup y==some NameKind.cell)=true:=z;have z:scope.names.lookup y=some .cell:=by simpa using z
   have e:g.cells.lookup y=some c:=e;rw[O]at e;rcases uL (jS e)with h|⟨_,h2,_⟩
   ·rcases x9 h with h|⟨h1,_⟩
    ·cases h
    ·have q:=ok.uniq _ h1;rw[z]at q;cases q
   ·rw[nO]at h2;exact EJ h2
  ·show b≠g.locals;rw[Y];exact i6 (P b G).2
  ·have e:g.cells.lookup y=some c:=e;rcases mem e with⟨h1,_⟩|⟨h1,_⟩
   ·exact(P b G).1.2.2.2.2.1 y c h1 z
   ·have h2:s.heap.objs.size+1<=b:=by rw[<-z];exact h1
    exact absurd (iK (P b G).2 (EJ h2)) (qE _)
  ·rcases(P b G).1.2.2.2.1 with z|z
   ·exact I.ok.uu b o e z
   ·exact absurd (iK (eJ e) (eA I.ok.m6 z)) (qE _)
  ·rcases cj.mp (I.xK b z)with z|z
   ·exact(P b G).1.2.1 z
   ·exact(P b G).1.2.2.1 z
 refine⟨okB,rfl,I.bare,Un.kept kp,⟨λ_=>none,?_,λi y av L J u=>?_⟩,λy c e=>?_,?_,λy c e=>?_,λp hp=>?_,I.az.kept kp,by rw[Ci];exact I.len⟩
 ·show Heap.Ns _ g.locals _;rw[Y];exact Heap.Ns.keeps (Heap.Ns.new ..) λb o e=>EI _ _ _ _ e
 ·obtain⟨J,hne⟩:=Cj J
  have W:scope.names.lookup y=some .free/\(g.kindOf y=some .cell\/g.kindOf y=some .free):=by
   have key:∀k,g.scope.names.lookup y=some k->k= .local\/k= .cell\/k= .free->scope.names.lookup y=some .free/\(g.kindOf y=some .cell\/g.kindOf y=some .free):=λk M hk'=>by
    have hk0:=M;rw[hsc]at M;obtain⟨F,e,r⟩:=Cg M
    have no:¬(F= .local\/F= .cell):=λhh=>by
     rcases ok.own _ (jS e) hh with j|j
     ·obtain⟨p,hp,hpy⟩:=dU.mp j;have u:=ok.ix p hp;have:p.1=y:=hpy;rw[this]at u;exact hne (dU.mpr ⟨p,hp,BL hN u L⟩)
     ·exact j (gI L)
    rcases r with rfl|⟨rfl,rfl⟩
    ·rcases hk' with rfl|rfl|rfl
     ·exact absurd (.inl rfl) no
     ·exact absurd (.inr rfl) no
     ·exact⟨e,.inr hk0⟩
    ·exact⟨e,.inl hk0⟩
   have u:rA g.scope y:=u;rcases u with u|u|u
   ·exact key _ u (.inl rfl)
   ·exact key _ u (.inr (.inl rfl))
   ·exact key _ u (.inr (.inr rfl))
  obtain⟨m,hn,U⟩:=I.loc;have hvis:rA X.env.scope y:=(ok.free _ (jS W.1) rfl).elim (λk=> .inr (.inl k)) (λk=> .inr (.inr k));obtain⟨w,r,q⟩:=U i y av L J hvis;refine⟨w,r,.inr ⟨W.2,?_⟩⟩;obtain⟨c,h1,h2⟩:=look W.1;rcases q with⟨k,_⟩|⟨_,c',j,z⟩
  ·have k:X.env.scope.names.lookup y=some .local:=k;rcases ok.free _ (jS W.1) rfl with F|F<;>rw[show X.env.scope.names.lookup y=_ from F]at k<;>cases k
  ·rw[h2]at j;cases j;exact⟨c,h1,z.keeps kp⟩
 ·have e:g.cells.lookup y=some c:=e;rcases mem e with⟨h1,_⟩|⟨_,z⟩
  ·obtain⟨w,z⟩:=I.cell y c h1;exact⟨w,z.keeps kp⟩
  ·exact⟨_,z⟩
 ·show H g.locals=none;rw[Y];exact I.az.fresh (bA _)
 ·have e:g.cells.lookup y=some c:=e;rcases mem e with⟨h1,_⟩|⟨h1,_⟩
  ·exact I.kc y c h1
  ·exact I.az.fresh (EJ h1)
 ·exact absurd (show p∈([]:List (ai×Obj))++[]from hp) (by simp)
theorem Sd (I:Inv X pins σ H s)(j:H D=some (.lst xs))(z:xs.length<bH)(r:RelV y v)
 (h:∀g,Inv X pins σ (upd H D (.lst (xs++[y]))) g->Q .none g):aZ (aT X.prog X.w) X.A (call (.builtin "list.append") [.ref D,v]) Q E s:=by
 obtain⟨J,o,n,i,e⟩:=I.az D _ j;have L:=i.length;refine append_at (hsz:=by rw[iL];omega) e λG k C=>?_;refine h {s with heap:=G} (I.write (t':=s.toks) (by rw[j];trivial) (.inl rfl) (λb u F q=>(k.2 b F).trans q) ⟨_,C⟩ ⟨by rw[aQ];exact z,o++[v],n+1,i.append (.cons r .nil),?_⟩);simp_all
def uN (X:Cx)(b:List cC)(t:TT):Prop:=
 ∀(pins:List (ai×Obj)) (s:aF) (σ:St) (H:Hp) (Q:Bool->Hp->Prop),Inv X pins σ H s->t σ H Q->
  aZ (aT X.prog X.w) X.A (forIn b true λc r=>if r=true then do let ok<-zJ c X.env (cb c X.env);pure (ForInStep.yield ok)else pure (ForInStep.yield r)) (TP X pins σ Q) X.xe s
def Jc:TT:=λ_ H Q=>Q true H
theorem nc:uN X [] Jc:=λ_ _ _ H _ I h=>wpAny_tests_nil ⟨H,I,h⟩
theorem Ck (h:PT X c t):uN X [c] t:=λpins s σ H Q I b=>wpAny_tests_one (h pins s σ H Q I b)
end
theorem uO {t:Sem α}{Q Q'}(h:aZ M A t Q (λ_ _=>False) s)(b:∀a s,Q a s->Q' a s):aZ M A t Q' E s:=l_ h b λ_ _ z=>ma z
theorem Se (I:Nat->aF->Prop)
 (F:∀n s,I n s->aZ (aT prog w) A (pyNext it) (λr j=>match r with
   |none=>R (.ok .next) j
   |some v=>aZ (aT prog w) A (NZ target it v) (λ_ y=>aZ (aT prog w) A (assign target env v) (λ_ u=>
     aZ (aT prog w) A (forIn ifs true λc r=>if r=true then do let ok<-zJ c env (cb c env);pure (ForInStep.yield ok)else pure (ForInStep.yield r)) (λok i=>
      if ok=true then aZ (aT prog w) A (cb elt env) (λx o=>
       aZ (aT prog w) A (call (.builtin "list.append") [acc,x]) (λ_ k=>∃m,m<n/\I m k) (tF (aT prog w) A env λe b=>R (.error e) b) o) (tF (aT prog w) A env λe b=>R (.error e) b) i
      else∃m,m<n/\I m i) (tF (aT prog w) A env λe b=>R (.error e) b) u) (tF (aT prog w) A env λe b=>R (.error e) b) y) (tF (aT prog w) A env λe b=>R (.error e) b) j) (tF (aT prog w) A env λe b=>R (.error e) b) s)
 (n) (h:I n s):
 tq (aT prog w) A (.compLoop (.ListComp elt [⟨target,iter,ifs,0⟩] scope pos) 0 it acc env) R s:=by
 refine codeAny_loop rfl I (λn s M=>?_) n h;refine wpAny_noted ?_;rw[compTurn_list];refine cH (wpAny_standAt (cH (l_ (F n s M) (λr j C=>?_) λ_ _ g=>g)));cases r with
 |none=>exact fG C
 |some v=>
  refine cH (l_ C (λ_ y L=>?_) λ_ _ g=>g);refine cH (l_ L (λ_ u J=>cH (l_ J (λok i z=>?_) λ_ _ g=>g)) λ_ _ g=>g);cases ok with
  |false=>exact fG ⟨rfl,z⟩
  |true=>
   exact cH (cH (l_ z (λx o H=>cH (l_ H (λ_ k G=>fG (fG ⟨rfl,G⟩)) λ_ _ g=>g)) λ_ _ g=>g))
section
variable {X:Cx}
def Cm (G:TI)(g:TG)(I:TT)(L:TE)(k:List Nat):TE:=λσ H Q=>G σ H λJ H1=>∀D,H1 D=none->∃W:Nat->Nat->Hp->Prop,(∃m,W 0 m (upd H1 D (.lst [])))/\∀i m H,W i m H->
 (J.stop i H/\Q (.ref D) H)\/(J.go i H/\∃u:Hp->Prop,(∀h,u h->∃z,z<m/\W (i+1) z h)/\∀x h,J.n6 i H x h->g x (wipe σ k) h λj M=>wipe j k=wipe σ k/\I j M λb F=>
   if b=true then L j F λy C=>∃o,C D=some (.lst o)/\o.length<bH/\u (upd C D (.lst (o++[y])))else u F)
theorem Cn (i:env.scope.kind= .function)(g:env.scope.names.lookup y=some .local)(h:(py.line==pos.line)=true)
 (o:(scope.names.any λ(n,k)=>n==y&&(k== .local||k== .cell))=false):tf (.ListComp elt gs scope pos) (some (.Name y py)) l env=pure true:=by
 have b:env.kindOf y=some .local:=g;have j:env.blockKind= .function:=by unfold Env.blockKind;rw[i];rfl
 unfold tf;simp only[j,b,o,Expr.pos,h];rfl
end
theorem ki {K}{g:TG}{F:TT}{G:TE}{L:Hp->Prop}(Pv:Nat->Hp->Prop)(U:Pv 0 (upd H1 D (.lst [])))(P:∀i H,i<=xs.length->Pv i H->ax K H a xs)
 (O:∀i x H,xs[i]? =some x->Pv i H->g x (wipe σ vs) H λh C=>wipe h vs=wipe σ vs/\F h C λb u=>
   if b=true then G h u λy o=>∃j,o D=some (.lst j)/\j.length<bH/\Pv (i+1) (upd o D (.lst (j++[y])))else Pv (i+1) u) (hd:∀H,Pv xs.length H->L H):
 ∃W:Nat->Nat->Hp->Prop,(∃m,W 0 m (upd H1 D (.lst [])))/\∀i m H,W i m H->
  ((n8 K a).stop i H/\L H)\/((n8 K a).go i H/\∃z:Hp->Prop,(∀k,z k->∃I,I<m/\W (i+1) I k)/\∀x k,(n8 K a).n6 i H x k->g x (wipe σ vs) k λh C=>wipe h vs=wipe σ vs/\F h C λb u=>
    if b=true then G h u λy o=>∃j,o D=some (.lst j)/\j.length<bH/\z (upd o D (.lst (j++[y])))else z u):=by
 refine⟨λi m H=>m=xs.length-i/\i<=xs.length/\Pv i H,⟨xs.length,by simp,bR _,U⟩,?_⟩;rintro i m H ⟨rfl,T,p⟩;have q:=P i H T p;by_cases J:i<xs.length
 ·refine .inr ⟨⟨xs,xs[i],q,by simp[J]⟩,Pv (i+1),λk M=>⟨xs.length-(i+1),by omega,rfl,J,M⟩,λx k y=>?_⟩;obtain⟨e,y⟩:=y;subst e;exact O i x _ (y xs q) p
 ·have e:i=xs.length:=by omega
  subst e;exact .inl ⟨⟨xs,q,bA _⟩,hd H p⟩
def Jd (N:List Str)(sc scope:fD)(own:List (Str×Nat)):Bool:=
 (match scope.kind with| .function=>true|_=>false)&&(scope.names.all λy=>decide (scope.names.lookup y.1=some y.2))&&(own.all λp=>decide (N[p.2]? =some p.1))&&
   (scope.names.all λy=>match y.2 with
     | .free=>(match sc.names.lookup y.1 with|some .cell=>true|some .free=>true|_=>false)
     | .local=>decide (y.1∈own.map (·.1))||decide (y.1∉N)
     | .cell=>decide (y.1∈own.map (·.1))||decide (y.1∉N)
     |_=>true)
theorem kU (h:Jd N sc scope own=true):uM N sc scope own:=by
 unfold Jd at h;simp only[dZ,fR,decide_eq_true_eq]at h;obtain⟨⟨⟨h1,h2⟩,h3⟩,h4⟩:=h;refine⟨?_,h2,h3,λy b e=>?_,λy b e=>?_⟩
 ·split at h1
  ·assumption
  simp_all
 ·have q:=h4 y b
  grind
 ·have q:=h4 y b;rcases e with e|e<;>(simp only[e,Bool.or_eq_true,decide_eq_true_eq]at q;exact q)
section
variable {prog:bL}{w:bw}{A:fm}{R:Result->aF->Prop}{s:aF}{elt t0 i0 t1 i1:cC}{Y2 Y3:List cC}{scope:fD}{pos:Pos}{it acc:ao}{env:Env}
end
section
variable {X:Cx}
end
section
variable {κ:Type}[DecidableEq κ]
end
section
variable {P:bL}{w:bw}{H:Hp}{h:bz}{a:ai}
end
section
variable {X:Cx}{pins:List (ai×Obj)}{σ:St}{H:Hp}{s:aF}{a:ai}{y v:V}{u r:ao}{o:Option V}{A:fm}{E:ao->aF->Prop}
end
section
variable {X:Cx}{pins:List (ai×Obj)}{σ:St}{H:Hp}{s:aF}{a:ai}{u:ao}{A:fm}{E:ao->aF->Prop}
end
section
variable {X:Cx}{o i e value:cC}{pos pos' kh:Pos}{td ty tv:TE}
end
section
variable {X:Cx}{pos:Pos}
end
section
variable {X:Cx}{pins:List (ai×Obj)}{σ:St}{H:Hp}{s:aF}{a:ai}{y d:V}{u r:ao}{o:Option V}{A:fm}{E:ao->aF->Prop}
end
section
variable {X:Cx}{o e f:cC}{apos gU:Pos}{td ty tx:TE}
end
section
variable {X:Cx}{pins:List (ai×Obj)}{σ:St}{H:Hp}{s:aF}{a:ai}{A:fm}{E:ao->aF->Prop}
end
section
variable {X:Cx}{pins:List (ai×Obj)}{σ:St}{H:Hp}{s:aF}{a:ai}{y:V}{u:ao}{A:fm}{E:ao->aF->Prop}
end
section
variable {prog:bL}{w:bw}{A:fm}{E:ao->aF->Prop}
end
section
variable {X:Cx}
end
section
variable {X:Cx}{pins:List (ai×Obj)}{σ:St}{H:Hp}{s:aF}{h':bz}
theorem Inv.Sf {ch:List ai}(I:Inv X pins σ H s)(k:∀b o,b∉ch->s.heap.get? b=some o->h'.get? b=some o)(g:∀b∈ch,kf X pins H b):Inv X pins σ H {s with heap:=h',toks:=t'}:=by
 have F:∀b u,H b=some u->b∉ch:=λb u e z=>by
  have q:=(g b z).1;simp_all
 refine I.step (g':=s.gens) (d':=s.drawn) (ch:=ch) (λb i=>⟨(g b i).2.2.2.1,(g b i).2.1,(g b i).2.2.2.2.1,(g b i).2.2.2.2.2⟩) (λb o _ _ h e _=>k b o h e) (λb o _ _ h e _=>⟨o.slots,k b o h e⟩)
  (λ_ _ _ _ n=>n) (λb o h e=>⟨o,k b o h e⟩) (λ_ _ e=>e) (λ_ _ _ e=>e) (λb ps e=>⟨#[],by rw[e];simp⟩) (λm y=>?_) (λb u e=>?_) I.bare
 ·obtain⟨o,es,C,j,r⟩:=y;exact⟨o,es,C,k _ o (λz=>(g _ z).2.1 rfl) j,r⟩
 ·refine(I.az b u e).bM (λc v h q=>k c v ?_ q) (λ_ q=>q) λ_ _ q=>q
  grind
theorem Inv.Je {ch:List ai}{T:ai}(I:Inv X pins σ H s)(k:∀b o,b∉ch->s.heap.get? b=some o->h'.get? b=some o)(h:∀b∈ch,kf X pins H b)(y:s.heap.objs.size<=T)
 (new:ib (upd H T ob) h' T ob):Inv X pins σ (upd H T ob) {s with heap:=h',toks:=t'}:=by
 have j:=I.az.fresh y
 have L:∀b u,H b=some u->b∉ch:=λb u e z=>by
  have q:=(h b z).1;simp_all
 refine I.step (g':=s.gens) (d':=s.drawn) (ch:=ch) (λb g=>⟨(h b g).2.2.2.1,(h b g).2.1,(h b g).2.2.2.2.1,(h b g).2.2.2.2.2⟩) (λb o _ _ i e _=>k b o i e) (λb o _ _ i e _=>⟨o.slots,k b o i e⟩)
  (λb o _ e n=>?_) (λb o i e=>⟨o,k b o i e⟩) (λb C e=>?_) (λb o u e=>?_) (λb ps e=>⟨#[],?_⟩) (λm G=>?_) (λb u e=>?_) I.bare
 ·rw[du (i6 (iK (eJ e) y))];exact n
 ·rw[du (j_ e j)];exact e
 ·rw[du (j_ e j)];exact e
 ·rw[du (j_ e j),e];simp
 ·obtain⟨o,es,J,F,r⟩:=G;exact⟨o,es,J,k _ o (λz=>(h _ z).2.1 rfl) F,r⟩
 ·by_cases g:b=T
  ·subst g;rw[jB]at e;simp_all
  ·rw[du g]at e;refine(I.az b u e).bM (λc v i q=>k c v ?_ q) (λc q=>by rw[du (j_ q j)];exact q) λc C q=>by rw[du (j_ q j)];exact q
   grind
end
section
variable {X:Cx}
end
section
variable {X:Cx}{tg:cC}
end
section
variable {prog:bL}{w:bw}{A:fm}{E:ao->aF->Prop}{s:aF}
end
section
variable {X:Cx}{pins:List (ai×Obj)}{σ:St}{H:Hp}{s:aF}{d:ai}{o:Obj}
end
section
variable {P:bL}{w:bw}{K:aW}{tg:cC}{d:ai}{o:Obj}{es:Array mP}{ep:Nat}
end
section
variable {X:Cx}{tg e:cC}{td:TE}{apos gU:Pos}
end
def uP (K:aW)(a:ai):It:=
 ⟨λi H=>∃(b:List V) (x:V),ax K H a b/\b[i]? =some x,λi H v g=>∃T x,v= .ref T/\H T=none/\g=upd H T (.tup [.int (i:Nat),x])/\∀b,ax K H a b->b[i]? =some x,λi H=>∃b:List V,ax K H a b/\b.length<=i⟩
theorem Sg {P:bL}{w:bw}{K:aW}{elts:List cC}{kk:Nat}{kh:Pos}(a e g:ai):
 Turn P w K (.Tuple elts kk kh) (uP K a) [e,g] e (λi h=>(∃old,IsEnum h e g ((i:Nat):Int) old)/\h.IsListIter g a i/\e≠g)where
 mem:=by simp
 obj:=λi h st b y=>by
  obtain⟨⟨old,j⟩,⟨o,ho,U,hd⟩,_⟩:=st
  grind
 keep:=λi h h' st k=>let⟨⟨old,j⟩,hi,C⟩:=st;⟨⟨old,k e (by simp) _ j⟩,hi.at λo q=>k g (by simp) o q,C⟩
 item:=by
  intro X W O Y U i pins s σ H E I G st T;subst W O Y;obtain⟨⟨old,j⟩,hit,C⟩:=st;obtain⟨xs,x,F,M⟩:=T;obtain⟨aE,L,p,hz⟩:=I.list F;obtain⟨u,hu,ru⟩:=L.get M;have hel:e<s.heap.objs.size:=eJ j;have hil:g<s.heap.objs.size:=by obtain⟨_,q,_⟩:=hit;exact eJ q
  refine wpAny_pyNext_enum_item j hit p.isList (x:=u) (by simpa using hu) C λh' ho hit' hT hsz hk=>?_;refine⟨_,rfl,wpAny_letOwnedTupleGo_enum (s:={s with heap:=h',toks:=s.toks+1}) ho λh'' he' J=>?_⟩;have hT2:h''.get? s.heap.objs.size=some {cls:= .type "tuple",data:= .seq #[.int i s.toks,u]}:=(J.2 _ (NY hel)).trans hT
  have new:ib (upd H s.heap.objs.size (.tup [.int (i:Nat),x])) h'' s.heap.objs.size (.tup [.int (i:Nat),x]):=
   ⟨by show 2<=bH;decide,[.int i s.toks,u],.cons ⟨_,rfl⟩ (.cons ru .nil),⟨_,hT2,rfl,_,rfl⟩⟩
  have I1:Inv X pins σ (upd H s.heap.objs.size (.tup [.int (i:Nat),x])) {s with heap:=h'',toks:=s.toks+1}:=
   I.Je (ch:=[e,g]) (λb ob y q=>(J.2 b (λz=>y (by simp[z]))).trans (hk b ob (λz=>y (by simp[z])) (λz=>y (by simp[z])) q)) G (bA _) new
  refine⟨.ref s.heap.objs.size,_,I1,rfl,⟨_,x,rfl,I.az.fresh (bA _),rfl,λys hy=>by rw[I.xQ hy F];exact M⟩,⟨⟨u,?_⟩,hit'.at λo q=>(J.2 g (mT C)).trans q,C⟩,λb y=>?_⟩
  ·have e1:((i+1:Nat):Int)=(i:Int)+1:=by lia
   rw[e1];exact he'
  ·have hb':b<s.heap.objs.size:=by
    have e':b=e\/b=g:=by simpa using y
    rcases e' with z|z
    ·rw[z];exact hel
    ·rw[z];exact hil
   rw[du (i6 hb')];exact(G b y).1
 done:=by
  intro X W O Y U i pins s σ H E I G st T;subst W O Y;obtain⟨⟨old,j⟩,hit,C⟩:=st;obtain⟨xs,F,M⟩:=T;obtain⟨aE,L,p,hz⟩:=I.list F;obtain⟨f0,f1,f2,f3,f4,f5⟩:=G g (by simp);have hl:=L.length;exact wpAny_pyNext_enum_end (I.ok.hd U) j hit p.isList (by simp;lia) λh' eb=>⟨rfl,I.turned (t':=s.toks) (λb o y q=>eb b o y q) f0 f1 f3 f4 f5⟩
 self:=λA i s Q E st h=>let⟨⟨_,j⟩,_⟩:=st;Yn j h
inductive Jf (K)(vs:List V)(H)(R:It->Hp->Prop):Prop|mk (a) (xs):vs=[.ref a]->ax K H a xs->R (uP K a) H->Jf K vs H R
def Jg (K:aW)(g:TA):TI:=λσ H R=>g σ H λb H1=>Jf K b H1 R
theorem Co (M:Gl X "enumerate")(J:X.mg "enumerate"=none)(O:PA X [e] ta)(F:cD [e] X.env=[(false,cb e X.env)]:=by rfl):
 PI X (.Tuple elts kk kh) (.Call (.Name "enumerate" p) [e] [] pos) (Jg X.K ta):=by
 intro j s σ H R I h;refine Call_ (uw I M J boot_enumerate (Ex (bc (O pos j s σ H _ I h) λY g u=>?_) F rfl));obtain⟨W,H1,i,r1,z⟩:=u;obtain⟨a,U,ex,G,q⟩:=z;subst ex;cases r1 with
 |cons r y=>
  cases y;cases r;obtain⟨aE,rv,C,hz⟩:=i.list G;refine call_enumerate_list C.isList λP o hit hsz L=>Yn o ?_;have T:Inv X j σ H1 {g with heap:=P}:=i.kept (t':=g.toks) L;refine⟨g.heap.objs.size+1,[g.heap.objs.size+1,g.heap.objs.size],_,_,H1,rfl,T,Sg a (g.heap.objs.size+1) g.heap.objs.size,⟨⟨.none,o⟩,hit,Nat.succ_ne_self _⟩,λb hb=>?_,q⟩
  have k:g.heap.objs.size<=b:=by
   grind
  exact i.rD k (i.az.fresh k)
theorem Sh:zI "zip"=some (.type "zip"):=by decide+kernel
def uQ (K:aW)(a b:ai):It:=
 ⟨λi H=>∃(h g:List V) (x y:V),ax K H a h/\ax K H b g/\h[i]? =some x/\g[i]? =some y,
  λi H v j=>∃T x y,v= .ref T/\H T=none/\j=upd H T (.tup [x,y])/\(∀h,ax K H a h->h[i]? =some x)/\∀g,ax K H b g->g[i]? =some y,
  λi H=>∃h g:List V,ax K H a h/\ax K H b g/\(h.length<=i\/g.length<=i)⟩
theorem Si {P:bL}{w:bw}{K:aW}{elts:List cC}{kk:Nat}{kh:Pos}{a b z TI TO F C:ai}(D:ZipApart z TI TO F C a b):
 Turn P w K (.Tuple elts kk kh) (uQ K a b) [z,TI,TO,F,C] z (λi h=>IsZip h z TI TO .none/\IsPair h TI (.ref F) (.ref C)/\(∃x y,IsPair h TO x y)/\h.IsListIter F a i/\h.IsListIter C b i)where
 mem:=by simp
 obj:=λi h st c hc=>by
  obtain⟨J,G,⟨x,y,L⟩,⟨o1,e1,_,d1⟩,⟨o2,e2,_,d2⟩⟩:=st
  grind
 keep:=λi h h' st k=>by
  obtain⟨J,G,⟨x,y,L⟩,h1,h2⟩:=st;exact⟨k z (by simp) _ J,k TI (by simp) _ G,⟨x,y,k TO (by simp) _ L⟩,h1.at λo q=>k F (by simp) o q,h2.at λo q=>k C (by simp) o q⟩
 item:=by
  intro X hP hw hK hc i pins s σ H E I Y st hg;subst hP hw hK;obtain⟨J,G,⟨x0,y0,L⟩,h1,h2⟩:=st;obtain⟨xs,ys,x,y,U,T,hx,hy⟩:=hg;obtain⟨aE,rv,p,_⟩:=I.list U;obtain⟨its2,rv2,p2,_⟩:=I.list T;obtain⟨u,hu,ru⟩:=rv.get hx;obtain⟨O,hu2,ru2⟩:=rv2.get hy;have hzl:z<s.heap.objs.size:=eJ J;refine wpAny_pyNext_zip_item D J G L h1 h2 p.isList p2.isList (x:=u) (y:=O) (by simpa using hu) (by simpa using hu2) λh' z' TO' h1' h2' hT hsz W=>?_;refine⟨_,rfl,wpAny_letOwnedTupleGo_zip (s:={s with heap:=h'}) z' λh'' z'' M=>?_⟩;have hT2:h''.get? s.heap.objs.size=some {cls:= .type "tuple",data:= .seq #[u,O]}:=(M.2 _ (NY hzl)).trans hT
  have new:ib (upd H s.heap.objs.size (.tup [x,y])) h'' s.heap.objs.size (.tup [x,y]):=
   ⟨by show 2<=bH;decide,[u,O],.cons ru (.cons ru2 .nil),⟨_,hT2,rfl,_,rfl⟩⟩
  have I1:Inv X pins σ (upd H s.heap.objs.size (.tup [x,y])) {s with heap:=h''}:=
   I.Je (t':=s.toks) (ch:=[z,TI,TO,F,C]) (λc o j q=>(M.2 c (λg=>j (by simp[g]))).trans (W c o (λg=>j (by simp[g])) (λg=>j (by simp[g])) (λg=>j (by simp[g])) (λg=>j (by simp[g])) q)) Y (bA _) new
  refine⟨.ref s.heap.objs.size,_,I1,rfl,⟨_,x,y,rfl,I.az.fresh (bA _),rfl,λl hl=>by rw[I.xQ hl U];exact hx,λl hl=>by rw[I.xQ hl T];exact hy⟩,⟨z'',?_,⟨u,O,?_⟩,?_,?_⟩,λc hcm=>?_⟩
  ·exact(M.2 _ D.TIz).trans (W _ _ D.TIz D.TITO D.TIi1 D.TIi2 G)
  ·exact(M.2 _ D.TOz).trans TO'
  ·exact h1'.at λo q=>(M.2 _ D.i1z).trans q
  ·exact h2'.at λo q=>(M.2 _ D.i2z).trans q
  ·have hlt:c<s.heap.objs.size:=by
    have e':c=z\/c=TI\/c=TO\/c=F\/c=C:=by simpa using hcm
    rcases e' with q|q|q|q|q
    ·rw[q];exact hzl
    ·rw[q];exact eJ G
    ·rw[q];exact eJ L
    ·rw[q];obtain⟨_,e1,_⟩:=h1;exact eJ e1
    ·rw[q];obtain⟨_,e2,_⟩:=h2;exact eJ e2
   rw[du (i6 hlt)];exact(Y c hcm).1
 done:=by
  intro X hP hw hK hc i pins s σ H E I Y st hg;subst hP hw hK;obtain⟨J,G,⟨x0,y0,L⟩,h1,h2⟩:=st;obtain⟨xs,ys,U,T,hend⟩:=hg;obtain⟨aE,rv,p,_⟩:=I.list U;obtain⟨its2,rv2,p2,_⟩:=I.list T;have l1:=rv.length;have l2:=rv2.length
  have he:aE.toArray[i]? =none\/its2.toArray[i]? =none:=by
   rcases hend with q|q
   ·exact .inl (by simp;lia)
   ·exact .inr (by simp;lia)
  exact wpAny_pyNext_zip_end (I.ok.hd hc) D J G L h1 h2 p.isList p2.isList he λh' W=>⟨rfl,I.Sf (t':=s.toks) (ch:=[z,TI,TO,F,C]) (λc o j q=>
   W c o (λg=>j (by simp[g])) (λg=>j (by simp[g])) (λg=>j (by simp[g])) (λg=>j (by simp[g])) q) Y⟩
 self:=λA i s Q E st h=>Yo st.1 h
inductive Jh (K)(vs:List V)(H)(R:It->Hp->Prop):Prop|mk (a b) (xs ys):vs=[.ref a,.ref b]->ax K H a xs->ax K H b ys->R (uQ K a b) H->Jh K vs H R
def Ji (K:aW)(g:TA):TI:=λσ H R=>g σ H λb H1=>Jh K b H1 R
theorem yb {p pos kh}{elts}{kk}(W:Gl X "zip")(T:X.mg "zip"=none)(Y:PA X [e,e2] ta)
 (L:cD [e,e2] X.env=(false,cb e X.env)::cD [e2] X.env:=by rfl) (P:(iw pos (cD [e2] X.env)).any (·.1)=false:=by rfl):
 PI X (.Tuple elts kk kh) (.Call (.Name "zip" p) [e,e2] [] pos) (Ji X.K ta):=by
 intro k s σ H R I h;refine Call_ (uw I W T Sh (Ex (bc (Y pos k s σ H _ I h) λus g C=>?_) L P));obtain⟨vs,H1,i,r1,G⟩:=C;obtain⟨a,b,xs,ys,ex,O,M,q⟩:=G;subst ex;cases r1 with
 |cons r j=>
  cases j with
  |cons F j=>
   cases j;cases r;cases F;obtain⟨aE,rv,u,_⟩:=i.list O;obtain⟨its2,rv2,o,_⟩:=i.list M;have la:=u.lt;have J:=o.lt;refine call_zip_2 u.isList o.isList λh' y hTI hTO h1 h2 hsz U=>Yo y ?_;have I2:Inv X k σ H1 {g with heap:=h'}:=i.kept (t':=g.toks) U;refine⟨g.heap.objs.size+4,[g.heap.objs.size+4,g.heap.objs.size+2,g.heap.objs.size+3,g.heap.objs.size,g.heap.objs.size+1],_,_,H1,rfl,I2,Si (PySem.W.ktu_apart g.heap.objs.size a b la J),⟨y,hTI,⟨_,_,hTO⟩,h1,h2⟩,λc hcm=>?_,q⟩
   have z:g.heap.objs.size<=c:=by
    grind
   exact i.rD z (i.az.fresh z)
end L2
section
namespace Bits
open PySem PyProof.Rows
end Bits
end
section
namespace TL
open PySem PySem.Builtin PySem.Builtin.Str PySem.StrLaws
def pre (S l:List Nat):Bool:=l.take S.length==S
def par (S:List Nat):List Nat->List Nat->Option (List Nat×List Nat)
 |_,[]=>none
 |b,c::r=>if pre S (c::r)=true then some (b,(c::r).drop S.length)else par S (b++[c]) r
end TL
end
namespace L2
open PySem PySem.Spec PyProof.Rows
section
variable {X:Cx}{pins:List (ai×Obj)}{σ:St}{H:Hp}{s:aF}{Q:VK}
end
section
variable {X:Cx}
end
section
variable {X:Cx}{o e:cC}{to te:TE}
end
section
variable {X:Cx}
end
end L2
namespace Att
open PySem PySem.W PySem.Calls PyProof.Rows
section
variable {prog:bL}{w:bw}{A:fm}{E:ao->aF->Prop}{s:aF}{K:Frag}
end
end Att
namespace L2
open PySem PySem.Spec PyProof.Rows
def inClass (s:aV)(j:Nat):aV:=match s with
 | .ClassDef _ _ _ body _ _ _ _ _ _ _=>body.getD j (.Pass ⟨0,0,0,0⟩)
 |_=> .Pass ⟨0,0,0,0⟩
def jI (s:aV):qg:=match s with
 | .FunctionDef _ a _ _ _ _ _ _ _ _=>a
 |_=>{posonlyargs:=[],args:=[],vararg:=none,kwonlyargs:=[],kw_defaults:=[],kwarg:=none,defaults:=[]}
def ng (s:aV):List aV:=match s with
 | .FunctionDef _ _ b _ _ _ _ _ _ _=>b
 |_=>[]
def cY (s:aV):fD:=match s with
 | .FunctionDef _ _ _ _ _ _ sc _ _ _=>sc
 |_=>{kind:= .function,names:=[],isGenerator:=false,isCoroutine:=false}
structure mD (K:aW)(x qual:Str)(st:aV)(f:ai)(fd:lX):Prop where
 ex:∃(oc:ao) (od:Option ai) (kV doc pm:ao) (an:Option ai) (bu ct:ao) (osl:Array (Option ao)),
  fd=zR x qual (jI st) (ng st) (cY st) .none kV doc pm an bu ct/\K.lookup f=some ⟨oc,od,.func fd,osl⟩/\N9 K bu qual=true
 kp:tu K (.ref f)=true
section
variable {P:bL}{w:bw}{K:aW}{mg:Str->Option ao}{base:bz}
theorem Sj {st}(l:K.lookup f=some ⟨oc,od,.func (zR x qual (jI st) (ng st) (cY st) .none kV doc pm an bu ct),osl⟩)
 (c:N9 K bu qual=true) (k:tu K (.ref f)=true):mD K x qual st f (zR x qual (jI st) (ng st) (cY st) .none kV doc pm an bu ct):=⟨⟨oc,od,kV,doc,pm,an,bu,ct,osl,rfl,l,c⟩,k⟩
end
section
variable {X:Cx}
theorem pv (i){pos}(h:X.N[i]? =some x:=by rfl)(b:rA X.env.scope x:=by first|exact Or.inl rfl|exact Or.inr (Or.inl rfl)|exact Or.inr (Or.inr rfl))(hd:(x==("__debug__":Str))=false:=by decide)
 (g:(x==("__classdict__":Str))=false:=by decide):PE X (.Name x pos) (bg i):=Ra h b hd g
end
theorem Sl {A B:Prop}(h:B):if false=true then A else B:=by
 simp_all
theorem Sm {A B:Prop}(h:A):if true=true then A else B:=by
 simp_all
theorem uR {c A B:Prop}[Decidable c](h1:c->A)(h2:¬c->B):if c then A else B:=by
 simp_all
section
variable {κ:Type}[DecidableEq κ]
end
end L2
section
namespace L2
open PySem PySem.Spec PyProof.Rows
open PySem.W (WData Codec OpenSpec Well WellAll ReadsW ReadsAllW)
mutual
inductive Dw (K:aW)(H:Hp):V->kF->Prop
 |aB:Dw K H .aB .none
 |bl (b:Bool):Dw K H (.bl b) (.bool b)
 |int (i:Int):Dw K H (.int i) (.int i)
 |str (x:Str):Dw K H (.str x) (.str x)
 |iC (b:Array UInt8):Dw K H (.iC b) (.bytes b.toList)
 |lst {a:ai} {xs:List V} {ds:List kF}:ax K H a xs->lJ K H xs ds->Dw K H (.ref a) (.list ds)
 |tup {a:ai} {xs:List V} {ds:List kF}:ke K H a xs->lJ K H xs ds->Dw K H (.ref a) (.tuple ds)
inductive lJ (K:aW)(H:Hp):List V->List kF->Prop
 |nil:lJ K H [] []
 |cons {v:V} {vs:List V} {d:kF} {ds:List kF}:Dw K H v d->lJ K H vs ds->lJ K H (v::vs) (d::ds)
end
theorem Jj {K}:∀ns:List Int,lJ K H (ns.map V.int) (ns.map WData.int)
 |[]=> .nil
 |n::r=> .cons (.int n) (Jj r)
theorem Jk {K}:∀(ns:List Int) (b),lJ K H b (ns.map WData.int)->b=ns.map V.int
 |[]=>λb h=>by
  cases h;rfl
 |n::r=>λb h=>by
  cases h with
  |cons h1 h2=>
   cases h1;rw[Jk r _ h2]<;>rfl
section
variable {P:bL}{w:bw}{K:aW}{H:Hp}{h:bz}{R:PySem.W.WRecords}{cl:Str->Option ai}
theorem Sn (az:dQ H h)(i:K.In h)(q:ax K H a xs):∃(b:List ao) (o:Obj) (n:Nat),bp xs b/\h.get? a=some o/\o.cls= .type "list"/\o.data= .seq b.toArray n:=by
 rcases q with q|⟨o,b,n,e,hc,_,hd,_,g⟩
 ·obtain⟨_,b,n,g,e⟩:=(show ib H h a (.lst xs)from q.ok az);exact⟨b,_,n,g,e,rfl,rfl⟩
 ·exact⟨b.toList,o,n,g,i _ _ e,hc,by simp[hd]⟩
theorem So (az:dQ H h)(j:K.In h)(q:ke K H a xs):∃(b:List ao) (o:Obj) (n:Nat),bp xs b/\h.get? a=some o/\o.cls= .type "tuple"/\o.data= .seq b.toArray n:=by
 rcases q with q|⟨o,b,n,e,i,hd,_,g⟩
 ·obtain⟨_,b,g,o,e,i,n,hd⟩:=(show ib H h a (.tup xs)from q.ok az);exact⟨b,o,n,g,e,i,hd⟩
 ·exact⟨b.toList,o,n,g,j _ _ e,i,by simp[hd]⟩
mutual
theorem Dw.reads (az:dQ H h)(g:K.In h):∀(d:kF) (v:V) (u:ao),Dw K H v d->RelV v u->∃as,ReadsW R cl h u d as
 | .none=>λ_ _ x r=>by
  cases x;cases r;exact⟨_,ReadsW.none⟩
 | .bool b=>λ_ _ x r=>by
  cases x;cases r;exact⟨_,ReadsW.bool b⟩
 | .int i=>λ_ _ x r=>by
  cases x;obtain⟨t,rfl⟩:=r;exact⟨_,ReadsW.int i t⟩
 | .str s=>λ_ _ x r=>by
  cases x;obtain⟨t,rfl⟩:=r;exact⟨_,ReadsW.str s t⟩
 | .bytes b=>λ_ _ x r=>by
  cases x;obtain⟨t,rfl⟩:=r;exact⟨_,ReadsW.bytes _ t⟩
 | .list I=>λ_ _ x r=>by
  cases x with
  |lst y G=>
   cases r;obtain⟨k,o,n,j,C,F,hd⟩:=Sn az g y;obtain⟨as,z⟩:=Dw.readsAll az g I _ k G j;exact⟨_,ReadsW.list C F hd z⟩
 | .tuple I=>λ_ _ x r=>by
  cases x with
  |tup y G=>
   cases r;obtain⟨k,o,n,j,C,F,hd⟩:=So az g y;obtain⟨as,z⟩:=Dw.readsAll az g I _ k G j;exact⟨_,ReadsW.tuple C F hd z⟩
 | .float _=>λ_ _ x _=>by cases x
 | .set _=>λ_ _ x _=>by cases x
 | .dict _=>λ_ _ x _=>by cases x
 | .bytearray _=>λ_ _ x _=>by cases x
 | .frozenset _=>λ_ _ x _=>by cases x
 | .obj _ _=>λ_ _ x _=>by cases x
theorem Dw.readsAll (az:dQ H h)(j:K.In h):∀(b:List kF) (g:List V) (i:List ao),lJ K H g b->bp g i->∃as,ReadsAllW R cl h i b as
 |[]=>λ_ _ x r=>by
  cases x;cases r;exact⟨_,ReadsAllW.nil⟩
 |d::b=>λ_ _ x r=>by
  cases x with
  |cons h1 h2=>
   cases r with
   |cons r1 r2=>
    obtain⟨as,o⟩:=Dw.reads az j d _ _ h1 r1;obtain⟨bs,k⟩:=Dw.readsAll az j b _ _ h2 r2;exact⟨_,ReadsAllW.cons o k⟩
end
end
mutual
def jJ:kF->Bool
 | .none=>true
 | .bool _=>true
 | .int _=>true
 | .str _=>true
 | .bytes _=>true
 | .list b=>kW b
 | .tuple b=>kW b
 |_=>false
def kW:List kF->Bool
 |[]=>true
 |x::r=>jJ x&&kW r
end
theorem Jl {f}(h:∀a,jJ (f a)=true):∀l:List α,kW (l.map f)=true
 |[]=>rfl
 |x::r=>by
  show(jJ (f x)&&kW (r.map f))=true;rw[h x,Jl h r]<;>rfl
theorem oq:∀(c:Codec) (a),jJ (c.enc a)=true
 | .unit,_=>rfl
 | .bool,_=>rfl
 | .int _ _,_=>rfl
 | .nat _ _,_=>rfl
 | .u8,_=>rfl
 | .bytes _ _,_=>rfl
 | .text _ _ _ _,_=>rfl
 | .list _ _ c,a=>Jl (λx=>oq c x) a
 | .pair c d,a=>by
  show(jJ (c.enc a.1)&&(jJ (d.enc a.2)&&true))=true;rw[oq c a.1,oq d a.2]<;>rfl
 | .triple c d e,a=>by
  show(jJ (c.enc a.1)&&(jJ (d.enc a.2.1)&&(jJ (e.enc a.2.2)&&true)))=true;rw[oq c a.1,oq d a.2.1,oq e a.2.2]<;>rfl
 | .option c,none=>rfl
 | .option c,some x=>oq c x
theorem Jm:∀(b) (a),kW (zT b a)=true
 |[]=>λ_=>rfl
 |c::b=>λa=>by
  show(jJ (c.enc a.1)&&kW (zT b a.2))=true;rw[oq c a.1,Jm b a.2]<;>rfl
theorem Cp:∀{b} {d},d∈b->d.weight<=EK b
 |[],d,h=>absurd h (by simp)
 |x::r,d,h=>by
  show d.weight<=x.weight+1+EK r;rcases cj.mp h with e|m
  ·rw[e]
   lia
  ·have z:=Cp m
   lia
def toV:ao->V
 | .none=> .aB
 | .bool b=> .bl b
 | .int i _=> .int i
 | .str x _=> .str x
 | .bytes b _=> .iC b
 | .ref a=> .ref a
 |_=> .aB
def kl (A:List ai):ao->Prop
 | .none=>True
 | .bool _=>True
 | .int _ _=>True
 | .str _ _=>True
 | .bytes _ _=>True
 | .ref a=>a∈A
 |_=>False
theorem kl.mono (h:∀a∈A,a∈B):∀{u},kl A u->kl B u:=λ{u} x=>by
 cases u with
 |ref a=>exact h a x
 |none=>trivial
 |bool b=>trivial
 |int i t=>trivial
 |str s t=>trivial
 |bytes b t=>trivial
 |_=>exact ma x
theorem Sq (x:kl A u):RelV (toV u) u:=by
 cases u with
 |ref a=>rfl
 |none=>rfl
 |bool b=>rfl
 |int i t=>exact⟨t,rfl⟩
 |str s t=>exact⟨t,rfl⟩
 |bytes b t=>exact⟨t,rfl⟩
 |_=>exact ma x
theorem rN:∀{b},(∀u∈b,kl A u)->bp (b.map toV) b
 |[],_=> .nil
 |u::r,h=> .cons (Sq (h u (aH ..))) (rN λx g=>h x (aR _ g))
def kX (h:bz)(A:List ai)(a:ai):Prop:=∃b:List ao,b.length<=bH/\(∀u∈b,kl A u)/\
 (h.get? a=some {cls:= .type "list",data:= .seq b.toArray}\/h.get? a=some {cls:= .type "tuple",data:= .seq b.toArray})
theorem kX.mono (k:∀a∈A,a∈B)(x:kX h A a):kX h B a:=by
 obtain⟨b,h1,h2,h3⟩:=x;exact⟨b,h1,λu g=>(h2 u g).mono k,h3⟩
theorem yc:∀{g} {i},qJ P h g i->g.length=i.length
 |_,_,.nil=>rfl
 |_,_,.cons _ b=>by
  show _+1=_+1;rw[yc b]
theorem Jn (x:Well P h v (.list ds)):∃(a:ai) (b:List ao),v= .ref a/\h.get? a=some {cls:= .type "list",data:= .seq b.toArray}/\qJ P h b ds:=by
 cases x with
 |list g i=>exact⟨_,_,rfl,g,i⟩
theorem Jo (x:Well P h v (.tuple ds)):∃(a:ai) (b:List ao),v= .ref a/\h.get? a=some {cls:= .type "tuple",data:= .seq b.toArray}/\qJ P h b ds:=by
 cases x with
 |tuple g i=>exact⟨_,_,rfl,g,i⟩
theorem Jp (x:qJ P h us (d::ds)):∃(v:ao) (g:List ao),us=v::g/\Well P h v d/\qJ P h g ds:=by
 cases x with
 |cons a b=>exact⟨_,_,rfl,a,b⟩
theorem Jq (h:n<=1048576):n<=bH:=eA h (by decide)
section
variable {P:c6}{h:bz}
mutual
theorem Sr:∀(d:kF) (v:ao),Well P h v d->jJ d=true->d.weight<=1048576->∃A:List ai,kl A v/\∀a∈A,kX h A a
 | .none=>λ_ x _ _=>by
  cases x;exact⟨[],trivial,λa m=>absurd m (by simp)⟩
 | .bool b=>λ_ x _ _=>by
  cases x;exact⟨[],trivial,λa m=>absurd m (by simp)⟩
 | .int i=>λ_ x _ _=>by
  cases x;exact⟨[],trivial,λa m=>absurd m (by simp)⟩
 | .str s=>λ_ x _ _=>by
  cases x;exact⟨[],trivial,λa m=>absurd m (by simp)⟩
 | .bytes b=>λ_ x _ _=>by
  cases x;exact⟨[],trivial,λa m=>absurd m (by simp)⟩
 | .list j=>λ_ x p z=>by
  obtain⟨a,C,rfl,G,y⟩:=Jn x;have o:EK j<=1048576:=z;obtain⟨A,h1,h2⟩:=yd j _ y p λd hd=>eA (Cp hd) o;have k:∀b∈A,b∈a::A:=λb g=>aR _ g;refine⟨a::A,aH ..,λb g=>?_⟩;rcases cj.mp g with e|m
  ·rw[e];exact⟨C,Jq (by rw[yc y];exact eA (Yp j) o),λu F=>(h1 u F).mono k,.inl G⟩
  ·exact(h2 b m).mono k
 | .tuple j=>λ_ x p z=>by
  obtain⟨a,C,rfl,G,y⟩:=Jo x;have o:EK j<=1048576:=z;obtain⟨A,h1,h2⟩:=yd j _ y p λd hd=>eA (Cp hd) o;have k:∀b∈A,b∈a::A:=λb g=>aR _ g;refine⟨a::A,aH ..,λb g=>?_⟩;rcases cj.mp g with e|m
  ·rw[e];exact⟨C,Jq (by rw[yc y];exact eA (Yp j) o),λu F=>(h1 u F).mono k,.inr G⟩
  ·exact(h2 b m).mono k
 | .float _=>λ_ _ p _=>kG (show false=true from p)
 | .set _=>λ_ _ p _=>kG (show false=true from p)
 | .dict _=>λ_ _ p _=>kG (show false=true from p)
 | .bytearray _=>λ_ _ p _=>kG (show false=true from p)
 | .frozenset _=>λ_ _ p _=>kG (show false=true from p)
 | .obj _ _=>λ_ _ p _=>kG (show false=true from p)
theorem yd:∀(g:List kF) (j:List ao),qJ P h j g->kW g=true->(∀d∈g,d.weight<=1048576)->∃A:List ai,(∀u∈j,kl A u)/\∀a∈A,kX h A a
 |[]=>λ_ x _ _=>by
  cases x;exact⟨[],λu m=>absurd m (by simp),λa m=>absurd m (by simp)⟩
 |d::g=>λ_ x p z=>by
  obtain⟨v,j,rfl,C,y⟩:=Jp x;have q:jJ d=true/\kW g=true:=D9.mp p;obtain⟨A,L,J⟩:=Sr d v C q.1 (z d (aH ..));obtain⟨B,I,H⟩:=yd g j y q.2 λe G=>z e (aR _ G);have o:∀b∈A,b∈A++B:=λb i=>gm.mpr (.inl i);have k:∀b∈B,b∈A++B:=λb i=>gm.mpr (.inr i);refine⟨A++B,λu F=>?_,λb i=>?_⟩
  ·rcases cj.mp F with e|m
   ·rw[e];exact L.mono o
   ·exact(I u m).mono k
  ·rcases gm.mp i with m|m
   ·exact(J b m).mono o
   ·exact(H b m).mono k
end
end
def ye (o:Obj):Option HO:=match o.data with
 | .seq b _=>if(o.cls==Value.type "list")=true then some (.gQ o (.lst (b.toList.map toV)))else some (.gQ o (.tup (b.toList.map toV)))
 |_=>none
def gW (K:aW)(h:bz)(A:List ai):Hp:=λb=>if b∈A then(if(K.lookup b).isNone=true then(h.get? b).bind ye else none)else none
def yf (H:Hp):Prop:=∀b,H b=none\/∃o u,H b=some (.gQ o u)
theorem Jr (b:List ao):ye {cls:= .type "list",data:= .seq b.toArray}=some (.gQ {cls:= .type "list",data:= .seq b.toArray} (.lst (b.map toV))):=by
 rfl
theorem Js (b:List ao):ye {cls:= .type "tuple",data:= .seq b.toArray}=some (.gQ {cls:= .type "tuple",data:= .seq b.toArray} (.tup (b.map toV))):=by
 rfl
section
variable {P:bL}{w:bw}{K:aW}{h:bz}{A:List ai}
theorem yg (i:b∈A)(g:K.lookup b=none)(e:h.get? b=some o):gW K h A b=ye o:=by
 unfold gW
 grind
theorem Ss (q:gW K h A b=some u):b∈A/\K.lookup b=none:=by
 unfold gW at q;by_cases g:b∈A
 ·rw[if_pos g]at q;cases i:K.lookup b with
  |none=>exact⟨g,rfl⟩
  |some o=>
   simp_all
 simp_all
theorem yh (k:∀a∈A,kX h A a)(q:gW K h A b=some u):K.lookup b=none/\∃g:List ao,g.length<=bH/\(∀u∈g,kl A u)/\
 ((h.get? b=some {cls:= .type "list",data:= .seq g.toArray}/\u= .gQ {cls:= .type "list",data:= .seq g.toArray} (.lst (g.map toV)))\/
  (h.get? b=some {cls:= .type "tuple",data:= .seq g.toArray}/\u= .gQ {cls:= .type "tuple",data:= .seq g.toArray} (.tup (g.map toV)))):=by
 obtain⟨j,i⟩:=Ss q;obtain⟨g,h1,h2,h3⟩:=k b j;refine⟨i,g,h1,h2,?_⟩;rcases h3 with e|e
 ·rw[yg j i e,Jr]at q;exact .inl ⟨e,(kz q).symm⟩
 ·rw[yg j i e,Js]at q;exact .inr ⟨e,(kz q).symm⟩
theorem Su (g:∀a∈A,kX h A a):yf (gW K h A):=λb=>by
 cases q:gW K h A b with
 |none=>exact .inl rfl
 |some u=>
  obtain⟨_,i,_,_,⟨_,e⟩|⟨_,e⟩⟩:=yh g q
  ·exact .inr ⟨_,_,by rw[e]⟩
  ·exact .inr ⟨_,_,by rw[e]⟩
theorem Sv (i:∀a∈A,kX h A a):dQ (gW K h A) h:=λb u q=>by
 obtain⟨_,g,h1,h2,⟨e,rfl⟩|⟨e,rfl⟩⟩:=yh i q
 ·exact⟨e,by rw[bb];exact h1,g,_,rN h2,e⟩
 ·exact⟨e,by rw[bb];exact h1,g,rN h2,_,e,rfl,_,rfl⟩
theorem Sw (C:K.In h)(z:∀a∈A,kX h A a){b:List ao}(j:a∈A)(e:h.get? a=some {cls:= .type "list",data:= .seq b.toArray}):(∀u∈b,kl A u)/\ax K (gW K h A) a (b.map toV):=by
 obtain⟨i,h1,h2,h3⟩:=z a j
 have y:i=b:=by
  simp_all
 subst y;refine⟨h2,?_⟩;cases g:K.lookup a with
 |none=>exact .inl (.inr ⟨_,by rw[yg j g e,Jr]⟩)
 |some o=>
  have k:=C a o g;rw[e]at k;obtain rfl:=kz k;exact .inr ⟨_,i.toArray,_,g,rfl,rfl,rfl,by rw[iL];exact h1,by simpa using rN h2⟩
theorem Sx (C:K.In h)(z:∀a∈A,kX h A a){b:List ao}(j:a∈A)(e:h.get? a=some {cls:= .type "tuple",data:= .seq b.toArray}):(∀u∈b,kl A u)/\ke K (gW K h A) a (b.map toV):=by
 obtain⟨i,h1,h2,h3⟩:=z a j
 have y:i=b:=by
  simp_all
 subst y;refine⟨h2,?_⟩;cases g:K.lookup a with
 |none=>exact .inl (.inr ⟨_,by rw[yg j g e,Js]⟩)
 |some o=>
  have k:=C a o g;rw[e]at k;obtain rfl:=kz k;exact .inr ⟨_,i.toArray,_,g,rfl,rfl,by rw[iL];exact h1,by simpa using rN h2⟩
mutual
theorem Sy {G:c6}(j:K.In h)(g:∀a∈A,kX h A a):∀(d:kF) (v:ao),Well G h v d->jJ d=true->kl A v->Dw K (gW K h A) (toV v) d
 | .none=>λ_ x _ _=>by
  cases x;exact .aB
 | .bool b=>λ_ x _ _=>by
  cases x;exact .bl b
 | .int i=>λ_ x _ _=>by
  cases x;exact .int i
 | .str s=>λ_ x _ _=>by
  cases x;exact .str s
 | .bytes b=>λ_ x _ _=>by
  cases x;have z:=Dw.iC (K:=K) (H:=gW K h A) b.toArray;exact z
 | .list C=>λ_ x p k=>by
  obtain⟨a,F,rfl,u,y⟩:=Jn x;obtain⟨h2,o⟩:=Sw j g k u;exact .lst o (yi j g C _ y p h2)
 | .tuple C=>λ_ x p k=>by
  obtain⟨a,F,rfl,u,y⟩:=Jo x;obtain⟨h2,o⟩:=Sx j g k u;exact .tup o (yi j g C _ y p h2)
 | .float _=>λ_ _ p _=>kG (show false=true from p)
 | .set _=>λ_ _ p _=>kG (show false=true from p)
 | .dict _=>λ_ _ p _=>kG (show false=true from p)
 | .bytearray _=>λ_ _ p _=>kG (show false=true from p)
 | .frozenset _=>λ_ _ p _=>kG (show false=true from p)
 | .obj _ _=>λ_ _ p _=>kG (show false=true from p)
theorem yi {z:c6}(k:K.In h)(j:∀a∈A,kX h A a):∀(b:List kF) (g:List ao),qJ z h g b->kW b=true->(∀u∈g,kl A u)->lJ K (gW K h A) (g.map toV) b
 |[]=>λ_ x _ _=>by
  cases x;exact .nil
 |d::b=>λ_ x p i=>by
  obtain⟨v,g,rfl,y,o⟩:=Jp x;have q:jJ d=true/\kW b=true:=D9.mp p;exact .cons (Sy k j d v y q.1 (i _ (aH ..))) (yi k j b g o q.2 λu m=>i u (aR _ m))
end
end
theorem Sz {K}
 (L:K.In s₁.heap) (Y:s₁.heap.Ns jP mg) (G:s₁.heap.Ns NT mb) (hbb:∀x:Str,x≠"__name__"->mb x=zI x) (hlim:s₁.heap.NoLimit) (hg:s₁.gens= #[])
 (C:qJ w.params s₁.heap vals ds) (U:kW ds=true) (hwt:∀d∈ds,d.weight<=1048576) (hr:cR k zU)
 (F:∀base:bz,K.In base->base.Ns jP mg->gz P w K mg base CX k fa fd ps sp) (hbind:∀(s) (y),y.length=ps.length->wc s fd ⟨y,[]⟩ (ps.zip y)) (hlen:ds.length=ps.length)
 (hsp:∀(H) (M),yf H->lJ K H M ds->sp M H (λv H'=>Dw K H' v d0) λ_ _ _=>False)
 (hCX:∀H e g,CX [] H s₁ (λ_ _ _=>False) e g->False):
 tq (aT P w) zU (.call (.ref fa) ⟨vals,[]⟩) (λr g=>∃u as,r= .ok (.ret u)/\ReadsW R cl g.heap u d0 as/\OldK s₁.heap g.heap/\g.os=s₁.os/\qF g.gens) s₁:=by
 obtain⟨A,X,h⟩:=yd ds vals C U hwt;have I:yf (gW K s₁.heap A):=Su h;have az:dQ (gW K s₁.heap A) s₁.heap:=Sv h;have hS:=yi L h ds vals C U X;have hV:=rN X;have hK:∀b u,gW K s₁.heap A b=some u->K.lookup b=none:=λb u q=>(yh h q).1
 have T:∀{b:ai} {o:Obj} {es:Array mP} {j:Nat},s₁.heap.get? b=some o->o.data= .dict es j->gW K s₁.heap A b=none:=λ{b o es j} e d=>by
  cases q:gW K s₁.heap A b with
  |none=>rfl
  |some u=>
   obtain⟨_,vs,_,_,⟨J,_⟩|⟨J,_⟩⟩:=yh h q
   ·rw[J]at e
    grind
   grind
 generalize gW K s₁.heap A=H at I az hS hK T;have base_of:∀{b:ai} {o:Obj},s₁.heap.get? b=some o->H b=none->(nZ s₁.heap H).get? b=some o:=λe n=>Q7 e n;have i:∀{b:ai} {m:Str->Option ao},s₁.heap.Ns b m->(nZ s₁.heap H).Ns b m:=λ{b m} ⟨o,es,j,e,d,r⟩=>⟨o,es,j,base_of e (T e d),d,r⟩
 have nK:∀b o,K.lookup b=some o->H b=none:=λb o e=>by
  cases q:H b with
  |none=>rfl
  |some u=>
   grind
 have hKb:=λb o e=>base_of (L b o e) (nK b o e);have hM:Mod K mg (nZ s₁.heap H):=⟨hKb,i Y,⟨mb,i G,hbb⟩,let⟨mc,h1,h2⟩:=hlim;⟨mc,i h1,h2⟩⟩;have e0:pJ P w K mg (nZ s₁.heap H) zU [] s₁ H:=⟨rfl,hM,λb o e=>Q8 e,sZ (Q6 _ _),trivial,λb G=>absurd (show b∈([]:List ai)from G) (by simp),az,.of_eq hg⟩;have hl:vals.length=ps.length:=by rw[yc C];exact hlen
 refine ED ((F _ hKb (i Y)).run zU [] s₁ H ⟨vals,[]⟩ vals (vals.map toV) _ _ hr e0 (hbind s₁ vals hl) hV (hsp H _ I hS)) λr g x=>?_;cases r with
 |error e=>exact(hCX H e g x).elim
 |ok fl=>
  cases fl with
  |next=>exact ma x
  |brk=>exact ma x
  |cont=>exact ma x
  |ret u=>
   obtain⟨v,H',os,bare,un,W,r',q⟩:=x
   have kept:=λb o e=>by
    cases O:H b with
    |none=>exact un.keep b o e O (by intro z;exact absurd (show b∈([]:List ai)from z) (by simp)) (by simp)
    |some u2=>
     rcases I b with z|⟨ob,u3,z⟩
     ·rw[O]at z
      grind
     ·have z2:=un.frzs b ob _ z;obtain⟨e1,_⟩:=az b _ z;obtain⟨J,_⟩:=W b _ z2;simp_all
   have KX':=λb o e=>kept b o (L b o e);obtain⟨as,hrd⟩:=Dw.reads (R:=R) (cl:=cl) W KX' d0 v u q r';exact⟨u,as,rfl,hrd,OldK.of_keep kept,os,bare⟩
theorem SA (h:XA ds=true):∀d∈ds,d.weight<=1048576:=λd hd=>
 (PySem.W.layableW_iff.mp (fR.mp h d hd)).2.2
theorem Jt:∀(b) (a),(zT b a).length=b.length
 |[]=>λ_=>rfl
 |c::b=>λa=>by
  show(zT b a.2).length+1=b.length+1;rw[Jt b a.2]
theorem SD {K:c6->aW}{CX:bw->n_}{sp:bw->Sp}
 (O:r.wellSaid=true) (hdf:d.params.defaults=[]) (hlen:r.args.length=ps.length) (T:cR k zU)
 (hY:∀(w) (h),YP w h->(K w.params).In h)
 (F:∀(w) (mg) (i) (h),YP w h->(K w.params).In h->h.Ns jP mg->mg d.name=some (.ref i)->
   ∃y:lX,(∀(s) (j),j.length=ps.length->wc s y ⟨j,[]⟩ (ps.zip j))/\
    ∀base:bz,(K w.params).In base->base.Ns jP mg->gz r.prog w (K w.params) mg base (CX w) k i y ps (sp w))
 (P:∀(w) (H) (b) (a),yf H->Codec.withinAll r.args a=true->Od r.args r.asked a=true->lJ (K w.params) H b (zT r.args a)->
   sp w b H (λv H'=>Dw (K w.params) H' v (r.ret.enc (Od r.args r.f a))) λ_ _ _=>False)
 (hCX:∀(w) (H) (s) (e) (g),CX w [] H s (λ_ _ _=>False) e g->False):
 Yq q loose XP YP r d [] (λf J=>Nn f J):=by
 intro w s_0 L mg mb G Y i o pm cd doc dV kV ho hd hcd hD X hg args vals as W hlay hrd M hlo;obtain⟨a,e1,e2⟩:=PySem.W.os_pre_some W;obtain⟨e3,C⟩:=Codec.encAll_of_decAll r.args args a e1;subst e3;have I:=hY w _ Y;obtain⟨y,hb,hF⟩:=F w mg i _ Y I G.T.g X
 refine PySem.W.enter_call (ED (Sz (R:=[]) (cl:=classAt s_0.heap) (d0:=r.ret.enc (Od r.args r.f a)) I G.T.g G.T.b G.T.builtins G.T.nolimit hg M (Jm _ _) (SA hlay) T hF hb (by rw[Jt];exact hlen)
  (λH b hO hS=>P w H b a hO C e2 hS) λH e g=>hCX w H L e g) λr' g U=>?_)
 obtain⟨u,as',rfl,h1,h2,h3,h4⟩:=U;exact⟨.inl ⟨u,_,as',rfl,λ_=>rfl,h1,(OpenSpec.post_iff O C _ _).mpr rfl,λz=>kG (show false=true from z)⟩,h2,h3,h4⟩
end L2
end
set_option tactic.hygienic false
namespace L2
open PySem PySem.Spec PyProof.Rows
theorem dQ.sub (x:dQ H h)(k:∀b u,(∃o,H b=some o)->h.get? b=some u->h'.get? b=some u):dQ H h':=λa o e=>
 (x a o e).bM (λb u q g=>k b u (by
   rcases q with rfl|q
   ·exact⟨_,e⟩
   ·exact⟨_,q⟩) g) (λ_ q=>q) λ_ _ q=>q
structure ou (P:bL)(w:bw)(outer:List Env)(H:Hp)(s:aF)(H':Hp)(B:bz)(s':aF):Prop where
 os:s'.os=s.os
 bare:qF s'.gens
 az:dQ H' B
 un:Un (fe outer) [] H H' s.heap s'.heap
 kb:∀b o,s.heap.get? b=some o->H b=none->b∉fe outer->B.get? b=some o
 tb:∀b o,s.heap.get? b=some o->b∉fe outer->∃o',B.get? b=some o'
def dg (P:bL)(w:bw):n_:=λouter H s E e b=>∃(a:ai) (cls:ao) (g:Hp) (B:bz) (h:ao),e= .ref a/\ou P w outer H s g B b/\zV B outer a cls h b.heap/\E cls none g
theorem ou.land (F:ou P w outer H s H' B s')(y:s.heap.FunFrames base outer)(u:∀b∈fe outer,H b=none)
 (st:B.StaysIn h) (up:s'.heap.UpToSlots h):Un (fe outer) [] H H' s.heap h:=by
 have g:∀b o,s.heap.get? b=some o->H b=none->b∈fe outer->∃g,h.get? b=some {o with slots:=g}:=λb o e n m=>by
  obtain⟨g,i⟩:=F.un.slot b o e n m (by simp);obtain⟨_,j,k,d⟩:=y.mem m;rw[e]at k;cases k;exact up b {o with slots:=g} i d
 refine⟨λb o e n nf _=>st b o (F.kb b o e n nf),λb o e n m _=>g b o e n m,λb o e n x=>F.un.free b o e n x,λb o e _=>?_,F.un.tups,F.un.frzs,F.un.tbls⟩;by_cases m:b∈fe outer
 ·obtain⟨_,i⟩:=g b o e (u b m) m;exact⟨_,i⟩
 ·obtain⟨j,i⟩:=F.tb b o e m;exact⟨j,st _ _ i⟩
structure kY (X:Cx)(E:XK):Prop where
 kM:X.stack=X.env::X.outer
 yj:X.env.frame=some X.env.locals
 ex:X.ex=[]
 xe:X.xe=λe s'=>aZ (aT X.prog X.w) X.A (EF X.env e) (λ_ s''=>dg X.prog X.w X.outer X.H_0 X.s_0 E e s'') (λe' s''=>dg X.prog X.w X.outer X.H_0 X.s_0 E e' s'') s'
theorem kY.po (x:kY X E):Ew (aT X.prog X.w) X.A X.env X.xe:=by
 rw[x.xe];exact PassesOwn.leaving
section
variable {X:Cx}{E E':XK}{pins:List (ai×Obj)}{σ:St}{H H':Hp}{s s':aF}
theorem Inv.old_ne (I:Inv X pins σ H s)(e:X.s_0.heap.get? b=some o):b≠X.env.locals:=
 i6 (iK (eJ e) I.ok.above)
theorem Inv.Cq (I:Inv X pins σ H s)(e:X.s_0.heap.get? b=some o)(n:b∉X.fs):b∉fe X.stack:=λz=>by
 rcases cj.mp (I.xK b z)with q|q
 ·exact I.old_ne e q
 ·exact n q
theorem Inv.landed (I:Inv X pins σ H s)(F:ou X.prog X.w X.stack H s H' B s')(st:B.StaysIn h)(up:s'.heap.UpToSlots h):Inv X pins σ H' {s' with heap:=h}:=
 I.BN (ch:=[]) F.os (F.land I.stack I.xM st up) (F.az.kept st) F.bare (λb z=>absurd z (by simp))
theorem Inv.Ju (x:X.ex=[])(I:Inv X pins σ H s)(F:ou X.prog X.w X.stack H s H' B s')(st:B.StaysIn h)(up:s'.heap.UpToSlots h):
 ou X.prog X.w X.outer X.H_0 X.s_0 H' B {s' with heap:=h}:=by
 have i:=I.landed F st up;have bs:=i.base;rw[x]at bs;have g:∀b,b∉X.ex:=λb z=>by rw[x]at z;exact absurd z (by simp)
 refine⟨i.os,F.bare,F.az,bs,λb o e n nf=>?_,λb o e nf=>?_⟩
 ·exact F.kb b o (I.base.keep b o e n nf (g b)) (I.base.free b o e n (g b)) (I.Cq e nf)
 ·obtain⟨j,k⟩:=I.base.there b o e (g b);exact F.tb b j k (I.Cq e nf)
theorem kY.passes (x:kY X E)(h:∀c d H,E' c d H->E c d H):fZ (dg X.prog X.w) X E':=by
 intro pins σ H s e s' I i;obtain⟨a,cls,H',B,j,rfl,F,g,q⟩:=i;rw[x.xe];rw[x.kM]at g;refine wpAny_leaves_onW (by rw[I.ok.frames,x.kM]) x.yj g λk b up=>?_;exact⟨a,cls,H',B,j,rfl,I.Ju x.ex F b.1 up,b,h _ _ _ q⟩
theorem kY.raised (x:kY X E)(I:Inv X pins σ H s)(m:Heap.MadeExcOf s.heap h1 a cls args)(q:E cls none H):X.xe (.ref a) {s with heap:=h1}:=by
 rw[x.xe];have i:Yr (nL s.heap (fe X.stack)) s.heap:=λb o e=>NS _ e;have h:s.heap.FunFrames (nL s.heap (fe X.stack)) X.stack:=PySem.W.funFrames_hide I.stack λenv k b y=>zu.mpr ⟨env,k,y⟩;have g:∀b o,s.heap.get? b=some o->b∉fe X.stack->(nL s.heap (fe X.stack)).get? b=some o:=λb o e n=>NQ _ e n
 have F:ou X.prog X.w X.stack H s H (nL s.heap (fe X.stack)) {s with heap:=h1}:=by
  refine⟨rfl,I.bare,I.az.sub λb u z e=>g b u e λm=>?_,Un.kept m.keeps,λb o e _ n=>g b o e n,λb o e n=>⟨o,g b o e n⟩⟩;obtain⟨o,z⟩:=z;rw[I.xM b m]at z;cases z
 generalize nL s.heap (fe X.stack)=B at i h F;rw[x.kM]at h;refine wpAny_leaves_madeW (by rw[I.ok.frames,x.kM]) x.yj i h m λC t j _ _ up=>?_;exact⟨a,cls,H,B,_,rfl,I.Ju x.ex F j.1 up,j,q⟩
end
def pO:List ao:=[.type "Exception",.type "BaseException",.type "object"]
structure nh (K:aW)(C:ai):Prop where
 exc:Ys K C pO "Exception.__new__"=true
 look:∃nm q N bs hd sn sub ab col dd k0 k1 k2 k3 k5,K.lookup C=some (excClassObj nm q C N bs pO hd sn sub ab col dd k0 k1 k2 k3 k5 "Exception.__new__")
theorem nh.obj {K}(x:nh K C)(X:K.In h):∃nm q N bs hd b sub z y u o k j i g F,
 h.get? C=some (excClassObj nm q C N bs pO hd b sub z y u o k j i g "Exception.__new__")/\h.Ns N F/\F "__init__"=none:=by
 obtain⟨nm,q,N,bs,hd,b,sub,z,y,u,o,k,j,i,g,l⟩:=x.look;have e:=x.exc;unfold Ys at e;rw[l]at e;simp only[dZ,beq_iff_eq]at e;exact⟨nm,q,N,bs,hd,b,sub,z,y,u,o,k,j,i,g,_,X _ _ l,.of_isNs (PySem.W.isNs_of_in X e.1.2),PySem.W.nsMap_none_of_in X e.1.2 e.2⟩
section
variable {X:Cx}{E:XK}{x:Str}{C:ai}{np gU pos:Pos}
def Cr (E:XK)(C:ai):TS:=λ_ _ H=>E (.ref C) none H
theorem SE (y:kY X E)(T:X.calm=true)(U:nh X.K C)(P:Gl X x)(M:X.mg x=some (.ref C))(hd:(x==("__debug__":Str))=false:=by decide):PS X (.Raise (some (.Call (.Name x np) [] [] gU)) none pos) (Cr E C):=by
 intro W s σ H D I h;obtain⟨nm,q,N,bs,F,b,sub,L,J,G,z,u,k,j,i,g,o,ns,O⟩:=U.obj I.iD
 refine wpAny_Raise_call_sub (C:=C) (nm:=nm) (q:=q) (N:=N) (bs:=bs) (bm:=pO) (hdct:=F) (sn:=b) (sub:=sub) (ab:=L) (col:=J) (dd:=G) (k0:=z) (k1:=u) (k2:=k) (k3:=j) (k5:=i)
  PySem.F.excBase_Exception (mN:=g) (I.ok.hd T) rfl O (pD I P M ⟨rfl,?_⟩ hd)
 exact evalArgs_empty ⟨rfl,bR _,o,ns,λY e m=>y.raised I m h⟩
end
theorem SF {K}(J:nh K C)(I:nh K D)(o:K.In s.heap)
 (k:s.heap.get? e=some oe) (y:oe.cls= .ref C) (j:Q (decide (C=D)) s):aZ M A (excMatches (.ref e) (.ref D)) Q E s:=by
 obtain⟨nm,q,N,bs,hdct,P,sub,ab,col,dd,k0,k1,k2,k3,Y,X,i,_,_⟩:=J.obj o;obtain⟨U,T,N',bs',hdct',O,L,ab',col',dd',j0,j1,j2,j3,j5,W,b,_,_⟩:=I.obj o;obtain⟨h,g,d,t,os⟩:=s;dsimp only at k i b
 have G:(Value.ref D::pO).contains (.type "BaseException")=true:=by
  rw[Yt,show pO.contains (.type "BaseException")=true by decide,Oe]
 have F:(Value.ref C::pO).contains (.ref D)=decide (C=D):=by
  by_cases z:C=D
  ·subst z;simp
  ·have u:¬(Value.ref D==Value.ref C)=true:=λq=>z (by have:=beq_iff_eq.mp q;injection this with this;exact this.symm);rw[Yt,zW.mpr u,decide_eq_false z];rfl
 have f:=tc_notTuple;repeat (first|(with_reducible refine Yu k ?_;rw[y])|with_reducible refine Yu b ?_|(with_reducible refine Yv b ?_;rw[G])|(with_reducible refine Yv i ?_;rw[F])|wp_step)
 cases H:decide (C=D)<;>(rw[H]at j;wp_walk;exact j)
abbrev Cx.lK (X:Cx)(a:ai):Cx:={X with A:=X.A.mark (some (.ref a)),calm:=false,xe:=λ_ _=>False}
section
variable {X:Cx}{pins:List (ai×Obj)}{σ:St}{H:Hp}{s:aF}{a:ai}
theorem Cx.Ok.lK (ok:X.Ok)(a):(X.lK a).Ok:=
 ⟨ok.mod,ok.kind,ok.glob,ok.blt,ok.above,ok.inj,ok.has,ok.ur,λz=>kG z,ok.frames,ok.kM,ok.xJ,ok.bs,ok.m6,ok.uu,ok.uv,ok.jC,ok.pB⟩
theorem Inv.lK (I:Inv X pins σ H s)(a):Inv (X.lK a) pins σ H s:=⟨I.ok.lK a,I.os,I.bare,I.base,I.loc,I.cell,I.free,I.kc,I.pin,I.az,I.len⟩
theorem Inv.rO (ok:X.Ok)(I:Inv (X.lK a) pins σ H s):Inv X pins σ H s:=⟨ok,I.os,I.bare,I.base,I.loc,I.cell,I.free,I.kc,I.pin,I.az,I.len⟩
theorem SP.rO (ok:X.Ok)(h:SP (X.lK a) pins D f s'):SP X pins D f s':=by
 cases f with
 |next=>obtain⟨b,g,I,q⟩:=h;exact⟨b,g,I.rO ok,q⟩
 |brk=>obtain⟨b,g,I,q⟩:=h;exact⟨b,g,I.rO ok,q⟩
 |cont=>obtain⟨b,g,I,q⟩:=h;exact⟨b,g,I.rO ok,q⟩
 |ret u=>obtain⟨v,b,g,I,r,q⟩:=h;exact⟨v,b,g,I.rO ok,r,q⟩
def PH (X:Cx)(g:List ExceptHandler)(b:ai->TS):Prop:=
 ∀(pins:List (ai×Obj)) (s:aF) (σ:St) (H:Hp) (D:Ends) (a C:ai) (B:bz) (i:ao),nh X.K C->Inv X pins σ H s->zV B X.stack a (.ref C) i s.heap->
  (∀h,B.StaysIn h->s.heap.UpToSlots h->Inv X pins σ H {s with heap:=h})->b C D σ H->aZ (aT X.prog X.w) X.A (handleBy (.ref a) X.env g) (SP X pins D) X.xe s
theorem Ct:PH X [] (λ_ _ _ _=>False):=λ_ _ _ _ _ _ _ _ _ _ _ _ _ h=>h.elim
theorem mE (k:Gl X x)(j:X.mg x=some (.ref C'))(F:nh X.K C')(y:∀a,ic (X.lK a) (L::suite) ts)(i:PH X rest th)
 (hd:(x==("__debug__":Str))=false:=by decide):PH X (.ExceptHandler (some (.Name x np)) none (L::suite) pos::rest) (λC D σ H=>(C=C'->ts D σ H)/\(C≠C'->th C D σ H)):=by
 intro pins s σ H D a C B M g I b ld h;obtain⟨P,o,u⟩:=b.there;refine wpAny_handleBy_cons (codeAny_handlers_test (pD (X:=X.lK a) (I.lK a) k j ?_ hd)) (by intro q;cases q);refine SF g F I.iD o u ?_;by_cases z:C=C'
 ·rw[decide_eq_true z];refine codeAny_handlers_suite (lands_againW b λG J up=>?_);exact l_ (y a pins _ σ H D ((ld G J.1 up).lK a) (h.1 z)) (λf O q=>q.rO I.ok) λ_ _ q=>q.elim
 ·rw[decide_eq_false z];exact i pins s σ H D a C B M g I b ld (h.2 z)
abbrev Cx.ni (X:Cx)(E:ao->aF->Prop)(pn:List (ai×Obj)):Cx:={X with xe:=E,pn:=pn}
theorem Inv.ni (I:Inv X pins σ H s)(E):Inv (X.ni E (X.pn++pins)) [] σ H s:=
 ⟨⟨I.ok.mod,I.ok.kind,I.ok.glob,I.ok.blt,I.ok.above,I.ok.inj,I.ok.has,I.ok.ur,I.ok.hd,I.ok.frames,I.ok.kM,I.ok.xJ,I.ok.bs,I.ok.m6,I.ok.uu,I.ok.uv,I.ok.jC,I.ok.pB⟩,
  I.os,I.bare,I.base,I.loc,I.cell,I.free,I.kc,λp hp=>I.pin p (by simpa using hp),I.az,I.len⟩
theorem Inv.pP (ok:X.Ok)(I:Inv (X.ni E (X.pn++pins)) pins' σ H s):Inv X pins σ H s:=
 ⟨ok,I.os,I.bare,I.base,I.loc,I.cell,I.free,I.kc,λp hp=>I.pin p (kD _ hp),I.az,I.len⟩
theorem SP.pP (ok:X.Ok)(h:SP (X.ni E (X.pn++pins)) [] D f s'):SP X pins D f s':=by
 cases f with
 |next=>obtain⟨b,g,I,q⟩:=h;exact⟨b,g,I.pP ok,q⟩
 |brk=>obtain⟨b,g,I,q⟩:=h;exact⟨b,g,I.pP ok,q⟩
 |cont=>obtain⟨b,g,I,q⟩:=h;exact⟨b,g,I.pP ok,q⟩
 |ret u=>obtain⟨v,b,g,I,r,q⟩:=h;exact⟨v,b,g,I.pP ok,r,q⟩
def Jv (K:aW)(tb:XK->TS)(i:ai->TS):TS:=λD σ H=>∃g:XK,(∀c d b,g c d b->∃C,c= .ref C/\nh K C/\∀h,i C D h b)/\tb g D σ H
theorem uS (k:X.stack=X.env::X.outer)(hf:X.env.frame=some X.env.locals)
 (hb:∀i P pn,fZ (dg X.prog X.w) (X.ni P pn) i->ic (X.ni P pn) body (tb i)) (hh:PH X (G::hs) th):PS X (.Try body (G::hs) [] [] pos) (Jv X.K tb th):=by
 intro pins s σ H D I h;obtain⟨i,hE,q⟩:=h;refine wpAny_Try_except (l_ (hb i (λe s₁=>aZ (aT X.prog X.w) X.A (wj e X.env) (λ_ Y=>aZ (aT X.prog X.w) X.A (Of e none) (λ_ W=>aZ (aT X.prog X.w) X.A (handleBy e X.env (G::hs)) (SP X pins D) X.xe W) X.xe Y) X.xe s₁) (X.pn++pins) ?_ [] s σ H D (I.ni _) q) (λf y z=>?_) λ_ _ z=>z)
 ·intro pins' j H1 y e g I1 ⟨a,cls,O,B,L,e1,F,fl,qe⟩;subst e1;obtain⟨C,rfl,hC,qh⟩:=hE _ _ _ qe;have M:=I1.pP I.ok;have fl1:zV B (X.env::X.outer) a (.ref C) L g.heap:=by rw[<-k];exact fl
  refine Yw (by rw[I.ok.frames,k]) hf fl1 λh4 hd4 U=>?_;refine wpAny_landsW hd4 λh5 J T=>?_;have o:=U.trans T;have I5:Inv X pins j O {g with heap:=h5}:=M.landed (s':=g) F J.1 o;refine hh pins _ j O D a C B L hC I5 (by rw[k];exact J) (λh st up=>?_) (qh j);exact M.landed (s':=g) F st (o.trans up)
 ·have b:SP X pins D f y:=z.pP I.ok;cases f with
  |next=>exact zM b
  |brk=>exact b
  |cont=>exact b
  |ret u=>exact b
end
theorem jj {K}:
 kY (ie (dg P w) P w K mg base N qual scope f cd A outer s H E) E:=⟨rfl,rfl,rfl,rfl⟩
section
variable {P:bL}{w:bw}{K:aW}{mg:Str->Option ao}{base:bz}
theorem mD.yk {st}(F:mD K x qual st f fd)(S:jh N ps (cY st))(len:∀b H Q E,sp b H Q E->b.length=ps.length)
 (j:∀(bu) (A) (outer) (s) (H) (b) (Q) (E),cR k (A.deeper (kE qual (cY st) s.heap.objs.size f bu))->sp b H Q E->
   ∃t,ic (ie (dg P w) P w K mg base N qual (cY st) f bu A outer s H E) (ng st) t/\t {nx:=λ_ o=>Q .aB o,rt:=Q} (start N b) H):gz P w K mg base (dg P w) (k+1) f fd ps sp:=by
 obtain⟨z,y,C,G,pm,I,bu,ct,u,rfl,lk,i⟩:=F.ex;exact RQ lk i S len λA outer s H b Q E h g=>j bu A outer s H b Q E h g
def Fn (P:bL)(w:bw)(K:aW)(mg:Str->Option ao)(base:bz)(x:Str)(k:Nat)(ps:List Str)(g:Sp):Prop:=
 ∃f b,gz P w K mg base (dg P w) k f b ps g/\mg x=some (.ref f)/\tu K (.ref f)=true/\Binds K b ps []
def Mt (P:bL)(w:bw)(K:aW)(mg:Str->Option ao)(base:bz)(C:ai)(m:Str)(k:Nat)(ps:List Str)(g:Sp):Prop:=
 ∃f b,gz P w K mg base (dg P w) k f b ps g/\uG K C m f/\Binds K b ps []
def gA (P:bL)(w:bw)(K:aW)(mg:Str->Option ao)(base:bz)(x:Str)(C:ai)(k:Nat)(ps:List Str)(g:Sp):Prop:=
 ∃f b,gz P w K mg base (dg P w) k f b ps g/\Mk K C f/\mg x=some (.ref C)/\Binds K b ps []
def yl (K:aW)(mg:Str->Option ao)(x:Str)(st:aV)(ps:List Str):Prop:=∃f b,mD K x x st f b/\mg x=some (.ref f)/\Binds K b ps []
def mF (K:aW)(C:ai)(m g:Str)(st:aV)(ps:List Str):Prop:=∃f b,mD K m g st f b/\uG K C m f/\Binds K b ps []
def rP (K:aW)(mg:Str->Option ao)(x:Str)(C:ai)(g:Str)(st:aV)(ps:List Str):Prop:=∃f b,mD K "__init__" g st f b/\Mk K C f/\mg x=some (.ref C)/\Binds K b ps []
theorem yl.ok {st}(T:yl K mg x st ps)(S:jh N ps (cY st))(len:∀vs H Q E,sp vs H Q E->vs.length=ps.length)
 (b:∀(f) (bu) (A) (outer) (s) (H) (vs) (Q) (E),cR k (A.deeper (kE x (cY st) s.heap.objs.size f bu))->sp vs H Q E->
   ∃t,ic (ie (dg P w) P w K mg base N x (cY st) f bu A outer s H E) (ng st) t/\t {nx:=λ_ h=>Q .aB h,rt:=Q} (start N vs) H):Fn P w K mg base x (k+1) ps sp:=by
 obtain⟨f,g,F,h1,h2⟩:=T;exact⟨f,g,F.yk S len (b f),h1,F.kp,h2⟩
theorem mF.ok {st}(T:mF K C m qual st ps)(S:jh N ps (cY st))(len:∀vs H Q E,sp vs H Q E->vs.length=ps.length)
 (b:∀(f) (bu) (A) (outer) (s) (H) (vs) (Q) (E),cR k (A.deeper (kE qual (cY st) s.heap.objs.size f bu))->sp vs H Q E->
   ∃t,ic (ie (dg P w) P w K mg base N qual (cY st) f bu A outer s H E) (ng st) t/\t {nx:=λ_ h=>Q .aB h,rt:=Q} (start N vs) H):Mt P w K mg base C m (k+1) ps sp:=by
 obtain⟨f,g,F,h1,h2⟩:=T;exact⟨f,g,F.yk S len (b f),h1,h2⟩
theorem rP.ok {st}(T:rP K mg x C qual st ps)(S:jh N ps (cY st))(len:∀vs H Q E,sp vs H Q E->vs.length=ps.length)
 (b:∀(f) (bu) (A) (outer) (s) (H) (vs) (Q) (E),cR k (A.deeper (kE qual (cY st) s.heap.objs.size f bu))->sp vs H Q E->
   ∃t,ic (ie (dg P w) P w K mg base N qual (cY st) f bu A outer s H E) (ng st) t/\t {nx:=λ_ h=>Q .aB h,rt:=Q} (start N vs) H):gA P w K mg base x C (k+1) ps sp:=by
 obtain⟨f,g,F,h1,h2,h3⟩:=T;exact⟨f,g,F.yk S len (b f),h1,h2,h3⟩
end
section
variable {X:Cx}{k:Nat}{ps:List Str}{sp:Sp}{E:XK}{x m:Str}{C:ai}{p pos apos:Pos}{e o:cC}{es:List cC}{ta:TE}{t:TA}
theorem pf (G:Fn X.prog X.w X.K X.mg X.base x k ps sp)(y:PA X (e::es) t)(g:cR k X.A:=by exact cR.mono (by assumption) (by first|exact qL rfl|lia))(b:fZ (dg X.prog X.w) X E:=by first|exact rQ|assumption)(i:Gl X x:=by rfl)(u:(x==("__debug__":Str))=false:=by decide)
 (j:cD (e::es) X.env=(false,cb e X.env)::cD es X.env:=by rfl) (h:(iw pos (cD es X.env)).any (·.1)=false:=by rfl):PE X (.Call (.Name x p) (e::es) [] pos) (mB sp [] E t):=by
 obtain⟨f,z,F,h1,h2,h3⟩:=G;exact RI F g i h1 h2 h3 .nil b y u j h
theorem SG (G:Fn X.prog X.w X.K X.mg X.base x k ps sp)(g:cR k X.A:=by exact cR.mono (by assumption) (by first|exact qL rfl|lia))(b:fZ (dg X.prog X.w) X E:=by first|exact rQ|assumption)(h:Gl X x:=by rfl)(i:(x==("__debug__":Str))=false:=by decide):PE X (.Call (.Name x p) [] [] pos) (mB sp [] E dJ):=by
 obtain⟨f,j,F,h1,h2,h3⟩:=G;exact RJ F g h h1 h2 h3 .nil b i
theorem pm {pl}(G:Mt X.prog X.w X.K X.mg X.base C m k ps sp)(c:gy X.K C)(y:PE X o ta)(z:PA X (e::es) t)
 (j:cR k X.A:=by exact cR.mono (by assumption) (by first|exact qL rfl|lia)) (g:fZ (dg X.prog X.w) X E:=by first|exact rQ|assumption) (i:cD (e::es) X.env=(false,cb e X.env)::cD es X.env:=by rfl) (u:(iw pos (cD es X.env)).any (·.1)=false:=by rfl)
 (h:cb (.Call (.Attribute o m apos) (e::es) [] pos) X.env=(do
   let b<-cb o X.env
   zK apos.atName
   let(f,first)<-zL [b] (wa b m pl)
   EE pos f first (iw pos (cD (e::es) X.env)) (wd pos (we [] X.env))):=by rfl):
 PE X (.Call (.Attribute o m apos) (e::es) [] pos) (rH C m sp [] E ta t):=by
 obtain⟨f,H,F,h1,h2⟩:=G;exact RK (pl:=pl) y c h1 F j h2 .nil g z i u h
theorem bJ {pl}(G:Mt X.prog X.w X.K X.mg X.base C m k ps sp)(c:gy X.K C)(j:PE X o ta)
 (i:cR k X.A:=by exact cR.mono (by assumption) (by first|exact qL rfl|lia)) (g:fZ (dg X.prog X.w) X E:=by first|exact rQ|assumption) (h:cb (.Call (.Attribute o m apos) [] [] pos) X.env=(do
   let b<-cb o X.env
   zK apos.atName
   let(f,first)<-zL [b] (wa b m pl)
   EE pos f first (iw pos (cD [] X.env)) (wd pos (we [] X.env))):=by rfl):
 PE X (.Call (.Attribute o m apos) [] [] pos) (rH C m sp [] E ta dJ):=by
 obtain⟨f,u,F,h1,h2⟩:=G;exact RL (pl:=pl) j c h1 F i h2 .nil g h
theorem pk (G:gA X.prog X.w X.K X.mg X.base x C k ps sp)(y:PA X (e::es) t)(g:cR (k+1) X.A:=by exact cR.mono (by assumption) (by first|exact qL rfl|lia))(b:fZ (dg X.prog X.w) X E:=by first|exact rQ|assumption)(i:Gl X x:=by rfl)(u:(x==("__debug__":Str))=false:=by decide)
 (j:cD (e::es) X.env=(false,cb e X.env)::cD es X.env:=by rfl) (h:(iw pos (cD es X.env)).any (·.1)=false:=by rfl):PE X (.Call (.Name x p) (e::es) [] pos) (rJ C sp [] E t):=by
 obtain⟨f,z,F,h1,h2,h3⟩:=G;exact RM h1 F g i h2 h3 .nil b y u j h
theorem Jw (G:gA X.prog X.w X.K X.mg X.base x C k ps sp)(g:cR (k+1) X.A:=by exact cR.mono (by assumption) (by first|exact qL rfl|lia))(b:fZ (dg X.prog X.w) X E:=by first|exact rQ|assumption)(h:Gl X x:=by rfl)(i:(x==("__debug__":Str))=false:=by decide):PE X (.Call (.Name x p) [] [] pos) (rJ C sp [] E dJ):=by
 obtain⟨f,j,F,h1,h2,h3⟩:=G;exact RN h1 F g h h2 h3 .nil b i
end
end L2
namespace Prg
open PySem PySem.Spec PyProof.Rows L2
def top (i:Nat):aV:=Nm.main.body.getD i (.Pass ⟨0,0,0,0⟩)
abbrev Jx:aV:=inClass (top 40) 0
theorem SH:jh ["self","text"] ["self","text"] (cY Jx):=⟨rfl,rfl,rfl,by decide+kernel,rfl,by decide+kernel,by decide+kernel⟩
abbrev Jy:aV:=inClass (top 40) 1
theorem SI:jh ["self"] ["self"] (cY Jy):=⟨rfl,rfl,rfl,by decide+kernel,rfl,by decide+kernel,by decide+kernel⟩
abbrev Jz:aV:=inClass (top 40) 2
theorem SJ:jh ["self"] ["self"] (cY Jz):=⟨rfl,rfl,rfl,by decide+kernel,rfl,by decide+kernel,by decide+kernel⟩
abbrev JA:aV:=inClass (top 40) 3
theorem SK:jh ["self","sign"] ["self","sign"] (cY JA):=⟨rfl,rfl,rfl,by decide+kernel,rfl,by decide+kernel,by decide+kernel⟩
abbrev JB:aV:=inClass (top 40) 4
theorem JC:jh ["self","signs","end"] ["self","signs"] (cY JB):=⟨rfl,rfl,rfl,by decide+kernel,rfl,by decide+kernel,by decide+kernel⟩
abbrev JD:aV:=inClass (top 40) 5
theorem SM:jh ["self","sign"] ["self","sign"] (cY JD):=⟨rfl,rfl,rfl,by decide+kernel,rfl,by decide+kernel,by decide+kernel⟩
abbrev JE:aV:=inClass (top 40) 6
theorem SN:jh ["self"] ["self"] (cY JE):=⟨rfl,rfl,rfl,by decide+kernel,rfl,by decide+kernel,by decide+kernel⟩
abbrev ym:aV:=top 170
theorem JF:jh ["calls","desk","reader","answered","answer"] ["calls"] (cY ym):=⟨rfl,rfl,rfl,by decide+kernel,rfl,by decide+kernel,by decide+kernel⟩
end Prg
namespace L2
open PySem PySem.Spec PyProof.Rows
def GI (mg:Str->Option ao)(x:Str)(i:Int):Prop:=∃t,mg x=some (.int i t)
theorem aD {pos}(h:GI X.mg x i)(b:Gl X x:=by rfl)(hd:(x==("__debug__":Str))=false:=by decide):PE X (.Name x pos) (tC (.int i)):=by
 obtain⟨t,h⟩:=h;exact Rb b h ⟨t,rfl⟩ hd
structure GX (K:aW)(mg:Str->Option ao)(x:Str)(C:ai):Prop where
 glob:mg x=some (.ref C)
 exc:nh K C
theorem cO {K}{np gU pos}
 (g:GX K mg x C) (b:Gl (ie (dg P w) P w K mg base N qual scope f cd A outer s H E) x:=by rfl) (hd:(x==("__debug__":Str))=false:=by decide):
 PS (ie (dg P w) P w K mg base N qual scope f cd A outer s H E) (.Raise (some (.Call (.Name x np) [] [] gU)) none pos) (Cr E C):=SE jj rfl g.exc b g.glob hd
theorem rQ {K}:
 fZ (dg P w) (ie (dg P w) P w K mg base N qual scope f cd A outer s H E) E:=jj.passes λ_ _ _ z=>z
theorem d_ {K}:
 Ew (aT P w) (ie (dg P w) P w K mg base N qual scope f cd A outer s H E).A (ie (dg P w) P w K mg base N qual scope f cd A outer s H E).env (ie (dg P w) P w K mg base N qual scope f cd A outer s H E).xe:=jj.po
theorem bG {A B:Prop}(h1:b=true->A)(h2:b=false->B):if b=true then A else B:=by
 cases b with
 |true=>exact Sm (h1 rfl)
 |false=>exact Sl (h2 rfl)
end L2
namespace Prg
open PySem PySem.Spec PyProof.Rows L2
def bytes (t:List Nat):List V:=t.map λ(n:Nat)=>V.int (n:Int)
theorem gB (t):(bytes t).length=t.length:=bb ..
theorem SO (t)(i:Nat):(bytes t)[i]? =(t[i]?).map λ(n:Nat)=>V.int (n):=dB ..
theorem rR (t u):bytes (t++u)=bytes t++bytes u:=dA ..
theorem SQ (t)(n):(bytes t).take n=bytes (t.take n):=(lg ..).symm
theorem SR (t)(n):(bytes t).drop n=bytes (t.drop n):=(qo ..).symm
theorem Cu (t)(a b:Nat):kS (bytes t) (some (a)) (some (b))=bytes ((t.drop a).take (b-a)):=by
 unfold kS;rw[HT.uI,HT.uI,gB,SR,SQ];by_cases h:a<=t.length
 ·rw[zC h];by_cases h2:b<=t.length
  ·rw[zC h2]
  ·rw[Og (by lia),vO (by rw[o9];lia),vO (by rw[o9];lia)]
 ·rw[show min a t.length=t.length by lia,zX,ku (by lia),NK,NK]
def nj (t:List Nat):pd:= .list (t.map λ(n:Nat)=>PyData.int (n:Int))
theorem JG {K}:∀t:List Nat,pN K H (bytes t) (t.map λ(n:Nat)=>PyData.int (n))
 |[]=> .nil
 |n::t=> .cons (.int _) (JG t)
theorem yn {K}(h:ax K H a (bytes t)):Dp K H (.ref a) (nj t):= .lst h (JG t)
theorem JH:∀t:List Nat,Oh (t.map λ(n:Nat)=>PyData.int (n))=true
 |[]=>by
  rfl
 |n::t=>by
  show Oh (PyData.int (n:Int)::t.map λ(n:Nat)=>PyData.int (n:Int))=true;unfold Oh;rw[JH t];rfl
theorem JI:∀t:List Nat,Oi (t.map λ(n:Nat)=>PyData.int (n))=0
 |[]=>by
  rfl
 |n::t=>by
  show Oi (PyData.int (n:Int)::t.map λ(n:Nat)=>PyData.int (n:Int))=0;unfold Oi;rw[JI t];rfl
theorem shaped_ints (t):wg (nj t)=true:=by
 unfold wg nj;unfold PyData.canLay0 PyData.depth;rw[JH,JI];rfl
theorem JJ:∀t u:List Nat,Oj (t.map λ(n:Nat)=>PyData.int (n)) (u.map λ(n:Nat)=>PyData.int (n))=decide (t=u)
 |[],[]=>by
  rfl
 |[],n::u=>by
  rfl
 |n::t,[]=>by
  rfl
 |n::t,m::u=>by
  show Oj (PyData.int (n:Int)::t.map λ(n:Nat)=>PyData.int (n:Int)) (PyData.int (m:Int)::u.map λ(n:Nat)=>PyData.int (n:Int))=_;unfold Oj;rw[JJ t u];unfold EH
  grind
theorem JK (t u):EH (nj t) (nj u)=decide (t=u):=by
 exact JJ t u
def sgn:List Nat->Int
 |[]=> -1
 |c::_=>(c:Int)
theorem uT {c:Nat}:sgn u=(c)↔∃u',u=c::u':=by
 cases u with
 |nil=>
  constructor
  ·intro h;have:(-1:Int)=(c:Int):=h
   lia
  simp_all
 |cons d u=>
  constructor
  ·intro h;have:(d:Int)=(c:Int):=h;exact⟨u,by rw[show d=c by lia]⟩
  ·rintro⟨_,h⟩;cases h;rfl
def rf (l:ai)(p:Int):List (Str×V):=[("text",.ref l),("place",.int p)]
theorem rS (l)(p):(rf l p).lookup ("text":Str)=some (V.ref l):=by rfl
theorem km (l)(p):(rf l p).lookup ("place":Str)=some (V.int p):=by rfl
structure SS (mg:Str->Option ao):Prop where
 Cv:GI mg "BIT" (0)
 Cw:GI mg "WHOLE" (1)
 SU:GI mg "TEXT" (2)
 rT:GI mg "RECORD" (3)
 ow:GI mg "CHOICE" (4)
 rV:GI mg "ONCE" (33)
 uU:GI mg "KEYED" (37)
 JL:GI mg "MANY" (42)
 SV:GI mg "MAYBE" (63)
 SW:GI mg "WRONG_TEXT" (-1)
 SX:GI mg "NO_ROWS" (-1)
 SY:GI mg "NO_SCHEMA" (-2)
 S0:GI mg "NO_SUCH_ROW" (-3)
 S2:GI mg "NO_SUCH_COLUMN" (-4)
 S3:GI mg "TOO_MANY_ROWS" (-5)
 S4:GI mg "TOO_MANY_ENTRIES" (-6)
 S5:GI mg "WRONG_ENTRIES" (-7)
 S6:GI mg "BEHIND_THE_END" (-1)
 Cy:GI mg "QUOTE" (34)
 JM:GI mg "COMMA" (44)
 S7:GI mg "MINUS" (45)
 rW:GI mg "DIGIT_ZERO" (48)
 S8:GI mg "DIGIT_ONE" (49)
 S9:GI mg "DIGIT_NINE" (57)
 Cz:GI mg "COLON" (58)
 CB:GI mg "SEMICOLON" (59)
 CC:GI mg "CHOICE_START" (60)
 S_:GI mg "EQUALS" (61)
 CD:GI mg "CHOICE_END" (62)
 JN:GI mg "BACKSLASH" (92)
 S':GI mg "UNDERLINE" (95)
 CF:GI mg "LETTER_A" (97)
 Ta:GI mg "LETTER_B" (98)
 Tb:GI mg "LETTER_F" (102)
 Tc:GI mg "LETTER_I" (105)
 Td:GI mg "LETTER_T" (116)
 Te:GI mg "LETTER_Z" (122)
 yo:GI mg "RECORD_START" (123)
 CG:GI mg "RECORD_END" (125)
 Tf:GI mg "FIRST_PLAIN" (32)
 Tg:GI mg "LAST_PLAIN" (126)
 Th:GI mg "LONGEST_ROW" (4000)
 oy:GI mg "NO_FAULT" (0)
 Ti:GI mg "LEVEL_TOO_GREAT" (1)
 Tj:GI mg "NO_LITERAL" (2)
 Tn:GI mg "NO_BEGINNING" (3)
 To:GI mg "NOTHING_REPEATED" (4)
 Tp:GI mg "ROWS_NOT_THERE" (5)
 Tq:GI mg "MOST_ENTRIES" (1000)
 Ts:GI mg "GREATEST_BYTE" (255)
 Tt:GI mg "LONGEST_SCHEMA" (2000)
 Tu:GI mg "GREATEST_NUMBER" (999)
 Tv:GI mg "LONGEST_NAME" (12)
 Tw:GI mg "DEEPEST_GROUP" (6)
 Tz:GI mg "MOST_COLUMNS" (40)
 TB:GI mg "FEWEST_BITS" (2)
 TC:GI mg "MOST_BITS" (64)
 TF:GI mg "MOST_BYTES" (999)
 JO:GI mg "MOST_ROWS" (100)
 TH:GI mg "CALL_SCHEMA" (0)
 TJ:GI mg "CALL_PUT" (1)
 TK:GI mg "CALL_ROWS" (2)
 TM:GI mg "CALL_SHOW" (3)
 TN:GI mg "CALL_COLUMN" (4)
 TQ:GI mg "CALL_ENTRIES" (5)
 TR:GI mg "CALL_CHECK" (6)
 TU:GI mg "CALL_ASSEMBLE" (7)
 TV:GI mg "CALL_LOAD" (8)
 TX:GI mg "CALL_ADD" (9)
 TY:GI mg "CALL_DROP" (10)
 len:mg "len"=none
 range:mg "range"=none
 zip:mg "zip"=none
 enumerate:mg "enumerate"=none
 reversed:mg "reversed"=none
inductive D where
 |v (x:V)
 |lst (ds:List D)
 |ins (C:ai) (fs:List (Str×D))
abbrev Le (F G:Hp):Prop:=∀a o,F a=some o->G a=some o
theorem Le.refl (F):Le F F:=λ_ _ h=>h
theorem Le.trans (a:Le F G)(b:Le G J):Le F J:=λc o h=>b c o (a c o h)
mutual
inductive Rep (K:aW)(F:Hp):V->D->Prop
 |v (x:V):Rep K F x (.v x)
 |lst {a:ai} {xs:List V} {ds:List D}:F a=some (.lst xs)->aU K F xs ds->Rep K F (.ref a) (.lst ds)
 |ins {a C dx:ai} {fs:List (Str×V)} {gs:List (Str×D)}:F a=some (.ins C dx fs)->gy K C->(∀x∈fs,jH K C x.1)->iF K F fs gs->Rep K F (.ref a) (.ins C gs)
inductive aU (K:aW)(F:Hp):List V->List D->Prop
 |nil:aU K F [] []
 |cons {x:V} {d:D} {xs:List V} {ds:List D}:Rep K F x d->aU K F xs ds->aU K F (x::xs) (d::ds)
inductive iF (K:aW)(F:Hp):List (Str×V)->List (Str×D)->Prop
 |nil:iF K F [] []
 |cons {n:Str} {x:V} {d:D} {fs:List (Str×V)} {gs:List (Str×D)}:Rep K F x d->iF K F fs gs->iF K F ((n,x)::fs) ((n,d)::gs)
end
section
variable {K:aW}{F G:Hp}
mutual
theorem Rep.mono (l:Le F G):∀{x:V} {d:D},Rep K F x d->Rep K G x d
 |_,_,.v x=> .v x
 |_,_,.lst h r=> .lst (l _ _ h) (aU.mono l r)
 |_,_,.ins h c n r=> .ins (l _ _ h) c n (iF.mono l r)
theorem aU.mono (l:Le F G):∀{xs:List V} {g:List D},aU K F xs g->aU K G xs g
 |_,_,.nil=> .nil
 |_,_,.cons a b=> .cons (Rep.mono l a) (aU.mono l b)
theorem iF.mono (l:Le F G):∀{xs:List (Str×V)} {g:List (Str×D)},iF K F xs g->iF K G xs g
 |_,_,.nil=> .nil
 |_,_,.cons a b=> .cons (Rep.mono l a) (iF.mono l b)
end
theorem Rep.val (h:Rep K F x (.v y)):x=y:=by cases h;rfl
inductive JP (K)(F)(x:V)(ds):Prop|mk (a) (xs):x= .ref a->F a=some (.lst xs)->aU K F xs ds->JP K F x ds
inductive JQ (K)(F)(x:V)(C)(gs):Prop|mk (a dx) (fs):x= .ref a->F a=some (.ins C dx fs)->gy K C->(∀x∈fs,jH K C x.1)->iF K F fs gs->JQ K F x C gs
theorem Rep.lst_inv (h:Rep K F x (.lst ds)):JP K F x ds:=by
 cases h with
 |lst h r=>exact⟨_,_,rfl,h,r⟩
theorem Rep.nq (h:Rep K F x (.ins C gs)):JQ K F x C gs:=by
 cases h with
 |ins h c n r=>exact⟨_,_,_,rfl,h,c,n,r⟩
theorem aU.len:∀{xs} {g},aU K F xs g->xs.length=g.length
 |_,_,.nil=>rfl
 |_,_,.cons _ b=>by rw[bf,bf,b.len]
theorem aU.get:∀{g} {h} {i:Nat} {d},aU K F g h->h[i]? =some d->∃x,g[i]? =some x/\Rep K F x d
 |_,_,_,_,.nil,e=>by simp at e
 |_,_,0,_,.cons a _,e=>by simp at e;subst e;exact⟨_,rfl,a⟩
 |_,_,i+1,d,.cons _ b,e=>by
  obtain⟨x,h1,h2⟩:=aU.get (i:=i) (d:=d) b (by simpa using e);exact⟨x,by simpa using h1,h2⟩
inductive JR (K)(F)(x)(ds:List D)(i:Nat):Prop|mk (d):ds[i]? =some d->Rep K F x d->JR K F x ds i
theorem aU.get' (r:aU K F xs ds)(e:xs[i]? =some x):JR K F x ds i:=by
 have b:=r.len;obtain⟨l,_⟩:=cK.mp e;obtain⟨y,h1,h2⟩:=r.get (i:=i) (d:=ds[i]'(by lia)) (eI _);rw[e]at h1;cases h1;exact⟨_,eI _,h2⟩
theorem aU.app:∀{h g} {i es},aU K F h i->aU K F g es->aU K F (h++g) (i++es)
 |_,_,_,_,.nil,s=>s
 |_,_,_,_,.cons a b,s=> .cons a (aU.app b s)
theorem aU.snoc (a:aU K F xs ds)(b:Rep K F x d):aU K F (xs++[x]) (ds++[d]):=a.app (.cons b .nil)
theorem aU.take:∀{xs} {g} (n),aU K F xs g->aU K F (xs.take n) (g.take n)
 |_,_,0,_=> .nil
 |_,_,_+1,.nil=> .nil
 |_,_,n+1,.cons a b=> .cons a (aU.take n b)
theorem aU.drop:∀{g} {h} (n),aU K F g h->aU K F (g.drop n) (h.drop n)
 |_,_,0,r=>r
 |_,_,_+1,.nil=> .nil
 |_,_,n+1,.cons _ b=>aU.drop n b
theorem aU.erase:∀{g} {h} (n),aU K F g h->aU K F (g.eraseIdx n) (h.eraseIdx n)
 |_,_,_,.nil=> .nil
 |_,_,0,.cons _ b=>b
 |_,_,n+1,.cons a b=> .cons a (aU.erase n b)
theorem iF.get:∀{fs} {g} {f} {d},iF K F fs g->g.lookup f=some d->∃x,fs.lookup f=some x/\Rep K F x d/\∃y∈fs,y.1=f
 |_,_,_,_,.nil,e=>by simp at e
 |_,_,f,d,.cons (n:=n) a b,e=>by
  rw[nF]at e;by_cases h:(f==n)=true
  ·rw[h]at e;cases e;refine⟨_,?_,a,_,aH,(beq_iff_eq.mp h).symm⟩;rw[nF,h]
  ·have h:(f==n)=false:=zW.mpr h;rw[h]at e;obtain⟨x,h1,h2,y,h3,h4⟩:=iF.get b e;refine⟨x,?_,h2,y,aR _ h3,h4⟩;rw[nF,h];exact h1
theorem iF.none:∀{fs} {g} {f},iF K F fs g->g.lookup f=none->fs.lookup f=none
 |_,_,_,.nil,e=>rfl
 |_,_,f,.cons (n:=n) a b,e=>by
  rw[nF]at e⊢;by_cases h:(f==n)=true
  ·rw[h]at e;cases e
  ·have h:(f==n)=false:=zW.mpr h;rw[h]at e⊢;exact iF.none b e
end
def yp (K:aW):HO->Prop
 | .ins C _ fs=>gy K C/\∀x∈fs,jH K C x.1
 | .lst _=>True
 |_=>False
structure af (K:aW)(H F:Hp)(M:List (ai×HO)):Prop where
 le:Le F H
 cell:∀x∈M,H x.1=some x.2/\F x.1=none/\yp K x.2
 nd:(M.map (·.1)).Nodup
section
variable {K:aW}{H F:Hp}{M:List (ai×HO)}{a p:ai}{o u:HO}{x y z w:ai×HO}
theorem af.at (h:af K H F ((a,o)::M)):H a=some o:=(h.cell (a,o) aH).1
theorem af.dv (h:af K H F (x::(a,o)::M)):H a=some o:=(h.cell (a,o) (aR _ aH)).1
theorem af.at2 (h:af K H F (x::y::(a,o)::M)):H a=some o:=(h.cell (a,o) (aR _ (aR _ aH))).1
theorem af.ok (h:af K H F ((a,o)::M)):yp K o:=(h.cell (a,o) aH).2.2
theorem af.drop (h:af K H F (x::M)):af K H F M:=⟨h.le,λz b=>h.cell z (aR _ b),(pb.mp (by simpa using h.nd)).2⟩
theorem af.perm (h:af K H F M)(q:M.Perm N):af K H F N:=⟨h.le,λz b=>h.cell z (q.mem_iff.mpr b),(q.map _).nodup_iff.mp h.nd⟩
theorem af.sw (h:af K H F (x::y::M)):af K H F (y::x::M):=h.perm (.swap y x M)
theorem af.ig (h:af K H F (x::y::z::M)):af K H F (z::x::y::M):=h.perm ((List.Perm.cons x (.swap z y M)).trans (.swap z x (y::M)))
theorem af.mG (h:af K H F (x::y::z::w::M)):af K H F (w::x::y::z::M):=(h.perm (List.Perm.cons x ((List.Perm.cons y (.swap w z M)).trans (.swap w y (z::M))))).sw
theorem af.in1 (h:af K H F (x::y::z::M)):af K H F (x::z::y::M):=h.perm (.cons x (.swap z y M))
theorem af.TZ (h:af K H F M)(n:H p=none):F p=none:=by
 cases q:F p with
 |none=>rfl
 |some o=>rw[h.le _ _ q]at n;cases n
theorem af.CH (h:af K H F M)(n:H p=none):∀x∈M,x.1≠p:=λx b e=>by
 have:=(h.cell x b).1;rw[e,n]at this;cases this
theorem af.new (h:af K H F M)(n:H p=none)(ok:yp K o):af K (upd H p o) F ((p,o)::M):=by
 refine⟨λb u e=>by rw[du (j_ (h.le _ _ e) n)];exact h.le _ _ e,λz g=>?_,?_⟩
 ·rcases cj.mp g with q|q
  ·rw[q];exact⟨jB,h.TZ n,ok⟩
  ·obtain⟨h1,h2,h3⟩:=h.cell z q;exact⟨by rw[du (h.CH n z q)];exact h1,h2,h3⟩
 ·rw[cu,pb];refine⟨λz=>?_,h.nd⟩;obtain⟨y,i,e⟩:=dU.mp z;exact h.CH n y i e
theorem af.cP (h:af K H F M)(n:H p=none):af K (upd H p (.lst xs)) F ((p,.lst xs)::M):=h.new n trivial
theorem af.set (h:af K H F ((a,o)::M))(ok:yp K u):af K (upd H a u) F ((a,u)::M):=by
 have g:=(h.cell (a,o) aH).2.1;have j:a∉M.map (·.1):=(pb.mp (show(a::M.map (·.1)).Nodup from h.nd)).1;refine⟨λb v e=>by rw[du (λz=>by rw[z,g]at e;cases e)];exact h.le _ _ e,λz i=>?_,by simpa using h.nd⟩;rcases cj.mp i with q|q
 ·rw[q];exact⟨jB,g,ok⟩
 ·obtain⟨h1,h2,h3⟩:=h.cell z (aR _ q);refine⟨?_,h2,h3⟩;rw[du]
  ·exact h1
  ·intro e;exact j (by rw[<-e];exact dY q)
theorem af.eh (h:af K H F ((a,.lst xs)::M)):af K (upd H a (.lst ys)) F ((a,.lst ys)::M):=h.set trivial
theorem af.gQ (h:af K H F ((a,o)::M)):af K H (upd F a o) M:=by
 have i:a∉M.map (·.1):=(pb.mp (show(a::M.map (·.1)).Nodup from h.nd)).1;refine⟨λb v e=>?_,λz g=>?_,(pb.mp (by simpa using h.nd)).2⟩
 ·by_cases q:b=a
  ·subst q;rw[jB]at e;cases e;exact h.at
  ·rw[du q]at e;exact h.le _ _ e
 ·obtain⟨h1,h2,h3⟩:=h.cell z (aR _ g);refine⟨h1,?_,h3⟩;rw[du]
  ·exact h2
  ·intro e;exact i (by rw[<-e];exact dY g)
theorem af.uV (h:af K H F ((a,o)::M)):Le F (upd F a o):=λb v e=>by
 rw[du (λz=>by rw[z,(h.cell (a,o) aH).2.1]at e;cases e)];exact e
theorem af.old (h:af K H F M)(n:H p=none):af K (upd H p o) F M:=
 ⟨λb u e=>by rw[du (j_ (h.le _ _ e) n)];exact h.le _ _ e,λz g=>⟨by rw[du (h.CH n z g)];exact(h.cell z g).1,(h.cell z g).2⟩,h.nd⟩
theorem af.make (h:af K H F M)(n:H p=none)(nd:H dx=none)(ne:dx≠p)(c:gy K C):af K (upd (upd H dx (.own p)) p (.ins C dx [])) F ((p,.ins C dx [])::M):=
 (h.old nd).new (by rw[du (λz=>ne z.symm)];exact n) ⟨c,λx z=>absurd z (by simp)⟩
end
section
variable {K:aW}{H F:Hp}{M:List (ai×HO)}{Q:VK}{x:V}
theorem dK (h:af K H F M)(r:Rep K F x (.ins C gs))(l:gs.lookup f=some (.v y))(q:Q y H):gR K f x H Q:=by
 obtain⟨a,dx,fs,rfl,e,c,n,rf⟩:=r.nq;obtain⟨z,i,g,b,m,j⟩:=rf.get l;have:=g.val;subst this;exact⟨a,C,dx,fs,z,rfl,h.le _ _ e,c,by rw[<-j];exact n b m,i,q⟩
theorem rF (h:af K H F M)(r:Rep K F x (.ins C gs))(l:gs.lookup f=some d)(q:∀v,Rep K F v d->Q v H):gR K f x H Q:=by
 obtain⟨a,dx,fs,rfl,e,c,n,rf⟩:=r.nq;obtain⟨z,i,g,b,m,j⟩:=rf.get l;exact⟨a,C,dx,fs,z,rfl,h.le _ _ e,c,by rw[<-j];exact n b m,i,q z g⟩
theorem mem_lookup:∀{fs:List (Str×V)},fs.lookup f=some v->∃y∈fs,y.1=f
 |[],e=>by simp at e
 |(n,x)::fs,e=>by
  rw[nF]at e;by_cases h:(f==n)=true
  ·exact⟨_,aH,(beq_iff_eq.mp h).symm⟩
  ·have h:(f==n)=false:=zW.mpr h;rw[h]at e;obtain⟨y,h3,h4⟩:=mem_lookup e;exact⟨y,aR _ h3,h4⟩
theorem rM (h:af K H F ((a,.ins C dx fs)::M))(l:fs.lookup f=some v)(q:Q v H):gR K f (.ref a) H Q:=by
 obtain⟨c,n⟩:=h.ok;obtain⟨y,m,e⟩:=mem_lookup l;exact⟨a,C,dx,fs,v,rfl,h.at,c,by rw[<-e];exact n y m,l,q⟩
end
section
variable {K:aW}{H F:Hp}{M:List (ai×HO)}
def Cl (K:aW)(C:ai)(ns:List Str):Prop:=gy K C/\∀f∈ns,jH K C f
theorem CJ:∀{fs},∀z∈fK f y fs,z.1=f\/∃w∈fs,w.1=z.1
 |[],z,h=> .inl (by rw[show z=(f,y)from g7.mp h])
 |(g,x)::fs,z,h=>by
  unfold fK at h;split at h
  ·rcases cj.mp h with q|q
   ·exact .inr ⟨(g,x),aH,by rw[q]⟩
   ·exact .inr ⟨z,aR _ q,rfl⟩
  ·rcases cj.mp h with q|q
   ·exact .inr ⟨(g,x),aH,by rw[q]⟩
   ·rcases CJ z q with w|⟨w,hw,e⟩
    ·exact .inl w
    ·exact .inr ⟨w,aR _ hw,e⟩
theorem wN (h:af K H F ((a,.ins C dx fs)::M))(n:jH K C f)(l:fs.length<1000)(q:∀b,af K b F ((a,.ins C dx (fK f y fs))::M)->P b):xZ K f (.ref a) y H P:=by
 obtain⟨c,nn⟩:=h.ok;refine⟨a,C,dx,fs,rfl,h.at,c,n,l,q _ (h.set ⟨c,λz g=>?_⟩)⟩;rcases CJ z g with e|⟨w,hw,e⟩
 ·rw[e];exact n
 ·rw[<-e];exact nn w hw
theorem wM (h:af K H F ((a,.ins C dx fs)::M))(e:fs.lookup f=some v)(l:fs.length<1000)(q:∀b,af K b F ((a,.ins C dx (fK f y fs))::M)->P b):xZ K f (.ref a) y H P:=by
 obtain⟨w,g,i⟩:=mem_lookup e;exact wN h (by rw[<-i];exact h.ok.2 w g) l q
theorem aM {P:ai->ai->V->Prop}(h:af K H F ((a,.ins C dx fs)::M))(e:fs.lookup f=some v)(q:P a C v):
 ∃b C dx fs v,V.ref a= .ref b/\H b=some (.ins C dx fs)/\gy K C/\jH K C f/\fs.lookup f=some v/\P b C v:=by
 obtain⟨w,g,i⟩:=mem_lookup e;exact⟨a,C,dx,fs,v,rfl,h.at,h.ok.1,by rw[<-i];exact h.ok.2 w g,e,q⟩
theorem oz {P:Hp->Prop}(h:af K H F ((a,.ins C dx fs)::M))(e:fs.lookup f=some v)(l:fs.length<1000)(q:∀j,af K j F ((a,.ins C dx (fK f z fs))::M)->P j):
 ∃i b,H a=some (.ins C i b)/\b.length<1000/\P (upd H a (.ins C i (fK f z b))):=by
 refine⟨dx,fs,h.at,l,q _ (h.set ⟨h.ok.1,λy k=>?_⟩)⟩;obtain⟨w,o,u⟩:=mem_lookup e;rcases CJ y k with g|⟨x,hx,g⟩
 ·rw[g,<-u];exact h.ok.2 w o
 ·rw[<-g];exact h.ok.2 x hx
inductive pQ (K)(H F)(M)(v)(d):Prop|mk (F'):Le F F'->af K H F' M->Rep K F' v d->pQ K H F M v d
theorem af.bM (h:af K H F ((a,.lst xs)::M))(r:aU K F xs ds):pQ K H F M (.ref a) (.lst ds):=
 ⟨_,h.uV,h.gQ,.lst jB (r.mono h.uV)⟩
theorem af.lL (h:af K H F ((a,.ins C dx fs)::M))(r:iF K F fs gs):pQ K H F M (.ref a) (.ins C gs):=
 ⟨_,h.uV,h.gQ,.ins jB h.ok.1 h.ok.2 (r.mono h.uV)⟩
def bP (t:List Nat):D:= .lst (t.map λ(n:Nat)=> .v (.int (n:Int)))
def eF (t:List Int):D:= .lst (t.map λn=> .v (.int n))
def nums (t:List Int):List V:=t.map V.int
theorem oA (t):aU K F (bytes t) (t.map λ(n:Nat)=> .v (.int (n))):=by
 induction t with
 |nil=>exact .nil
 |cons n t b=>exact .cons (.v _) b
theorem pR (t):aU K F (nums t) (t.map λn=> .v (.int n)):=by
 induction t with
 |nil=>exact .nil
 |cons n t b=>exact .cons (.v _) b
theorem JS:∀{t} {g},aU K F g (t.map λ(n:Nat)=> .v (.int (n)))->g=bytes t
 |[],_,.nil=>rfl
 |n::t,_,.cons a b=>by
  rw[a.val,JS b];rfl
theorem JT:∀{t} {g},aU K F g (t.map λn=> .v (.int n))->g=nums t
 |[],_,.nil=>rfl
 |n::t,_,.cons a b=>by
  rw[a.val,JT b];rfl
inductive CK (F:Hp)(x:V)(xs):Prop|mk (a):x= .ref a->F a=some (.lst xs)->CK F x xs
theorem Rep.nats (h:Rep K F x (bP t)):CK F x (bytes t):=by
 obtain⟨a,xs,e,h1,r⟩:=h.lst_inv;exact⟨a,e,by rw[h1,JS r]⟩
theorem Rep.nums (h:Rep K F x (eF t)):CK F x (nums t):=by
 obtain⟨a,xs,e,h1,r⟩:=h.lst_inv;exact⟨a,e,by rw[h1,JT r]⟩
theorem T1 (h:F a=some (.lst (bytes t))):Rep K F (.ref a) (bP t):= .lst h (oA t)
theorem JU (t):bytes t=nums (t.map λ(n:Nat)=>(n)):=by
 unfold bytes nums;rw[bZ];rfl
end
end Prg
namespace L2
open PySem PySem.Spec PyProof.Rows
section
variable {P:bL}{w:bw}{K:aW}{mg:Str->Option ao}{base:bz}
end
end L2
namespace Prg
open PySem PySem.Spec PyProof.Rows L2
structure dz where
 r:ai
 dx:ai
 l:ai
 t:List Nat
abbrev dz.fs (R:dz)(u:List Nat):List (Str×V):=rf R.l ((R.t.length-u.length:Nat):Int)
abbrev dz.cell (C:ai)(R:dz)(u:List Nat):ai×HO:=(R.r,.ins C R.dx (R.fs u))
structure dz.Ok (F:Hp)(R:dz)(u:List Nat):Prop where
 tx:F R.l=some (.lst (bytes R.t))
 eK:∃v,R.t=v++u
 len:R.t.length<=20000
theorem dz.Ok.mono {R:dz}(h:R.Ok F u)(l:Le F G):R.Ok G u:=⟨l _ _ h.tx,h.eK,h.len⟩
theorem dz.Ok.sub {R:dz}(h:R.Ok F u)(s:∃v,u=v++u'):R.Ok F u':=by
 obtain⟨v,e⟩:=h.eK;obtain⟨b,g⟩:=s;exact⟨h.tx,⟨v++b,by rw[e,g,c9]⟩,h.len⟩
theorem dz.Ok.drop {R:dz}(h:R.Ok F u):R.t.drop (R.t.length-u.length)=u/\u.length<=R.t.length:=by
 obtain⟨v,e⟩:=h.eK;simp_all
theorem dz.Ok.get {R:dz}(h:R.Ok F u):R.t[R.t.length-u.length]? =u.head?:=by
 have e:=h.drop.1;have:(R.t.drop (R.t.length-u.length)).head?=u.head?:=by rw[e]
 rw[zY]at this;omega
structure oB (K:aW)(mg:Str->Option ao)(C WT:ai):Prop where
 cl:Cl K C ["text","place"]
 len:mg "len"=none
 bt:GI mg "BEHIND_THE_END" (-1)
 wt:GX K mg "WrongText" WT
section
variable {P:bL}{w:bw}{K:aW}{mg:Str->Option ao}{base:bz}{C WT:ai}
inductive CL (K)(C)(vs:List V)(H)(Q:VK)(E:XK):Prop|mk (r dx l) (F) (M):vs=[.ref r,.ref l]->af K H F ((r,.ins C dx [])::M)->(∀H',af K H' F ((r,.ins C dx (rf l 0))::M)->Q .aB H')->CL K C vs H Q E
inductive yq (K)(C)(vs:List V)(H)(Q:VK)(E:XK):Prop|mk (R:dz) (u) (F) (M):vs=[.ref R.r]->af K H F (R.cell C u::M)->R.Ok F u->Q (.int (sgn u)) H->yq K C vs H Q E
inductive yr (K)(C)(vs:List V)(H)(Q:VK)(E:XK):Prop|mk (r dx l) (p) (F) (M):vs=[.ref r]->af K H F ((r,.ins C dx (rf l p))::M)->(∀H',af K H' F ((r,.ins C dx (rf l (p+1)))::M)->Q .aB H')->yr K C vs H Q E
inductive uW (K)(C)(vs:List V)(H)(Q:VK)(E:XK):Prop|mk (R:dz) (u) (c:Nat) (F) (M):vs=[.ref R.r,.int (c)]->af K H F (R.cell C u::M)->R.Ok F u->(((∀u',u≠c::u')->Q (.bl false) H))->((∀u',u=c::u'->∀H',af K H' F (R.cell C u'::M)->R.Ok F u'->Q (.bl true) H'))->uW K C vs H Q E
inductive CM (K)(C)(vs)(H)(Q:VK)(E:XK):Prop|mk (R:dz) (u g) (q) (F) (M):vs=[.ref R.r,q]->af K H F (R.cell C u::M)->R.Ok F u->Rep K F q (bP g)->(((∀u',u≠g++u')->∀H',af K H' F (R.cell C u::M)->Q (.bl false) H'))->((∀u',u=g++u'->∀H',af K H' F (R.cell C u'::M)->R.Ok F u'->Q (.bl true) H'))->CM K C vs H Q E
inductive yt (K)(C WT)(vs:List V)(H)(Q:VK)(E:XK):Prop|mk (R:dz) (u) (c:Nat) (F) (M):vs=[.ref R.r,.int (c)]->af K H F (R.cell C u::M)->R.Ok F u->(((∀u',u≠c::u')->E (.ref WT) none H))->((∀u',u=c::u'->∀H',af K H' F (R.cell C u'::M)->R.Ok F u'->Q .aB H'))->yt K C WT vs H Q E
inductive CN (K)(C WT)(vs:List V)(H)(Q:VK)(E:XK):Prop|mk (R:dz) (u) (F) (M):vs=[.ref R.r]->af K H F (R.cell C u::M)->R.Ok F u->((u≠[]->E (.ref WT) none H))->((u=[]->Q .aB H))->CN K C WT vs H Q E
theorem T2 (F:rP K mg "Reader" C "Reader.__init__" Jx ["self","text"])(T:oB K mg C WT):gA P w K mg base "Reader" C 1 ["self","text"] (CL K C):=by
 refine F.ok SH (λb H Q E h=>?_) λf bu A outer s H b Q E i h=>?_
 ·obtain⟨r,dx,l,_,_,rfl,_⟩:=h;rfl
 ·obtain⟨r,dx,l,F,M,rfl,h1,k⟩:=h;refine⟨_,ah (bI (pv 0) (pv 1) rfl) (ak (bI (pv 0) aY rfl)),?_⟩;refine(wN h1 (T.cl.2 _ (.head _)) (by show 0<1000;decide) λg h2=>?_);exact(wN h2 (T.cl.2 _ (.tail _ (.head _))) (by show 1<1000;decide) λg h3=>k _ h3)
theorem T3 (F:mF K C "peek" "Reader.peek" Jy ["self"])(T:oB K mg C WT):Mt P w K mg base C "peek" 1 ["self"] (yq K C):=by
 refine F.ok SI (λo H Q E h=>?_) λf bu A outer s H o Q E z h=>?_
 ·obtain⟨R,u,_,_,rfl,_⟩:=h;rfl
 ·obtain⟨R,u,F,M,rfl,b,j,k⟩:=h;refine⟨_,(ah (aL (aP jf (ay (pv 0) rfl) (cM cE (by rfl) T.len cT (ae (ay (pv 0) rfl) ag))) (ak (aC (d8 dS (ay (pv 0) rfl) (ay (pv 0) rfl)))) aS) (ak (aC (aD T.bt)))),?_⟩;have i:=b.le _ _ j.tx;refine(rM b (km _ _) (rM b (rS _ _) ⟨R.l,_,rfl,.inl (ax.of i),_,_,rfl,rfl,?_⟩));rw[gB];have y:=j.get;refine uR (λq=>?_) λq=>?_
  ·have g:R.t.length-u.length<R.t.length:=by simpa using q
   cases u with
   |nil=>simp at g
   |cons c u=>exact(rM b (rS _ _) (rM b (km _ _) ⟨R.l,_,_,_,rfl,rfl,ax.of i,uJ (by rw[SO,y];rfl),k⟩))
  ·have g:R.t.length<=R.t.length-u.length:=by simpa using q
   cases u with
   |nil=>exact k
   |cons c u=>
    simp_all
theorem T4 (F:mF K C "step" "Reader.step" Jz ["self"])(T:oB K mg C WT):Mt P w K mg base C "step" 1 ["self"] (yr K C):=by
 refine F.ok SJ (λg H Q E h=>?_) λf bu A outer s H g Q E o h=>?_
 ·obtain⟨r,dx,l,p,_,_,rfl,_⟩:=h;rfl
 ·obtain⟨r,dx,l,p,F,M,rfl,b,k⟩:=h;refine⟨_,ak (mz (pv 0) aY n9),?_⟩;exact(aM b (km _ _) (oz b (km _ _) (by show 2<1000;decide) λj i=>k j i))
theorem T5 (F:mF K C "take" "Reader.take" JA ["self","sign"])(T:oB K mg C WT)(I:Mt P w K mg base C "peek" 1 ["self"] (yq K C))(G:Mt P w K mg base C "step" 1 ["self"] (yr K C)):
 Mt P w K mg base C "take" 2 ["self","sign"] (uW K C):=by
 refine F.ok SK (λj H Q E h=>?_) λf bu A outer s H j Q E L h=>?_
 ·obtain⟨R,u,c,_,_,rfl,_⟩:=h;rfl
 ·obtain⟨R,u,c,F,M,rfl,g,i,y,o⟩:=h;refine⟨_,(ah (aL (aP je (bJ I T.cl.1 (pv 0)) (pv 1)) (ak (aC kN)) aS) (ah (ba (bJ G T.cl.1 (pv 0))) (ak (aC kN)))),?_⟩;refine⟨R.r,R.dx,_,rfl,g.at,rfl,R,u,F,M,rfl,g,i,rfl,?_⟩;refine uR (λq=>?_) λq=>?_
  ·refine y λb e=>?_;have:=uT.mpr ⟨b,e⟩
   grind
  ·have k:sgn u=(c:Int):=by simpa using q
   obtain⟨b,e⟩:=uT.mp k;subst e;refine⟨R.r,R.dx,_,rfl,g.at,rfl,R.r,R.dx,R.l,_,F,M,rfl,g,λJ O=>?_⟩;have z:=i.sub (u':=b) ⟨[c],rfl⟩;refine o b rfl J ?_ z
   have U:((R.t.length-(c::b).length:Nat):Int)+1=((R.t.length-b.length:Nat):Int):=by
    have:=i.drop.2
    grind
   simp_all
theorem T6 (F:mF K C "expect" "Reader.expect" JD ["self","sign"])(T:oB K mg C WT)(gt:Mt P w K mg base C "take" 2 ["self","sign"] (uW K C)):
 Mt P w K mg base C "expect" 3 ["self","sign"] (yt K C WT):=by
 refine F.ok SM (λg H Q E h=>?_) λf bu A outer s H g Q E J h=>?_
 ·obtain⟨R,u,c,_,_,rfl,_⟩:=h;rfl
 ·obtain⟨R,u,c,F,M,rfl,b,y,k,j⟩:=h;refine⟨_,(ak (aL (lE (c_ (pm gt T.cl.1 (pv 0) (ae (pv 1) ag)))) (ak (cO T.wt)) aS)),?_⟩;refine⟨R.r,R.dx,_,rfl,b.at,rfl,R,u,c,F,M,rfl,b,y,λz=>?_,λi e I G o=>?_⟩
  ·exact(k z)
  ·exact(j i e I G o)
theorem T7 (F:mF K C "expect_end" "Reader.expect_end" JE ["self"])(T:oB K mg C WT):Mt P w K mg base C "expect_end" 1 ["self"] (CN K C WT):=by
 refine F.ok SN (λi H Q E h=>?_) λf bu A outer s H i Q E G h=>?_
 ·obtain⟨R,u,_,_,rfl,_⟩:=h;rfl
 ·obtain⟨R,u,F,M,rfl,b,g,k,j⟩:=h;refine⟨_,(ak (aL (aP je (ay (pv 0) rfl) (cM cE (by rfl) T.len cT (ae (ay (pv 0) rfl) ag))) (ak (cO T.wt)) aS)),?_⟩;have o:=b.le _ _ g.tx;refine(rM b (km _ _) (rM b (rS _ _) ⟨R.l,_,rfl,.inl (ax.of o),rfl,?_⟩));rw[gB];have hd:=g.drop.2;refine uR (λq=>?_) λq=>?_
  ·refine k λz=>?_;subst z;simp at q
  ·refine j (iq.mp ?_);have y:((R.t.length-u.length:Nat):Int)=(R.t.length:Int):=by simpa using q
   lia
theorem T8 (F:mF K C "take_all" "Reader.take_all" JB ["self","signs"])(T:oB K mg C WT):Mt P w K mg base C "take_all" 1 ["self","signs"] (CM K C):=by
 refine F.ok JC (λI H Q E h=>?_) λf bu A outer s H I Q E W h=>?_
 ·obtain⟨R,u,g,q,_,_,rfl,_⟩:=h;rfl
 ·obtain⟨R,u,g,q,F,M,rfl,b,i,Y,O,L⟩:=h;obtain⟨J,rfl,X⟩:=Y.nats;have nd:=JC.nd;have U:=b.le _ _ i.tx;have k:=b.le _ _ X;refine⟨_,(ah (aN 2 (de lG (ay (pv 0) rfl) (cM cE (by rfl) T.len cT (ae (pv 1) ag)))) (ah (aL (aP (R9 W.units) (m9 lH (ay (pv 0) rfl) (ji (ay (pv 0) rfl)) (ji (pv 2))) (pv 1)) (ak (aC kN)) aS) (ah (bI (pv 0) (pv 2) rfl) (ak (aC kN))))),?_⟩;refine(rM b (km _ _) ⟨J,_,rfl,.inl (ax.of k),_,_,rfl,rfl,?_⟩);refine(rM b (rS _ _) (rM b (km _ _) ⟨_,rfl,_,rfl,R.l,_,rfl,ax.of U,λp hp=>?_⟩))
  have e1:((R.t.length-u.length:Nat):Int)+((bytes g).length:Int)=((R.t.length-u.length+g.length:Nat):Int):=by
   rw[gB]
   lia
  rw[e1,Cu,zy,i.drop.1];refine⟨nj (u.take g.length),nj g,yn (ax.of jB),yn (ax.of (by rw[du (j_ k hp)];exact k)),shaped_ints _,shaped_ints _,?_⟩;rw[JK];have G:=b.old (o:= .lst (bytes (u.take g.length))) hp;refine bG (λz=>?_) λz=>?_
  ·have j:¬u.take g.length=g:=by simpa using z
   refine O (λu' e=>j ?_) _ G;rw[e,vX];rfl
  ·have j:u.take g.length=g:=by simpa using z
   have y:u=g++u.drop g.length:=by
    have:=il g.length u;rw[j]at this;exact this.symm
   refine(wM G (km _ _) (by show 2<1000;decide) λH2 h2=>?_);refine L (u.drop g.length) y _ ?_ (i.sub ⟨g,y⟩)
   have e3:R.t.length-u.length+g.length=R.t.length-(u.drop g.length).length:=by
    have h3:=i.drop.2
    have h4:g.length<=u.length:=by
     rw[y,aQ]
     lia
    rw[o9]
    lia
   rw[e3]at h2;exact h2
end
open Hd (g_ cU iN kI nQ dot)
structure Cs where
 jk:ai
 Field:ai
 fh:ai
 gX:ai
 jm:ai
 lM:ai
 lN:ai
 mH:ai
 mI:ai
 kZ:ai
 T9:ai
 Reader:ai
 Literal:ai
 gk:ai
 ij:ai
 Fault:ai
 Entry:ai
 lO:ai
 gC:ai
 nr:ai
 Row:ai
 bW:ai
 el:ai
def oE (c:Cs):Nat->ai
 |1=>c.jk
 |16=>c.Field
 |40=>c.Reader
 |69=>c.Literal
 |97=>c.gk
 |98=>c.ij
 |114=>c.Fault
 |124=>c.Entry
 |125=>c.lO
 |126=>c.gC
 |139=>c.nr
 |165=>c.Row
 |166=>c.bW
 |167=>c.el
 |_=>0
def rX (i j:Nat):Bool:=[1,16,40,69,97,98,114,124,125,126,139,165,166,167].contains i&&lr i 171&&nQ true (top i)&&(((kI (top i)).take j).all g_&&g_ ((kI (top i)).getD j (.Pass ⟨0,0,0,0⟩)))
structure Tx (K:aW)(mg:Str->Option ao)(c:Cs):Prop where
 cst:SS mg
 jk:Cl K c.jk ["total","numbers"]
 Field:Cl K c.Field ["name","mode","path","repetition","definition","kind","size","fields","first_column","end_column","repeating_levels"]
 eG:GX K mg "WrongText" c.fh
 mJ:GX K mg "NoRows" c.gX
 yu:GX K mg "NoSchema" c.jm
 uX:GX K mg "NoSuchRow" c.lM
 rY:GX K mg "NoSuchColumn" c.lN
 uY:GX K mg "TooManyRows" c.mH
 yw:GX K mg "TooManyEntries" c.mI
 oF:GX K mg "WrongEntries" c.kZ
 T_:GX K mg "UnknownCall" c.T9
 Reader:Cl K c.Reader ["text","place"]
 Literal:Cl K c.Literal ["signs","meaning"]
 gk:Cl K c.gk ["field","entries","position"]
 ij:Cl K c.ij ["field","tracks","branches"]
 Fault:Cl K c.Fault ["kind","column_place","entry_place"]
 Entry:Cl K c.Entry ["repetition","definition","literal"]
 lO:Cl K c.lO ["field","entries"]
 gC:Cl K c.gC ["numbers","position"]
 nr:Cl K c.nr ["record","columns"]
 Row:Cl K c.Row ["text","entries"]
 bW:Cl K c.bW ["schema","kept"]
 el:Cl K c.el ["calls","position"]
 T':lq K (.ref c.ij) "__eq__"=some (some (.builtin "object.__eq__"))
 fn:∀i,(lr i 171&&g_ (top i))=true->yl K mg (cU (top i)) (top i) (iN (jI (top i)))
 mt:∀i j,rX i j=true->mF K (oE c i) (cU (inClass (top i) j)) (dot (cU (top i)) (cU (inClass (top i) j))) (inClass (top i) j) (iN (jI (inClass (top i) j)))
 mi:∀i,(rX i 0&&cU (inClass (top i) 0)==("__init__":Str))=true->rP K mg (cU (top i)) (oE c i) (dot (cU (top i)) (cU (inClass (top i) 0))) (inClass (top i) 0) (iN (jI (inClass (top i) 0)))
theorem Tx.rd {K}(T:Tx K mg c):oB K mg c.Reader c.fh:=⟨T.Reader,T.cst.len,T.cst.S6,T.eG⟩
def uZ (N ps:List Str)(sc:fD):Bool:=(match sc.kind with| .function=>true|_=>false)&& !sc.isCoroutine&& !sc.isGenerator&&decide N.Nodup&&N.take ps.length==ps&&ps.all (λx=>match sc.names.lookup x with|some .local=>true|some .cell=>true|_=>false)&&sc.names.all (λy=>match y.2 with| .free=>false|_=>true)
theorem CO (h:uZ N ps sc=true):jh N ps sc:=by
 unfold uZ at h;simp only[dZ,Bool.not_eq_true',decide_eq_true_eq,fR]at h;obtain⟨⟨⟨⟨⟨⟨h1,h2⟩,h3⟩,h4⟩,h5⟩,h6⟩,h7⟩:=h;refine⟨?_,h2,h3,h4,eq_of_beq h5,λx g=>?_,λy b e=>?_⟩
 ·split at h1
  ·assumption
  ·cases h1
 ·have:=h6 x g;split at this
  ·exact .inl ‹_›
  ·exact .inr ‹_›
  ·cases this
 ·have:=h7 y b;rw[e]at this;cases this
def CP (i:Nat)(x:Str)(ps N:List Str):Bool:=(lr i 171&&g_ (top i))&&(x==cU (top i)&&ps==iN (jI (top i)))&&uZ N ps (cY (top i))
def JV (i j:Nat)(m:Str)(ps N:List Str):Bool:=rX i j&&(m==cU (inClass (top i) j)&&ps==iN (jI (inClass (top i) j)))&&uZ N ps (cY (inClass (top i) j))
def JW (i:Nat)(x:Str)(ps N:List Str):Bool:=(rX i 0&&cU (inClass (top i) 0)==("__init__":Str))&&(x==cU (top i)&&ps==iN (jI (inClass (top i) 0)))&&uZ N ps (cY (inClass (top i) 0))
section
variable {P:bL}{w:bw}{K:aW}{mg:Str->Option ao}{base:bz}{c:Cs}{x m:Str}{ps:List Str}{k:Nat}{sp:Sp}{C:ai}
theorem CQ {a b c d}(h:(a&&(b&&c)&&d)=true):a=true/\b=true/\c=true/\d=true:=by
 revert h;cases a<;>cases b<;>cases c<;>cases d<;>simp
abbrev Bd (P:bL)(w:bw)(K:aW)(mg:Str->Option ao)(base:bz)(k:Nat)(sp:Sp)(N:List Str)(g:Str)(st:aV):Prop:=∀(f:ai) (bu:ao) (A:fm) (outer:List Env) (s:aF) (H:Hp) (b:List V) (Q:VK) (E:XK),N.Nodup->cR k (A.deeper (kE g (cY st) s.heap.objs.size f bu))->sp b H Q E->
 ∃t,ic (ie (dg P w) P w K mg base N g (cY st) f bu A outer s H E) (ng st) t/\t {nx:=λ_ h=>Q .aB h,rt:=Q} (start N b) H
theorem Tx.fO (T:Tx K mg c)(i)(N)(g:Bd P w K mg base k sp N x (top i))(h:CP i x ps N=true:=by decide+kernel)(len:∀b H Q E,sp b H Q E->b.length=ps.length:=by(intro _ _ _ _ h;cases h;subst_vars;rfl)):Fn P w K mg base x (k+1) ps sp:=by
 obtain⟨h1,h2,h3,h4⟩:=CQ h;have F:=T.fn i h1;rw[<-eq_of_beq h2,<-eq_of_beq h3]at F;have S:=CO h4;exact F.ok S len λf bu A outer s H b Q E=>g f bu A outer s H b Q E S.nd
theorem Tx.nv (T:Tx K mg c)(i)(z:∀b H Q E,¬sp b H Q E)(h:CP i x ps ps=true:=by decide+kernel):Fn P w K mg base x (k+1) ps sp:=T.fO i ps (λ_ _ _ _ _ _ _ _ _ _ _ e=>absurd e (z _ _ _ _)) h λ_ _ _ _ e=>absurd e (z _ _ _ _)
theorem Tx.mO (T:Tx K mg c)(i j)(N)(g:Bd P w K mg base k sp N (dot (cU (top i)) m) (inClass (top i) j))(h:JV i j m ps N=true:=by decide+kernel)(len:∀b H Q E,sp b H Q E->b.length=ps.length:=by(intro _ _ _ _ h;cases h;subst_vars;rfl))(o:C=oE c i:=by rfl):Mt P w K mg base C m (k+1) ps sp:=by
 obtain⟨h1,h2,h3,h4⟩:=CQ h;have F:=T.mt i j h1;rw[<-eq_of_beq h2,<-eq_of_beq h3,<-o]at F;have S:=CO h4;exact F.ok S len λf bu A outer s H b Q E=>g f bu A outer s H b Q E S.nd
theorem Tx.kO (T:Tx K mg c)(i)(N)(g:Bd P w K mg base k sp N (dot (cU (top i)) (cU (inClass (top i) 0))) (inClass (top i) 0))(h:JW i x ps N=true:=by decide+kernel)(len:∀b H Q E,sp b H Q E->b.length=ps.length:=by(intro _ _ _ _ h;cases h;subst_vars;rfl))(j:C=oE c i:=by rfl):gA P w K mg base x C (k+1) ps sp:=by
 obtain⟨h1,h2,h3,h4⟩:=CQ h;have F:=T.mi i h1;have e:=eq_of_beq h2;rw[<-eq_of_beq h3,<-j]at F;have S:=CO h4;refine rP.ok (x:=x) ?_ S len λf bu A outer s H b Q E=>g f bu A outer s H b Q E S.nd;rw[e];exact F
end
end Prg
namespace L2
open PySem PySem.Spec PyProof.Rows
section
variable {M:Model}{A:fm}{E:ao->aF->Prop}{s:aF}
theorem JX (P:base.StaysIn s.heap)(O:s.heap.FunFrames base l)(L:s.heap.TracedAtW base e cls a0 fl)
 (h:∀i,base.StaysIn i->i.FunFrames base l->i.TracedAtW base e cls a0 (fr.elim Value.none λf=>tp f)->s.heap.UpToSlots i->Q () {s with heap:=i}):aZ M A (Of (.ref e) fr) Q E s:=by
 obtain⟨J,k,T,X,W,G,U,hd,h1,F,H,I,u,h3⟩:=L;have C:=(Ol.mp h3).1
 have other:∀b,b≠T->(s.heap.update T (Yx (·.setIfInBounds 3 (fr.elim Value.none λf=>tp f)))).get? b=s.heap.get? b:=
  λb g=>Oa _ _ (mT g)
 have z:∀b o,s.heap.get? b=some o->(∀k,o.data≠.fields k)->b≠T:=λb o g j q=>by
  simp_all
 refine cH (EL G hd h1 ?_)
 refine wpAny_setField I u C (h _ (λb o y=>(other b λq=>by rw[q,F]at y;cases y).trans (P b o y))
  (O.of_keeps λb o g j=>⟨o,(other b (z b o g j)).trans g,rfl⟩) ?_ λb o g j=>⟨o.slots,(other b (z b o g j)).trans g⟩)
 exact⟨J,k,T,_,_,(other e (mT H)).trans G,U,hd,h1,F,H,Heap.get?_update_self _ I (Obj.isFreed_of_fields (Yy u _)),Yy u _,by simp[C]⟩
theorem Ua
 (hfr:A.frames=some (env::outer)) (I:s.heap.FunFrames base (env::outer)) (O:env.frame=some L) (ht:s.heap.TracedAtW base e cls a0 fl) (J:base.StaysIn s.heap) (P:base.get? e=none)
 (hQ:∀i,zV base outer e cls a0 i->s.heap.UpToSlots i->Q () {s with heap:=i}):aZ M A (EF env (.ref e)) Q E s:=by
 have fin:∀(h:aF) (X:ao),s.heap.UpToSlots h.heap->h={s with heap:=h.heap}->base.StaysIn h.heap->h.heap.FunFrames base (env::outer)->h.heap.TracedAtW base e cls a0 X->aZ M A (Of (.ref e) none) Q E h:=by
  intro h X up es k1 k2 k3;refine JX k1 k2 k3 λi c1 F c3 c4=>?_;obtain⟨_,_,F⟩:=F;rw[es];exact hQ i ⟨c1,P,F,c3⟩ (up.trans c4)
 unfold EF;obtain⟨oe,k,T,oT,ts,u,⟨hcls,W⟩,hd,h1,H,U,C,y,h3⟩:=ht;subst hcls;unfold wj;simp only[O];refine cH (cH (EL u hd h1 ?_));rw[if_pos (show(Value.ref T !=Value.none)=true from by simp)];refine cH (EL C y h3 ?_);by_cases g:(fl==tp L)=true
 ·rw[if_pos g];refine fG (fin s fl (λb o g hn=>⟨o.slots,g⟩) rfl J I ⟨oe,k,T,oT,ts,u,⟨rfl,W⟩,hd,h1,H,U,C,y,h3⟩)
 ·rw[if_neg g];refine cH (wpAny_setField C y (Ol.mp h3).1 ?_);have other:∀b,b≠T->(s.heap.update T (Yx (·.setIfInBounds 3 Value.none))).get? b=s.heap.get? b:=λb g=>Oa _ _ (mT g)
  have G:∀b o,s.heap.get? b=some o->(∀k,o.data≠.fields k)->b≠T:=λb o g j q=>by
   grind
  refine wpAny_entryW hfr (I.of_keeps λb o g j=>⟨o,(other b (G b o g j)).trans g,rfl⟩) O ((other e (mT U)).trans u)
   (λb o z=>(other b λq=>by rw[q,H]at z;cases z).trans (J b o z)) P hd (Ol.mp h1).1 W λi ⟨x1,x2,x3,Y⟩=>?_
  exact fin _ _ (λb o g j=>Y b o ((other b (G b o g j)).trans g) j) rfl x1 x2 x3
theorem Ub (h:env.frame=env'.frame):wj e env=wj e env':=by
 unfold wj PySem.frameOf;rw[h]
theorem JY {h C F i:bz}:∀{l},h.FunFrames F l->C.FunFrames i l->h.FunFrames i l
 |[],_,_=>trivial
 |env::l,x,y=>by
  obtain⟨k,⟨L,o,g,_,u,hd⟩,r⟩:=x;obtain⟨_,⟨H,G,b,z,_,_⟩,j⟩:=y;rw[g]at b;cases b;exact⟨k,⟨L,o,g,z,u,hd⟩,JY r j⟩
end
abbrev Cx.nt (X:Cx)(s:aF)(H:Hp)(scope:fD)(g:Env)(b:List ai)(xe:ao->aF->Prop):Cx:={X.gf s H scope g b with xe:=xe}
theorem Uc (x:kY X E)(hE:∀c d H,E' c d H->E c d H){σ:St}(j:Inv X pins σ H3 s3){ce:Env}(hce:ce.frame=X.env.frame)(hcl:ce.locals=s3.heap.objs.size)
 (f3:∀b∈fp,kf X pins H3 b/\b<s3.heap.objs.size):
 fZ (dg X.prog X.w) (X.nt s3 H3 scope ce fp (tF (aT X.prog X.w) X.A ce λe s'=>EM (aT X.prog X.w) X.A X.xe use Qf (.ref D) s3.heap.objs.size (.error e) s')) E':=by
 intro pins' σ' H' s' e k I hc;obtain⟨a,cls,U,B,a0,rfl,F,fl,q⟩:=hc;have F:ou X.prog X.w X.stack H' s' U B k:=F;have fl:zV B X.stack a cls a0 k.heap:=fl;rw[x.kM]at fl;show aZ _ X.A (wj (.ref a) ce) _ _ k;rw[Ub hce]
 have hfr:X.A.frames=some (X.env::X.outer):=by
  have:X.A.frames=some X.stack:=I.ok.frames;rw[this,x.kM]
 refine Yw hfr x.yj fl λh' hh up=>?_;have P:=I.landed F hh.1 up;obtain⟨m,hn0,_⟩:=P.loc;have hn:h'.Ns ce.locals m:=hn0;clear hn0;rw[hcl]at hn
 have nC:U s3.heap.objs.size=none:=by
  have z:U ce.locals=none:=P.free;simp_all
 have I7:Inv X pins σ U {k with heap:=h'}:=j.BN (ch:=fp) P.os P.base P.az P.bare λb M=>⟨(f3 b M).1.2.2.2.1,(f3 b M).1.2.1,(f3 b M).1.2.2.2.2.1,(f3 b M).1.2.2.2.2.2⟩;obtain⟨f0,f1,f2,f3',f4,f5⟩:=j.rD (bA _) nC;generalize hC:s3.heap.objs.size=C at*
 have go:∀h3,Eu C h' h3->∀cenv:Env,cenv.locals=C->aZ (aT X.prog X.w) X.A (passOn "comprehension.variables-let-go" (.ref a) cenv:Sem ao) (λ_ _=>False) X.xe {k with heap:=h3}:=by
  intro h3 sb cenv _;have O:Inv X pins σ U {k with heap:=h3}:=I7.turned (t':=k.toks) (λb o M e=>(sb.2 b M).trans e) f0 f1 f3' f4 f5;have hBB:Yr (nL B [C]) B:=λb o e=>NS _ e;have hBC:(nL B [C]).get? C=none:=X2 _ (.head _);have hBn:∀b o,B.get? b=some o->b≠C->(nL B [C]).get? b=some o:=λb o e n=>NQ _ e (by simpa using n);have hh2:=PySem.W.heldW_base hBB hh;generalize nL B [C]=B' at hBB hBC hBn hh2;obtain⟨k1,k2,k3,oe,W,T,oT,ts,he,hcls,hd,h1,hnT,hTe,hT,hdT,h3t⟩:=hh2
  have recC:∀b o W,h'.get? b=some o->o.data= .fields W->b≠C:=λb o W e d z=>by
   obtain⟨o',es,ep,ho',hd',_⟩:=hn;simp_all
  have kb3:B'.StaysIn h3:=λb o e=>by
   have n:b≠C:=λz=>by rw[z,hBC]at e;cases e
   exact(sb.2 b n).trans (k1 b o e)
  have fr3:h3.FunFrames B' (X.env::X.outer):=by
   have s1:h3.FunFrames X.base X.stack:=O.stack;rw[x.kM]at s1;exact JY s1 k3
  have he3:h3.get? a=some oe:=(sb.2 a (recC a oe W he hd)).trans he;have ht3:h3.TracedAtW B' a cls a0 (tp X.env.locals):=⟨oe,W,T,oT,ts,he3,hcls,hd,h1,hnT,hTe,(sb.2 T (recC T oT ts hT hdT)).trans hT,hdT,h3t⟩;unfold PySem.passOn;refine cH (EL he3 hd h1 ?_);rw[if_neg (show¬(Value.ref T==Value.none)=true from by simp)];refine cH (JX kb3 fr3 ht3 λh4 c1 c2 c3 up4=>wpAny_throw ?_);rw[x.xe];refine Ua hfr c2 x.yj c3 c1 k2 λh5 fl5 up5=>⟨a,cls,U,B',a0,rfl,?_,fl5,hE _ _ _ q⟩;have up35:h3.UpToSlots h5:=up4.trans up5;have bs:=O.base;rw[x.ex]at bs;have nx:∀b:ai,b∉([]:List ai):=λb z=>absurd z (by simp);have G:∀b,b∉X.ex:=λb z=>by rw[x.ex]at z;exact absurd z (by simp)
  have key:∀b o,X.s_0.heap.get? b=some o->b∉X.fs->b∉fp/\b∉fe X.stack/\b≠C:=λb o e nf=>by
   refine⟨λz=>?_,j.Cq e nf,λz=>?_⟩
   ·rcases(f3 b z).1.2.2.2.1 with w|w
    ·exact G b w
    ·exact absurd (eJ e) (Eb.mpr w)
   ·have:=j.base.there b o e (G b);obtain⟨o',i⟩:=this;have:=eJ i;rw[hC,z]at this;exact qE _ this
  have kb:∀b o,X.s_0.heap.get? b=some o->X.H_0 b=none->b∉X.fs->B'.get? b=some o:=λb o e n nf=>by
   obtain⟨L,J,n3⟩:=key b o e nf;have g:=j.base.keep b o e n nf (G b);have h:=j.base.free b o e n (G b);have e3:=I.base.keep b o g h J L;have e4:=I.base.free b o g h L;exact hBn b o (F.kb b o e3 e4 J) n3
  refine⟨O.os,O.bare,F.az.sub λb u z e=>hBn b u e λw=>?_,?_,kb,λb o e nf=>?_⟩
  ·obtain⟨o,z⟩:=z;rw[w,nC]at z;cases z
  ·refine⟨λb o e n nf _=>fl5.1 b o (kb b o e n nf),λb o e n m _=>?_,λb o e n y=>bs.free b o e n y,λb o e y=>?_,bs.tups,bs.frzs,bs.tbls⟩
   ·obtain⟨sl,g⟩:=bs.slot b o e n m (nx b);have ff:=O.jC;obtain⟨_,o',i,d⟩:=ff.mem m;have i:h3.get? b=some o':=i;have g:h3.get? b=some {o with slots:=sl}:=g;rw[g]at i;cases i;exact up35 b {o with slots:=sl} g d
   ·by_cases m:b∈X.fs
    ·obtain⟨o1,g⟩:=bs.there b o e (nx b);obtain⟨_,o',i,d⟩:=O.jC.mem m;obtain⟨sl,h⟩:=up35 b o' i d;exact⟨_,h⟩
    ·obtain⟨L,J,n3⟩:=key b o e m;obtain⟨o1,g⟩:=j.base.there b o e (G b);obtain⟨o2,h⟩:=I.base.there b o1 g L;obtain⟨Y,e3⟩:=F.tb b o2 h J;exact⟨Y,fl5.1 _ _ (hBn b Y e3 n3)⟩
  ·obtain⟨L,J,n3⟩:=key b o e nf;obtain⟨o1,g⟩:=j.base.there b o e (G b);obtain⟨o2,h⟩:=I.base.there b o1 g L;obtain⟨Y,e3⟩:=F.tb b o2 h J;exact⟨Y,hBn b Y e3 n3⟩
 cases use with
 |none=>exact⟨m,hn,go⟩
 |some u=>exact⟨m,hn,go⟩
section
variable {X:Cx}{pins:List (ai×Obj)}{σ:St}{H:Hp}{s s3:aF}{H3:Hp}{scope:fD}{ce:Env}{fp:List ai}{xe:ao->aF->Prop}
theorem Inv.Ud (I:Inv (X.gf s3 H3 scope ce fp) pins σ H s):Inv (X.nt s3 H3 scope ce fp xe) pins σ H s:=by
 obtain⟨⟨a1,P,O,M,L,J,G,F,C,a10,a11,a12,a13,a14,Y,W,U,T⟩,u,o,k,j,i,h,g,b,z,y⟩:=I;exact⟨⟨a1,P,O,M,L,J,G,F,C,a10,a11,a12,a13,a14,Y,W,U,T⟩,u,o,k,j,i,h,g,b,z,y⟩
theorem Inv.Ue (I:Inv (X.nt s3 H3 scope ce fp xe) pins σ H s):Inv (X.gf s3 H3 scope ce fp) pins σ H s:=by
 obtain⟨⟨a1,P,O,M,L,J,G,F,C,a10,a11,a12,a13,a14,Y,W,U,T⟩,u,o,k,j,i,h,g,b,z,y⟩:=I;exact⟨⟨a1,P,O,M,L,J,G,F,C,a10,a11,a12,a13,a14,Y,W,U,T⟩,u,o,k,j,i,h,g,b,z,y⟩
theorem JZ (hxE:kY X E)(hE:∀c d H,E' c d H->E c d H)
 (hc:X.calm=true) (hN:X.N.Nodup) (I:Inv X pins σ H s) (hi:PI X tg iter wi) (ok:uM X.N X.env.scope scope own)
 (hg:∀(s) (H) (C) (cl) (fp),PG (X.gf s H scope (i7 scope cl C X.env) fp) tg g) (ht:∀(s) (H) (C) (cl) (fp),uN (X.gf s H scope (i7 scope cl C X.env) fp) ifs tt)
 (he:∀(s) (H) (C) (cl) (fp) (xe),fZ (dg X.prog X.w) (X.nt s H scope (i7 scope cl C X.env) fp xe) E'->PE (X.nt s H scope (i7 scope cl C X.env) fp xe) elt te) (hs:∀x,Ey iter X.env x=pure x)
 (h:Cm wi g tt te (own.map (·.2)) σ H Q)
 (hRR:∀D C L m G,Inv X pins σ G L->Q (.ref D) G->L.heap.Ns C m->kf X pins G C->EM (aT X.prog X.w) X.A X.xe use Qf (.ref D) C (.ok .next) L):
 aZ (aT X.prog X.w) X.A (comprehension (.ListComp elt [⟨tg,iter,ifs,0⟩] scope pos) scope X.env pos' (newList []) false (cb iter X.env) use) Qf X.xe s:=by
 have hfree:∀y∈scope.names,y.2= .free->∃c,X.env.cells.lookup y.1=some c:=λy hy e=>by
  rcases ok.free y hy e with k|k
  ·exact I.ok.has _ (.inl k)
  ·exact I.ok.has _ (.inr k)
 refine wpAny_comprehension_free (use:=use) rfl hs (R' hfree) ok.kind (λy hy e=>by rw[ok.uniq y hy,e])
  (bc (hi pins s σ H _ I h) λxv s1 hx=>bc hx λitv Y h2=>?_)
 obtain⟨it,fp,tn,J,P,e,I2,T,st2,f2,q⟩:=h2;subst e;refine wpAny_newObj_type (Sa ?_) (by show 0<=bH;decide);generalize hD:Y.heap.objs.size=D;have hDn:P D=none:=I2.az.fresh (sZ hD);obtain⟨W,⟨m0,w0⟩,turn⟩:=q D hDn;generalize hs3:({Y with heap:=Y.heap.push {cls:= .type "list",data:= .seq ([]:List ao).toArray}}:aF)=s3
 have I3:Inv X pins σ (upd P D (.lst [])) s3:=by
  rw[<-hs3];refine I2.laid (t':=Y.toks) (λb o e=>jR _ e) (sZ hD) ⟨bR _,[],0,.nil,?_⟩;rw[<-hD];exact nM _ rfl
 have h3:s3.heap=Y.heap.push {cls:= .type "list",data:= .seq ([]:List ao).toArray}:=by rw[<-hs3]
 have sz:∀b∈fp,b<Y.heap.objs.size:=λb F=>by
  obtain⟨o,e,_⟩:=T.obj _ _ st2 b F;exact eJ e
 have O:∀b∈fp,kf X pins (upd P D (.lst [])) b/\b<s3.heap.objs.size:=λb F=>by
  have hlt:=sz b F;refine⟨⟨?_,(f2 b F).2⟩,by rw[h3,nO];exact Ef hlt⟩;rw[du (by rw[<-hD];exact i6 hlt)];exact(f2 b F).1
 have st3:tn 0 s3.heap:=T.keep _ _ _ st2 λb _ o e=>by rw[h3];exact jR _ e
 have I4:=Sb I3 ok hN O;have pg:=hg s3 (upd P D (.lst [])) s3.heap.objs.size (gu (s3.heap.objs.size+1) scope.names (f7 X.env.cells scope.names [])) fp;have pt:=ht s3 (upd P D (.lst [])) s3.heap.objs.size (gu (s3.heap.objs.size+1) scope.names (f7 X.env.cells scope.names [])) fp;have pe:=he s3 (upd P D (.lst [])) s3.heap.objs.size (gu (s3.heap.objs.size+1) scope.names (f7 X.env.cells scope.names [])) fp _ (Uc hxE hE (scope:=scope) (ce:=i7 scope (gu (s3.heap.objs.size+1) scope.names (f7 X.env.cells scope.names [])) s3.heap.objs.size X.env) (use:=use) (Qf:=Qf) (D:=D) I3 rfl rfl O);show tq _ _ (.compStart (.ListComp elt [⟨tg,iter,ifs,0⟩] scope pos) 0 (.ref it) (.ref D) (i7 scope (gu (s3.heap.objs.size+1) scope.names (f7 X.env.cells scope.names [])) s3.heap.objs.size X.env)) (EM (aT X.prog X.w) X.A X.xe use Qf (.ref D) s3.heap.objs.size) {s3 with heap:=qI (s3.heap.push {cls:= .type "dict",data:= .dict #[]}) scope.names};have nfp:∀b∈fp,(upd P D (.lst [])) b=none:=λb F=>(O b F).1.1;generalize hce:i7 scope (gu (s3.heap.objs.size+1) scope.names (f7 X.env.cells scope.names [])) s3.heap.objs.size X.env=ce at I4 pg pt pe⊢;have cL:ce.locals=s3.heap.objs.size:=by subst hce;rfl
 generalize hH3:upd P D (.lst [])=H3 at I3 I4 pg pt pe w0 nfp O;generalize hs4:({s3 with heap:=qI (s3.heap.push {cls:= .type "dict",data:= .dict #[]}) scope.names}:aF)=s4 at I4⊢;have st4:tn 0 s4.heap:=T.keep _ _ _ st3 λb _ o e=>by rw[<-hs4];exact EI _ _ _ _ (jR _ e)
 have stat:∀{σ':St} {G:Hp} {L:aF},Inv (X.gf s3 H3 scope ce fp) [] σ' G L->(∀b∈fp,G b=none)->∀b∈fp,kf (X.gf s3 H3 scope ce fp) [] G b:=λ{σ' G L} I' hn b F=>
  ⟨hn b F,(I'.ok.xJ b F).1,I'.ok.uv b F,.inl F,λx c e=>(I'.ok.xJ b F).2 x c e,λp hp=>absurd (show p∈([]:List (ai×Obj))++[]from hp) (by simp)⟩
 have loop:tq (aT X.prog X.w) X.A (.compLoop (.ListComp elt [⟨tg,iter,ifs,0⟩] scope pos) 0 (.ref it) (.ref D) ce) (EM (aT X.prog X.w) X.A X.xe use Qf (.ref D) s3.heap.objs.size) s4:=by
  refine Se (λn L=>∃i G,Inv (X.gf s3 H3 scope ce fp) [] (wipe σ (own.map (·.2))) G L/\tn i L.heap/\(∀b∈fp,G b=none)/\W i n G) ?_ m0 ⟨0,H3,I4,st4,nfp,w0⟩;rintro n s5 ⟨i,U,I5,st5,n5,w5⟩;rcases turn i n U w5 with⟨stop,qq⟩|⟨go,Nx,hNx,step⟩
  ·have td:=T.done (X.gf s3 H3 scope ce fp) rfl rfl rfl hc i [] s5 _ U (λ_ _=>False) I5 (stat I5 n5) st5 stop;refine uO td λr s6 ⟨hr,I6⟩=>?_;subst hr;have I7:Inv X pins σ U s6:=I3.BN (ch:=fp) I6.os I6.base I6.az I6.bare λb F=>⟨(O b F).1.2.2.2.1,(O b F).1.2.1,(O b F).1.2.2.2.2.1,(O b F).1.2.2.2.2.2⟩
   have nC:U s3.heap.objs.size=none:=by
    have z:U ce.locals=none:=I6.free;rw[cL]at z;exact z
   obtain⟨m,hn,_⟩:=I6.loc;have hn:s6.heap.Ns ce.locals m:=hn;rw[cL]at hn;exact hRR D s3.heap.objs.size s6 m U I7 qq hn (I3.rD (bA _) nC)
  ·have ti:=T.item (X.gf s3 H3 scope ce fp) rfl rfl rfl hc i [] s5 _ U (λ_ _=>False) I5 (stat I5 n5) st5 go;refine uO ti λr s6 M=>?_;obtain⟨u,hr,h6⟩:=M;subst hr;refine uO h6 λ_ s7 M=>?_;obtain⟨x,H7,I7,r7,y7,st7,n7⟩:=M;have I7':=I7.pinned (stat I7 n7) (T.obj _ _ st7);refine uO (pg _ s7 _ H7 x u _ I7' r7 (step x H7 y7)) λ_ s8 M=>?_;obtain⟨σ8,H8,I8,hw8,q8⟩:=M;refine uO (pt _ s8 σ8 H8 _ I8 q8) λb s9 M=>?_;obtain⟨H9,I9,q9⟩:=M
   have fin:∀{L:aF} {G:Hp},Inv (X.gf s3 H3 scope ce fp) ([]++uE fp s7.heap) σ8 G L->Nx G->∃m,m<n/\∃i G,Inv (X.gf s3 H3 scope ce fp) [] (wipe σ (own.map (·.2))) G L/\tn i L.heap/\(∀b∈fp,G b=none)/\W i m G:=λ{L G} I' nx=>by
    obtain⟨m',hm,w'⟩:=hNx G nx
    have pin':∀b∈fp,∀o,s7.heap.get? b=some o->L.heap.get? b=some o/\G b=none:=λb F o e=>
     let z:=I'.pin (b,o) (kC _ (kC _ (BV F e)))
     ⟨z.1,z.2.1⟩
    have hl:(wipe σ (own.map (·.2))).length=σ8.length:=by rw[<-hw8,Ci]
    refine⟨m',hm,i+1,G,(I'.xT (pins:=[])).weak hl (λj v e=>?_),T.keep _ _ _ st7 λb F o e=>(pin' b F o e).1,λb F=>?_,w'⟩
    ·rw[<-hw8]at e;exact(Cj e).1
    ·obtain⟨o,e,_⟩:=T.obj _ _ st7 b F;exact(pin' b F o e).2
   cases b with
   |false=>
    simp only[Bool.false_eq_true,if_false]at q9⊢;exact fin I9 q9
   |true=>
    simp only[if_true]at q9⊢;refine bc (pe _ s9 σ8 H9 _ I9.Ud q9) λz s10 M=>?_;obtain⟨yv,H10,I10e,Aa,acc,hD10,hz10,nx⟩:=M;have I10:=I10e.Ue;exact Sd (X:=X.gf s3 H3 scope ce fp) I10 hD10 hz10 Aa λs11 I11=>fin I11 nx
 exact codeAny_compStart_list loop (T.self X.A 0 _ _ _ st4 loop)
theorem nu (k:kY X E)(P:∀c d H,E' c d H->E c d H)(L:X.calm=true)(O:X.N.Nodup)(F:PI X tg iter wi)(ok:uM X.N X.env.scope scope own)
 (G:∀(s) (H) (C) (cl) (fp),PG (X.gf s H scope (i7 scope cl C X.env) fp) tg g) (u:∀(s) (H) (C) (cl) (fp),uN (X.gf s H scope (i7 scope cl C X.env) fp) ifs tt)
 (J:∀(s) (H) (C) (cl) (fp) (xe),fZ (dg X.prog X.w) (X.nt s H scope (i7 scope cl C X.env) fp xe) E'->PE (X.nt s H scope (i7 scope cl C X.env) fp xe) elt te) (y:∀x,Ey iter X.env x=pure x:=by intro _;rfl):
 PE X (.ListComp elt [⟨tg,iter,ifs,0⟩] scope pos) (Cm wi g tt te (own.map (·.2))):=by
 intro pins s σ H Q I h;refine JZ k P L O I F ok G u J y h λD C j m H' I' q z f=>⟨m,z,λh'' i=>?_⟩;obtain⟨Y,f1,f2,W,U,T⟩:=f;exact⟨.ref D,H',I'.turned (t':=j.toks) (λb o M e=>(i.2 b M).trans e) Y f1 W U T,rfl,q⟩
theorem CS (O:kY X E)(hE:∀c d H,E' c d H->E c d H)(hc:X.calm=true)(u:X.N.Nodup)(M:X.N[i]? =some y)(k:X.env.scope.names.lookup y=some .local)
 (T:tf (.ListComp elt [⟨tg,iter,ifs,0⟩] scope pos) (some (.Name y py)) spos.line X.env=pure true) (hi:PI X tg iter wi) (ok:uM X.N X.env.scope scope own)
 (hg:∀(s) (H) (C) (cl) (fp),PG (X.gf s H scope (i7 scope cl C X.env) fp) tg g) (P:∀(s) (H) (C) (cl) (fp),uN (X.gf s H scope (i7 scope cl C X.env) fp) ifs tt)
 (he:∀(s) (H) (C) (cl) (fp) (xe),fZ (dg X.prog X.w) (X.nt s H scope (i7 scope cl C X.env) fp xe) E'->PE (X.nt s H scope (i7 scope cl C X.env) fp xe) elt te) (U:∀x,Ey iter X.env x=pure x:=by intro _;rfl):
 PS X (.Assign [.Name y py] (.ListComp elt [⟨tg,iter,ifs,0⟩] scope pos) spos) (xS (Cm wi g tt te (own.map (·.2))) (pF i)):=by
 intro pins s σ H D I h;rw[exec_Assign_Name_used _ _ _ _ T];refine cH (wpAny_standAt (cH ?_));refine cH (bc (JZ O hE (Qf:=λ_ j=>SP X pins D .next j) hc u I hi ok hg P he U h λL C j m H' I' q Y f=>?_) λ_ j W=>fG (fG W));refine X8 (HW (v:=V.ref L) I' u M (.inl k) rfl (λJ I2 z=>?_) (.inr k));obtain⟨a,G,ha⟩:=z;obtain⟨f0,f1,f2,f3,f4,f5⟩:=f
 have haC:C≠a:=by
  grind
 refine⟨m,Y.sameBut G haC,λh3 F=>?_⟩;exact⟨_,H',I2.turned (t':=J.toks) (λb o hb e=>(F.2 b hb).trans e) f0 f1 f3 f4 f5,q⟩
end
section
variable {prog:bL}{w:bw}{A:fm}{E:ao->aF->Prop}{s:aF}{K:aW}{x C:ai}{ox:Obj}{od:Option Obj}
theorem Ug (X:K.In s.heap)(I:EB s.heap x ox C od)(hp:zO K C=true)(i:Q .notImplemented s):
 aZ (aT prog w) A (call (.builtin "object.__eq__") [.ref x,.none]) Q E s:=by
 obtain⟨g,h,b⟩:=X_ hp;have ne:g.mro.isEmpty=false:=by cases q:g.mro with|nil=>rw[q]at b;cases b|cons _ _=>rfl
 have sub:PySem.W.Looks (aT prog w) s.heap (isInstance (.ref x) (.type "object")) true:=I.type.andThen (PySem.W.looks_mroIn X (by unfold PySem.W.mroIn;rw[h,Option.bind_some,if_neg (by rw[ne];decide),PySem.W.only_has b]));refine N6 (codeAny_call_builtin F.cmp_object.eq.plain F.cmpEntry_eq (@PySem.W.check_slot (aT prog w) _ _ s "object.__eq__" "object" "__eq__" (.ref x) [.none] [] _ F.cmpKind_eq F.cmpSplit_eq sub (F.cmpArgs_eq _ _) ?_));repeat (first|with_reducible refine wpAny_of_eq (rfl:isSame (.ref x) .none=pure false) ?_|wp_step)
 omega
theorem Uh (X:K.In s.heap)(I:EB s.heap x ox C od)(hp:zO K C=true)(g:lq K (.ref C) "__eq__"=some (some (.builtin "object.__eq__")))(i:Q none s):
 aZ (aT prog w) A (tryCompare (.ref x) "__eq__" .none) Q E s:=by
 have go:aZ (aT prog w) A (callSpecialIfBound? (.ref x) "__eq__" [.none]) (λr b=>r=some .notImplemented/\b=s) E s:=by
  refine Om (cH (cH (cH (I.type.here ((Yb X g).here ?_)))));refine cH (wpAny_askSetting (wpAny_ite ?_))
  have fin:aZ (aT prog w) A (call (.builtin "object.__eq__") ([.ref x]++[.none])>>=λv=>pure (some v)) (λr b=>r=some .notImplemented/\b=s) E s:=
   cH (Ug X I hp (fG ⟨rfl,rfl⟩))
  split
  ·exact cH (fG (fG fin))
  ·exact wpAny_tryCatch (cH (fG (fG fin)))
 refine cH (l_ go (λr b h=>?_) λ_ _ h=>h);obtain⟨rfl,rfl⟩:=h;exact fG i
theorem Ui (b:A.units<qH)(X:K.In s.heap)(I:EB s.heap x ox C od)(hp:zO K C=true)(g:lq K (.ref C) "__eq__"=some (some (.builtin "object.__eq__"))):EG A s (.ref x) .none false:=λprog w E Q h=>by
 refine Om ?_;refine cH ?_;refine Om (cH (wpAny_cRoomFor b ?_));refine cH (I.type.here (cH (wpAny_typeOf (T:="NoneType") rfl ?_)))
 have e:PySem.W.subIn K (.type "NoneType") (.ref C)=some false:=by
  first|rfl|simp
 refine cH ((PySem.W.looks_subIn X e).here ?_);refine cH (Uh X I hp g ?_);refine cH (wpAny_tryCompare_declines (T:="NoneType") rfl Yz (call_gives Yz rfl F.entry_NoneType_eq (F.args_NoneType_eq_2 _ _) (SeqAt.NoneType___eq___none_ref_0 x) ⟨rfl,?_⟩));exact cH (wpAny_rule (cH (wpAny_of_eq (rfl:isSame (.ref x) .none=pure false) (fG (qG h)))))
end
theorem Uj {K}(h:X.K=K):xU X (.builtin "len") (uK K):=by
 subst h;exact cE
theorem oG {K}(h:X.K=K)(b:PE X e ta)(g:wb e f X.env (cb e X.env)=cb e X.env):PE X (.Attribute e f pos) (gS K ta f):=by
 subst h;exact ay b g
def CT:V->Bool
 | .aB=>true
 |_=>false
def J0:ao->Bool
 | .none=>true
 |_=>false
def Uk (K:aW)(C:ai):R2:=λx y H Q=>x= .aB/\∃p b,y= .ref p/\ax K H p b/\(∀z∈b,z= .aB\/∃a dx fs,z= .ref a/\H a=some (.ins C dx fs))/\Q (.bl (b.any CT)) H
theorem J1 {H:Hp}:∀{b} {g},bp b g->(∀z∈b,z= .aB\/∃a dx fs,z= .ref a/\H a=some (.ins C dx fs))->g.any J0=b.any CT/\∀u∈g,u= .none\/∃a dx fs,u= .ref a/\H a=some (.ins C dx fs)
 |_,_,.nil,_=>⟨rfl,λu k=>by cases k⟩
 |y::b,u::g,.cons r t,f=>by
  obtain⟨o,i⟩:=J1 t λz j=>f z (aR _ j);rcases f y aH with rfl|⟨a,dx,fs,rfl,ha⟩
  ·cases r;refine⟨rfl,λv h=>?_⟩;rcases cj.mp h with q|q
   ·exact .inl q
   ·exact i v q
  ·cases r;refine⟨by rw[zS,zS,o];rfl,λv h=>?_⟩;rcases cj.mp h with q|q
   ·exact .inr ⟨a,dx,fs,q,ha⟩
   ·exact i v q
theorem Ul (o:X.A.units+64<qH)(cl:gy X.K C)(F:lq X.K (.ref C) "__eq__"=some (some (.builtin "object.__eq__"))):dR X (gJ .In) (Uk X.K C):=by
 intro M s σ H x y v u Q I g b h;obtain⟨rfl,p,L,rfl,z,j,q⟩:=h;cases g;cases b;obtain⟨U,r,i,W⟩:=I.list z;obtain⟨Y,G⟩:=J1 r j;refine SeqAt.in_listAt J0 i.isList (λw k=>?_) ⟨.bl _,H,I,rfl,?_⟩
 ·rcases G w (by simpa using k)with rfl|⟨a,dx,fs,rfl,ha⟩
  ·exact Yk _
  ·obtain⟨T,O,_⟩:=xY I.az ha;obtain⟨P,J,_⟩:=O.look;exact Ui (Nw (Nat.add_le_add_left (show 1<=64 by decide) _) o) I.iD J cl.po F
 simp_all
end L2
namespace Prg
open PySem PySem.Spec PyProof.Rows L2
inductive pS (K)(vs:List V)(H)(Q:VK)(E:XK):Prop|mk (ca) (l):vs=[.ref ca]->ax K H ca (nums l)->NN l=true->(∀H' p,H' p=some (.lst (nums (zE l)))->Q (.ref p) H')->pS K vs H Q E
structure u9 (c:Cs):Prop where
 Um:c.gX≠c.fh
 Uo:c.jm≠c.fh
 Up:c.jm≠c.gX
 Uq:c.lM≠c.fh
 Ur:c.lM≠c.gX
 Us:c.lM≠c.jm
 Ut:c.lN≠c.fh
 Uu:c.lN≠c.gX
 Uv:c.lN≠c.jm
 Uw:c.lN≠c.lM
 Ux:c.mH≠c.fh
 Uy:c.mH≠c.gX
 Uz:c.mH≠c.jm
 UA:c.mH≠c.lM
 UB:c.mH≠c.lN
 UC:c.mI≠c.fh
 UD:c.mI≠c.gX
 UE:c.mI≠c.jm
 UG:c.mI≠c.lM
 UH:c.mI≠c.lN
 UI:c.mI≠c.mH
 UJ:c.kZ≠c.fh
 UK:c.kZ≠c.gX
 UL:c.kZ≠c.jm
 UM:c.kZ≠c.lM
 UN:c.kZ≠c.lN
 UO:c.kZ≠c.mH
 UP:c.kZ≠c.mI
structure Env where
 w:bw
 mg:Str->Option ao
 base:bz
 c:Cs
noncomputable abbrev KE (e:Env):aW:=Hd.Kf Hd.bo Hd.B e.w.params
abbrev u_:bL:=lY.prog
def Good (e:Env):Prop:=Tx (KE e) e.mg e.c->u9 e.c->∀(f:ai) (b:lX),mD (KE e) "answers" "answers" ym f b->gz u_ e.w (KE e) e.mg e.base (dg u_ e.w) 37 f b ["calls"] (pS (KE e))
theorem UQ:Nonempty Env:=⟨⟨⟨λ_ _=>0,{strHash:=λ_=>0,shareClass:=λ_=>0,mergeTok:=λt=>t,idOf:=λ_=>0,idOfShared:=λ_ _=>0,followText:=λ_=>false,idOfImm:=λ_=>0}⟩,λ_=>none,⟨#[],{}⟩,⟨0,0,0,0,0,0,0,0,0,0,0,0,0,0,0,0,0,0,0,0,0,0,0⟩⟩⟩
@[irreducible] noncomputable def e0:Env:= @YA Env UQ λe=>¬Good e
@[irreducible] noncomputable def P:bL:=u_
@[irreducible] noncomputable def w:bw:=e0.w
@[irreducible] noncomputable def K:aW:=KE e0
@[irreducible] noncomputable def mg:Str->Option ao:=e0.mg
@[irreducible] noncomputable def base:bz:=e0.base
@[irreducible] noncomputable def c:Cs:=e0.c
theorem BJ (h:Tx K mg c->u9 c->∀(f) (g),mD K "answers" "answers" ym f g->gz P w K mg base (dg P w) 37 f g ["calls"] (pS K))(e):Good e:=by
 have b:Good e0:=by
  unfold K mg c P w base at h;exact h
 unfold e0 at b;exact YB λn=> @YC Env (λe=>¬Good e) ⟨e,n⟩ b
structure Sk where
 f:ai
 bu:ao
 A:fm
 outer:List PySem.Env
 s:aF
 Q:VK
 E:XK
def Bc (k:Nat)(h:Sp)(N:List Str)(g:Str)(st:aV)(a:Sk):Prop:=∀(H:Hp) (b:List V),N.Nodup->cR k (a.A.deeper (kE g (cY st) a.s.heap.objs.size a.f a.bu))->h b H a.Q a.E->
 ∃t,ic (ie (dg P w) P w K mg base N g (cY st) a.f a.bu a.A a.outer a.s H a.E) (ng st) t/\t {nx:=λ_ i=>a.Q .aB i,rt:=a.Q} (start N b) H
@[irreducible] noncomputable def sk (k:Nat) (sp:Sp) (N:List Str) (qual:Str) (st:aV):Sk:= @YA Sk ⟨⟨0,default,{},[],{},λ_ _=>True,λ_ _ _=>True⟩⟩ λa=>¬Bc k sp N qual st a
theorem CU {st}(h:Bc k sp N qual st (sk k sp N qual st)):Bd P w K mg base k sp N qual st:=λf bu A outer s H b Q E=>by
 unfold sk at h;exact YB λn=> @YC Sk (λa=>¬Bc k sp N qual st a) ⟨⟨f,bu,A,outer,s,Q,E⟩,λz=>n (z H b)⟩ h
section
open Hd (cU dot)
variable {x m:Str}{ps:List Str}{k:Nat}{sp:Sp}{C:ai}
theorem Tx.fo (T:Tx K mg c)(i)(N)(g:Bc k sp N x (top i) (sk k sp N x (top i)))(h:CP i x ps N=true:=by decide+kernel)(len:∀b H Q E,sp b H Q E->b.length=ps.length:=by(intro _ _ _ _ h;cases h;subst_vars;rfl)):Fn P w K mg base x (k+1) ps sp:=T.fO i N (CU g) h len
theorem Tx.mo (T:Tx K mg c)(i j)(N)(g:Bc k sp N (dot (cU (top i)) m) (inClass (top i) j) (sk k sp N (dot (cU (top i)) m) (inClass (top i) j)))(h:JV i j m ps N=true:=by decide+kernel)(len:∀b H Q E,sp b H Q E->b.length=ps.length:=by(intro _ _ _ _ h;cases h;subst_vars;rfl))(o:C=oE c i:=by rfl):Mt P w K mg base C m (k+1) ps sp:=T.mO i j N (CU g) h len o
theorem Tx.ko (T:Tx K mg c)(i)(N)(g:Bc k sp N (dot (cU (top i)) (cU (inClass (top i) 0))) (inClass (top i) 0) (sk k sp N (dot (cU (top i)) (cU (inClass (top i) 0))) (inClass (top i) 0)))(h:JW i x ps N=true:=by decide+kernel)(len:∀b H Q E,sp b H Q E->b.length=ps.length:=by(intro _ _ _ _ h;cases h;subst_vars;rfl))(j:C=oE c i:=by rfl):gA P w K mg base x C (k+1) ps sp:=T.kO i N (CU g) h len j
end
section
variable {X:Cx}{e o:cC}{ta tv:TE}{f:Str}{pos pos':Pos}
theorem cE (b:X.K=K:=by rfl):xU X (.builtin "len") (uK K):=b▸L2.cE
theorem dS (b:X.K=K:=by rfl):B5 X (pL K):=b▸L2.dS
theorem lH (b:X.K=K:=by rfl):B4 X (B6 K):=b▸L2.lH
theorem B9 (b:X.K=K:=by rfl):dR X (gJ .NotIn) (IX K true):=b▸L2.B9
theorem Cb (b:X.A.units+64<qH)(g:X.K=K:=by rfl):dR X (gJ .Eq) (I_ K):=g▸L2.Cb b
theorem fg (b:PE X l tl)(g:X.K=K:=by rfl):PI X tg l (Ij K tl):=g▸L2.fg b
theorem ay (b:PE X e ta)(g:wb e f X.env (cb e X.env)=cb e X.env)(h:X.K=K:=by rfl):PE X (.Attribute e f pos) (gS K ta f):=h▸L2.ay b g
theorem bI (h:PE X o ta)(b:PE X e tv)(g:tf e (some (.Attribute o f pos')) pos.line X.env=pure false)(i:X.K=K:=by rfl):PS X (.Assign [.Attribute o f pos'] e pos) (uH K ta tv f):=i▸L2.bI h b g
theorem mz (h:PE X o ta)(b:PE X e tv)(g:B1 X op rd)(i:X.K=K:=by rfl):PS X (.AugAssign (.Attribute o f pos') op e pos) (IJ K ta tv rd f):=i▸L2.mz h b g
theorem d9 {T id}{apos gU}(b:PlainAttrs T)(slot:Slot T name id)(g:typeOf (.builtin id)=pure (.type "method_descriptor"))(k:IV X id r)(j:PE X o to)(C:PA X (e::es) t)
 (z:wb o name X.env (cb o X.env)=cb o X.env:=by rfl)
 (y:((iw gU (cD (e::es) X.env)).all (λx=> !x.1)&&(wd gU (we [] X.env)).all (λx=>x.1.isSome)
   &&decide ((e::es).length+([]:List zQ).length+(if([]:List zQ).isEmpty then 0 else 1)<30))=true:=by rfl)
 (u:(apos.endLine==gU.line)=true:=by rfl) (h:cD (e::es) X.env=(false,cb e X.env)::cD es X.env:=by rfl) (i:(iw gU (cD es X.env)).any (·.1)=false:=by rfl) (F:X.K=K:=by rfl):PE X (.Call (.Attribute o name apos) (e::es) [] gU) (pM K T r to t):=F▸L2.d9 b slot g k j C z y u h i
theorem uB {k}(i:X.calm=true)(h:uA X es t)
 (g:(tj es X.env).length=n:=by rfl) (b:(tj es X.env).findIdx? (·.1)=none:=by rfl) (j:X.K=K:=by rfl):PG X (.Tuple es k pos) (xR K n t):=j▸L2.uB i h g b
theorem Co {ta}{p kh}{elts}{kk}(h:Gl X "enumerate")(g:X.mg "enumerate"=none)(i:PA X [e] ta)(b:cD [e] X.env=[(false,cb e X.env)]:=by rfl)(j:X.K=K:=by rfl):
 PI X (.Tuple elts kk kh) (.Call (.Name "enumerate" p) [e] [] pos) (Jg K ta):=j▸L2.Co h g i b
theorem yb {ta}{p kh}{elts}{kk}(i:Gl X "zip")(h:X.mg "zip"=none)(j:PA X [e,e2] ta)
 (b:cD [e,e2] X.env=(false,cb e X.env)::cD [e2] X.env:=by rfl) (g:(iw pos (cD [e2] X.env)).any (·.1)=false:=by rfl) (k:X.K=K:=by rfl):
 PI X (.Tuple elts kk kh) (.Call (.Name "zip" p) [e,e2] [] pos) (Ji K ta):=k▸L2.yb i h j b g
theorem uS (h:X.stack=X.env::X.outer)(j:X.env.frame=some X.env.locals)
 (k:∀b g pn,fZ (dg X.prog X.w) (X.ni g pn) b->ic (X.ni g pn) body (tb b)) (i:PH X (y::hs) th) (u:X.K=K:=by rfl):PS X (.Try body (y::hs) [] [] pos) (Jv K tb th):=u▸L2.uS h j k i
end
theorem CV (T:Tx K mg c):gA P w K mg base "Reader" c.Reader 1 ["self","text"] (CL K c.Reader):=T2 (T.mi 40 (by decide+kernel)) T.rd
theorem mK (T:Tx K mg c):Mt P w K mg base c.Reader "peek" 1 ["self"] (yq K c.Reader):=T3 (T.mt 40 1 (by decide+kernel)) T.rd
theorem rZ (T:Tx K mg c):Mt P w K mg base c.Reader "step" 1 ["self"] (yr K c.Reader):=T4 (T.mt 40 2 (by decide+kernel)) T.rd
theorem jK (T:Tx K mg c):Mt P w K mg base c.Reader "take" 2 ["self","sign"] (uW K c.Reader):=T5 (T.mt 40 3 (by decide+kernel)) T.rd (mK T) (rZ T)
theorem J2 (T:Tx K mg c):Mt P w K mg base c.Reader "take_all" 1 ["self","signs"] (CM K c.Reader):=T8 (T.mt 40 4 (by decide+kernel)) T.rd
theorem oH (T:Tx K mg c):Mt P w K mg base c.Reader "expect" 3 ["self","sign"] (yt K c.Reader c.fh):=T6 (T.mt 40 5 (by decide+kernel)) T.rd (jK T)
theorem CW (T:Tx K mg c):Mt P w K mg base c.Reader "expect_end" 1 ["self"] (CN K c.Reader c.fh):=T7 (T.mt 40 6 (by decide+kernel)) T.rd
open Vacola (Text Leaf Lit isDigit isLow nameSign hexOf worth showLit readQuoted)
open My (dj dP mh kJ lx)
def lP {α:Type}(K:aW)(c:Cs)(i:α->D)(p:Option (α×aq))(R:dz)(F:Hp)(M:List (ai×HO))(Q:VK)(E:XK):Prop:=
 (p=none->∀g b,Le F b->af K g b M->E (.ref c.fh) none g)/\
 (∀x h,p=some (x,h)->∀g b v,Le F b->af K g b (R.cell c.Reader h::M)->R.Ok b h->Rep K b v (i x)->Q v g)
def oI:Lit->D
 | .num z=> .v (.int z)
 | .str s=>bP s
def fL (n:Nat):D:= .v (.int (n:Int))
def intD (z:Int):D:= .v (.int z)
def nz (i:Int):Bool:=decide (48<=i)&&decide (i<=57)
def lQ (i:Int):Bool:=decide (97<=i)&&decide (i<=122)
def r_ (i:Int):Bool:=decide (32<=i)&&decide (i<=126)&& !decide (i=34)&& !decide (i=92)
theorem CY (n:Nat):nz (n)=bX n:=by
 unfold nz bX;congr 1<;>(rw[lh];simp;omega)
theorem J3 (n:Nat):lQ (n)=isLow n:=by
 unfold lQ isLow;congr 1<;>(rw[lh];simp;omega)
theorem J4 (n:Nat):r_ (n)=EN n:=by
 unfold r_ EN
 grind
theorem CZ (u:aq):nz (sgn u)=true↔∃d b,u=d::b/\bX d=true:=by
 cases u with
 |nil=>simp[sgn,nz]
 |cons d u=>
  show nz (d:Int)=true↔_;rw[CY];simp
section
inductive vd (f:Int->Bool)(vs:List V)(H)(Q:VK)(E:XK):Prop|mk (i):vs=[.int i]->Q (.bl (f i)) H->vd f vs H Q E
theorem C0 (T:Tx K mg c):Fn P w K mg base "is_digit" (1) ["sign"] (vd nz):=by
 refine T.fo 65 ["sign"] λH g nd j h=>?_;obtain⟨i,rfl,k⟩:=h;refine⟨_,(ak (aC (BZ jF jF (aD T.cst.rW) (pv 0) (aD T.cst.S9)))),?_⟩;refine⟨_,_,rfl,rfl,_,rfl,?_⟩;unfold nz at k;refine bG (λq=>⟨_,_,rfl,rfl,?_⟩) λq=>?_
 ·have b:(48:Int)<=i:=by simpa using q
  rw[decide_eq_true b,wm]at k;exact k
 ·have b:¬(48:Int)<=i:=by simpa using q
  rw[decide_eq_false b,mU]at k;exact k
theorem J5 (T:Tx K mg c):Fn P w K mg base "is_letter" (1) ["sign"] (vd lQ):=by
 refine T.fo 66 ["sign"] λH g nd j h=>?_;obtain⟨i,rfl,k⟩:=h;refine⟨_,(ak (aC (BZ jF jF (aD T.cst.CF) (pv 0) (aD T.cst.Te)))),?_⟩;refine⟨_,_,rfl,rfl,_,rfl,?_⟩;unfold lQ at k;refine bG (λq=>⟨_,_,rfl,rfl,?_⟩) λq=>?_
 ·have b:(97:Int)<=i:=by simpa using q
  rw[decide_eq_true b,wm]at k;exact k
 ·have b:¬(97:Int)<=i:=by simpa using q
  rw[decide_eq_false b,mU]at k;exact k
theorem J6 (T:Tx K mg c):Fn P w K mg base "is_plain" (1) ["byte"] (vd r_):=by
 refine T.fo 67 ["byte"] λH y nd z h=>?_;obtain⟨i,rfl,k⟩:=h;refine⟨_,(ak (aC (uy (BZ jF jF (aD T.cst.Tf) (pv 0) (aD T.cst.Tg)) (uy (jg je (pv 0) (aD T.cst.Cy)) (rB (jg je (pv 0) (aD T.cst.JN))))))),?_⟩;refine⟨_,_,rfl,rfl,_,rfl,?_⟩;unfold r_ at k;refine bG (λq=>⟨_,_,rfl,rfl,_,rfl,?_⟩) λq=>⟨_,rfl,?_⟩
 ·have u:(32:Int)<=i:=by simpa using q
  rw[decide_eq_true u,wm]at k;refine bG (λo=>⟨rfl,_,rfl,?_⟩) λo=>?_
  ·have j:i<=126:=by simpa using o
   rw[decide_eq_true j,wm]at k;refine bG (λg=>⟨rfl,?_⟩) λg=>?_
   ·have b:¬i=34:=by simpa using g
    rw[decide_eq_false b,Bool.not_false,wm]at k;have e:decide (V.int i=V.int 92)=decide (i=92):=by rw[lh];simp
    rw[e];exact k
   ·have b:i=34:=by simpa using g
    rw[decide_eq_true b,Bool.not_true,mU]at k;exact k
  ·have j:¬i<=126:=by simpa using o
   rw[decide_eq_false j,mU,mU]at k;exact k
 ·have u:¬(32:Int)<=i:=by simpa using q
  rw[decide_eq_false u,mU,mU,mU]at k;exact k
inductive J7 (vs:List V)(H)(Q:VK)(E:XK):Prop|mk (n:Nat):vs=[.int (n)]->n<=1000->Q (.int (2^n)) H->J7 vs H Q E
theorem J8 (T:Tx K mg c):Fn P w K mg base "power_of_two" (1) ["exponent"] (J7):=by
 refine T.fo 75 ["exponent","power","doubling"] λH g nd j h=>?_;obtain⟨n,rfl,o,k⟩:=h;refine⟨_,(ah (aN 1 aY) (ah (gj d_ rfl (BS rfl T.cst.range (ae (pv 0) ag)) (dF 2) (ak (aN 1 (de xW (pv 1) aY)))) (ak (aC (pv 1))))),?_⟩;refine⟨(n:Int),rfl,by lia,by lia,rE (n:=(n:Int).toNat) (λi σ b=>b=H/\∃z,σ=[some (.int (n:Int)),some (.int (2^i)),z]) ⟨rfl,none,rfl⟩ ?_ ?_⟩
 ·rintro i σ b u ⟨rfl,z,rfl⟩;refine⟨_,_,rfl,rfl,.inr ⟨by decide,by decide⟩,rfl,some (V.int (0+(i:Int))),?_⟩;rfl
 ·rintro σ b ⟨rfl,z,rfl⟩;exact k
inductive J9 (K)(c)(vs:List V)(H)(Q)(E):Prop|mk (R) (u:aq) (g) (F) (M):vs=[.ref R.r,.int g]->0<=g->af K H F (R.cell c.Reader u::M)->R.Ok F u->lP K c fL (dj g u) R F M Q E->J9 K c vs H Q E
inductive J_ (R:dz)(u:aq)(g:Int)(F)(M)(m)(σ:L2.St)(H'):Prop|mk (d u' n):m=u'.length->u=d++u'->((∀x∈d,bX x=true))->n=dT d->(n)<=g->af K H' F (R.cell c.Reader u'::M)->σ=[some (.ref R.r),some (.int g),some (.int (n))]->J_ R u g F M m σ H'
theorem vg (T:Tx K mg c):Fn P w K mg base "read_positive" (2) ["reader","greatest"] (J9 K c):=by
 refine T.fo 76 ["reader","greatest","number"] λH vs nd hr h=>?_;obtain⟨R,u,g,F,M,rfl,hg,C,O,I,W⟩:=h;refine⟨_,(ah (aL (aP cy (bJ (mK T) T.Reader.1 (pv 0)) (aD T.cst.rW)) (ak (cO T.eG)) aS) (ah (aN 2 aY) (ah (mx d_ (c_ (pf (C0 T) (ae (bJ (mK T) T.Reader.1 (pv 0)) ag))) (ah (aN 2 (de kg (de lG (de xW (pv 2) aY) (bJ (mK T) T.Reader.1 (pv 0))) (aD T.cst.rW))) (ah (aL (aP iW (pv 2) (pv 1)) (ak (cO T.eG)) aS) (ak (ba (bJ (rZ T) T.Reader.1 (pv 0))))))) (ah (aL (aP cy (pv 2) aY) (ak (cO T.eG)) aS) (ak (aC (pv 2))))))),?_⟩;refine⟨R.r,R.dx,_,rfl,C.at,rfl,R,u,F,M,rfl,C,O,rfl,?_⟩;refine uR (λq=>?_) λq=>?_
 ·have U:sgn u=((48:Nat):Int):=by simpa using q
  obtain⟨j,rfl⟩:=uT.mp U;exact I My.Fe _ _ (Le.refl F) C.drop
 ·have X:∀r,u≠48::r:=λr e=>by
   have:=uT.mpr ⟨r,e⟩;simp[this]at q
  refine⟨J_ R u g F M,
   ⟨_,[],u,0,rfl,rfl,λx z=>absurd z (by simp),rfl,hg,C,rfl⟩,?_⟩
  rintro m σ H' ⟨d,j,n,rfl,rfl,hd,rfl,hn,b,rfl⟩;have o:=O.sub ⟨d,rfl⟩
  have hd0:d.head?≠some 48:=λz=>by
   cases d with
   |nil=>cases z
   |cons a d=>
    have:a=48:=by simpa using z
    exact X (d++j) (by rw[this];rfl)
  refine⟨R.r,R.dx,_,rfl,b.at,rfl,R,j,F,M,rfl,b,o,_,rfl,?_⟩;refine bG (λy=>⟨_,λσ' H' z=>z,?_⟩) λy=>?_
  ·obtain⟨a,i,rfl,L⟩:=(CZ j).mp y;have ha':=My.nR.mp L;refine⟨_,_,rfl,rfl,.inr ⟨by decide,by decide⟩,R.r,R.dx,_,rfl,b.at,rfl,R,a::i,F,M,rfl,b,o,_,_,rfl,rfl,_,_,rfl,rfl,?_⟩
   have e1:(dT d:Int)*10+sgn (a::i)-48=((dT (d++[a]):Nat):Int):=by
    rw[My.E0];show(dT d:Int)*10+(a:Int)-48=_
    lia
   refine⟨_,_,rfl,rfl,?_⟩;rw[e1];refine bG (λh3=>?_) λh3=>?_
   ·exact I (My.Pj hd L (by simpa using h3)) _ _ (Le.refl F) b.drop
   ·have h3':((dT (d++[a]):Nat):Int)<=g:=by simpa using h3
    refine⟨R.r,R.dx,_,rfl,b.at,rfl,R.r,R.dx,R.l,_,F,M,rfl,b,λH2 h2=>?_⟩;refine⟨i.length,by simp,d++[a],i,_,rfl,by simp,λx J=>?_,rfl,h3',?_,?_⟩
    ·rcases gm.mp J with z|z
     ·exact hd x z
     ·rw[g7.mp z];exact L
    ·have e2:((R.t.length-(a::i).length:Nat):Int)+1=((R.t.length-i.length:Nat):Int):=by
      have:=o.drop.2;rw[bf]at this⊢
      lia
     rw[e2]at h2;exact h2
    ·rfl
  ·have Y:∀x v,j=x::v->bX x=false:=λx v e=>by
    cases J:bX x with
    |false=>rfl
    |true=>
     rw[(CZ j).mpr ⟨x,v,e,J⟩]at y;cases y
   have key:=My.Pk hd Y hn hd0;refine⟨rfl,?_⟩;refine uR (λk=>?_) λk=>?_
   ·have G:dT d=0:=by
     have:((dT d:Nat):Int)=0:=by simpa using k
     lia
    rw[if_pos G]at key;exact I key _ _ (Le.refl F) b.drop
   ·have G:¬dT d=0:=λz=>by
     rw[z]at k;simp at k
    rw[if_neg G]at key;exact(W _ _ key _ _ _ (Le.refl F) b o (.v _))
inductive yx (K)(c)(p:aq->Option (Nat×aq))(vs:List V)(H)(Q)(E):Prop|mk (R) (u:aq) (F) (M):vs=[.ref R.r]->af K H F (R.cell c.Reader u::M)->R.Ok F u->lP K c fL (p u) R F M Q E->yx K c p vs H Q E
theorem step_at {R:dz}{u:aq}(b:R.Ok F (a::u)):((R.t.length-(a::u).length:Nat):Int)+1=((R.t.length-u.length:Nat):Int):=by
 have:=b.drop.2
 grind
theorem yy (a):(bX a=true->jo a=some (a-48))/\(bX a=false->(97<=a/\a<=102)->jo a=some (a-87))/\(bX a=false->¬(97<=a/\a<=102)->jo a=none):=by
 unfold jo;simp_all
theorem J' (T:Tx K mg c):Fn P w K mg base "read_hex_digit" (2) ["reader"] (yx K c mh):=by
 refine T.fo 80 ["reader","sign"] λH J nd L h=>?_;obtain⟨R,u,F,M,rfl,j,i,o,C⟩:=h;refine⟨_,(ah (aN 1 (bJ (mK T) T.Reader.1 (pv 0))) (ah (ba (bJ (rZ T) T.Reader.1 (pv 0))) (ah (aL (c_ (pf (C0 T) (ae (pv 1) ag))) (ak (aC (de kg (pv 1) (aD T.cst.rW)))) aS) (ah (aL (IC jF jF (aD T.cst.CF) (pv 1) (aD T.cst.Tb)) (ak (aC (de lG (de kg (pv 1) (aD T.cst.CF)) aY))) aS) (ak (cO T.eG)))))),?_⟩;refine⟨R.r,R.dx,_,rfl,j.at,rfl,R,u,F,M,rfl,j,i,?_⟩;refine⟨R.r,R.dx,_,rfl,j.at,rfl,R.r,R.dx,R.l,_,F,M,rfl,j,λU h2=>?_⟩;refine⟨_,rfl,?_⟩;refine bG (λy=>?_) λy=>?_
 ·obtain⟨a,g,rfl,b⟩:=(CZ u).mp y;rw[step_at i]at h2;have O:=My.nR.mp b;refine⟨_,_,rfl,rfl,?_⟩
  have z:V.int (sgn (a::g)-48)=V.int ((a-48:Nat):Int):=by
   show V.int ((a:Int)-48)=_;congr 1
   lia
  rw[z];exact C (a-48) g (by show(jo a).map _=_;rw[(yy a).1 b];rfl) _ _ _ (Le.refl F) h2 (i.sub ⟨[a],rfl⟩) (.v _)
 ·refine⟨_,_,rfl,rfl,_,rfl,?_⟩;cases u with
  |nil=>exact(o rfl _ _ (Le.refl F) h2.drop)
  |cons a g=>
   rw[step_at i]at h2;have b:bX a=false:=by rw[<-CY];exact y
   refine bG (λq=>⟨_,_,rfl,rfl,?_⟩) λq=>(?_)
   ·have I:(97:Int)<=(a:Int):=of_decide_eq_true q;refine bG (λk=>?_) λk=>?_
    ·have G:(a:Int)<=102:=of_decide_eq_true k;refine⟨_,_,rfl,rfl,_,_,rfl,rfl,?_⟩
     have z:V.int (sgn (a::g)-97+10)=V.int ((a-87:Nat):Int):=by
      show V.int ((a:Int)-97+10)=_;congr 1
      lia
     rw[z];exact C (a-87) g (by show(jo a).map _=_;rw[(yy a).2.1 b ⟨by lia,by lia⟩];rfl) _ _ _ (Le.refl F) h2 (i.sub ⟨[a],rfl⟩) (.v _)
    ·have G:¬(a:Int)<=102:=of_decide_eq_false k;exact o (by show(jo a).map _=_;rw[(yy a).2.2 b (by lia)];rfl) _ _ (Le.refl F) h2.drop
   ·have I:¬(97:Int)<=(a:Int):=of_decide_eq_false q;exact o (by show(jo a).map _=_;rw[(yy a).2.2 b (by lia)];rfl) _ _ (Le.refl F) h2.drop
theorem UR (T:Tx K mg c):Fn P w K mg base "read_told_byte" (3) ["reader"] (yx K c kJ):=by
 refine T.fo 79 ["reader","high","low","byte"] λH vs nd hr h=>?_;obtain⟨R,u,F,M,rfl,X,W,g,L⟩:=h;refine⟨_,(ah (aN 1 (pf (J' T) (ae (pv 0) ag))) (ah (aN 2 (pf (J' T) (ae (pv 0) ag))) (ah (aN 3 (de lG (de xW (pv 1) aY) (pv 2))) (ah (aL (c_ (pf (J6 T) (ae (pv 3) ag))) (ak (cO T.eG)) aS) (ak (aC (pv 3))))))),?_⟩;refine⟨R,u,F,M,rfl,X,W,λe H' F' l j=>?_,λx G k H1 F1 v b h1 U J=>?_⟩
 ·exact g (by unfold kJ;rw[e]) _ _ l j
 obtain rfl:=J.val;refine⟨R,G,F1,M,rfl,h1,U,λe H' F' l j=>?_,λy C z H2 F2 v o h2 O I=>?_⟩
 ·exact g (by unfold kJ;rw[k];dsimp only;rw[e]) _ _ (b.trans l) j
 obtain rfl:=I.val;refine⟨_,_,rfl,rfl,.inr ⟨by decide,by decide⟩,_,_,rfl,rfl,?_⟩;have Y:r_ ((x:Int)*16+(y:Int))=EN (x*16+y):=J4 (x*16+y);refine⟨_,rfl,?_⟩;rw[Y];refine bG (λi=>?_) λi=>?_
 ·exact g (by unfold kJ;rw[k];dsimp only;rw[z];dsimp only;rw[if_pos i]) _ _ (b.trans o) h2.drop
 ·exact(L (x*16+y) C (by unfold kJ;rw[k];dsimp only;rw[z];dsimp only;rw[if_neg (by rw[i];exact dX)]) _ _ _ (b.trans o) h2 O (.v _))
theorem US (T:Tx K mg c):Fn P w K mg base "read_byte" (4) ["reader"] (yx K c lx):=by
 refine T.fo 78 ["reader","byte"] λH C nd G h=>?_;obtain⟨R,u,F,M,rfl,b,i,j,o⟩:=h;refine⟨_,(ah (aL (c_ (pm (jK T) T.Reader.1 (pv 0) (ae (aD T.cst.JN) ag))) (ak (aC (pf (UR T) (ae (pv 0) ag)))) aS) (ah (aN 1 (bJ (mK T) T.Reader.1 (pv 0))) (ah (aL (lE (c_ (pf (J6 T) (ae (pv 1) ag)))) (ak (cO T.eG)) aS) (ah (ba (bJ (rZ T) T.Reader.1 (pv 0))) (ak (aC (pv 1))))))),?_⟩;refine⟨R.r,R.dx,_,rfl,b.at,rfl,R,u,92,F,M,rfl,b,i,λI=>?_,λg e L z y=>?_⟩
 ·refine(?_);refine⟨R.r,R.dx,_,rfl,b.at,rfl,R,u,F,M,rfl,b,i,?_⟩;refine⟨_,rfl,?_⟩;cases u with
  |nil=>exact(j rfl _ _ (Le.refl F) b.drop)
  |cons a g=>
   have e:lx (a::g)=if EN a then some (a,g)else none:=by
    unfold lx;split<;>simp_all
   show if(!r_ (a:Int))=true then _ else _;rw[J4];refine bG (λk=>?_) λk=>?_
   ·exact j (by rw[e,if_neg (by simpa using k)]) _ _ (Le.refl F) b.drop
   ·refine⟨R.r,R.dx,_,rfl,b.at,rfl,R.r,R.dx,R.l,_,F,M,rfl,b,λJ h2=>?_⟩;rw[step_at i]at h2;exact(o a g (by rw[e,if_pos (by simpa using k)]) _ _ _ (Le.refl F) h2 (i.sub ⟨[a],rfl⟩) (.v _))
 ·subst e;exact(⟨R,g,F,M,rfl,z,y,j,o⟩)
theorem UT (T:Tx K mg c):Fn P w K mg base "read_bit" (4) ["reader"] (λk H Q E=>∃(R:dz) (u:aq) (F:Hp) (M:List (ai×HO)),k=[.ref R.r]/\af K H F (R.cell c.Reader u::M)/\R.Ok F u/\lP K c oI (dP .bit u) R F M Q E):=by
 refine T.fO 73 ["reader"] (λf bu A outer s H k Q E nd J h=>?_) (len:=λ_ _ _ _ ⟨_,_,_,_,e,_⟩=>by rw[e];rfl);obtain⟨R,u,F,M,rfl,b,y,z,o⟩:=h;refine⟨_,(ah (aL (c_ (pm (jK T) T.Reader.1 (pv 0) (ae (aD T.cst.rW) ag))) (ak (aC aY)) aS) (ah (ba (pm (oH T) T.Reader.1 (pv 0) (ae (aD T.cst.S8) ag))) (ak (aC aY)))),?_⟩;refine⟨R.r,R.dx,_,rfl,b.at,rfl,R,u,48,F,M,rfl,b,y,λG=>?_,λg e I j i=>?_⟩
 ·refine(?_);refine⟨R.r,R.dx,_,rfl,b.at,rfl,R,u,49,F,M,rfl,b,y,λC=>?_,λg e I j i=>?_⟩
  ·exact z (My.Po G C) _ _ (Le.refl F) b.drop
  ·subst e;exact o (.num 1) g rfl _ _ _ (Le.refl F) j i (.v _)
 ·subst e;exact((o (.num 0) g rfl _ _ _ (Le.refl F) j i (.v _)))
end
section
inductive C1 (K)(c)(mk:Nat->bN)(vs:List V)(H)(Q)(E):Prop|mk (R) (u:aq) (n:Nat) (F) (M):vs=[.ref R.r,.int (n)]->((1<=n/\n<=1000))->af K H F (R.cell c.Reader u::M)->R.Ok F u->lP K c oI (dP (mk n) u) R F M Q E->C1 K c mk vs H Q E
theorem UU (T:Tx K mg c):Fn P w K mg base "read_whole" (3) ["reader","size"] (C1 K c .int):=by
 refine T.fo 74 ["reader","size","half"] λH O nd U h=>?_;obtain⟨R,u,n,F,M,rfl,W,j,y,C,o⟩:=h;refine⟨_,(ah (aN 2 (pf (J8 T) (ae (de kg (pv 1) aY) ag))) (ah (aL (c_ (pm (jK T) T.Reader.1 (pv 0) (ae (aD T.cst.rW) ag))) (ak (aC aY)) aS) (ah (aL (c_ (pm (jK T) T.Reader.1 (pv 0) (ae (aD T.cst.S7) ag))) (ak (aC (Io Iq (pf (vg T) (ae (pv 0) (ae (pv 2) ag)))))) aS) (ak (aC (pf (vg T) (ae (pv 0) (ae (de kg (pv 2) aY) ag)))))))),?_⟩
 have L:V.int ((n:Int)-1)=V.int ((n-1:Nat):Int):=by
  congr 1
  lia
 refine⟨_,_,rfl,rfl,n-1,(by show[V.int ((n:Int)-1)]=_;rw[L]),by lia,?_⟩;refine⟨R.r,R.dx,_,rfl,j.at,rfl,R,u,48,F,M,rfl,j,y,λJ=>?_,λb e k i g=>?_⟩
 ·refine(?_);have X:=My.Ap (n-1);refine⟨R.r,R.dx,_,rfl,j.at,rfl,R,u,45,F,M,rfl,j,y,λI=>?_,λb e k i g=>?_⟩
  ·refine(?_);have key:=My.Pp (n:=n) J I;refine⟨_,_,rfl,rfl,R,u,2^(n-1)-1,F,M,rfl,by lia,j,y,λe=>C (by rw[key,e];rfl),λx b e k z v l i g r=>?_⟩;exact o (.num (x:Int)) b (by rw[key,e];rfl) k z v l i g r
  ·subst e;refine⟨R,b,2^(n-1),F,M,rfl,by lia,i,g,λe=>C (by show(dj _ b).map _=_;rw[e];rfl),λx G e k z v l i g r=>?_⟩;obtain rfl:=r.val;exact⟨_,rfl,o (.num (-(x:Int))) G (by show(dj _ b).map _=_;rw[e];rfl) k z _ l i g (.v _)⟩
 ·subst e;exact((o (.num 0) b rfl _ _ _ (Le.refl F) i g (.v _)))
theorem UW {i u g:aq}(j:∀r,u≠34::r)(e:lx u=some (b,g))(h:z=(eM u).map λx=>(i++x.1,x.2)):z=(eM g).map λx=>((i++[b])++x.1,x.2):=by
 rw[h,My.wF j,e];dsimp only;cases eM g with
 |none=>rfl
 |some x=>simp
inductive Ka (R:dz)(n:Nat)(F)(M)(u0:List Nat)(p)(m)(σ:L2.St)(H'):Prop|mk (s1 u1 F1):m=u1.length->eM u0=(eM u1).map (λx=>(s1++x.1,x.2))->s1.length+u1.length<=u0.length->Le F F1->R.Ok F1 u1->af K H' F1 ((p,.lst (bytes s1))::R.cell c.Reader u1::M)->σ=[some (.ref R.r),some (.int (n)),some (.ref p)]->Ka R n F M u0 p m σ H'
theorem UX (T:Tx K mg c):Fn P w K mg base "read_quoted" (5) ["reader","most"] (C1 K c .text):=by
 refine T.fo 77 ["reader","most","content"] λH vs nd hr h=>?_;obtain⟨R,u,n,F,M,rfl,hn,O,ho,I,k2⟩:=h;refine⟨_,(ah (ba (pm (oH T) T.Reader.1 (pv 0) (ae (aD T.cst.Cy) ag))) (ah (aN 2 (bO ag)) (ah (mx d_ (lE (c_ (pm (jK T) T.Reader.1 (pv 0) (ae (aD T.cst.Cy) ag)))) (ak (ba (d9 eU gv gw f6 (pv 2) (ae (pf (US T) (ae (pv 0) ag)) ag))))) (ah (aL (aP iW (cM cE (by rfl) T.cst.len cT (ae (pv 2) ag)) (pv 1)) (ak (cO T.eG)) aS) (ak (aC (pv 2))))))),?_⟩;refine⟨R.r,R.dx,_,rfl,O.at,rfl,R,u,34,F,M,rfl,O,ho,λC=>?_,λg e H0 h0 X=>?_⟩
 ·exact I (My.Pq C) _ _ (Le.refl F) O.drop
 subst e;refine⟨bR _,λp hp=>?_⟩;have h1:=h0.cP (xs:=[]) hp
 refine⟨Ka R n F M g p,
  ⟨_,[],g,F,rfl,by cases eM g<;>rfl,by simp,Le.refl F,X,h1,rfl⟩,?_⟩
 rintro m σ H' ⟨i,W,F1,rfl,j,hlen,y,L,G,rfl⟩;have hl:=L.len;have hd:=X.drop.2;refine⟨R.r,R.dx,_,rfl,G.sw.at,rfl,R,W,34,F1,_,rfl,G.sw,L,λC=>?_,λo e Y h2 J=>?_⟩
 ·refine(⟨_,λσ' H' z=>z,?_⟩);refine⟨⟨rfl,_,ax.of G.at⟩,R,W,F1,_,rfl,G.sw,L,λe Y U k h2=>?_,λb o e Y U v k h2 J r=>?_⟩
  ·refine I ?_ _ _ (y.trans k) h2.drop
   show(match eM g with
    |some (s,u)=>if s.length<=n then some (Lit.str s,u)else none
    |none=>none)=none
   rw[j,My.wF C,e];rfl
  ·obtain rfl:=r.val;have hb:=My.Ar e;refine⟨p,_,_,rfl,rfl,h2.sw.at,(by rw[gB,bq];lia),?_⟩;refine⟨o.length,hb,i++[b],o,U,rfl,UW C e j,(by rw[aQ,fE];lia),y.trans k,J,?_,rfl⟩;have:=h2.sw.eh (ys:=bytes i++[.int (b:Int)]);rw[rR];exact this
 ·subst e;rw[My.As]at j;have j:eM g=some (i,o):=by rw[j];simp
  refine⟨p,_,rfl,.inl (ax.of h2.sw.at),_,_,rfl,rfl,?_⟩;rw[gB];refine bG (λq=>?_) λq=>?_
  ·refine I ?_ _ _ y h2.drop.drop
   show(match eM g with
    |some (s,u)=>if s.length<=n then some (Lit.str s,u)else none
    |none=>none)=none
   rw[j];dsimp only;rw[if_neg];have:(n:Int)<(i.length:Int):=by simpa using q
   lia
  ·obtain⟨U,k,h3,r3⟩:=h2.sw.bM (oA i);refine(k2 (.str i) o ?_ _ _ _ (y.trans k) h3 (J.mono k) r3)
   show(match eM g with
    |some (s,u)=>if s.length<=n then some (Lit.str s,u)else none
    |none=>none)=_
   rw[j];dsimp only;rw[if_pos];have:¬(n:Int)<(i.length:Int):=by simpa using q
   lia
end
open Vacolb (wholeLit)
open My (iz)
def sf:bN->Int
 | .bit=>0
 | .int _=>1
 | .text _=>2
def sg:bN->Nat
 | .bit=>0
 | .int n=>n
 | .text n=>n
def yz (c:Cs)(x:Lit):D:= .ins c.Literal [("signs",bP (fQ x)),("meaning",oI x)]
structure vh (K:aW)(c:Cs)(F:Hp)(v:V)(l:bN):Prop where
 ok:iz l
 ex:∃gs,Rep K F v (.ins c.Field gs)/\gs.lookup ("kind":Str)=some (intD (sf l))/\gs.lookup ("size":Str)=some (fL (sg l))
theorem C2:g8 l t=some v↔dP l t=some (v,[]):=by
 have b:My.behind l []=true:=by cases l<;>rfl
 have key:= @My.Aq l t [] v;rw[b]at key;simp only[and_true]at key;rw[<-key];unfold g8 My.ju;cases e:Vacola.readLit l t with
 |none=>simp
 |some x=>
  obtain⟨y,r⟩:=x;cases r with
  |nil=>
   simp_all
  |cons a r=>
   simp_all
section
inductive vi (K)(C)(f g)(vs)(H)(Q:VK)(E:XK):Prop|mk (x dx) (a b) (F) (M):vs=[.ref x,a,b]->af K H F ((x,.ins C dx [])::M)->(∀H',af K H' F ((x,.ins C dx [(f,a),(g,b)])::M)->Q .aB H')->vi K C f g vs H Q E
inductive pT (K)(C)(f g h)(vs)(H)(Q:VK)(E:XK):Prop|mk (x dx) (a b d) (F) (M):vs=[.ref x,a,b,d]->af K H F ((x,.ins C dx [])::M)->(∀H',af K H' F ((x,.ins C dx [(f,a),(g,b),(h,d)])::M)->Q .aB H')->pT K C f g h vs H Q E
theorem UY (T:Tx K mg c):gA P w K mg base "Literal" c.Literal (1) ["self","signs","meaning"] (vi K c.Literal "signs" "meaning"):=by
 refine T.ko 69 ["self","signs","meaning"] λH i nd j h=>?_;obtain⟨x,dx,a,b,F,M,rfl,h1,k⟩:=h;refine⟨_,(ah (bI (pv 0) (pv 1) rfl) (ak (bI (pv 0) (pv 2) rfl))),?_⟩;refine(wN h1 (T.Literal.2 _ (.head _)) (by show 0<1000;decide) λg h2=>?_);exact(wN h2 (T.Literal.2 _ (.tail _ (.head _))) (by show 1<1000;decide) λg h3=>k _ h3)
inductive Kb (K)(c)(vs)(H)(Q)(E):Prop|mk (R) (u:aq) (l) (vf) (F) (M):vs=[.ref R.r,vf]->vh K c F vf l->af K H F (R.cell c.Reader u::M)->R.Ok F u->lP K c oI (dP l u) R F M Q E->Kb K c vs H Q E
theorem UZ (T:Tx K mg c):Fn P w K mg base "read_meaning" (6) ["reader","field"] (Kb K c):=by
 refine T.fo 72 ["reader","field"] λH y nd C h=>?_;obtain⟨R,u,l,z,F,M,rfl,o,b,g,k⟩:=h;refine⟨_,(ah (aL (aP cy (ay (pv 1) rfl) (aD T.cst.Cv)) (ak (aC (pf (UT T) (ae (pv 0) ag)))) aS) (ah (aL (aP cy (ay (pv 1) rfl) (aD T.cst.Cw)) (ak (aC (pf (UU T) (ae (pv 0) (ae (ay (pv 1) rfl) ag))))) aS) (ak (aC (pf (UX T) (ae (pv 0) (ae (ay (pv 1) rfl) ag))))))),?_⟩;obtain⟨az,G,rf,i,j⟩:=o;refine(dK b rf i ⟨rfl,?_⟩);cases l with
 |bit=>exact⟨R,u,F,M,rfl,b,g,k⟩
 |int n=>
  refine(dK b rf i ⟨rfl,?_⟩);have az:2<=n/\n<=64:=az;exact(dK b rf j ⟨R,u,n,F,M,rfl,by lia,b,g,k⟩)
 |text n=>
  refine(dK b rf i ⟨rfl,?_⟩);have az:1<=n/\n<=999:=az;exact(dK b rf j ⟨R,u,n,F,M,rfl,by lia,b,g,k⟩)
inductive C3 (K)(c)(vs)(H)(Q)(E):Prop|mk (R) (u:aq) (l) (vf) (F) (M):vs=[.ref R.r,vf]->vh K c F vf l->af K H F (R.cell c.Reader u::M)->R.Ok F u->lP K c (yz c) (dP l u) R F M Q E->C3 K c vs H Q E
theorem C4 (T:Tx K mg c):Fn P w K mg base "read_literal" (7) ["reader","field"] (C3 K c):=by
 refine T.fo 70 ["reader","field","begin","meaning"] λH vs nd hr h=>?_;obtain⟨R,u,l,G,F,M,rfl,Y,z,o,W,U⟩:=h;refine⟨_,(ah (aN 2 (ay (pv 0) rfl)) (ah (aN 3 (pf (UZ T) (ae (pv 0) (ae (pv 1) ag)))) (ak (aC (pk (UY T) (ae (m9 lH (ay (pv 0) rfl) (ji (pv 2)) (ji (ay (pv 0) rfl))) (ae (pv 3) ag))))))),?_⟩;refine(rM z (km _ _) ?_);refine⟨R,u,l,G,F,M,rfl,Y,z,o,W,λx g e H' F' v O b k r=>?_⟩;have X:=b.le _ _ k.tx;refine(rM b (rS _ _) ⟨_,rfl,rM b (km _ _) ⟨_,rfl,R.l,_,rfl,ax.of X,λp hp=>?_⟩⟩);have C:=My.Pn e
 have e1:(R.t.drop (R.t.length-u.length)).take (R.t.length-g.length-(R.t.length-u.length))=fQ x:=by
  have h1:=o.drop;rw[h1.1];have h3:=congrArg f9 C;rw[aQ]at h3;rw[show R.t.length-g.length-(R.t.length-u.length)=(fQ x).length by omega,C,vX];rfl
 rw[Cu,e1];have h2:=b.cP (xs:=bytes (fQ x)) hp;obtain⟨F2,i,h3,r3⟩:=h2.bM (oA _);refine(λy dy I L J=>?_);refine⟨y,dy,_,_,F2,_,rfl,h3.make I L J T.Literal.1,λH4 h4=>⟨rfl,?_⟩⟩;obtain⟨F3,j,h5,r5⟩:=h4.lL (.cons r3 (.cons (r.mono i) .nil));exact U x g e _ _ _ ((O.trans i).trans j) h5 (k.mono (i.trans j)) r5
inductive Kc (K)(c)(vs)(H)(Q:VK)(E:XK):Prop|mk (t:aq) (l) (vt vf) (F) (M):vs=[vt,vf]->Rep K F vt (bP t)->t.length<=20000->vh K c F vf l->af K H F M->((g8 l t=none->∀H' F',Le F F'->af K H' F' M->Q .aB H'))->((∀x,g8 l t=some x->∀H' F' v,Le F F'->af K H' F' M->Rep K F' v (yz c x)->Q v H'))->Kc K c vs H Q E
theorem U0 (T:Tx K mg c):Fn P w K mg base "literal_or_none" (8) ["text","field"] (Kc K c):=by
 refine T.fo 71 ["text","field","reader","literal"] λH vs nd hr h=>?_;obtain⟨t,l,vt,u,F,M,rfl,W,hlen,hl,hH,O,L⟩:=h;refine⟨_,(ah (aN 2 (pk (CV T) (ae (pv 0) ag))) (ah (uS rfl rfl (λ_ _ _ PASS=>(ah (aN 3 (pf (C4 T) (ae (pv 2) (ae (pv 1) ag)))) (ak (ba (bJ (CW T) T.Reader.1 (pv 2)))))) (mE rfl T.eG.glob T.eG.exc (λ_=>(ak (aC m7))) Ct)) (ak (aC (pv 3))))),?_⟩;obtain⟨o,rfl,U⟩:=W.nats;refine(λy j G J I=>?_);refine⟨y,j,o,F,M,rfl,hH.make G J I T.Reader.1,λH1 h1=>⟨rfl,?_⟩⟩;let R:dz:=⟨y,j,o,t⟩;have Y:R.Ok F t:=⟨U,⟨[],rfl⟩,hlen⟩
 have h1':af K H1 F (R.cell c.Reader t::M):=by
  have e:(0:Int)=((R.t.length-t.length:Nat):Int):=by
   rw[qu];rfl
  show af K H1 F ((y,.ins c.Reader j (rf o ((R.t.length-t.length:Nat):Int)))::M);rw[<-e];exact h1
 refine⟨λcl _ k=>cl= .ref c.fh/\(g8 l t=none/\∃g,Le F g/\af K k g M),λcl d k ⟨e,en,g,i,b⟩=>⟨c.fh,e,T.eG.exc,λσ'=>⟨λ_=>O en _ _ i b,λz=>absurd rfl z⟩⟩,?_⟩;refine⟨R,t,l,u,F,M,rfl,hl,h1',Y,λe k g i b=>⟨rfl,?_,g,i,b⟩,λx C e k g v i b X r=>?_⟩
 ·cases q:g8 l t with
  |none=>rfl
  |some v=>
   rw[C2.mp q]at e;cases e
 ·refine⟨y,j,_,rfl,b.at,rfl,R,C,g,M,rfl,b,X,λz=>⟨rfl,?_,g,i,b.drop⟩,λz=>?_⟩
  ·cases q:g8 l t with
   |none=>rfl
   |some v=>
    rw[C2.mp q]at e;cases e;exact absurd rfl z
  ·subst z;exact(L x (C2.mpr e) _ _ _ i b.drop r)
inductive Ke (vs:List V)(H)(Q:VK)(E:XK):Prop|mk (n m:Nat):vs=[.int (n),.int (m)]->n<=999->m<=100000->Q (.bl (decide (m<=js (.text n)))) H->Ke vs H Q E
theorem U1 (h:i<=n):js (.text i)<=js (.text n):=by
 induction n with
 |zero=>
  simp_all
 |succ n b=>
  by_cases e:i=n+1
  ·rw[e];simp_all
  ·have:=b (by lia);rw[My.xd];exact eA this (nH _ _)
theorem U2 (T:Tx K mg c):Fn P w K mg base "has_texts" (1) ["longest","wanted"] (Ke):=by
 refine T.fo 82 ["longest","wanted","of_this_length","found","length"] λH C nd F h=>?_;obtain⟨n,m,rfl,G,I,k⟩:=h;refine⟨_,(ah (aN 2 aY) (ah (aN 3 aY) (ah (gj d_ rfl (BS rfl T.cst.range (ae (pv 0) ag)) (dF 4) (ah (aL (aP uF (pv 3) (pv 1)) (ak (aC kN)) aS) (ah (aN 2 (de xW (pv 2) aY)) (ak (uC 3 (pv 2) uD))))) (ak (aC (jg uF (pv 3) (pv 1))))))),?_⟩;refine⟨(n:Int),rfl,by lia,by lia,rE (n:=(n:Int).toNat) (λi σ g=>g=H/\(∀j,j<i->¬m<=js (.text j))/\∃z,σ=[some (.int (n:Int)),some (.int (m:Int)),some (.int ((256^i:Nat):Int)),some (.int ((js (.text i):Nat):Int)),z]) ⟨rfl,λj z=>absurd z (k_ _),none,rfl⟩ ?_ ?_⟩
 ·rintro i σ g L ⟨rfl,o,z,rfl⟩;refine⟨_,_,rfl,rfl,?_⟩;refine bG (λq=>?_) λq=>?_
  ·have b:m<=js (.text i):=by simpa using q
   have:m<=js (.text n):=eA b (U1 (by lia));rw[decide_eq_true this]at k;exact k
  ·have b:¬m<=js (.text i):=by simpa using q
   refine⟨_,_,rfl,rfl,.inr ⟨by decide,by decide⟩,_,rfl,_,_,rfl,rfl,rfl,λj J=>?_,some (V.int (0+(i:Int))),?_⟩
   ·by_cases e:j=i
    ·rw[e];exact b
    ·exact o j (by lia)
   ·have u:((256^i:Nat):Int)*256=((256^(i+1):Nat):Int):=by rw[Nat.pow_succ];lia
    have y:((js (.text i):Nat):Int)+((256^i:Nat):Int)*256=((js (.text (i+1)):Nat):Int):=by rw[My.xd,u];lia
    show[some (V.int (n:Int)),some (V.int (m:Int)),some (V.int (((256^i:Nat):Int)*256)),some (V.int (((js (.text i):Nat):Int)+((256^i:Nat):Int)*256)),some (V.int (0+(i:Int)))]=_;rw[y,u]
 ·rintro σ g ⟨rfl,o,z,rfl⟩;refine⟨_,_,rfl,rfl,?_⟩;rw[show(n:Int).toNat=n by lia]
  have e:decide ((m:Int)<=((js (.text n):Nat):Int))=decide (m<=js (.text n)):=by
   simp
  rw[e];exact k
inductive Kg (K)(c)(vs)(H)(Q:VK)(E:XK):Prop|mk (l) (m:Nat) (vf) (F) (M):vs=[vf,.int (m)]->vh K c F vf l->af K H F M->m<=100000->Q (.bl (decide (m<=js l))) H->Kg K c vs H Q E
theorem U3 (T:Tx K mg c):Fn P w K mg base "has_literals" (2) ["field","wanted"] (Kg K c):=by
 refine T.fo 81 ["field","wanted"] λH u nd z h=>?_;obtain⟨l,m,y,F,M,rfl,o,b,j,k⟩:=h;refine⟨_,(ah (aL (aP cy (ay (pv 0) rfl) (aD T.cst.Cv)) (ak (aC (jg jF (pv 1) aY))) aS) (ah (aL (aP cy (ay (pv 0) rfl) (aD T.cst.Cw)) (ak (aC (jg jF (pv 1) (pf (J8 T) (ae (ay (pv 0) rfl) ag))))) aS) (ak (aC (pf (U2 T) (ae (ay (pv 0) rfl) (ae (pv 1) ag))))))),?_⟩;obtain⟨az,C,rf,g,i⟩:=o;refine(dK b rf g ⟨rfl,?_⟩);cases l with
 |bit=>
  refine⟨_,_,rfl,rfl,?_⟩
  have e:decide ((m:Int)<=2)=decide (m<=js .bit):=by
   rw[lh];show _↔decide (m<=2)=true;simp
   lia
  simp_all
 |int n=>
  refine(dK b rf g ⟨rfl,?_⟩);have az:2<=n/\n<=64:=az;refine(dK b rf i ⟨n,rfl,by lia,_,_,rfl,rfl,?_⟩)
  have e:decide ((m:Int)<=2^n)=decide (m<=js (.int n)):=by
   rw[lh];show _↔decide (m<=2^n)=true
   grind
  simp_all
 |text n=>
  refine(dK b rf g ⟨rfl,?_⟩);have az:1<=n/\n<=999:=az;exact(dK b rf i ⟨n,m,rfl,by lia,j,k⟩)
end
end Prg
namespace HT
open PySem PyProof.Rows
def lexLe:List Int->List Int->Bool
 |[],_=>true
 |_::_,[]=>false
 |x::g,y::b=>if x=y then lexLe g b else decide (x<=y)
theorem U4 (A)(s)(a)(t)(c)(u)(prog)(w)(E)(Q)(h:Q (.bool (decide (a<=c))) s):
 aZ (aT prog w) A (richCompare .LtE (.int a t) (.int c u)) Q E s:=
 (Zv h:aZ (aT prog w) A (gJ .LtE (.int a t) (.int c u)) Q E s)
theorem C5:∀{g} {ns} {i:Nat} {v},wq g ns->g[i]? =some v->∃a t,v= .int a t/\ns[i]? =some a
 |_,_,_,_,.nil,e=>by simp at e
 |_,_,0,_,.cons a t h,e=>by
  simp at e;exact⟨a,t,e.symm,rfl⟩
 |_,_,i+1,v,.cons a t h,e=>by
  obtain⟨b,u,k,j⟩:=C5 (i:=i) (v:=v) h (by simpa using e);exact⟨b,u,k,by simpa using j⟩
section
open PySem.SeqAt
open PySem.AutoSeq1 (wpAny_loadPart')
open PySem.MeetsSeq PySem.MeetsSeq2 PySem.MeetsSeq3
theorem U5 (l b)(items items2)(n n2)(dd dd2)(sl sl2)(ns ms)(O:wq items.toList ns)(L:wq items2.toList ms)(k):
 ∀i:Nat,items.size-i=k->i<=items.size->i<=items2.size->Meets (Builtin.«list.__eq__.loop» ⟨[.ref l,.ref b,tp i,tp 1],[]⟩)
  (λA R s=>s.heap.get? l=some {cls:= .type "list",dict:=dd,data:= .seq items n,slots:=sl}/\s.heap.get? b=some {cls:= .type "list",dict:=dd2,data:= .seq items2 n2,slots:=sl2}/\
    R (.ok (.ret (.bool (lexLe (ns.drop i) (ms.drop i))))) s):=by
 have z1:items.size=ns.length:=by rw[<-O.length];simp
 have z2:items2.size=ms.length:=by rw[<-L.length];simp
 induction k with
 |zero=>
  intro i Y h1 h2 prog w A R s h;obtain⟨hp,g,d,C,os⟩:=s;obtain⟨j,o,h⟩:=h
  wp_walk using kH j,kH o
  have F:items[((i:Nat):Int).toNat]? =none:=by simp;lia
  have hd:ns.drop i=[]:=ku (by lia);rw[hd]at h;rw[F];cases z:items2[((i:Nat):Int).toNat]? with
  |none=>
   wp_walk using kH j,kH o
   show R (.ok (.ret (.bool (decide (items.size<=items2.size))))) _;rw[decide_eq_true (by lia)];exact h
  |some y=>
   wp_walk using kH j,kH o
   show R (.ok (.ret (.bool (decide (items.size<=items2.size))))) _;rw[decide_eq_true (by lia)];exact h
 |succ k W=>
  intro i Y h1 h2 prog w A R s h;obtain⟨hp,g,d,C,os⟩:=s;obtain⟨j,o,h⟩:=h
  wp_walk using kH j,kH o
  have J:i<items.size:=by lia
  have F:items[((i:Nat):Int).toNat]? =some items[i]:=by simp[J]
  have hc:((i:Int)+1)=((i+1:Nat):Int):=by push_cast;rfl
  obtain⟨a,t,U,P⟩:=C5 (i:=i) (v:=items[i]) O (by simp[J]);rw[F];by_cases I:i<items2.size
  ·have z:items2[((i:Nat):Int).toNat]? =some items2[i]:=by simp[I]
   obtain⟨c,u,T,gc⟩:=C5 (i:=i) (v:=items2[i]) L (by simp[I]);rw[z]
   have G:ns.drop i=a::ns.drop (i+1):=by
    rw[nP (by lia)];congr 1;have:=cK.mp P;exact this.2
   have H:ms.drop i=c::ms.drop (i+1):=by
    rw[nP (by lia)];congr 1;have:=cK.mp gc;exact this.2
   rw[G,H]at h;have h:R (.ok (.ret (.bool (if a=c then lexLe (ns.drop (i+1)) (ms.drop (i+1))else decide (a<=c))))) ⟨hp,g,d,C,os⟩:=h;obtain⟨e,he,M⟩:=RS A.in1 ⟨hp,g,d,C,os⟩ a t c u;rw[U,T];refine cH (he prog w _ _ ?_);cases e with
   |true=>
    rw[if_pos (M.mp rfl)]at h
    wp_walk
    rw[hc]
    exact⟨plainId_quiet plain_eq_loop _,YD entry_eq_loop (by
     rw[Around.under_plainId plain_eq_loop _];exact W (i+1) (by lia) (by lia) (by lia) prog w A R _ ⟨j,o,h⟩)⟩
   |false=>
    rw[if_neg (λq=>absurd (M.mpr q) dX)]at h
    wp_walk using kH j,kH o
    rw[F,z,U,T];have X:=U4 A.in1 ⟨hp,g,d,C,os⟩ a t c u prog w
    wp_walk using X
    exact h
  ·have z:items2[((i:Nat):Int).toNat]? =none:=by simp;lia
   have H:ms.drop i=[]:=ku (by lia)
   have G:ns.drop i=a::ns.drop (i+1):=by
    rw[nP (by lia)];congr 1;have:=cK.mp P;exact this.2
   rw[G,H]at h;rw[z]
   wp_walk using kH j,kH o
   show R (.ok (.ret (.bool (decide (items.size<=items2.size))))) _;rw[decide_eq_false (by lia)];exact h
theorem vj (l b)(items items2)(n n2)(dd dd2)(sl sl2)(ns ms)(o:wq items.toList ns)(k:wq items2.toList ms):
 Meets (Builtin.«list.__le__» ⟨[.ref l,.ref b],[]⟩)
  (λA R s=>s.heap.get? l=some {cls:= .type "list",dict:=dd,data:= .seq items n,slots:=sl}/\s.heap.get? b=some {cls:= .type "list",dict:=dd2,data:= .seq items2 n2,slots:=sl2}/\
    R (.ok (.ret (.bool (lexLe ns ms)))) s):=by
 intro prog w A R s h;obtain⟨hp,g,d,u,os⟩:=s;obtain⟨i,j,h⟩:=h;have y:=AutoSeq1.sub_list_list
 wp_walk using kH i,kH j
 exact⟨plainId_quiet plain_eq_loop _,YD entry_eq_loop (by
  exact U5 l b items items2 n n2 dd dd2 sl sl2 ns ms o k _ 0 rfl (bR _) (bR _) prog w A R _ ⟨i,j,h⟩)⟩
end
end HT
namespace L2
open PySem PySem.Spec PyProof.Rows Prg
theorem C6:∀{t} {b},bp (nums t) b->wq b t
 |[],_,.nil=> .nil
 |n::t,u::b,.cons r g=>by
  obtain⟨k,rfl⟩:=r;exact .cons n k (C6 g)
theorem U6 (G:X.A.units<qH):dR X (gJ .LtE) (λx y H Q=>∃a b i g,x= .ref a/\y= .ref b/\H a=some (.lst (nums i))/\H b=some (.lst (nums g))/\Q (.bl (HT.lexLe i g)) H):=by
 intro M s σ H x y v u Q I o k h;obtain⟨a,b,i,g,rfl,rfl,L,J,q⟩:=h;cases o;cases k;obtain⟨_,F,n,r,_,e⟩:=I.om L;obtain⟨_,C,z,r2,_,j⟩:=I.om J
 exact richCompare_meets_room (op:= .LtE) ⟨_,e,rfl⟩ ⟨_,j,rfl⟩ PySem.F.slot_list_le PySem.F.entry_list_le (PySem.F.args_list_le_2 _ _)
  (HT.vj a b F.toArray C.toArray n z none none #[] #[] i g (C6 (by simpa using r)) (C6 (by simpa using r2)))
  ⟨e,j,show Value.bool (HT.lexLe i g)≠Value.notImplemented/\_ from⟨(λx=>nomatch x),⟨.bl _,H,I,rfl,q⟩⟩⟩ G
end L2
namespace Prg
open PySem PySem.Spec PyProof.Rows L2
open Vacola (Text Leaf Lit Mode Head Fields showMode repOf defOf leavesKind leavesFields Column)
open Vacolb (Val)
open My (iz bB bC)
abbrev Kd:=Vacola.Kind
structure FI where
 nm:aq
 m:jQ
 path:List Nat
 r:Nat
 d:Nat
 lv:List Nat
 a:Nat
def FI.bE (i:FI)(ch:Bool)(h:g6)(a:Nat):FI:=
 ⟨h.name,h.mode,i.path++[h.number],i.r+aw h.mode,i.d+defOf ch h.mode,if aw h.mode=1 then i.lv++[i.d+defOf ch h.mode]else i.lv,a⟩
def FI.root:FI:=⟨[],.one,[],0,0,[],0⟩
def ik (ch:Bool):Int:=if ch then 4 else 3
def yA (c:Cs)(i:FI)(kind:Int)(b:Nat)(g:List D)(e:Nat):D:=
 .ins c.Field [("name",bP i.nm),("mode",fL (jt i.m)),("path",bP i.path),("repetition",fL i.r),("definition",fL i.d),("kind",intD kind),("size",fL b),("fields",.lst g),("first_column",fL i.a),("end_column",fL e),("repeating_levels",bP i.lv)]
mutual
def FD (c:Cs):FI->Kd->D
 |i,.leaf l=>yA c i (sf l) (sg l) [] (i.a+1)
 |i,.group ch fs=>yA c i (ik ch) 0 (bS c i ch i.a fs) (i.a+aG fs)
def bS (c:Cs):FI->Bool->Nat->aJ->List D
 |_,_,_,.nil=>[]
 |i,ch,a,.cons h k rest=>FD c (i.bE ch h a) k::bS c i ch (a+au k) rest
end
mutual
def LD (c:Cs):FI->Kd->List D
 |i,.leaf l=>[FD c i (.leaf l)]
 |i,.group ch fs=>gD c i ch i.a fs
def gD (c:Cs):FI->Bool->Nat->aJ->List D
 |_,_,_,.nil=>[]
 |i,ch,a,.cons h k rest=>LD c (i.bE ch h a) k++gD c i ch (a+au k) rest
end
def lR:Kd->Int
 | .leaf l=>sf l
 | .group ch _=>ik ch
def si:Kd->Nat
 | .leaf l=>sg l
 | .group _ _=>0
def vm (c:Cs)(i:FI):Kd->List D
 | .leaf _=>[]
 | .group ch fs=>bS c i ch i.a fs
theorem Kh (c)(i)(k):FD c i k=yA c i (lR k) (si k) (vm c i k) (i.a+au k):=by
 cases k with
 |leaf l=>
  rfl
 |group ch fs=>
  rfl
section
variable {F H:Hp}{M:List (ai×HO)}{v:V}{i:FI}{k:Kd}{Q:VK}
theorem kn (r:Rep K F v (FD c i k)):Rep K F v (yA c i (lR k) (si k) (vm c i k) (i.a+au k)):=by rw[<-Kh];exact r
theorem yB (h:af K H F M)(r:Rep K F v (FD c i k))(q:∀x,Rep K F x (bP i.nm)->Q x H):gR K "name" v H Q:=rF h (kn r) rfl q
theorem pU (h:af K H F M)(r:Rep K F v (FD c i k))(q:Q (.int ((jt i.m:Nat):Int)) H):gR K "mode" v H Q:=dK h (kn r) rfl q
theorem C7 (h:af K H F M)(r:Rep K F v (FD c i k))(q:∀x,Rep K F x (bP i.path)->Q x H):gR K "path" v H Q:=rF h (kn r) rfl q
theorem yC (h:af K H F M)(r:Rep K F v (FD c i k))(q:Q (.int (i.r:Int)) H):gR K "repetition" v H Q:=dK h (kn r) rfl q
theorem pV (h:af K H F M)(r:Rep K F v (FD c i k))(q:Q (.int (i.d:Int)) H):gR K "definition" v H Q:=dK h (kn r) rfl q
theorem iX (h:af K H F M)(r:Rep K F v (FD c i k))(q:Q (.int (lR k)) H):gR K "kind" v H Q:=dK h (kn r) rfl q
theorem U7 (h:af K H F M)(r:Rep K F v (FD c i k))(q:Q (.int (si k)) H):gR K "size" v H Q:=dK h (kn r) rfl q
theorem pW (h:af K H F M)(r:Rep K F v (FD c i k))(q:∀x,Rep K F x (.lst (vm c i k))->Q x H):gR K "fields" v H Q:=rF h (kn r) rfl q
theorem yD (h:af K H F M)(r:Rep K F v (FD c i k))(q:Q (.int (i.a:Int)) H):gR K "first_column" v H Q:=dK h (kn r) rfl q
theorem Ki (h:af K H F M)(r:Rep K F v (FD c i k))(q:Q (.int ((i.a+au k:Nat):Int)) H):gR K "end_column" v H Q:=dK h (kn r) rfl q
theorem U8 (h:af K H F M)(r:Rep K F v (FD c i k))(q:∀x,Rep K F x (bP i.lv)->Q x H):gR K "repeating_levels" v H Q:=rF h (kn r) rfl q
theorem yE (h:af K H F M)(r:Rep K F v (FD c i k)){P}(q:∀(a dx:ai) (fs:List (Str×V)),v= .ref a->P):B2 c.Field "is_leaf" v H P:=by
 obtain⟨a,dx,fs,e,h1,_,_,rf⟩:=(kn r).nq;exact⟨a,dx,fs,e,h.le _ _ h1,rf.none rfl,q a dx fs e⟩
theorem yF (ok:iz l)(r:Rep K F v (FD c i (.leaf l))):vh K c F v l:=⟨ok,_,kn r,rfl,rfl⟩
end
mutual
def gE (c:Cs):Val->D
 | .lit x=>yz c x
 | .group b=> .lst (eW c b)
def eW (c:Cs):List (List Val)->List D
 |[]=>[]
 |o::b=> .lst (cz c o)::eW c b
def cz (c:Cs):List Val->List D
 |[]=>[]
 |v::b=>gE c v::cz c b
end
theorem kq (c):∀o:List Val,(cz c o).length=o.length
 |[]=>by
  rfl
 |v::o=>by
  unfold cz;rw[bf,bf,kq c o]
theorem pX (c):∀(o) (i:Nat),(cz c o)[i]? =(o[i]?).map (gE c)
 |[],i=>by
  rfl
 |v::o,0=>by
  rfl
 |v::o,i+1=>by
  unfold cz;simpa using pX c o i
theorem yG (c):∀(o p),cz c (o++p)=cz c o++cz c p
 |[]=>λp=>by
  rfl
 |v::o=>λp=>by
  rw[ir,cz,cz,yG c o p];rfl
theorem vq (c):∀(o p),eW c (o++p)=eW c o++eW c p
 |[]=>λp=>by
  rfl
 |v::o=>λp=>by
  rw[ir,eW,eW,vq c o p];rfl
theorem pY (c):∀o:List (List Val),(eW c o).length=o.length
 |[]=>by
  rfl
 |v::o=>by
  unfold eW;rw[bf,bf,pY c o]
theorem yH (c):∀(o) (i:Nat),(eW c o)[i]? =(o[i]?).map λx=> .lst (cz c x)
 |[],i=>by
  rfl
 |v::o,0=>by
  rfl
 |v::o,i+1=>by
  unfold eW;simpa using yH c o i
open Vacola (showLit fits keyOf)
open Vacolb (keyLit textLess litLess keyRises)
open Vacolc (risingKeys)
open My (cV eC fz jv kL cI hG i_)
def U9:Kd->Bool
 | .leaf _=>true
 | .group _ _=>false
section
theorem U_ (k):(lR k=3/\∃fs,k= .group false fs)\/(lR k=4/\∃fs,k= .group true fs)\/(lR k≠3/\lR k≠4/\∃l,k= .leaf l):=by
 cases k with
 |leaf l=>
  refine .inr (.inr ⟨?_,?_,l,rfl⟩)
  ·cases l with
   |bit=>show(0:Int)≠3;decide
   |int n=>show(1:Int)≠3;decide
   |text n=>show(2:Int)≠3;decide
  ·cases l with
   |bit=>show(0:Int)≠4;decide
   |int n=>show(1:Int)≠4;decide
   |text n=>show(2:Int)≠4;decide
 |group ch fs=>
  cases ch with
  |false=>exact .inl ⟨rfl,fs,rfl⟩
  |true=>exact .inr (.inl ⟨rfl,fs,rfl⟩)
inductive Kj (K)(c)(vs)(H)(Q:VK)(E:XK):Prop|mk (vf) (i) (k) (F) (M):vs=[vf]->Rep K F vf (FD c i k)->af K H F M->Q (.bl (U9 k)) H->Kj K c vs H Q E
theorem yI (T:Tx K mg c):Mt P w K mg base c.Field "is_leaf" (1) ["self"] (Kj K c):=by
 refine T.mo 16 1 ["self"] λH g nd o h=>?_;obtain⟨j,i,k,F,M,rfl,rf,b,q⟩:=h;refine⟨_,(ak (aC (uy (jg je (ay (pv 0) rfl) (aD T.cst.rT)) (rB (jg je (ay (pv 0) rfl) (aD T.cst.ow)))))),?_⟩;refine(iX b rf ⟨rfl,_,rfl,?_⟩);rcases U_ k with⟨e,fs,rfl⟩|⟨e,fs,rfl⟩|⟨e1,e2,l,rfl⟩
 ·exact q
 ·exact(iX b rf ⟨rfl,q⟩)
 ·refine bG (λ_=>(iX b rf ⟨rfl,?_⟩)) λz=>?_
  ·have:(!decide (V.int (lR (.leaf l))=V.int 4))=true:=by simp[e2]
   rw[this];exact q
  simp_all
inductive C8 (vs:List V)(H)(Q:VK)(E:XK):Prop|mk (m):vs=[.int ((jt m):Int)]->Q (.bl (i_ m)) H->C8 vs H Q E
theorem yJ (T:Tx K mg c):Fn P w K mg base "is_repeating" (1) ["mode"] (C8):=by
 refine T.fo 17 ["mode"] λH b nd g h=>?_;obtain⟨m,rfl,q⟩:=h;refine⟨_,(ak (aC (BO (jg cy (pv 0) (aD T.cst.JL)) (rB (jg cy (pv 0) (aD T.cst.uU)))))),?_⟩;refine⟨rfl,_,rfl,?_⟩;cases m with
 |one=>exact⟨rfl,q⟩
 |opt=>exact⟨rfl,q⟩
 |many=>exact q
 |keyed=>exact⟨rfl,q⟩
inductive Kk (K)(c)(vs)(H)(Q:VK)(E:XK):Prop|mk (vv) (v) (x) (F) (M):vs=[vv]->Rep K F vv (gE c v)->dW v=some x->af K H F M->(∀y,Rep K F y (oI x)->Q y H)->Kk K c vs H Q E
set_option tactic.hygienic true in
theorem U' (h:dW v=some x):∃o b,v= .group ((.lit x::o)::b):=by
 unfold dW at h;split at h
 ·rename_i w o b;unfold Vacolb.litOf at h;split at h
  ·cases h
   grind
  simp_all
 simp_all
theorem ft {j:Nat}(h:af K H F M)(r:Rep K F x (.lst ds))(e:ds[j]? =some d)(q:∀y,Rep K F y d->Q y H):pL K x (.int (j)) H Q:=by
 obtain⟨a,b,rfl,h1,rs⟩:=r.lst_inv;obtain⟨y,g1,g2⟩:=rs.get e;exact⟨a,b,(j:Int),y,rfl,rfl,ax.of (h.le _ _ h1),uJ g1,q y g2⟩
theorem Kl (T:Tx K mg c):Fn P w K mg base "key_of" (1) ["value"] (Kk K c):=by
 refine T.fo 90 ["value"] λH J nd O h=>?_;obtain⟨I,v,x,F,M,rfl,k,G,b,q⟩:=h;refine⟨_,(ak (aC (ay (d8 dS (d8 dS (pv 0) aY) aY) rfl))),?_⟩;obtain⟨o,L,rfl⟩:=U' G;refine(ft (j:=0) b k rfl λy i=>ft (j:=0) b i rfl λz g=>?_);exact rF b g (d:=oI x) rfl λu C=>q u C
theorem Km:∀(a b),HT.lexLe (b.map λ(n:Nat)=>(n)) (a.map λ(n:Nat)=>(n))= !qw a b
 |a,[]=>by
  unfold qw;rfl
 |[],y::b=>by
  rfl
 |x::a,y::b=>by
  have g:=Km a b;unfold qw;show(if(y:Int)=(x:Int)then HT.lexLe (b.map λ(n:Nat)=>(n:Int)) (a.map λ(n:Nat)=>(n:Int))else decide ((y:Int)<=(x:Int)))=_
  grind
theorem Va (h:af K H F M)(C:dG l a=true)(z:dG l b=true)(u:Rep K F x (oI a))(o:Rep K F y (oI b))(q:Q (.bl (!qx b a)) H):
 (λx y H Q=>jE (λi j=> .bl (decide (i<=j))) x y H Q\/∃a b k g,x=V.ref a/\y=V.ref b/\H a=some (.lst (nums k))/\H b=some (.lst (nums g))/\Q (.bl (HT.lexLe k g)) H) x y H Q:=by
 cases a with
 |num i=>
  cases b with
  |num j=>
   obtain rfl:=u.val;obtain rfl:=o.val;refine .inl ⟨i,j,rfl,rfl,?_⟩
   have:decide (i<=j)= !qx (.num j) (.num i):=by
    show decide (i<=j)= !decide (j<i)
    grind
   simp_all
  |str t=>cases l<;>simp[dG]at C z
 |str s=>
  cases b with
  |num j=>cases l<;>simp[dG]at C z
  |str t=>
   obtain⟨p,rfl,hp⟩:=Rep.nats u;obtain⟨G,rfl,I⟩:=Rep.nats o;refine .inr ⟨p,G,_,_,rfl,rfl,by rw[<-JU];exact h.le _ _ hp,by rw[<-JU];exact h.le _ _ I,?_⟩;rw[Km];exact q
inductive C9 (K)(c)(vs)(H)(Q:VK)(E:XK):Prop|mk (vo) (o) (l) (F) (M):vs=[vo]->Rep K F vo (.lst (cz c o))->o.length<=100000->((∀v∈o,∃x,dW v=some x/\dG l x=true))->af K H F M->Q (.bl (risingKeys o)) H->C9 K c vs H Q E
theorem Kn (T:Tx K mg c):Fn P w K mg base "keys_rise" (2) ["occurrences"] (C9 K c):=by
 refine T.fo 89 ["occurrences","place"] λH vs nd hr h=>?_;obtain⟨vo,o,l,F,M,rfl,J,hlen,ho,b,q⟩:=h;refine⟨_,(ah (gj d_ rfl (BU rfl T.cst.range (ae aY (ae (cM cE (by rfl) T.cst.len cT (ae (pv 0) ag)) ag))) (dF 1) (ak (aL (aP (dR.or jF (U6 (Nw (nH _ _) hr.units))) (pf (Kl T) (ae (d8 dS (pv 0) (pv 1)) ag)) (pf (Kl T) (ae (d8 dS (pv 0) (de kg (pv 1) aY)) ag))) (ak (aC kN)) aS))) (ak (aC kN))),?_⟩;obtain⟨a,xs,rfl,ha,rs⟩:=J.lst_inv;have u:xs.length=o.length:=by rw[rs.len,kq]
 refine⟨a,_,rfl,.inl (ax.of (b.le _ _ ha)),1,_,rfl,⟨by decide,by decide,by rw[u];lia,by rw[u];lia⟩,rE (lo:=1) (λi σ k=>k=H/\(∀j x y,j<i->o[j]? =some x->o[j+1]? =some y->zl (dW x) (dW y)=true)/\∃z,σ=[some (.ref a),z]) ⟨rfl,λj x y z=>absurd z (k_ _),none,rfl⟩ ?_ ?_⟩
 ·rintro i σ k hi ⟨rfl,U,z,rfl⟩;rw[u]at hi;have h1:i<o.length:=by lia
  have h2:i+1<o.length:=by lia
  have X:o[i]? =some o[i]:=eI _;have W:o[i+1]? =some o[i+1]:=eI _;obtain⟨G,O,f1⟩:=ho o[i] (qj _);obtain⟨C,L,f2⟩:=ho o[i+1] (qj _);have ei:(1:Int)+(i:Int)=((i+1:Nat):Int):=by lia
  have ei2:V.int ((1:Int)+(i:Int)-1)=V.int ((i:Nat):Int):=by
   simp_all
  show(my _) [some (.ref a),some (.int (1+(i:Int)))] k _;rw[ei];refine(ft (j:=i+1) b J (by rw[pX,W];rfl) λy I=>?_);refine⟨_,o[i+1],C,F,M,rfl,I,L,b,λm2 rm2=>?_⟩;refine⟨_,_,rfl,rfl,?_⟩
  have ei3:V.int (((i+1:Nat):Int)-1)=V.int ((i:Nat):Int):=by
   simp_all
  show pL K (.ref a) (V.int (((i+1:Nat):Int)-1)) k _;rw[ei3];refine ft (j:=i) b J (by rw[pX,X];rfl) λy I=>?_;refine⟨_,o[i],G,F,M,rfl,I,O,b,λm1 rm1=>?_⟩;refine Va b f2 f1 rm2 rm1 (?_);refine bG (λY=>?_) λY=>?_
  ·have:risingKeys o=false:=by
    cases q3:risingKeys o with
    |false=>rfl
    |true=>
     have:=My.Bw.mp q3 i _ _ X W;rw[O,L]at this;have this:qx G C=true:=this;simp_all
   rw[this]at q;exact q
  ·refine⟨rfl,λj x y hj2 ex g=>?_,some (V.int ((i+1:Nat):Int)),rfl⟩;by_cases e:j=i
   ·subst e;rw[X]at ex;rw[W]at g;cases ex;cases g;rw[O,L];show qx G C=true;simpa using Y
   ·exact U j x y (by lia) ex g
 ·rintro σ k ⟨rfl,U,z,rfl⟩
  have:risingKeys o=true:=My.Bw.mpr λj x y ex g=>by
   obtain⟨l1,_⟩:=cK.mp g;exact U j x y (by rw[u];lia) ex g
  rw[this]at q;exact q
end
section
theorem af.jL (h:af K H F M)(hp:H p=none)(t):pQ K (upd H p (.lst (bytes t))) F M (.ref p) (bP t):=by
 obtain⟨g,l,b,r⟩:=(h.cP (xs:=bytes t) hp).bM (oA t);exact⟨g,l,b,r⟩
theorem af.sj (h:af K H F M)(hp:H p=none)(r:aU K F xs ds):pQ K (upd H p (.lst xs)) F M (.ref p) (.lst ds):=by
 obtain⟨i,l,g,b⟩:=(h.cP (xs:=xs) hp).bM r;exact⟨i,l,g,b⟩
theorem pZ (h:af K H F M)(k:Rep K F x (bP s))(j:Rep K F y (bP t))(C:s.length+t.length<=100000)(q:∀v i g,Le F g->af K i g M->Rep K g v (bP (s++t))->Q v i):rL x y H Q:=by
 obtain⟨a,rfl,u⟩:=k.nats;obtain⟨b,rfl,o⟩:=j.nats;refine⟨a,b,_,_,rfl,rfl,h.le _ _ u,h.le _ _ o,by rw[gB,gB,bq];lia,λp hp=>?_⟩;rw[<-rR];obtain⟨g,l,z,r⟩:=h.jL hp (s++t);exact q _ _ _ l z r
inductive sm (K)(c)(n)(vs)(H)(Q)(E):Prop|mk (R) (u:aq) (vf) (i) (k:Kd) (F) (M):vs=[.ref R.r,vf]->bB k n->Rep K F vf (FD c i k)->af K H F (R.cell c.Reader u::M)->R.Ok F u->lP K c (gE c) (cV k u) R F M Q E->sm K c n vs H Q E
inductive C_ (K)(c)(n)(vs)(H)(Q)(E):Prop|mk (R) (u:aq) (vf) (i) (k:Kd) (F) (M):vs=[.ref R.r,vf]->bB k n->((i.m= .keyed->(dM k).isSome=true))->Rep K F vf (FD c i k)->af K H F (R.cell c.Reader u::M)->R.Ok F u->lP K c (λo=> .lst (cz c o)) (jv (λx=>cV k x) i.m u) R F M Q E->C_ K c n vs H Q E
inductive sq (K)(c)(ch)(n)(vs)(H)(Q)(E):Prop|mk (R) (u:aq) (vf) (i) (fs) (F) (M):vs=[.ref R.r,vf]->bB (.group ch fs) n->Rep K F vf (FD c i (.group ch fs))->af K H F (R.cell c.Reader u::M)->R.Ok F u->lP K c (gE c) (cV (.group ch fs) u) R F M Q E->sq K c ch n vs H Q E
inductive Ko (R:dz)(vf)(i)(k:Kd)(F)(M)(v0)(u0)(p)(m)(σ:L2.St)(H'):Prop|mk (vs u1 xs F1):m=u1.length->kL (λx=>cV k x) u0=(kL (λx=>cV k x) u1).map (λx=>(vs++x.1,x.2))->vs.length+u1.length<=u0.length->Le F F1->R.Ok F1 u1->aU K F1 xs (cz c (v0::vs))->af K H' F1 ((p,.lst xs)::R.cell c.Reader u1::M)->Rep K F1 vf (FD c i k)->((∀v∈v0::vs,∃u r,cV k u=some (v,r)))->σ=[some (.ref R.r),some vf,some (.ref p)]->Ko R vf i k F M v0 u0 p m σ H'
theorem Vb (T:Tx K mg c)(g_read_value:Fn P w K mg base "read_value" (3*n+8) ["reader","field"] (sm K c n)):Fn P w K mg base "read_occurrences" (3*n+9) ["reader","field"] (C_ K c n):=by
 refine T.fO 88 ["reader","field","occurrences"] λf bu A outer s H b Q E nd hr h=>?_;obtain⟨R,u,I,i,k,F,M,rfl,az,hkey,rf,hH,ho,k1,k2⟩:=h;refine⟨_,(ah (aN 2 (bO (ae (pf g_read_value (ae (pv 0) (ae (pv 1) ag))) ag))) (ah (aL (c_ (pf (yJ T) (ae (ay (pv 1) rfl) ag))) (ak (mx d_ (c_ (pm (jK T) T.Reader.1 (pv 0) (ae (aD T.cst.JM) ag))) (ak (ba (d9 eU gv gw f6 (pv 2) (ae (pf g_read_value (ae (pv 0) (ae (pv 1) ag))) ag)))))) aS) (ah (aL (PW.pt (xP (aP cy (ay (pv 1) rfl) (aD T.cst.uU)) (xO (lE (c_ (pf (Kn T) (ae (pv 2) ag))))))) (ak (cO T.eG)) aS) (ak (aC (pv 2)))))),?_⟩;have hpl:=λu v r=>My.tO k u v r;refine⟨R,u,I,i,k,F,M,rfl,az,rf,hH,ho,λe=>k1 (by unfold jv;dsimp only;rw[e]),λv0 g e0 H0 F0 W L h0 ho0 r0=>?_⟩;refine⟨by show 1<=bH;rw[bq];decide,λp hp=>?_⟩;have h1:=h0.cP (xs:=[W]) hp;generalize upd H0 p (.lst [W])=H1 at h1⊢;have hl0:=ho0.len;have hd0:=ho0.drop.2
 have fin:∀(b:List Val) (j:aq) (C:List V) (H2 G:Hp),(if i_ i.m=true then kL (λx=>cV k x) g else some ([],g))=some (b,j)->Le F G->R.Ok G j->aU K G C (cz c (v0::b))->b.length+j.length<=g.length->
  af K H2 G ((p,.lst C)::R.cell c.Reader j::M)->Rep K G I (FD c i k)->
  (∀v∈v0::b,∃u r,cV k u=some (v,r))->
  kQ (m8 (HX (my (iE rG (gS K (bg 1) "mode") (tC (.int 37)))) (HZ (tB (mB (C9 K c) [] E (dr (bg 2) dJ))))) (Cr E c.fh) n4) (lF (bg 2)) {nx:=λ_ H'=>Q .aB H',rt:=Q} [some (.ref R.r),some I,some (.ref p)] H2:=by
  intro b j C H2 G em l2 ho2 rs hvl h2 rf2 Y
  have epo:jv (λx=>cV k x) i.m u=if i.m= .keyed/\risingKeys (v0::b)=false then none else some (v0::b,j):=by
   unfold jv;dsimp only;rw[e0];dsimp only;have em':(if i_ i.m=true then My.i9 (λx=>cV k x) (g.length+1) g else some ([],g))=some (b,j):=em;rw[em']
  obtain⟨F3,o,h3,r3⟩:=h2.bM rs;refine(pU h3 (rf2.mono o) ⟨rfl,?_⟩);by_cases y:i.m= .keyed
  ·rw[y];have hky:=hkey y;cases hk:dM k with
   |none=>rw[hk]at hky;cases hky
   |some hl=>
    refine⟨_,v0::b,hl.2,F3,_,rfl,r3,(by rw[bf];lia),λv O=>?_,h3,?_⟩
    ·obtain⟨u',r',e'⟩:=Y v O;exact My.Qz (h:=hl.1) (l:=hl.2) hk e'
    ·refine(?_);cases hr2:risingKeys (v0::b)with
     |false=>exact k1 (by rw[epo,if_pos ⟨y,hr2⟩]) _ _ (l2.trans o) h3.drop
     |true=>exact(k2 (v0::b) j (by rw[epo,if_neg (λz=>by rw[hr2]at z;exact absurd z.2 (by simp))]) _ _ _ (l2.trans o) h3 (ho2.mono o) r3)
  ·have:decide (V.int ((jt i.m:Nat):Int)=V.int 37)=false:=by
    cases q:i.m with
    |one=>rfl
    |opt=>rfl
    |many=>rfl
    |keyed=>exact absurd q y
   rw[this];exact((k2 (v0::b) j (by rw[epo,if_neg λz=>y z.1]) _ _ _ (l2.trans o) h3 (ho2.mono o) r3))
 refine(pU h1 (rf.mono L) ⟨i.m,rfl,?_⟩);refine bG (λy=>?_) λy=>?_
 ·refine⟨Ko R I i k F M v0 g p,
   ⟨_,[],g,[W],F0,rfl,by cases kL (λx=>cV k x) g<;>rfl,by simp,L,ho0,by rw[cz,cz];exact .cons r0 .nil,h1,rf.mono L,λv O=>⟨u,g,by rw[g7.mp O];exact e0⟩,rfl⟩,?_⟩
  rintro m σ H' ⟨b,X,C,F1,rfl,U,hvl,l1,ho1,rs,h',rf1,Y,rfl⟩;refine⟨R.r,R.dx,_,rfl,h'.sw.at,rfl,R,X,44,F1,_,rfl,h'.sw,ho1,λhn=>?_,λj e H2 h2 ho2=>?_⟩
  ·refine(?_)
   have:kL (λx=>cV k x) X=some ([],X):=by
    rw[My.Bv hpl,My.gg.mpr hn]
   rw[this]at U;exact fin b X C _ F1 (by rw[if_pos y,U];simp) l1 ho1 rs hvl h' rf1 Y
  ·subst e;refine(⟨_,λσ' H' z=>z,?_⟩);refine⟨⟨rfl,_,ax.of h2.sw.at⟩,R,j,I,i,k,F1,_,rfl,az,rf1,h2,ho2,λe H3 F3 o h3=>?_,λv J e H3 F3 x o h3 ho3 rx=>?_⟩
   ·have:kL (λx=>cV k x) (44::j)=none:=by
     rw[My.Bv hpl,My.hU];dsimp only;rw[e]
    rw[this]at U;refine k1 ?_ _ _ (l1.trans o) h3.drop;unfold jv;dsimp only;rw[e0];dsimp only;have hq':My.i9 (λx=>cV k x) (g.length+1) g=none:=U;rw[if_pos y,hq']
   ·have hlen:=hpl _ _ _ e
    have hq2:kL (λx=>cV k x) g=(kL (λx=>cV k x) J).map λx=>((b++[v])++x.1,x.2):=by
     rw[U,My.Bv hpl (44::j),My.hU];dsimp only;rw[e];dsimp only;cases kL (λx=>cV k x) J with
     |none=>rfl
     |some z=>simp
    rw[bf]at hvl;refine⟨p,_,_,rfl,rfl,h3.sw.at,(by rw[rs.len,kq,bf,bq];lia),?_⟩;refine⟨J.length,by rw[bf];lia,b++[v],J,C++[x],F3,rfl,hq2,by rw[aQ,fE];lia,l1.trans o,ho3,?_,h3.sw.eh,rf1.mono o,λz hz=>?_,rfl⟩
    ·rw[<-ir,yG,cz,cz];have:=(rs.mono o).snoc rx;exact this
    ·rw[<-ir]at hz;rcases gm.mp hz with q|q
     ·exact Y z q
     ·rw[g7.mp q];exact⟨j,J,e⟩
 ·exact fin [] g [W] _ F0 (by rw[if_neg (by rw[y];exact dX)]) L ho0 (by rw[cz,cz];exact .cons r0 .nil) (by simp) h1 (rf.mono L) λv O=>⟨u,g,by rw[g7.mp O];exact e0⟩
end
section
theorem su (h:bS c i ch a fs=[]):fs= .nil:=by
 cases fs with
 |nil=>rfl
 |cons h k r=>
  rw[bS]at h
  grind
theorem p0 (i)(ch):∀(a) (fs),(bS c i ch a fs).length=fs.list.length
 |_,.nil=>by
  rfl
 |a,.cons h k r=>by
  rw[bS,bf,p0 i ch _ r];rfl
theorem vw (h:(bS c i ch a0 fs).drop j=bS c i ch a rest)(rs:aU K F xs (bS c i ch a0 fs))(b:xs[j]? =some x):
 ∃hd k r,rest= .cons hd k r/\Rep K F x (FD c (i.bE ch hd a) k)/\(bS c i ch a0 fs).drop (j+1)=bS c i ch (a+au k) r:=by
 obtain⟨d,hd,rd⟩:=rs.get' b
 have e:(bS c i ch a0 fs).drop j=d::(bS c i ch a0 fs).drop (j+1):=by
  obtain⟨l,q⟩:=cK.mp hd;rw[nP l,q]
 rw[h]at e;cases rest with
 |nil=>
  cases e
 |cons hd k r=>
  rw[bS]at e
  grind
theorem Kp:∀(fs) (n) (ch),bC fs n ch->∀m,(∀x∈fs.list,m<x.1.number)->fs.list.length+m<=999\/fs.list=[]
 | .nil=>λ_ _ _ _ _=> .inr rfl
 | .cons h k r=>λn ch w m b=>by
  unfold bC at w;have h1:=b (h,k) aH;have h1:m<h.number:=h1;rcases Kp r n ch w.2.2.2.2.2.2.2 h.number w.2.1 with q|q
  ·left;show r.list.length+1+m<=999
   lia
  ·left;show r.list.length+1+m<=999
   grind
theorem Kq (w:bC fs n ch):fs.list.length<=999:=by
 cases fs with
 |nil=>exact bR _
 |cons h k r=>
  have b:=w
  rcases Kp (.cons h k r) n ch w 0 (λx g=>by
   rcases cj.mp g with q|q
   ·rw[q];exact b.1.1
   ·have:=b.2.1 x q
    lia)with q|q
  ·omega
  simp_all
theorem Dc:decide (V.int ((jt m):Int)=V.int 33)=decide (m= .one):=by
 cases m<;>rfl
inductive Dd (n)(R:dz)(vf)(i)(fs)(M)(u0:List Nat)(p)(F2)(j)(σ:L2.St)(H'):Prop|mk (rest) (a) (ss) (b u1) (ys) (vb z1 z2:V) (o1 o2) (F1):(bS c i false i.a fs).drop j=bS c i false a rest->bC rest n false->eC fs [] u0=(eC rest b u1).map (λx=>(ss++x.1,x.2))->b.length<=1->ss.length=j->Le F2 F1->R.Ok F1 u1->Rep K F1 vb (bP b)->aU K F1 ys (eW c ss)->af K H' F1 ((p,.lst ys)::R.cell c.Reader u1::M)->σ=[some (.ref R.r),some vf,some (.ref p),some vb,o1,o2]->Dd n R vf i fs M u0 p F2 j σ H'
theorem Vc (T:Tx K mg c)(g_read_occurrences:Fn P w K mg base "read_occurrences" (3*n+9) ["reader","field"] (C_ K c n)):Fn P w K mg base "read_record" (3*n+10) ["reader","record"] (sq K c false (n+1)):=by
 refine T.fo 87 ["reader","record","value","between","field","occurrences"] λH vs nd hr h=>?_;obtain⟨R,u,X,i,fs,F,M,rfl,az,rf,hH,ho,k1,k2⟩:=h;refine⟨_,(ah (ba (pm (oH T) T.Reader.1 (pv 0) (ae (aD T.cst.yo) ag))) (ah (aN 2 (bO ag)) (ah (aN 3 (bO ag)) (ah (gj d_ rfl (fg (ay (pv 1) rfl)) (dF 4) (ah (aN 5 (bO ag)) (ah (aL (c_ (pm (J2 T) T.Reader.1 (pv 0) (ae (de lI (de lI (pv 3) (ay (pv 4) rfl)) (bO (ae (aD T.cst.Cz) ag))) ag))) (ah (aN 5 (pf g_read_occurrences (ae (pv 0) (ae (pv 4) ag)))) (ak (aN 3 (bO (ae (aD T.cst.CB) ag))))) (ak (aL (aP cy (ay (pv 4) rfl) (aD T.cst.rV)) (ak (cO T.eG)) aS))) (ak (ba (d9 eU gv gw f6 (pv 2) (ae (pv 5) ag))))))) (ah (ba (pm (oH T) T.Reader.1 (pv 0) (ae (aD T.cst.CG) ag))) (ak (aC (pv 2)))))))),?_⟩;unfold bB at az;obtain⟨_,_,hokF⟩:=az;rw[v8]at hokF;refine⟨R.r,R.dx,_,rfl,hH.at,rfl,R,u,123,F,M,rfl,hH,ho,λhn=>?_,λJ e H0 h0 ho0=>?_⟩
 ·exact k1 (by unfold cV;rw[My.gg.mpr hn]) _ _ (Le.refl F) hH.drop
 subst e
 have kv:cV (.group false fs) (123::J)=match eC fs [] J with
  |none=>none
  |some (L,s)=>(cI 125 s).map λw=>(.group L,w):=by
  rw[cV,My.hU]
  try rfl
 refine⟨bR _,λp hp=>?_⟩;have h1:=h0.cP (xs:=[]) hp;generalize upd H0 p (.lst [])=H1 at h1⊢;refine⟨bR _,λp2 hp2=>?_⟩;obtain⟨F2,l2,h2,rb2⟩:=h1.jL hp2 [];have h2:af K (upd H1 p2 (.lst [])) F2 ((p,.lst [])::R.cell c.Reader J::M):=h2;generalize upd H1 p2 (.lst [])=H2 at h2⊢;refine(pW h2 (rf.mono l2) λxk rk=>?_);obtain⟨ka,xs,rfl,hka,rs⟩:=rk.lst_inv;have rs:aU K F2 xs (bS c i false i.a fs):=rs
 refine⟨ka,rfl,⟨_,ax.of (h2.le _ _ hka)⟩,kR (xs:=xs) (Dd n R X i fs M J p F2)
  ⟨fs,i.a,[],[],J,[],_,X,X,none,none,F2,rfl,hokF,by cases eC fs [] J<;>rfl,by simp,rfl,Le.refl F2,ho0.mono l2,rb2,.nil,h2,rfl⟩ ?_ ?_ ?_⟩
 ·rintro j σ H' _ ⟨rest,a,L,b,g,U,vb,z1,z2,o1,o2,F1,e1,ok1,I,hb,hss,G,ho1,rb,ry,Y,rfl⟩;exact ax.of (Y.le _ _ (G _ _ hka))
 ·rintro j x σ H' hx ⟨rest,a,L,b,g,U,vb,z1,z2,o1,o2,F1,e1,ok1,I,hb,hss,G,ho1,rb,ry,Y,rfl⟩;obtain⟨hd,k,r,rfl,rx,e2⟩:=vw e1 (rs.mono G) hx;unfold bC at ok1;obtain⟨_,_,w3,_,_,w6,w7,w8⟩:=ok1;have hnm:=My.xt w3
  have hj:j<100000:=by
   obtain⟨lt,_⟩:=cK.mp hx;have h3:=rs.len;rw[p0]at h3;have:fs.list.length<=999:=Kq hokF
   lia
  refine⟨bR _,λp3 hp3=>?_⟩;obtain⟨F3,l3,h3,r3⟩:=Y.sj (xs:=[]) (ds:=[]) hp3 .nil;generalize upd H' p3 (.lst [])=H3 at h3⊢;refine⟨R.r,R.dx,_,rfl,h3.dv,rfl,yB h3 (rx.mono l3) λxn rn=>?_⟩;have rn:Rep K F3 xn (bP hd.name):=rn;refine pZ h3 (rb.mono l3) rn (by lia) λv4 H4 F4 l4 h4 r4=>?_;refine⟨by show 1<=bH;rw[bq];decide,λp5 hp5=>?_⟩;obtain⟨F5,l5,h5,r5⟩:=h4.jL hp5 [58];have h5:af K (upd H4 p5 (.lst [.int 58])) F5 ((p,.lst U)::R.cell c.Reader g::M):=h5;generalize upd H4 p5 (.lst [.int 58])=H5 at h5⊢;refine pZ h5 (r4.mono l5) r5 (by rw[aQ,fE];lia) λv6 H6 F6 l6 h6 r6=>?_;have l36:=(l4.trans l5).trans l6;have C:=l3.trans l36
  have epr:eC (.cons hd k r) b g=match hG (b++hd.name++[58]) g with
   |some r'=>(match jv (λx=>cV k x) hd.mode r' with
    |none=>none
    |some (vs,s)=>(eC r [59] s).map λx=>(vs::x.1,x.2))
   |none=>if hd.mode= .one then none else(eC r b g).map λx=>([]::x.1,x.2):=by
   rw[eC]
   try rfl
  have fill:∀(o:List Val) (W:V) (b' y:aq) (vb':V) (H7 O:Hp) (o1 o2:Option V),Le F2 O->R.Ok O y->Rep K O vb' (bP b')->b'.length<=1->Rep K O W (.lst (cz c o))->eC (.cons hd k r) b g=(eC r b' y).map (λx=>(o::x.1,x.2))->aU K O U (eW c L)->af K H7 O ((p,.lst U)::R.cell c.Reader y::M)->∀(Dn:Ends),
   Dn.nx=(Dd n R X i fs M J p F2 (j+1))->
   mw (pM K "list" mC (bg 2) (dr (bg 5) dJ)) Dn [some (.ref R.r),some X,some (.ref p),some vb',some x,some W] H7:=by
   intro o W b' y vb' H7 O o1 o2 l7 ho7 rb7 hb7 ro ep7 ry7 h7 Dn hDn;refine⟨⟨rfl,_,ax.of h7.at⟩,p,_,_,rfl,rfl,h7.at,(by rw[ry7.len,pY,hss,bq];lia),?_⟩;show Dn.nx _ _;rw[hDn];refine⟨r,a+au k,L++[o],b',y,U++[W],vb',X,X,some x,some W,O,e2,w8,?_,hb7,by rw[aQ,hss];rfl,l7,ho7,rb7,?_,h7.eh,rfl⟩
   ·rw[I,ep7];cases eC r b' y with
    |none=>rfl
    |some z=>simp
   ·rw[vq,eW,eW];exact ry7.snoc ro
  refine⟨R,g,b++hd.name++[58],v6,F6,_,rfl,h6.sw,ho1.mono C,r6,λhno H7 h7=>?_,λy e7 H7 h7 ho7=>?_⟩
  ·refine((pU h7 (rx.mono C) ⟨rfl,?_⟩));rw[show(i.bE false hd a).m=hd.mode from rfl,Dc];have en:hG (b++hd.name++[58]) g=none:=My.qN.mpr hno;refine bG (λq=>?_) λq=>?_
   ·have q':hd.mode= .one:=by simpa using q
    refine k1 ?_ _ _ (l2.trans (G.trans C)) h7.drop.drop;rw[kv,I,epr,en];rw[if_pos q'];rfl
   ·have q':¬hd.mode= .one:=by simpa using q
    exact fill [] _ b g vb H7 F6 none none (G.trans C) (ho1.mono C) (rb.mono C) hb (by rw[cz];exact r3.mono l36) (by rw[epr,en];dsimp only;rw[if_neg q']) (ry.mono C) h7.sw _ rfl
  ·have en:hG (b++hd.name++[58]) g=some y:=My.nU.mpr e7;refine⟨R,y,x,i.bE false hd a,k,F6,_,rfl,w7,w6,rx.mono C,h7,ho7,λe8 H8 F8 l8 h8=>?_,λo u8 e8 H8 F8 W l8 h8 ho8 ro=>?_⟩
   ·refine k1 ?_ _ _ ((l2.trans (G.trans C)).trans l8) h8.drop;have e8:jv (λx=>cV k x) hd.mode y=none:=e8;rw[kv,I,epr,en];dsimp only;rw[e8];rfl
   ·have e8:jv (λx=>cV k x) hd.mode y=some (o,u8):=e8;refine⟨by show 1<=bH;rw[bq];decide,λp9 hp9=>?_⟩;obtain⟨F9,l9,h9,r9⟩:=h8.jL hp9 [59];have h9:af K (upd H8 p9 (.lst [.int 59])) F9 (R.cell c.Reader u8::(p,.lst U)::M):=h9;generalize upd H8 p9 (.lst [.int 59])=H9 at h9⊢;exact fill o W [59] u8 _ H9 F9 none none ((G.trans C).trans (l8.trans l9)) (ho8.mono l9) r9 (by simp) (ro.mono l9) (by rw[epr,en];dsimp only;rw[e8]) (ry.mono (C.trans (l8.trans l9))) h9.sw _ rfl
 ·rintro σ H' ⟨rest,a,L,b,g,U,vb,z1,z2,o1,o2,F1,e1,ok1,I,hb,hss,G,ho1,rb,ry,Y,rfl⟩
  have hr0:rest= .nil:=by
   refine su (i:=i) (ch:=false) (a:=a) ?_;rw[<-e1,ku (by rw[<-rs.len];exact bA _)]
  subst hr0
  have I:eC fs [] J=some (L,g):=by
   rw[I,eC];simp
  refine⟨R.r,R.dx,_,rfl,Y.dv,rfl,R,g,125,F1,_,rfl,Y.sw,ho1,λhn=>?_,λu2 e H2 h2 ho2=>?_⟩
  ·exact k1 (by rw[kv,I];dsimp only;rw[My.gg.mpr hn];rfl) _ _ (l2.trans G) Y.drop.drop
  ·subst e;obtain⟨F3,l3,h3,r3⟩:=h2.sw.bM ry;exact(k2 (.group L) u2 (by rw[kv,I];dsimp only;rw[My.hU];rfl) _ _ _ ((l2.trans G).trans l3) h3 (ho2.mono l3) (by rw[gE];exact r3))
end
section
inductive De (n)(R:dz)(vf)(i)(fs)(F)(M)(u0:List Nat)(p)(j)(σ:L2.St)(H'):Prop|mk (rest) (a) (ss) (t) (u1) (ys) (o1 o2) (F1):(bS c i true i.a fs).drop j=bS c i true a rest->bC rest n true->fz fs false u0=(fz rest t u1).map (λx=>(ss++x.1,x.2))->ss.length=j->Le F F1->R.Ok F1 u1->aU K F1 ys (eW c ss)->af K H' F1 ((p,.lst ys)::R.cell c.Reader u1::M)->σ=[some (.ref R.r),some vf,some (.ref p),some (.bl t),o1,o2]->De n R vf i fs F M u0 p j σ H'
theorem Ve (T:Tx K mg c)(g_read_value:Fn P w K mg base "read_value" (3*n+8) ["reader","field"] (sm K c n)):Fn P w K mg base "read_choice" (3*n+10) ["reader","choice"] (sq K c true (n+1)):=by
 refine T.fo 91 ["reader","choice","value","taken","field","occurrences"] λH vs nd hr h=>?_;obtain⟨R,u,vf,i,fs,F,M,rfl,az,rf,hH,ho,k1,k2⟩:=h;refine⟨_,(ah (ba (pm (oH T) T.Reader.1 (pv 0) (ae (aD T.cst.CC) ag))) (ah (aN 2 (bO ag)) (ah (aN 3 kN) (ah (gj d_ rfl (fg (ay (pv 1) rfl)) (dF 4) (ah (aN 5 (bO ag)) (ah (aL (PW.pt (xP (lE (c_ (pv 3))) (xO (c_ (pm (J2 T) T.Reader.1 (pv 0) (ae (de lI (ay (pv 4) rfl) (bO (ae (aD T.cst.Cz) ag))) ag)))))) (ah (ba (d9 eU gv gw f6 (pv 5) (ae (pf g_read_value (ae (pv 0) (ae (pv 4) ag))) ag))) (ak (aN 3 kN))) aS) (ak (ba (d9 eU gv gw f6 (pv 2) (ae (pv 5) ag))))))) (ah (aL (lE (c_ (pv 3))) (ak (cO T.eG)) aS) (ah (ba (pm (oH T) T.Reader.1 (pv 0) (ae (aD T.cst.CD) ag))) (ak (aC (pv 2))))))))),?_⟩;unfold bB at az;obtain⟨_,_,hokF⟩:=az;rw[v8]at hokF;refine⟨R.r,R.dx,_,rfl,hH.at,rfl,R,u,60,F,M,rfl,hH,ho,λhn=>?_,λU e H0 h0 ho0=>?_⟩
 ·exact k1 (by unfold cV;rw[My.gg.mpr hn]) _ _ (Le.refl F) hH.drop
 subst e
 have kv:cV (.group true fs) (60::U)=match fz fs false U with
  |none=>none
  |some (G,t,s)=>if t=true then(cI 62 s).map λw=>(.group G,w)else none:=by
  rw[cV,My.hU]
  try rfl
 refine⟨bR _,λp hp=>?_⟩;have h1:=h0.cP (xs:=[]) hp;generalize upd H0 p (.lst [])=H1 at h1⊢;refine(pW h1 rf λxk rk=>?_);obtain⟨ka,xs,rfl,hka,rs⟩:=rk.lst_inv;have rs:aU K F xs (bS c i true i.a fs):=rs
 refine⟨ka,rfl,⟨_,ax.of (h1.le _ _ hka)⟩,kR (xs:=xs) (De n R vf i fs F M U p)
  ⟨fs,i.a,[],false,U,[],none,none,F,rfl,hokF,by cases fz fs false U<;>rfl,rfl,Le.refl F,ho0,.nil,h1,rfl⟩ ?_ ?_ ?_⟩
 ·rintro j σ H' _ ⟨rest,a,G,t,b,W,o1,o2,F1,e1,ok1,C,hss,g,ho1,X,O,rfl⟩;exact ax.of (O.le _ _ (g _ _ hka))
 ·rintro j x σ H' hx ⟨rest,a,G,t,b,W,o1,o2,F1,e1,ok1,C,hss,g,ho1,X,O,rfl⟩;obtain⟨hd,k,r,rfl,rx,e2⟩:=vw e1 (rs.mono g) hx;unfold bC at ok1;obtain⟨_,_,w3,_,_,w6,w7,w8⟩:=ok1;have hnm:=My.xt w3
  have hj:j<100000:=by
   obtain⟨lt,_⟩:=cK.mp hx;have h3:=rs.len;rw[p0]at h3;have:fs.list.length<=999:=Kq hokF
   lia
  refine⟨bR _,λY hp3=>?_⟩;have h3:=O.cP (xs:=[]) hp3;generalize upd H' Y (.lst [])=H3 at h3⊢
  have epr:fz (.cons hd k r) t b=match(if t=true then none else hG (hd.name++[58]) b)with
   |some r'=>(match cV k r' with
    |none=>none
    |some (v,s)=>(fz r true s).map λx=>([v]::x.1,x.2))
   |none=>(fz r t b).map λx=>([]::x.1,x.2):=by
   rw[fz]
   try rfl
  have fill:∀(o:List Val) (zs:List V) (t':Bool) (y:aq) (H7 F7:Hp),Le F F7->R.Ok F7 y->aU K F7 zs (cz c o)->fz (.cons hd k r) t b=(fz r t' y).map (λx=>(o::x.1,x.2))->aU K F7 W (eW c G)->af K H7 F7 ((Y,.lst zs)::(p,.lst W)::R.cell c.Reader y::M)->∀(Dn:Ends),
   Dn.nx=(De n R vf i fs F M U p (j+1))->
   mw (pM K "list" mC (bg 2) (dr (bg 5) dJ)) Dn [some (.ref R.r),some vf,some (.ref p),some (.bl t'),some x,some (.ref Y)] H7:=by
   intro o zs t' y H7 F7 l7 ho7 rz ep7 ry7 h7 Dn hDn;obtain⟨F8,I,L,r8⟩:=h7.bM rz;refine⟨⟨rfl,_,ax.of L.at⟩,p,_,_,rfl,rfl,L.at,(by rw[ry7.len,pY,hss,bq];lia),?_⟩;show Dn.nx _ _;rw[hDn];refine⟨r,a+au k,G++[o],t',y,W++[.ref Y],some x,some (.ref Y),F8,e2,w8,?_,by rw[aQ,hss];rfl,l7.trans I,ho7.mono I,?_,L.eh,rfl⟩
   ·rw[C,ep7];cases fz r t' y with
    |none=>rfl
    |some z=>simp
   ·rw[vq,eW,eW];exact(ry7.mono I).snoc r8
  cases t with
  |true=>exact((fill [] [] true b H3 F1 g ho1 (by rw[cz];exact .nil) (by rw[epr,if_pos rfl]) X h3 _ rfl))
  |false=>
   refine⟨R.r,R.dx,_,rfl,h3.at2,rfl,yB h3 rx λxn rn=>?_⟩;have rn:Rep K F1 xn (bP hd.name):=rn;refine⟨by show 1<=bH;rw[bq];decide,λp5 hp5=>?_⟩;obtain⟨F5,l5,h5,r5⟩:=h3.jL hp5 [58];refine pZ h5 (rn.mono l5) r5 (by rw[fE];lia) λv6 H6 F6 l6 h6 r6=>?_;have J:=l5.trans l6;refine⟨R,b,hd.name++[58],v6,F6,_,rfl,h6.ig,ho1.mono J,r6,λhno H7 h7=>?_,λy e7 H7 h7 ho7=>?_⟩
   ·have en:hG (hd.name++[58]) b=none:=My.qN.mpr hno;exact fill [] [] false b H7 F6 (g.trans J) (ho1.mono J) (by rw[cz];exact .nil) (by rw[epr,if_neg dX,en]) (X.mono J) (h7.sw.in1) _ rfl
   ·have en:hG (hd.name++[58]) b=some y:=My.nU.mpr e7;refine⟨⟨rfl,_,ax.of h7.dv⟩,R,y,x,i.bE true hd a,k,F6,_,rfl,w7,rx.mono J,h7,ho7,λe8 H8 F8 I L=>?_,λv u8 e8 H8 F8 vx I L ho8 rv=>?_⟩
    ·refine k1 ?_ _ _ ((g.trans J).trans I) L.drop.drop;rw[kv,C,epr,if_neg dX,en];dsimp only;rw[e8];rfl
    ·refine⟨Y,_,_,rfl,rfl,L.dv,(by rw[bq];decide),?_⟩;have h9:=L.sw.eh (ys:=[vx]);exact fill [v] [vx] true u8 _ F8 ((g.trans J).trans I) ho8 (by rw[cz,cz];exact .cons rv .nil) (by rw[epr,if_neg dX,en];dsimp only;rw[e8]) (X.mono (J.trans I)) h9.in1 _ rfl
 ·rintro σ H' ⟨rest,a,G,t,b,W,o1,o2,F1,e1,ok1,C,hss,g,ho1,X,O,rfl⟩
  have hr0:rest= .nil:=by
   refine su (i:=i) (ch:=true) (a:=a) ?_;rw[<-e1,ku (by rw[<-rs.len];exact bA _)]
  subst hr0
  have C:fz fs false U=some (G,t,b):=by
   rw[C,fz];simp
  cases t with
  |false=>exact(k1 (by rw[kv,C];dsimp only;rw[if_neg dX]) _ _ g O.drop.drop)
  |true=>
   refine⟨R.r,R.dx,_,rfl,O.dv,rfl,R,b,62,F1,_,rfl,O.sw,ho1,λhn=>?_,λu2 e H2 h2 ho2=>?_⟩
   ·exact k1 (by rw[kv,C];dsimp only;rw[if_pos rfl,My.gg.mpr hn];rfl) _ _ g O.drop.drop
   ·subst e;obtain⟨F3,l3,h3,r3⟩:=h2.sw.bM X;exact(k2 (.group G) u2 (by rw[kv,C];dsimp only;rw[if_pos rfl,My.hU];rfl) _ _ _ (g.trans l3) h3 (ho2.mono l3) (by rw[gE];exact r3))
theorem Kr (T:Tx K mg c)(L:Fn P w K mg base "read_record" (3*n+7) ["reader","record"] (sq K c false n))(O:Fn P w K mg base "read_choice" (3*n+7) ["reader","choice"] (sq K c true n)):Fn P w K mg base "read_value" (3*n+8) ["reader","field"] (sm K c n):=by
 refine T.fO 86 ["reader","field"] λf bu A outer s H W Q E nd X h=>?_;obtain⟨R,u,g,i,k,F,M,rfl,az,rf,b,y,o,j⟩:=h;refine⟨_,(ah (aL (aP cy (ay (pv 1) rfl) (aD T.cst.rT)) (ak (aC (pf L (ae (pv 0) (ae (pv 1) ag))))) aS) (ah (aL (aP cy (ay (pv 1) rfl) (aD T.cst.ow)) (ak (aC (pf O (ae (pv 0) (ae (pv 1) ag))))) aS) (ak (aC (pf (C4 T) (ae (pv 0) (ae (pv 1) ag))))))),?_⟩;refine(iX b rf ⟨rfl,?_⟩);cases k with
 |group ch fs=>
  cases ch with
  |false=>exact⟨R,u,g,i,fs,F,M,rfl,az,rf,b,y,o,j⟩
  |true=>exact(iX b rf ⟨rfl,⟨R,u,g,i,fs,F,M,rfl,az,rf,b,y,o,j⟩⟩)
 |leaf l=>
  have fin:lF (mB (C3 K c) [] E (dr (bg 0) (dr (bg 1) dJ))) {nx:=λ_ z=>Q .aB z,rt:=Q} [some (.ref R.r),some g] H:=by
   refine⟨R,u,l,g,F,M,rfl,yF az rf,b,y,λe=>o (by rw[cV,e];rfl),λx C e z U v G J I r=>j (.lit x) C (by rw[cV,e];rfl) z U v G J I (by rw[gE];exact r)⟩
  cases l with
  |bit=>exact(iX b rf ⟨rfl,fin⟩)
  |int m=>exact(iX b rf ⟨rfl,fin⟩)
  |text m=>exact(iX b rf ⟨rfl,fin⟩)
inductive Ks (K)(c)(vs)(H)(Q:VK)(E:XK):Prop|mk (vr vt) (fs) (t:aq) (F) (M):vs=[vr,vt]->bB (.group false fs) 6->Rep K F vr (FD c FI.root (.group false fs))->Rep K F vt (bP t)->t.length<=20000->af K H F M->(((∀v,YE fs t≠.ok v)->∀H' F',Le F F'->af K H' F' M->E (.ref c.fh) none H'))->((∀v,YE fs t= .ok v->∀H' F' x,Le F F'->af K H' F' M->Rep K F' x (gE c v)->Q x H'))->Ks K c vs H Q E
theorem Kt:∀b H Q E,¬sq K c ch 0 b H Q E:=by
 rintro b H Q E ⟨R,u,g,i,fs,F,M,_,az,_⟩;unfold bB at az;simp_all
theorem Df (T:Tx K mg c):∀n,Fn P w K mg base "read_value" (3*n+8) ["reader","field"] (sm K c n)
 |0=>Kr (n:=0) T (T.nv 87 Kt) (T.nv 91 Kt)
 |n+1=>Kr (n:=n+1) T (Vc T (Vb T (Df T n))) (Ve T (Df T n))
theorem Vf (T:Tx K mg c):Fn P w K mg base "read_value" (26) ["reader","field"] (sm K c 6):=Df T 6
theorem Vg (T:Tx K mg c):Fn P w K mg base "read_row" (27) ["record","text"] (Ks K c):=by
 refine T.fo 85 ["record","text","reader","value"] λH vs nd hr h=>?_;obtain⟨J,vt,fs,t,F,M,rfl,az,O,rt,hl,u,o,k2⟩:=h;refine⟨_,(ah (aL (aP iW (cM cE (by rfl) T.cst.len cT (ae (pv 1) ag)) (aD T.cst.Th)) (ak (cO T.eG)) aS) (ah (aN 2 (pk (CV T) (ae (pv 1) ag))) (ah (aN 3 (pf (Vf T) (ae (pv 2) (ae (pv 0) ag)))) (ah (ba (bJ (CW T) T.Reader.1 (pv 2))) (ak (aC (pv 3))))))),?_⟩
 have j:My.gK false fs:=by
  have:=My.bB.wf az;exact this
 obtain⟨g,rfl,G⟩:=rt.nats;refine⟨g,_,rfl,.inl (ax.of (u.le _ _ G)),_,_,rfl,rfl,?_⟩;rw[gB];refine bG (λq=>?_) λq=>?_
 ·refine o (λv e=>?_) _ _ (Le.refl F) u;have:=(My.tR j).mp e;have U:(4000:Int)<(t.length:Int):=by simpa using q
  lia
 ·have U:¬(4000:Int)<(t.length:Int):=by simpa using q
  refine(λy k W Y X=>?_);refine⟨y,k,g,F,M,rfl,u.make W Y X T.Reader.1,λH1 h1=>⟨rfl,?_⟩⟩;let R:dz:=⟨y,k,g,t⟩;have ho:R.Ok F t:=⟨G,⟨[],rfl⟩,hl⟩
  have h1':af K H1 F (R.cell c.Reader t::M):=by
   have e:(0:Int)=((R.t.length-t.length:Nat):Int):=by
    rw[qu];rfl
   show af K H1 F ((y,.ins c.Reader k (rf g ((R.t.length-t.length:Nat):Int)))::M);rw[<-e];exact h1
  refine⟨R,t,J,FI.root,.group false fs,F,M,rfl,az,O,h1',ho,λe H' I i b=>?_,λv L e H' I x i b ho' r=>?_⟩
  ·refine o (λv C=>?_) _ _ i b;rw[((My.tR j).mp C).2]at e;cases e
  ·refine⟨y,k,_,rfl,b.at,rfl,R,L,I,M,rfl,b,ho',λz=>?_,λz=>?_⟩
   ·refine o (λv2 C=>?_) _ _ i b.drop;rw[((My.tR j).mp C).2]at e;cases e;exact z rfl
   ·subst z;exact(k2 v ((My.tR j).mpr ⟨by lia,e⟩) _ _ _ i b.drop r)
end
end Prg
namespace L2
open PySem PySem.Spec PyProof.Rows
theorem Ku {K}{g:TG}{tb:TS}{D:Ends}(Pv:Nat->St->Hp->Prop)(X:Pv 0 σ H)(L:xs.length=ys.length)(O:∀i σ H,i<=xs.length->Pv i σ H->ax K H a xs/\ax K H b ys)
 (M:∀i x y σ H,xs[i]? =some x->ys[i]? =some y->Pv i σ H->∀T,H T=none->g (.ref T) σ (upd H T (.tup [x,y])) λj C=>tb {D with nx:=Pv (i+1),ct:=Pv (i+1),bk:=D.nx} j C) (hd:∀σ H,Pv xs.length σ H->D.nx σ H):
 ∃W:Nat->Nat->St->Hp->Prop,(∃m,W 0 m σ H)/\∀i m σ H,W i m σ H->
  ((uQ K a b).stop i H/\D.nx σ H)\/((uQ K a b).go i H/\∃N:St->Hp->Prop,(∀k h,N k h->∃F,F<m/\W (i+1) F k h)/\∀x h,(uQ K a b).n6 i H x h->g x σ h λj C=>tb {D with nx:=N,ct:=N,bk:=D.nx} j C):=by
 refine⟨λi m σ H=>m=xs.length-i/\i<=xs.length/\Pv i σ H,⟨xs.length,by simp,bR _,X⟩,?_⟩;rintro i m σ H ⟨rfl,P,p⟩;obtain⟨u,o⟩:=O i σ H P p;by_cases z:i<xs.length
 ·refine .inr ⟨⟨xs,ys,xs[i],ys[i]'(by lia),u,o,by simp[z],by simp[<-L,z]⟩,Pv (i+1),λk h J=>⟨xs.length-(i+1),by lia,rfl,z,J⟩,λx h y=>?_⟩;obtain⟨T,I,G,rfl,U,rfl,e1,Y⟩:=y;exact M i I G σ H (e1 xs u) (Y ys o) p T U
 ·have e:i=xs.length:=by lia
  subst e;exact .inl ⟨⟨xs,ys,u,o,.inl (bA _)⟩,hd σ H p⟩
theorem Vh {K}{g:TG}{tb:TS}{D:Ends}(Pv:Nat->St->Hp->Prop)(M:Pv 0 σ H)(I:∀i σ H,i<=xs.length->Pv i σ H->ax K H a xs)
 (G:∀i x σ H,xs[i]? =some x->Pv i σ H->∀T,H T=none->g (.ref T) σ (upd H T (.tup [.int (i),x])) λh o=>tb {D with nx:=Pv (i+1),ct:=Pv (i+1),bk:=D.nx} h o) (hd:∀σ H,Pv xs.length σ H->D.nx σ H):
 ∃W:Nat->Nat->St->Hp->Prop,(∃m,W 0 m σ H)/\∀i m σ H,W i m σ H->
  ((uP K a).stop i H/\D.nx σ H)\/((uP K a).go i H/\∃N:St->Hp->Prop,(∀j b,N j b->∃u,u<m/\W (i+1) u j b)/\∀x b,(uP K a).n6 i H x b->g x σ b λh o=>tb {D with nx:=N,ct:=N,bk:=D.nx} h o):=by
 refine⟨λi m σ H=>m=xs.length-i/\i<=xs.length/\Pv i σ H,⟨xs.length,by simp,bR _,M⟩,?_⟩;rintro i m σ H ⟨rfl,J,p⟩;have k:=I i σ H J p;by_cases z:i<xs.length
 ·refine .inr ⟨⟨xs,xs[i],k,by simp[z]⟩,Pv (i+1),λj b F=>⟨xs.length-(i+1),by lia,rfl,z,F⟩,λx b y=>?_⟩;obtain⟨T,C,rfl,L,rfl,O⟩:=y;exact G i C σ H (O xs k) p T L
 ·have e:i=xs.length:=by lia
  subst e;exact .inl ⟨⟨xs,k,bA _⟩,hd σ H p⟩
theorem Kv (b):kS b (some 1) none=b.drop 1:=by
 have e:HT.gT b.length 0 (some 1)=min 1 b.length:=rfl;have g:HT.gT b.length b.length none=b.length:=rfl;unfold kS;cases b with
 |nil=>rfl
 |cons x b=>
  simp_all
end L2
namespace Prg
open PySem PySem.Spec PyProof.Rows L2
open Vacola (Text Leaf Lit Mode Head Fields showMode repOf defOf leavesKind leavesFields showLit fits keyOf)
open Vacolb (Val showVal showSlots joinWith)
open My (iz bB bC Wv h_)
section
theorem af.Dg (h:af K H F M)(hp:H p=none):∃b,Le F b/\af K (upd H p (.lst xs)) b M/\b p=some (.lst xs):=by
 have h1:=h.cP (xs:=xs) hp;exact⟨_,h1.uV,h1.gQ,jB⟩
def Dh (K:aW)(t s:aq)(tx:ai)(F:Hp)(M:List (ai×HO))(Q:VK):Prop:=t.length+s.length<=1000000/\∀b g,Le F g->af K b g ((tx,.lst (bytes (t++s)))::M)->Q .aB b
inductive vy (K)(c)(n)(vs)(H)(Q)(E:XK):Prop|mk (vf vv) (tx) (i) (k:Kd) (v) (t:aq) (F) (M):vs=[vf,vv,.ref tx]->bB k n->Wv k v->Rep K F vf (FD c i k)->Rep K F vv (gE c v)->af K H F ((tx,.lst (bytes t))::M)->Dh K t (cS k v) tx F M Q->vy K c n vs H Q E
inductive Di (K)(c)(n)(vs)(H)(Q)(E:XK):Prop|mk (vf vv) (tx) (i) (k:Kd) (o) (t:aq) (F) (M):vs=[vf,vv,.ref tx]->bB k n->o≠[]->((∀v∈o,Wv k v))->Rep K F vf (FD c i k)->Rep K F vv (.lst (cz c o))->af K H F ((tx,.lst (bytes t))::M)->Dh K t (dt 44 (o.map λv=>cS k v)) tx F M Q->Di K c n vs H Q E
inductive yK (K)(c)(n)(vs)(H)(Q)(E:XK):Prop|mk (vf vv) (tx) (i) (ch) (fs) (ss) (t:aq) (F) (M):vs=[vf,vv,.ref tx]->bB (.group ch fs) n->h_ fs ss->Rep K F vf (FD c i (.group ch fs))->Rep K F vv (.lst (eW c ss))->af K H F ((tx,.lst (bytes t))::M)->Dh K t (dt 59 (eT fs ss)) tx F M Q->yK K c n vs H Q E
theorem Dj {t:aq}{n:Nat}(h:af K H F ((tx,.lst (bytes t))::M))(g:t.length<1000000)(q:∀b,af K b F ((tx,.lst (bytes (t++[n])))::M)->Q .aB b):mC (.ref tx) [.int (n)] H Q:=by
 refine⟨tx,_,_,rfl,rfl,h.at,by rw[gB,bq];lia,q _ ?_⟩;rw[rR];exact h.eh
theorem Dk {t s:aq}(h:af K H F ((tx,.lst (bytes t))::M))(g:Rep K F x (bP s))(j:t.length+s.length<=1000000)(q:∀b,af K b F ((tx,.lst (bytes (t++s)))::M)->Q .aB b):oo (.ref tx) [x] H Q:=by
 obtain⟨a,rfl,i⟩:=g.nats;refine⟨tx,a,_,_,rfl,rfl,h.at,h.le _ _ i,by rw[gB,gB,bq];lia,q _ ?_⟩;rw[rR];exact h.eh
theorem vz {t:aq}{n:Nat}(e:x= .int (n))(h:af K H F ((tx,.lst (bytes t))::M))(i:t.length<1000000)(q:∀b,af K b F ((tx,.lst (bytes (t++[n])))::M)->Q .aB b):dr (tC x) dJ σ H λg j=>mC (.ref tx) g j Q:=by
 subst e;exact Dj h i q
theorem Kw (T:Tx K mg c)(L:Fn P w K mg base "write_fields" (3*n+1) ["group","value","text"] (yK K c n)):Fn P w K mg base "write_value" (3*n+2) ["field","value","text"] (vy K c n):=by
 refine T.fO 93 ["field","value","text"] λf bu A outer s H X Q E nd Y h=>?_;obtain⟨o,j,tx,i,k,v,t,F,M,rfl,az,g,rf,u,b,C,q⟩:=h;refine⟨_,(ak (aL (aP cy (ay (pv 0) rfl) (aD T.cst.rT)) (ah (ba (d9 eU gv gw f6 (pv 2) (ae (aD T.cst.yo) ag))) (ah (ba (pf L (ae (pv 0) (ae (pv 1) (ae (pv 2) ag))))) (ak (ba (d9 eU gv gw f6 (pv 2) (ae (aD T.cst.CG) ag)))))) (ak (aL (aP cy (ay (pv 0) rfl) (aD T.cst.ow)) (ah (ba (d9 eU gv gw f6 (pv 2) (ae (aD T.cst.CC) ag))) (ah (ba (pf L (ae (pv 0) (ae (pv 1) (ae (pv 2) ag))))) (ak (ba (d9 eU gv gw f6 (pv 2) (ae (aD T.cst.CD) ag)))))) (ak (ba (d9 eU wu wx rK (pv 2) (ae (ay (pv 1) rfl) ag)))))))),?_⟩;refine(iX b rf ⟨rfl,?_⟩);cases k with
 |group ch fs=>
  obtain⟨J,rfl,g⟩:=g;rw[cS]at C q;rw[bf,aQ,fE]at C;cases ch with
  |false=>
   refine⟨⟨rfl,_,ax.of b.at⟩,vz (n:=123) rfl b (by lia) λH1 h1=>?_⟩;refine⟨o,j,tx,i,false,fs,J,t++[123],F,M,rfl,az,g,rf,u,h1,by rw[aQ,fE];lia,λU I y h2=>?_⟩;refine⟨⟨rfl,_,ax.of h2.at⟩,vz (n:=125) rfl h2 (by simp;lia) λG h3=>?_⟩;refine q G I y ?_;simpa[YF,YG]using h3
  |true=>
   refine(iX b rf ⟨rfl,?_⟩);refine⟨⟨rfl,_,ax.of b.at⟩,vz (n:=60) rfl b (by lia) λH1 h1=>?_⟩;refine⟨o,j,tx,i,true,fs,J,t++[60],F,M,rfl,az,g,rf,u,h1,by rw[aQ,fE];lia,λU I y h2=>?_⟩;refine⟨⟨rfl,_,ax.of h2.at⟩,vz (n:=62) rfl h2 (by simp;lia) λG h3=>?_⟩;refine q G I y ?_;simpa[YF,YG]using h3
 |leaf l=>
  obtain⟨x,rfl⟩:=g
  have fin:mw (pM K "list" oo (bg 2) (dr (gS K (bg 1) "signs") dJ)) {nx:=λ_ W=>Q .aB W,rt:=Q} [some o,some j,some (.ref tx)] H:=by
   refine⟨⟨rfl,_,ax.of b.at⟩,rF b u (d:=bP (fQ x)) rfl λz O=>Dk b O C λH1 h1=>q H1 F (Le.refl F) h1⟩
  cases l with
  |bit=>exact(iX b rf ⟨rfl,fin⟩)
  |int m=>exact(iX b rf ⟨rfl,fin⟩)
  |text m=>exact(iX b rf ⟨rfl,fin⟩)
inductive Kx (vf)(tx)(k:Kd)(t:aq)(M)(v0)(o:List Val)(a)(F2)(j)(σ:L2.St)(H'):Prop|mk (F') (z):Le F2 F'->af K H' F' ((tx,.lst (bytes (t++dt 44 ((v0::o.take j).map λv=>cS k v))))::M)->σ=[some vf,some (.ref a),some (.ref tx),z]->Kx vf tx k t M v0 o a F2 j σ H'
theorem Vi (T:Tx K mg c)(g_write_value:Fn P w K mg base "write_value" (3*n+2) ["field","value","text"] (vy K c n)):Fn P w K mg base "write_occurrences" (3*n+3) ["field","occurrences","text"] (Di K c n):=by
 refine T.fo 95 ["field","occurrences","text","value"] λH vs nd hr h=>?_;obtain⟨I,vv,tx,i,k,o,t,F,M,rfl,az,hne,hv,rf,W,hH,hl,q⟩:=h;refine⟨_,(ah (ba (pf g_write_value (ae (pv 0) (ae (d8 dS (pv 1) aY) (ae (pv 2) ag))))) (ak (gj d_ rfl (fg (m9 lH (pv 1) (ji aY) B3)) (dF 3) (ah (ba (d9 eU gv gw f6 (pv 2) (ae (aD T.cst.JM) ag))) (ak (ba (pf g_write_value (ae (pv 0) (ae (pv 3) (ae (pv 2) ag)))))))))),?_⟩;cases o with
 |nil=>exact absurd rfl hne
 |cons v0 o=>
  obtain⟨a,u,rfl,ha,rs⟩:=W.lst_inv;refine(ft (j:=0) hH W (d:=gE c v0) (by rw[cz];rfl) λy ry=>?_)
  have jl:∀(J Y:List Val),o=J++Y->(dt 44 ((v0::J).map λv=>cS k v)).length<=(dt 44 ((v0::o).map λv=>cS k v)).length:=λJ Y e=>by
   rw[e,<-ir,dA,My.xu,aQ]
   lia
  refine⟨I,y,tx,i,k,v0,t,F,M,rfl,az,hv v0 aH,rf,ry,hH,?_,λH1 F1 C h1=>?_⟩
  ·have:=jl [] o rfl;have e:dt 44 ([v0].map λv=>cS k v)=cS k v0:=rfl;rw[e]at this
   lia
  refine⟨_,rfl,a,_,rfl,ax.of (h1.le _ _ (C _ _ ha)),λp hp=>?_⟩;rw[Kv]
  have X:aU K F (u.drop 1) (cz c o):=by
   have:=rs.drop 1;exact this
  obtain⟨U,L,h2,hp2⟩:=h1.Dg (xs:=u.drop 1) hp
  refine⟨p,rfl,⟨_,ax.of (h2.le _ _ hp2)⟩,kR (xs:=u.drop 1) (Kx I tx k t M v0 o a U)
   ⟨U,none,Le.refl U,h2,rfl⟩ ?_ ?_ ?_⟩
  ·rintro j σ O _ ⟨G,z,b,g,rfl⟩;exact ax.of (g.le _ _ (b _ _ hp2))
  ·rintro j x σ O hx ⟨G,z,b,g,rfl⟩;obtain⟨d,hd,rd⟩:=X.get' hx;rw[pX,aX]at hd;obtain⟨v,hv1,rfl⟩:=hd;obtain⟨lt,ev⟩:=cK.mp hv1;have et:o.take (j+1)=o.take j++[v]:=by rw[<-ev];exact(List.take_append_getElem lt).symm
   have ej:dt 44 ((v0::o.take (j+1)).map λv=>cS k v)=dt 44 ((v0::o.take j).map λv=>cS k v)++(44::cS k v):=by
    rw[et,<-ir,dA];show dt 44 (_++[cS k v])=_;rw[My.By,if_neg (by simp)];rfl
   have hb:=jl (o.take (j+1)) (o.drop (j+1)) (il _ _).symm;rw[ej,aQ,bf]at hb;refine⟨⟨rfl,_,ax.of g.at⟩,vz (n:=44) rfl g (by rw[aQ];lia) λH3 h3=>?_⟩;refine⟨I,x,tx,i,k,v,_,G,M,rfl,az,hv v (aR _ (gI hv1)),rf.mono (C.trans (L.trans b)),rd.mono (C.trans (L.trans b)),h3,(by simp only[aQ,fE];lia),λH4 F4 l4 h4=>?_⟩;refine⟨F4,some x,b.trans l4,?_,rfl⟩;rw[ej];simpa using h4
  ·rintro σ O ⟨G,z,b,g,rfl⟩;refine q O G (C.trans (L.trans b)) ?_;have hlen:(u.drop 1).length=o.length:=by rw[X.len,kq]
   rw[hlen,iJ]at g;exact g
end
section
theorem Dl (h:af K H F M)(hp:H p=none)
 (q:∀b,af K b F M->Q ((σ.set i (some x)).set j (some y)) b):xR K 2 (BQ (pF i) (BQ (pF j) Ic)) (.ref p) σ (upd H p (.tup [x,y])) Q:=
 ⟨p,_,rfl,ke.of jB,rfl,x,[y],rfl,y,[],rfl,rfl,q _ (h.old hp)⟩
theorem Vj {t s:aq}(h:af K H F ((tx,.lst (bytes t))::M))(i:Rep K F x (bP s))(j:t.length+s.length<=1000000)(q:∀b,af K b F ((tx,.lst (bytes (t++s)))::M)->Q .aB b):dJ σ H λg k=>oo (.ref tx) (x::g) k Q:=Dk h i j q
theorem Ky {t s:aq}(e:∀R:VK,R x H->te σ H R)(h:af K H F ((tx,.lst (bytes t))::M))(i:Rep K F x (bP s))(j:t.length+s.length<=1000000)(q:∀b,af K b F ((tx,.lst (bytes (t++s)))::M)->Q .aB b):dr te dJ σ H λg k=>oo (.ref tx) g k Q:=e _ (Dk h i j q)
theorem Dm:∀{fs} {b},h_ fs b->b.length=fs.list.length
 | .nil,b,h=>by
  subst h;rfl
 | .cons h k r,b,g=>by
  obtain⟨o,i,rfl,_,h2⟩:=g;show _=(r.list.length+1);rw[bf,Dm h2]
inductive Kz (n)(vf)(tx)(i)(ch)(fs)(ss)(t:aq)(M)(F1)(va)(j)(σ:L2.St)(H'):Prop|mk (rest) (a) (dn) (sr) (vb) (z1 z2) (F'):(bS c i ch i.a fs).drop j=bS c i ch a rest->bC rest n ch->ss.drop j=sr->h_ rest sr->eT fs ss=dn++eT rest sr->Le F1 F'->Rep K F' vb (bP (if dn=[]then[]else[59]))->af K H' F' ((tx,.lst (bytes (t++dt 59 dn)))::M)->σ=[some vf,some (.ref va),some (.ref tx),some vb,z1,z2]->Kz n vf tx i ch fs ss t M F1 va j σ H'
theorem Vk (T:Tx K mg c)(g_write_occurrences:Fn P w K mg base "write_occurrences" (3*n+3) ["field","occurrences","text"] (Di K c n)):Fn P w K mg base "write_fields" (3*n+4) ["group","value","text"] (yK K c (n+1)):=by
 refine T.fo 94 ["group","value","text","between","field","occurrences"] λH vs nd hr h=>?_;obtain⟨vf,vv,tx,i,ch,fs,J,t,F,M,rfl,az,hv,rf,rv,hH,hl,q⟩:=h;refine⟨_,(ah (aN 3 (bO ag)) (ak (gj d_ rfl (yb rfl T.cst.zip (ae (ay (pv 0) rfl) (ae (pv 1) ag))) (uB rfl (rC (dF 4) (rC (dF 5) BR))) (ak (aL (aP iW (cM cE (by rfl) T.cst.len cT (ae (pv 5) ag)) aY) (ah (ba (d9 eU wu wx rK (pv 2) (ae (de lI (de lI (pv 3) (ay (pv 4) rfl)) (bO (ae (aD T.cst.Cz) ag))) ag))) (ah (ba (pf g_write_occurrences (ae (pv 4) (ae (pv 5) (ae (pv 2) ag))))) (ak (aN 3 (bO (ae (aD T.cst.CB) ag)))))) aS))))),?_⟩;unfold bB at az;obtain⟨_,_,hokF⟩:=az;rw[v8]at hokF;refine⟨bR _,λp hp=>?_⟩;obtain⟨C,l1,h1,r1⟩:=hH.jL hp [];have h1:af K (upd H p (.lst [])) C ((tx,.lst (bytes t))::M):=h1;generalize upd H p (.lst [])=H1 at h1⊢;refine(pW h1 (rf.mono l1) λxk rk=>?_);obtain⟨ka,I,rfl,hka,rs⟩:=rk.lst_inv;have rs:aU K C I (bS c i ch i.a fs):=rs;obtain⟨va,ys,rfl,hva,rys⟩:=(rv.mono l1).lst_inv;have exs:I.length=ys.length:=by rw[rs.len,rys.len,p0,pY,Dm hv]
 refine⟨ka,va,_,_,rfl,ax.of (h1.le _ _ hka),ax.of (h1.le _ _ hva),Ku (xs:=I) (ys:=ys) (Kz n vf tx i ch fs J t M C va)
  ⟨fs,i.a,[],J,.ref p,none,none,C,rfl,hokF,rfl,hv,rfl,Le.refl C,r1,by simpa[dt]using h1,rfl⟩ exs ?_ ?_ ?_⟩
 ·rintro j σ H' _ ⟨rest,a,u,sr,vb,z1,z2,G,Y,U,X,wv1,es,b,L,g,rfl⟩;exact⟨ax.of (g.le _ _ (b _ _ hka)),ax.of (g.le _ _ (b _ _ hva))⟩
 ·rintro j x y σ H' hx hy ⟨rest,a,u,sr,vb,z1,z2,G,Y,U,X,wv1,es,b,L,g,rfl⟩ T0 hT0;refine Dl g hT0 λH2 h2=>?_;clear g;obtain⟨hd,k,r,rfl,rx,e3⟩:=vw Y (rs.mono b) hx;unfold bC at U;obtain⟨_,_,w3,_,_,w6,w7,w8⟩:=U;have hnm:=My.xt w3;obtain⟨o,s2,rfl,wo,ws⟩:=wv1;obtain⟨d,hd1,ry⟩:=(rys.mono b).get' hy
  have eo:J[j]? =some o:=by
   have:=congrArg (λl=>l[0]?) X;simpa using this
  have es2:J.drop (j+1)=s2:=by
   have:=congrArg ql X;simpa using this
  rw[yH,eo]at hd1;cases hd1;rw[My.G_,<-c9]at es;obtain⟨W,zs,rfl,hoa,ros⟩:=ry.lst_inv;have hlo:zs.length=o.length:=by rw[ros.len,kq]
  refine⟨W,_,rfl,.inl (ax.of (h2.le _ _ hoa)),_,_,rfl,rfl,?_⟩;rw[hlo];refine bG (λq1=>?_) λq1=>?_
  ·have O:(0:Int)<(o.length:Int):=by simpa using q1
   have hne:o≠[]:=λz=>by rw[z]at O;simp at O
   rw[if_neg hne]at es
   have hb:t.length+(dt 59 (u++[hd.name++58::dt 44 (o.map λv=>cS k v)])).length<=1000000:=by
    rw[es,My.xu,aQ]at hl
    lia
   rw[My.By]at hb;simp only[aQ,bf]at hb;refine⟨⟨rfl,_,ax.of h2.at⟩,yB h2 rx λxn rn=>?_⟩;have rn:Rep K G xn (bP hd.name):=rn;have hdl:(if u=[]then[]else[59]:List Nat).length<=1:=by split<;>simp
   refine pZ h2 L rn (by lia) λv4 H4 F4 l4 h4 r4=>?_;refine⟨by show 1<=bH;rw[bq];decide,λp5 hp5=>?_⟩;obtain⟨F5,l5,h5,r5⟩:=h4.jL hp5 [58];refine pZ h5 (r4.mono l5) r5 (by simp only[aQ,fE];lia) λv6 H6 F6 l6 h6 r6=>?_;refine Vj h6 r6 (by simp only[aQ,fE];lia) λH7 h7=>?_;have l17:=l4.trans (l5.trans l6);refine⟨x,.ref W,tx,i.bE ch hd a,k,o,_,F6,M,rfl,w7,hne,wo,rx.mono l17,ry.mono l17,h7,(by simp only[aQ,fE];lia),λH8 F8 l8 h8=>?_⟩;refine⟨by show 1<=bH;rw[bq];decide,λp9 hp9=>?_⟩;obtain⟨F9,l9,h9,r9⟩:=h8.jL hp9 [59];have h9:af K (upd H8 p9 (.lst [.int 59])) F9 _:=h9;refine⟨r,a+au k,_,s2,.ref p9,some x,some (.ref W),F9,e3,w8,es2,ws,es,b.trans (l17.trans (l8.trans l9)),by rw[if_neg (by simp)];exact r9,?_,rfl⟩;rw[My.By];simpa using h9
  ·have O:¬(0:Int)<(o.length:Int):=by simpa using q1
   have he:o=[]:=by
    cases o with
    |nil=>rfl
    |cons z o=>rw[bf]at O;lia
   subst he;refine⟨r,a+au k,u,s2,vb,some x,some (.ref W),G,e3,w8,es2,ws,?_,b,L,h2,rfl⟩;rw[es,if_pos rfl,eZ]
 ·rintro σ H' ⟨rest,a,u,sr,vb,z1,z2,G,Y,U,X,wv1,es,b,L,g,rfl⟩
  have hr0:rest= .nil:=by
   refine su (i:=i) (ch:=ch) (a:=a) ?_;rw[<-Y,ku (by rw[<-rs.len];exact bA _)]
  subst hr0;rw[eT,eZ]at es;refine q H' G (l1.trans b) ?_;rw[es];exact g
theorem Vl:∀b H Q E,¬yK K c 0 b H Q E:=by
 rintro b H Q E ⟨h,g,tx,i,ch,fs,j,t,F,M,_,az,_⟩;unfold bB at az;simp_all
theorem KA (T:Tx K mg c):∀n,Fn P w K mg base "write_value" (3*n+2) ["field","value","text"] (vy K c n)
 |0=>Kw (n:=0) T (T.nv 94 Vl)
 |n+1=>Kw (n:=n+1) T (Vk T (Vi T (KA T n)))
theorem Vm (T:Tx K mg c):Fn P w K mg base "write_value" (20) ["field","value","text"] (vy K c 6):=KA T 6
inductive KC (K)(c)(vs)(H)(Q:VK)(E:XK):Prop|mk (vf vv) (i) (k:Kd) (v) (F) (M):vs=[vf,vv]->bB k 6->Wv k v->Rep K F vf (FD c i k)->Rep K F vv (gE c v)->af K H F M->(cS k v).length<=1000000->(∀x H' F',Le F F'->af K H' F' M->Rep K F' x (bP (cS k v))->Q x H')->KC K c vs H Q E
theorem KD (T:Tx K mg c):Fn P w K mg base "row_text" (21) ["record","value"] (KC K c):=by
 refine T.fo 92 ["record","value","text"] λH G nd I h=>?_;obtain⟨g,b,i,k,v,F,M,rfl,az,y,rf,j,C,z,q⟩:=h;refine⟨_,(ah (aN 2 (bO ag)) (ah (ba (pf (Vm T) (ae (pv 0) (ae (pv 1) (ae (pv 2) ag))))) (ak (aC (pv 2))))),?_⟩;refine⟨bR _,λp hp=>?_⟩;have h1:=C.cP (xs:=[]) hp;refine⟨g,b,p,i,k,v,[],F,M,rfl,az,y,rf,j,h1,(by simpa using z),λJ O u h2=>?_⟩;obtain⟨L,o,h3,r3⟩:=h2.bM (oA _);exact(q _ _ _ (u.trans o) h3 r3)
end
open Vacolc (joinCols shredKind shredFields shredRow)
open My (Ent qY numsOf cX q_)
def oJ (c:Cs)(dx b:ai)(n:Nat):HO:= .ins c.jk dx [("total",.int (n:Int)),("numbers",.ref b)]
abbrev CA:=ai×ai×ai
def vA (c:Cs)(x:CA)(l:List Ent):List (ai×HO):=[(x.1,oJ c x.2.1 x.2.2 l.length),(x.2.2,.lst (bytes (numsOf l)))]
def fM (c:Cs):List CA->(Nat->List Ent)->Nat->List (ai×HO)
 |[],_,_=>[]
 |x::L,es,j=>vA c x (es j)++fM c L es (j+1)
theorem KG {c}:∀(L) (a),(∀j,a<=j->es' j=es j)->fM c L es' a=fM c L es a
 |[]=>λ_ _=>rfl
 |x::L=>λa h=>by
  rw[fM,fM,h a (bA _),KG L (a+1) λj b=>h j (by lia)]
theorem KH {c}{es:Nat->List Ent}:∀(L) (a i),L[i]? =some x->∃R,∀b:Nat->List Ent,(∀j,j≠a+i->b j=es j)->(fM c L b a).Perm (vA c x (b (a+i))++R)
 |[],a,i=>λe=>by simp at e
 |y::L,a,0=>λe=>by
  have e:y=x:=by simpa using e
  subst e;refine⟨fM c L es (a+1),λb h=>?_⟩;rw[fM,KG L (a+1) λj k=>h j (by lia)];rfl
 |y::L,a,i+1=>λe=>by
  obtain⟨R,h⟩:=KH (es:=es) L (a+1) i (by simpa using e);refine⟨vA c y (es a)++R,λb g=>?_⟩;have o:a+(i+1)=a+1+i:=by lia
  have:=h b λj k=>g j (by lia);rw[fM,g a (by lia),o];refine(List.Perm.append_left _ this).trans ?_;rw[<-c9,<-c9];exact List.Perm.append_right _ List.perm_append_comm
section
theorem af.KI (h:af K H F (fM c L es 0++M))(e:L[i]? =some x):
 ∃R,af K H F ((x.1,oJ c x.2.1 x.2.2 (es i).length)::(x.2.2,.lst (bytes (numsOf (es i))))::R)/\∀(k o) (l) (b),af K k o ((x.1,oJ c x.2.1 x.2.2 l.length)::(x.2.2,.lst (bytes (numsOf l)))::R)->b i=l->(∀j,j≠i->b j=es j)->af K k o (fM c L b 0++M):=by
 obtain⟨R,g⟩:=KH (es:=es) L 0 i e;rw[vP]at g;refine⟨R++M,?_,λk o l b u z y=>?_⟩
 ·have:=(g es λ_ _=>rfl).append_right M;exact h.perm this
 ·have:=(g b y).append_right M;rw[z]at this;exact u.perm this.symm
theorem KJ {t:aq}{n:Nat}(e:x= .int (n))(h:af K H F ((tx,.lst (bytes t))::M))(i:t.length<1000000)(q:∀b,af K b F ((tx,.lst (bytes (t++[n])))::M)->Q .aB b):dJ σ H λg j=>mC (.ref tx) (x::g) j Q:=by
 subst e;exact Dj h i q
theorem KL {t:aq}{n:Nat}(e:∀R:VK,R (.int (n)) H->te σ H R)(h:af K H F ((tx,.lst (bytes t))::M))(i:t.length<1000000)(q:∀b,af K b F ((tx,.lst (bytes (t++[n])))::M)->Q .aB b):dr te dJ σ H λg j=>mC (.ref tx) g j Q:=e _ (Dj h i q)
theorem KN (n:Nat)(b):([("total",V.int (n)),("numbers",V.ref b)]:List (Str×V)).lookup ("total":Str)=some (.int (n)):=rfl
theorem yL (v)(b):([("total",v),("numbers",V.ref b)]:List (Str×V)).lookup ("numbers":Str)=some (.ref b):=rfl
inductive KO (K)(c)(vs:List V)(H)(Q:VK)(E:XK):Prop|mk (x dx) (F) (M):vs=[.ref x]->af K H F ((x,.ins c.jk dx [])::M)->(∀H' b,af K H' F ((x,oJ c dx b 0)::(b,.lst [])::M)->Q .aB H')->KO K c vs H Q E
theorem Vn (T:Tx K mg c):gA P w K mg base "ColumnEntries" c.jk (1) ["self"] (KO K c):=by
 refine T.ko 1 ["self"] λH g nd i h=>?_;obtain⟨x,dx,F,M,rfl,h1,k⟩:=h;refine⟨_,(ah (bI (pv 0) aY rfl) (ak (bI (pv 0) (bO ag) rfl))),?_⟩;refine(wN h1 (T.jk.2 _ (.head _)) (by show 0<1000;decide) λb h2=>?_);refine⟨bR _,λp hp=>?_⟩;have h3:=h2.cP (xs:=[]) hp;exact(wN h3.sw (T.jk.2 _ (.tail _ (.head _))) (by show 1<1000;decide) λb h4=>k _ p h4)
inductive KP (K)(c)(vs:List V)(H)(Q:VK)(E:XK):Prop|mk (x dx b) (n r d:Nat) (t:aq) (F) (M):vs=[.ref x,.int (r),.int (d)]->af K H F ((x,oJ c dx b n)::(b,.lst (bytes t))::M)->t.length+2<=1000000->(∀H',af K H' F ((x,oJ c dx b (n+1))::(b,.lst (bytes (t++[r,d])))::M)->Q .aB H')->KP K c vs H Q E
theorem KQ (T:Tx K mg c):Mt P w K mg base c.jk "add_gap" (1) ["self","repetition","definition"] (KP K c):=by
 refine T.mo 1 1 ["self","repetition","definition"] λH i nd j h=>?_;obtain⟨x,dx,b,n,r,d,t,F,M,rfl,h1,o,k⟩:=h;refine⟨_,(ah (mz (pv 0) aY n9) (ah (ba (d9 eU gv gw f6 (ay (pv 0) rfl) (ae (pv 1) ag))) (ak (ba (d9 eU gv gw f6 (ay (pv 0) rfl) (ae (pv 2) ag)))))),?_⟩;refine(aM h1 (KN n b) (oz h1 (KN n b) (by show 2<1000;decide) λy h2=>?_));refine(rM h2 (yL _ b) ⟨⟨rfl,_,ax.of h2.dv⟩,KL (λ_ q=>q) h2.sw (by lia) λu h3=>?_⟩);refine(rM h3.sw (yL _ b) ⟨⟨rfl,_,ax.of h3.at⟩,KL (λ_ q=>q) h3 (by rw[aQ,fE];lia) λg h4=>?_⟩);refine k g ?_;rw[c9]at h4;exact h4.sw
inductive KR (K)(c)(vs)(H)(Q:VK)(E:XK):Prop|mk (x dx b) (n r d:Nat) (vs1) (s t:aq) (F) (M):vs=[.ref x,.int (r),.int (d),vs1]->Rep K F vs1 (bP s)->af K H F ((x,oJ c dx b n)::(b,.lst (bytes t))::M)->t.length+(3+s.length)<=1000000->(∀H',af K H' F ((x,oJ c dx b (n+1))::(b,.lst (bytes (t++(r::d::s.length::s))))::M)->Q .aB H')->KR K c vs H Q E
theorem Vo (T:Tx K mg c):Mt P w K mg base c.jk "add_literal" (2) ["self","repetition","definition","signs"] (KR K c):=by
 refine T.mo 1 2 ["self","repetition","definition","signs"] λH o nd u h=>?_;obtain⟨x,dx,b,n,r,d,v1,g,t,F,M,rfl,rs,h1,y,k⟩:=h;refine⟨_,(ah (ba (pm (KQ T) T.jk.1 (pv 0) (ae (pv 1) (ae (pv 2) ag)))) (ah (ba (d9 eU gv gw f6 (ay (pv 0) rfl) (ae (cM cE (by rfl) T.cst.len cT (ae (pv 3) ag)) ag))) (ak (ba (d9 eU wu wx rK (ay (pv 0) rfl) (ae (pv 3) ag)))))),?_⟩;refine⟨x,dx,_,rfl,h1.at,rfl,x,dx,b,n,r,d,t,F,M,rfl,h1,by lia,λC h2=>?_⟩;obtain⟨a,rfl,i⟩:=rs.nats;refine(rM h2 (yL _ b) ⟨⟨rfl,_,ax.of h2.dv⟩,a,_,rfl,.inl (ax.of (h2.le _ _ i)),?_⟩);rw[gB];refine KJ rfl h2.sw (by simp;lia) λz h3=>?_;refine(rM h3.sw (yL _ b) ⟨⟨rfl,_,ax.of h3.at⟩,Ky (λ_ q=>q) h3 rs (by simp;lia) λj h4=>?_⟩);refine k j ?_;have e:t++[r,d]++[g.length]++g=t++(r::d::g.length::g):=by simp
 rw[e]at h4;exact h4.sw
end
section
def Vp (L:List CA):D:= .lst (L.map λx=> .v (.ref x.1))
theorem KS {L:List CA}{j:Nat}(h:L[j]? =some x):(L.map λx=>D.v (.ref x.1))[j]? =some (.v (.ref x.1)):=by
 simp_all
def Dq (K:aW)(c:Cs)(L:List CA)(es:Nat->List Ent)(a n:Nat)(new:List (List Ent))(h:V)(F H:Hp)(M:List (ai×HO))(Q:VK):Prop:=
 Rep K F h (Vp L)/\a+n<=L.length/\L.length<=1000/\af K H F (fM c L es 0++M)/\(∀j,(numsOf (cX es a new j)).length<=1000000)/\∀b g,Le F g->af K b g (fM c L (cX es a new) 0++M)->Q .aB b
inductive KU (K)(c)(vs)(H)(Q)(E:XK):Prop|mk (vf vc) (r d:Nat) (i) (k) (L) (es) (F) (M):vs=[vf,.int (r),.int (d),vc]->Rep K F vf (FD c i k)->Dq K c L es i.a (au k) (eN (au k) [⟨r,d,none⟩]) vc F H M Q->KU K c vs H Q E
theorem KV (es)(a j)(e):cX es a (eN (j+1) [e]) (a+j)=cX es a (eN j [e]) (a+j)++[e]:=by
 unfold cX;simp_all
theorem Vq (es)(a j)(e)(x)(h:x≠a+j):cX es a (eN (j+1) [e]) x=cX es a (eN j [e]) x:=by
 unfold cX
 grind
theorem Vr (es)(a n j)(e)(h:j<=n)(x):(numsOf (cX es a (eN j [e]) x)).length<=(numsOf (cX es a (eN n [e]) x)).length:=by
 have:eN n [e]=eN j [e]++eN (n-j) [e]:=by
  simp_all
 rw[this,<-My.Ha];exact My.xw _ _ _ _
theorem Vs (T:Tx K mg c):Fn P w K mg base "enter_gap" (2) ["field","repetition","definition","columns"] (KU K c):=by
 refine T.fo 4 ["field","repetition","definition","columns","place"] λH Y nd hr h=>?_;obtain⟨C,G,r,d,i,k,L,es,F,M,rfl,rf,J,hL,hL2,o,O,q⟩:=h;refine⟨_,(ak (gj d_ rfl (BU rfl T.cst.range (ae (ay (pv 0) rfl) (ae (ay (pv 0) rfl) ag))) (dF 4) (ak (ba (pm (KQ T) T.jk.1 (d8 dS (pv 3) (pv 4)) (ae (pv 1) (ae (pv 2) ag))))))),?_⟩;refine(yD o rf (Ki o rf ⟨_,_,rfl,⟨by lia,by lia,by lia,by lia⟩,?_⟩));have U:(((i.a+au k:Nat):Int)-(i.a:Int)).toNat=au k:=by lia
 refine rE (lo:=(i.a:Int)) (λj σ g=>af K g F (fM c L (cX es i.a (eN j [⟨r,d,none⟩])) 0++M)/\∃z,σ=[some C,some (.int (r:Int)),some (.int (d:Int)),some G,z]) ⟨by rw[List.replicate_zero,My.G'];exact o,none,rfl⟩ ?_ ?_
 ·rintro j σ g hj ⟨b,z,rfl⟩;have lt:i.a+j<L.length:=by lia
  refine(ft (j:=i.a+j) b J (KS (eI lt)) λy I=>?_);have:=I.val;subst this;obtain⟨R,h1,W⟩:=b.KI (eI lt);have u:=eA (Vr es i.a (au k) (j+1) ⟨r,d,none⟩ (by lia) (i.a+j)) (O (i.a+j));rw[KV,My.m4,aQ]at u;refine⟨_,_,_,rfl,h1.at,rfl,_,_,_,_,r,d,_,F,R,rfl,h1,u,λX h2=>?_⟩;refine⟨W X F _ _ ?_ (KV _ _ _ _) (Vq _ _ _ _),_,rfl⟩;rw[aQ,My.m4];exact h2
 ·rintro σ g ⟨b,z,rfl⟩;rw[U]at b;exact q g F (Le.refl F) b
inductive vB (K)(c)(n)(vs)(H)(Q)(E:XK):Prop|mk (vf vv vc) (r:Nat) (i) (k:Kd) (v) (L) (es) (F) (M):vs=[vf,vv,.int (r),vc]->bB k n->Wv k v->Rep K F vf (FD c i k)->Rep K F vv (gE c v)->Dq K c L es i.a (au k) (bY k r i.r i.d v) vc F H M Q->vB K c n vs H Q E
inductive yM (K)(c)(n)(vs)(H)(Q)(E:XK):Prop|mk (vf vv vc) (r:Nat) (i) (k:Kd) (o) (L) (es) (F) (M):vs=[vf,vv,.int (r),vc]->bB k n->o≠[]->((∀v∈o,Wv k v))->Rep K F vf (FD c i k)->Rep K F vv (.lst (cz c o))->Dq K c L es i.a (au k) (bU (au k) (o.zipIdx.map λx=>bY k (if x.2=0 then r else i.r) i.r i.d x.1)) vc F H M Q->yM K c n vs H Q E
inductive KW (vf vc)(r:Nat)(i:FI)(k:Kd)(L)(M)(o:List Val)(a)(F2)(es1)(j)(σ:L2.St)(H'):Prop|mk (es') (F') (z):cX es1 i.a (bU (au k) (o.map λv=>bY k i.r i.r i.d v))=cX es' i.a (bU (au k) ((o.drop j).map λv=>bY k i.r i.r i.d v))->Le F2 F'->af K H' F' (fM c L es' 0++M)->σ=[some vf,some (.ref a),some (.int (r)),some vc,z]->KW vf vc r i k L M o a F2 es1 j σ H'
theorem Vt (T:Tx K mg c)(g_enter:Fn P w K mg base "enter" (2*n+3) ["field","value","repetition","columns"] (vB K c m)):Fn P w K mg base "enter_occurrences" (2*n+4) ["field","occurrences","repetition","columns"] (yM K c m):=by
 refine T.fo 5 ["field","occurrences","repetition","columns","value"] λH vs nd hr h=>?_;obtain⟨W,vv,X,r,i,k,o,L,es,F,M,rfl,az,hne,b,rf,rv,rc,hL,hL2,hH,I,q⟩:=h;refine⟨_,(ah (ba (pf g_enter (ae (pv 0) (ae (d8 dS (pv 1) aY) (ae (pv 2) (ae (pv 3) ag)))))) (ak (gj d_ rfl (fg (m9 lH (pv 1) (ji aY) B3)) (dF 4) (ak (ba (pf g_enter (ae (pv 0) (ae (pv 4) (ae (ay (pv 0) rfl) (ae (pv 3) ag)))))))))),?_⟩;cases o with
 |nil=>exact absurd rfl hne
 |cons v0 o=>
  have J:∀Y:List Val,(∀v∈Y,Wv k v)->∀y∈(Y.map λv=>bY k i.r i.r i.d v),y.length=au k:=λY h y hy=>by
   obtain⟨v,b,rfl⟩:=dU.mp hy;exact My.qZ _ _ _ _ _ (h v b)
  rw[My.QD]at I q;rw[<-My.Hb es i.a (au k) (My.qZ k r i.r i.d v0 (b v0 aH)) (J o λv h=>b v (aR _ h))]at I q;obtain⟨a,u,rfl,ha,rs⟩:=rv.lst_inv;refine(ft (j:=0) hH rv (d:=gE c v0) (by rw[cz];rfl) λy ry=>?_);refine⟨W,y,X,r,i,k,v0,L,es,F,M,rfl,az,b v0 aH,rf,ry,rc,hL,hL2,hH,λj=>eA (My.xw _ _ _ _) (I j),λH1 F1 l1 h1=>?_⟩;refine⟨_,rfl,a,_,rfl,ax.of (h1.le _ _ (l1 _ _ ha)),λp hp=>?_⟩;rw[Kv]
  have rs2:aU K F (u.drop 1) (cz c o):=by
   have:=rs.drop 1;exact this
  obtain⟨F2,l2,h2,hp2⟩:=h1.Dg (xs:=u.drop 1) hp;generalize cX es i.a (bY k r i.r i.d v0)=es1 at I q h1 h2
  refine⟨p,rfl,⟨_,ax.of (h2.le _ _ hp2)⟩,kR (xs:=u.drop 1) (KW W X r i k L M o a F2 es1)
   ⟨es1,F2,none,rfl,Le.refl F2,h2,rfl⟩ ?_ ?_ ?_⟩
  ·rintro j σ H' _ ⟨O,U,z,g,C,G,rfl⟩;exact ax.of (G.le _ _ (C _ _ hp2))
  ·rintro j x σ H' hx ⟨O,U,z,g,C,G,rfl⟩;obtain⟨d,hd,rd⟩:=rs2.get' hx;rw[pX,aX]at hd;obtain⟨v,hv1,rfl⟩:=hd;obtain⟨lt,ev⟩:=cK.mp hv1;have wv:=b v (aR _ (gI hv1));rw[nP lt,ev,cu,<-My.Hb O i.a (au k) (My.qZ k i.r i.r i.d v wv) (J (o.drop (j+1)) λv h=>b v (aR _ (zp h)))]at g;have lf:=l1.trans (l2.trans C);refine(yC G (rf.mono lf) ?_);refine⟨W,x,X,i.r,i,k,v,L,O,U,M,rfl,az,wv,rf.mono lf,rd.mono lf,rc.mono lf,hL,hL2,G,λx=>?_,λH4 F4 l4 h4=>⟨_,F4,some _,g,C.trans l4,h4,rfl⟩⟩;have:=I x;rw[g]at this;exact eA (My.xw _ _ _ _) this
  ·rintro σ H' ⟨O,U,z,g,C,G,rfl⟩;refine q H' U (l1.trans (l2.trans C)) ?_;have J:(u.drop 1).length=o.length:=by rw[rs2.len,kq]
   rw[J,zX,Oo,My.QC]at g;rw[g];exact G
end
section
theorem KY (es)(a)(e):cX es a [[e]] a=es a++[e]:=by
 unfold cX;simp_all
theorem Vu (es)(a)(e)(x)(h:x≠a):cX es a [[e]] x=es x:=by
 unfold cX
 grind
inductive KZ (m)(vc)(r)(i)(L)(es)(F)(M)(a)(ch)(fs0)(ss)(va)(j)(σ:L2.St)(H'):Prop|mk (rest) (p) (sr) (es') (z1 z2) (F'):(bS c i ch i.a fs0).drop j=bS c i ch p rest->bC rest m ch->ss.drop j=sr->h_ rest sr->p+aG rest<=L.length->cX es i.a (e_ fs0 ch r i.r i.d ss)=cX es' p (e_ rest ch r i.r i.d sr)->Le F F'->af K H' F' (fM c L es' 0++M)->σ=[some (.ref a),some (.ref va),some (.int (r)),some vc,z1,z2]->KZ m vc r i L es F M a ch fs0 ss va j σ H'
theorem K0 {spo:Sp}(hN:N=0\/(N=m+1/\spo=yM K c m))(T:Tx K mg c)(g_enter_occurrences:Fn P w K mg base "enter_occurrences" (2*n+4) ["field","occurrences","repetition","columns"] (spo)):Fn P w K mg base "enter" (2*n+5) ["field","value","repetition","columns"] (vB K c N):=by
 refine T.fo 3 ["field","value","repetition","columns","part","occurrences"] λH vs nd hr h=>?_;obtain⟨vf,vv,vc,r,i,k,v,L,es,F,M,rfl,az,C,rf,X,rc,hL,hL2,g,hb,q⟩:=h;refine⟨_,(ah (aL (c_ (bJ (yI T) T.Field.1 (pv 0))) (ah (ba (pm (Vo T) T.jk.1 (d8 dS (pv 3) (ay (pv 0) rfl)) (ae (pv 2) (ae (ay (pv 0) rfl) (ae (ay (pv 1) rfl) ag))))) (ak Ri)) aS) (ak (gj d_ rfl (yb rfl T.cst.zip (ae (ay (pv 0) rfl) (ae (pv 1) ag))) (uB rfl (rC (dF 4) (rC (dF 5) BR))) (ak (aL (aP cy (cM cE (by rfl) T.cst.len cT (ae (pv 5) ag)) aY) (ak (ba (pf (Vs T) (ae (pv 4) (ae (pv 2) (ae (ay (pv 0) rfl) (ae (pv 3) ag))))))) (ak (ba (pf g_enter_occurrences (ae (pv 4) (ae (pv 5) (ae (pv 2) (ae (pv 3) ag)))))))))))),?_⟩;refine(yE g rf λa dx fs e=>?_);subst e;refine⟨_,i,k,F,_,rfl,rf,g,?_⟩;cases k with
 |leaf l=>
  refine(?_);unfold Wv at C;obtain⟨x,rfl⟩:=C;rw[gE]at X;rw[bY]at hb q;rw[au]at hL;have lt:i.a<L.length:=by lia
  refine(yD g rf (ft (j:=i.a) g rc (KS (eI lt)) λy W=>?_));have:=W.val;subst this;obtain⟨R,h1,back⟩:=g.KI (eI lt);have hb1:=hb i.a;rw[KY,My.m4,aQ]at hb1
  have hb1:(numsOf (es i.a)).length+(3+(fQ x).length)<=1000000:=by
   simp[My.numsOf,qY]at hb1⊢
   lia
  refine⟨_,_,_,rfl,h1.at,rfl,pV g rf (rF g X (d:=bP (fQ x)) rfl λz rz=>?_)⟩;refine⟨_,_,_,_,r,i.d,z,fQ x,_,F,R,rfl,rz,h1,hb1,λH2 h2=>?_⟩;refine q H2 F (Le.refl F) (back H2 F _ _ ?_ (KY _ _ _) (Vu _ _ _));rw[aQ,My.m4];simpa[My.numsOf,qY]using h2
 |group ch fs0=>
  refine(?_);unfold bB at az;obtain⟨hN0,_,hokF⟩:=az;rcases hN with rfl|⟨rfl,rfl⟩
  ·exact absurd hN0 (by decide)
  rw[v8]at hokF;unfold Wv at C;obtain⟨U,rfl,C⟩:=C;rw[gE]at X;rw[bY]at hb q;rw[au]at hL;refine(pW g rf λxk rk=>?_);obtain⟨ka,J,rfl,hka,rs⟩:=rk.lst_inv;have rs:aU K F J (bS c i ch i.a fs0):=rs;obtain⟨va,ys,rfl,hva,rys⟩:=X.lst_inv;have exs:J.length=ys.length:=by rw[rs.len,rys.len,p0,pY,Dm C]
  refine⟨ka,va,_,_,rfl,ax.of (g.le _ _ hka),ax.of (g.le _ _ hva),Ku (xs:=J) (ys:=ys) (KZ m vc r i L es F M a ch fs0 U va)
   ⟨fs0,i.a,U,es,none,none,F,rfl,hokF,rfl,C,hL,rfl,Le.refl F,g,rfl⟩ exs ?_ ?_ ?_⟩
  ·rintro j σ H' _ ⟨rest,p,sr,es',z1,z2,I,e1,ok1,e2,O,hp,u,b,G,rfl⟩;exact⟨ax.of (G.le _ _ (b _ _ hka)),ax.of (G.le _ _ (b _ _ hva))⟩
  ·rintro j x y σ H' hx hy ⟨rest,p,sr,es',z1,z2,I,e1,ok1,e2,O,hp,u,b,G,rfl⟩ T0 hT0;refine Dl G hT0 λH2 h2=>?_;clear G;obtain⟨hd,k,rr,rfl,rx,e3⟩:=vw e1 (rs.mono b) hx;unfold bC at ok1;obtain⟨_,_,w3,_,_,w6,w7,w8⟩:=ok1;unfold h_ at O;obtain⟨o,s2,rfl,wo,ws⟩:=O;obtain⟨d,hd1,W⟩:=(rys.mono b).get' hy
   have eo:U[j]? =some o:=by
    have:=congrArg (λl=>l[0]?) e2;simpa using this
   have es2:U.drop (j+1)=s2:=by
    have:=congrArg ql e2;simpa using this
   rw[yH,eo]at hd1;cases hd1;rw[My.He,<-My.Ha,My.xx wo]at u;rw[aG]at hp
   have hb2:=λx=>by
    have:=hb x;rw[u]at this;exact eA (My.xw _ _ _ _) this
   obtain⟨oa,zs,rfl,hoa,ros⟩:=W.lst_inv;have hlo:zs.length=o.length:=by rw[ros.len,kq]
   refine⟨oa,_,rfl,.inl (ax.of (h2.le _ _ hoa)),rfl,?_⟩;rw[hlo];refine(bG (λY=>?_) λY=>?_)
   ·have he:o=[]:=by
     cases o with
     |nil=>rfl
     |cons z o=>simp at Y;lia
    subst he;refine(pV h2 (rf.mono b) ⟨x,vc,r,i.d,i.bE ch hd p,k,L,es',I,M,rfl,rx,rc.mono b,(by show p+_<=_;lia),hL2,h2,hb2,λH3 F3 l3 h3=>?_⟩);exact⟨rr,p+au k,s2,_,some x,some (.ref oa),F3,e3,w8,es2,ws,by lia,u,b.trans l3,h3,rfl⟩
   ·have hne:o≠[]:=λz=>by rw[z]at Y;simp at Y
    have eo2:q_ hd k ch r i.r i.d o=bU (au k) (o.zipIdx.map λx=>bY k (if x.2=0 then r else(i.bE ch hd p).r) (i.bE ch hd p).r (i.bE ch hd p).d x.1):=by
     unfold q_;rw[if_neg hne];rfl
    rw[eo2]at hb2 u;refine⟨x,.ref oa,vc,r,i.bE ch hd p,k,o,L,es',I,M,rfl,w7,hne,wo,rx,W,rc.mono b,(by show p+_<=_;lia),hL2,h2,hb2,λH3 F3 l3 h3=>?_⟩;exact⟨rr,p+au k,s2,_,some x,some (.ref oa),F3,e3,w8,es2,ws,by lia,u,b.trans l3,h3,rfl⟩
  ·rintro σ H' ⟨rest,p,sr,es',z1,z2,I,e1,ok1,e2,O,hp,u,b,G,rfl⟩
   have hr0:rest= .nil:=by
    refine su (i:=i) (ch:=ch) (a:=p) ?_;rw[<-e1,ku (by rw[<-rs.len];exact bA _)]
   subst hr0;rw[e_,My.G']at u;refine q H' I b ?_;rw[u];exact G
end
def Dr (c:Cs)(fs:aJ):D:= .ins c.nr [("record",FD c FI.root (.group false fs)),("columns",.lst (LD c FI.root (.group false fs)))]
def lS (c:Cs)(l:List Ent):D:= .ins c.jk [("total",fL l.length),("numbers",bP (My.numsOf l))]
mutual
theorem K1 (c:Cs):∀(i:FI) (k:Kd),(LD c i k).length=au k
 |i,.leaf l=>by
  rw[LD,au];rfl
 |i,.group ch fs=>by
  rw[LD,au,yN]
theorem yN (c:Cs):∀(i:FI) (ch:Bool) (a:Nat) (fs:aJ),(gD c i ch a fs).length=aG fs
 |i,ch,a,.nil=>by
  rw[gD,aG];rfl
 |i,ch,a,.cons h k r=>by
  rw[gD,aG,aQ,K1,yN]
end
section
theorem K2:∀(L) (x) (a),fM c (L++[x]) es a=fM c L es a++vA c x (es (a+L.length))
 |[]=>λx a=>rfl
 |y::L=>λx a=>by
  rw[ir,fM,fM,K2 L x (a+1),c9,bf,show a+1+L.length=a+(L.length+1) by lia]
theorem af.K3:∀(L) (F) (a),af K H F (fM c L es a++M)->∃b,Le F b/\af K H b M/\aU K b (L.map λx=> .ref x.1) ((ll a L.length).map λj=>lS c (es j))
 |[]=>λF a h=>⟨F,Le.refl F,h,.nil⟩
 |x::L=>λF a h=>by
  obtain⟨y,k,h1,r1⟩:=h.sw.bM (oA _);obtain⟨u,i,h2,r2⟩:=h1.lL (.cons (.v _) (.cons r1 .nil));obtain⟨o,g,h3,r3⟩:=af.K3 L u (a+1) h2;exact⟨o,k.trans (i.trans g),h3,.cons (r2.mono g) r3⟩
theorem Vv (new)(n)(h:new.length=n):((ll 0 n).map λj=>lS c (cX (λ_=>[]) 0 new j))=new.map (lS c):=by
 refine NL λj=>?_;rw[dB,dB];by_cases q:j<n
 ·rw[List.getElem?_range' q,eI (by lia)];simp[cX,show j<new.length by lia]
 simp_all
theorem nA {A B:Hp->Prop}(h:A H):Jc σ H λb g=>if b=true then A g else B g:=by
 show if true=true then A H else B H;simp_all
inductive K4 (K)(c)(vs)(H)(Q:VK)(E:XK):Prop|mk (vc vv) (fs) (v) (F) (M):vs=[vc,vv]->bB (.group false fs) 6->aG fs<=100->Wv (.group false fs) v->Rep K F vc (Dr c fs)->Rep K F vv (gE c v)->af K H F M->((∀j:Nat,(My.numsOf (((c8 fs v)[j]?).getD [])).length<=1000000))->(∀x H' F',Le F F'->af K H' F' M->Rep K F' x (.lst ((c8 fs v).map (lS c)))->Q x H')->K4 K c vs H Q E
theorem K5 (T:Tx K mg c):∀n,Fn P w K mg base "enter" (2*n+5) ["field","value","repetition","columns"] (vB K c n)
 |0=>K0 (n:=0) (N:=0) (m:=0) (spo:=λ_ _ _ _=>False) (.inl rfl) T (T.nv 5 λ_ _ _ _ h=>h)
 |n+1=>K0 (n:=n+1) (N:=n+1) (m:=n) (spo:=yM K c n) (.inr ⟨rfl,rfl⟩) T (Vt (n:=n+1) T (K5 T n))
theorem Vw (T:Tx K mg c):Fn P w K mg base "enter" (17) ["field","value","repetition","columns"] (vB K c 6):=K5 T 6
theorem K6 (T:Tx K mg c):Fn P w K mg base "shred" (18) ["schema","value"] (K4 K c):=by
 refine T.fo 2 ["schema","value","columns","column"] λH vs nd hr h=>?_;obtain⟨vc,vv,fs,v,F,M,rfl,az,hle,X,O,rv,J,hb,q⟩:=h;refine⟨_,(ah (CS (i:=2) (own:=[("column",3)]) jj (λ_ _ _ z=>z) rfl nd rfl rfl (Cn rfl rfl rfl rfl) (fg (ay (pv 0) rfl)) (kU (N:=["schema","value","columns","column"]) (sc:=cY (top 2)) (by decide+kernel)) (λ_ _ _ _ _=>(dF 3)) (λ_ _ _ _ _=>nc) (λ_ _ _ _ _ _ pE=>(Jw (Vn T)))) (ah (ba (pf (Vw T) (ae (ay (pv 0) rfl) (ae (pv 1) (ae aY (ae (pv 2) ag)))))) (ak (aC (pv 2))))),?_⟩;refine(rF J O (d:= .lst (LD c FI.root (.group false fs))) rfl λz rz=>?_);obtain⟨a,C,rfl,Y,rs⟩:=rz.lst_inv;have I:C.length=aG fs:=by rw[rs.len,K1,au]
 refine⟨a,rfl,⟨_,ax.of (J.le _ _ Y)⟩,λd hd=>ki (xs:=C) (λj u=>∃L:List CA,L.length=j/\af K u F ((d,.lst (L.map λx=> .ref x.1))::(fM c L (λ_=>[]) 0++M))) ⟨[],rfl,J.cP hd⟩ ?_ ?_ ?_⟩
 ·rintro j u _ ⟨L,g,k⟩;exact ax.of (k.le _ _ Y)
 ·rintro j x u hx ⟨L,g,k⟩;refine⟨rfl,nA ?_⟩;refine λy o ny ndy ney=>⟨y,o,F,_,rfl,k.make ny ndy ney T.jk.1,λH4 b h4=>⟨rfl,_,h4.at2,?_,L++[(y,o,b)],?_,?_⟩⟩
  ·obtain⟨lt,_⟩:=cK.mp hx;rw[bb,g,bq]
   lia
  ·rw[aQ,g];rfl
  ·have h5:=h4.ig.eh (ys:=(L++[(y,o,b)]).map λx=>V.ref x.1);rw[dA]at h5;rw[dA,K2];refine h5.perm (.cons _ ?_);rw[c9];exact(Oq (vA c (y,o,b) []) (fM c L (λ_=>[]) 0) M)
 ·rintro u ⟨L,g,k⟩
  obtain⟨F1,G,h1,r1⟩:=k.bM (ds:=L.map λx=> .v (.ref x.1)) (by
   clear k g;induction L with
   |nil=>exact .nil
   |cons x L ih=>exact .cons (.v _) ih)
  have hD:F1 d=some (.lst (L.map λx=> .ref x.1)):=by
   obtain⟨d',ys,e,h3,h4⟩:=r1.lst_inv;cases e;have:=h1.le _ _ h3;rw[k.at]at this;cases this;exact h3
  have hln:=My.qZ _ 0 0 0 _ X;refine(rF h1 (O.mono G) (d:=FD c FI.root (.group false fs)) rfl λz2 rz2=>⟨z2,vv,.ref d,0,FI.root,.group false fs,v,L,λ_=>[],F1,M,rfl,az,X,rz2,rv.mono G,r1,?_,?_,h1,?_,λH2 F2 W h2=>?_⟩)
  ·rw[au,g,I];show 0+_<=_
   lia
  ·rw[g,I]
   lia
  ·intro j;have:=hb j;exact this
  ·obtain⟨F3,U,h3,r3⟩:=h2.K3;refine(q _ _ _ (G.trans (W.trans U)) h3 ?_);have e:=Vv (c8 fs v) L.length (by rw[g,I];exact hln);have e2:cX (λ_=>[]) FI.root.a (bY (.group false fs) 0 FI.root.r FI.root.d v)=cX (λ_=>[]) 0 (c8 fs v):=rfl;rw[e2,e]at r3;exact .lst (U _ _ (W _ _ hD)) r3
end
open My (i_)
section
def K7 (vn h vp r d kind g b a e vl:V):List (Str×V):=[("name",vn),("mode",h),("path",vp),("repetition",r),("definition",d),("kind",kind),("size",g),("fields",b),("first_column",a),("end_column",e),("repeating_levels",vl)]
inductive Ds (K)(c:Cs)(vs)(H)(Q:VK)(E:XK):Prop|mk (x dx) (nm md pt rp df) (F) (M):vs=[.ref x,nm,md,pt,rp,df]->af K H F ((x,.ins c.Field dx [])::M)->(∀H' la ra,af K H' F ((x,.ins c.Field dx (K7 nm md pt rp df (.int 3) (.int 0) (.ref la) (.int 0) (.int 0) (.ref ra)))::(la,.lst [])::(ra,.lst [])::M)->Q .aB H')->Ds K c vs H Q E
theorem K8 (T:Tx K mg c):gA P w K mg base "Field" c.Field (1) ["self","name","mode","path","repetition","definition"] (Ds K c):=by
 refine T.ko 16 ["self","name","mode","path","repetition","definition"] λH I nd O h=>?_;obtain⟨x,dx,nm,L,pt,J,U,F,M,rfl,h1,k⟩:=h;refine⟨_,(ah (bI (pv 0) (pv 1) rfl) (ah (bI (pv 0) (pv 2) rfl) (ah (bI (pv 0) (pv 3) rfl) (ah (bI (pv 0) (pv 4) rfl) (ah (bI (pv 0) (pv 5) rfl) (ah (bI (pv 0) (aD T.cst.rT) rfl) (ah (bI (pv 0) aY rfl) (ah (bI (pv 0) (bO ag) rfl) (ah (bI (pv 0) aY rfl) (ah (bI (pv 0) aY rfl) (ak (bI (pv 0) (bO ag) rfl)))))))))))),?_⟩;refine(wN h1 (T.Field.2 _ (by simp)) (by show 0<1000;decide) λH2 h2=>?_);refine(wN h2 (T.Field.2 _ (by simp)) (by show 1<1000;decide) λH3 h3=>?_);refine(wN h3 (T.Field.2 _ (by simp)) (by show 2<1000;decide) λH4 h4=>?_);refine(wN h4 (T.Field.2 _ (by simp)) (by show 3<1000;decide) λH5 h5=>?_);refine(wN h5 (T.Field.2 _ (by simp)) (by show 4<1000;decide) λY h6=>?_);refine(wN h6 (T.Field.2 _ (by simp)) (by show 5<1000;decide) λX h7=>?_);refine(wN h7 (T.Field.2 _ (by simp)) (by show 6<1000;decide) λW j=>?_);refine⟨bR _,λp hp=>?_⟩;have i:=j.cP (xs:=[]) hp;refine(wN i.sw (T.Field.2 _ (by simp)) (by show 7<1000;decide) λH10 C=>?_);refine(wN C (T.Field.2 _ (by simp)) (by show 8<1000;decide) λH11 z=>?_);refine(wN z (T.Field.2 _ (by simp)) (by show 9<1000;decide) λH12 y=>?_);refine⟨bR _,λb g=>?_⟩;have u:=y.cP (xs:=[]) g;exact(wN u.sw (T.Field.2 _ (by simp)) (by show 10<1000;decide) λG o=>k G p b o.in1)
structure FA where
 f:ai
 dx:ai
 la:ai
 vn:V
 vp:V
 vl:V
def FA.cell (c:Cs)(x:FA)(i:FI)(kind:Int)(b a e:Nat):ai×HO:=(x.f,.ins c.Field x.dx (K7 x.vn (.int ((jt i.m:Nat):Int)) x.vp (.int (i.r:Int)) (.int (i.d:Int)) (.int kind) (.int (b:Int)) (.ref x.la) (.int (a:Int)) (.int (e:Int)) x.vl))
structure FA.Ok (K:aW)(x:FA)(F:Hp)(i:FI):Prop where
 n:Rep K F x.vn (bP i.nm)
 p:Rep K F x.vp (bP i.path)
 l:Rep K F x.vl (bP i.lv)
theorem FA.Ok.mono {x:FA}(h:x.Ok K F i)(l:Le F G):x.Ok K G i:=⟨h.n.mono l,h.p.mono l,h.l.mono l⟩
inductive K9 (K)(c)(vs:List V)(H)(Q:VK)(E:XK):Prop|mk (F) (M):vs=[]->af K H F M->(∀(x:FA) H' F',Le F F'->x.Ok K F' FI.root->af K H' F' (x.cell c FI.root 3 0 0 0::(x.la,.lst [])::M)->Q (.ref x.f) H')->K9 K c vs H Q E
theorem Vx (T:Tx K mg c):Fn P w K mg base "outermost_record" (3) [] (K9 K c):=by
 refine T.fo 18 [] λH O nd U h=>?_;obtain⟨F,M,rfl,I,q⟩:=h;refine⟨_,(ak (aC (pk (K8 T) (ae (bO ag) (ae (aD T.cst.rV) (ae (bO ag) (ae aY (ae aY ag)))))))),?_⟩;refine⟨bR _,λp hp=>?_⟩;obtain⟨X,C,h1,r1⟩:=I.jL hp [];refine⟨bR _,λk G=>?_⟩;obtain⟨L,g,h2,r2⟩:=h1.jL G [];refine λy i o z u=>⟨y,i,_,_,_,_,_,L,M,rfl,h2.make o z u T.Field.1,λW la j h3=>⟨rfl,?_⟩⟩;obtain⟨J,b,h4,r4⟩:=h3.ig.bM (ds:=[]) .nil;exact q ⟨y,i,la,.ref p,.ref k,.ref j⟩ _ J (C.trans (g.trans b)) ⟨(r1.mono g).mono b,r2.mono b,r4⟩ h4
theorem Vy (u:σ[j]? =some (some (.int (d))))(h:af K H F M)(q:∀v o k,Le F k->af K o k M->Rep K k v (bP (if b=true then[d]else[]))->Q v o):if b=true then pI (dr (bg j) dJ) σ H Q else pI dJ σ H Q:=by
 cases b with
 |true=>
  refine bg.to u ⟨by show 1<=bH;rw[bq];decide,λp hp=>?_⟩;obtain⟨i,g,h1,r1⟩:=h.jL hp [d];exact q _ _ i g h1 r1
 |false=>
  refine⟨bR _,λp hp=>?_⟩;obtain⟨i,g,h1,r1⟩:=h.jL hp [];exact q _ _ i g h1 r1
inductive K_ (K)(c)(vs)(H)(Q:VK)(E:XK):Prop|mk (g:FA) (i) (ch) (a e num:Nat) (vn) (h) (F) (M):vs=[.ref g.f,.int (h.number:Int),vn,.int ((jt h.mode:Nat):Int)]->g.Ok K F i->i.path.length<=100->i.lv.length<=100->Rep K F vn (bP h.name)->af K H F (g.cell c i (ik ch) 0 a e::M)->(∀(x:FA) H' F' b,Le F F'->x.Ok K F' (i.bE ch h b)->af K H' F' (x.cell c (i.bE ch h b) 3 0 0 0::(x.la,.lst [])::g.cell c i (ik ch) 0 a e::M)->Q (.ref x.f) H')->K_ K c vs H Q E
theorem Vz (T:Tx K mg c):Fn P w K mg base "field_within" (3) ["parent","number","name","mode"] (K_ K c):=by
 refine T.fO 19 ["parent","number","name","mode","repetition","definition","field"] λf bu A outer s H vs Q E nd hr h=>?_;obtain⟨g,i,ch,a,e,num,vn,hd,F,M,rfl,j,hp1,hl1,J,b,q⟩:=h;refine⟨_,(ah (aN 4 (ay (pv 0) rfl)) (ah (aN 5 (ay (pv 0) rfl)) (ah (aL (c_ (pf (yJ T) (ae (pv 3) ag))) (ak (uC 4 aY uD)) aS) (ah (aL (PW.pt (jD (aP je (pv 3) (aD T.cst.rV)) (kP (aP cy (ay (pv 0) rfl) (aD T.cst.ow))))) (ak (uC 5 aY uD)) aS) (ah (aN 6 (pk (K8 T) (ae (pv 2) (ae (pv 3) (ae (de lI (ay (pv 0) rfl) (bO (ae (pv 1) ag))) (ae (pv 4) (ae (pv 5) ag))))))) (ah (bI (pv 6) (de lI (ay (pv 0) rfl) (BP (c_ (pf (yJ T) (ae (pv 3) ag))) (bO (ae (pv 5) ag)) (bO ag))) rfl) (ak (aC (pv 6))))))))),?_⟩;obtain⟨number,name,m,dflt⟩:=hd
 have fin:∀r d:Nat,r=i.r+aw m->d=i.d+defOf ch m->kQ (xS (rJ c.Field (Ds K c) [] E (dr (bg 2) (dr (bg 3) (dr (iE rL (gS K (bg 0) "path") (pI (dr (bg 1) dJ))) (dr (bg 4) (dr (bg 5) dJ)))))) (pF 6)) (kQ (uH K (bg 6) (iE rL (gS K (bg 0) "repeating_levels") (H_ (tB (mB C8 [] E (dr (bg 3) dJ))) (pI (dr (bg 5) dJ)) (pI dJ))) "repeating_levels") (lF (bg 6))) {nx:=λx H'=>Q V.aB H',rt:=Q} [some (.ref g.f),some (.int (number:Int)),some vn,some (.int ((jt m:Nat):Int)),some (.int (r:Int)),some (.int (d:Int)),none] H:=by
  rintro r d rfl rfl;refine(rM b rfl ?_);refine⟨by show 1<=bH;rw[bq];decide,λp hp=>?_⟩;obtain⟨F1,C,h1,r1⟩:=b.jL hp [number];refine pZ h1 (j.p.mono C) r1 (by rw[fE];lia) λI H2 F2 W h2 r2=>?_;refine(λy G L U O=>⟨y,G,_,_,_,_,_,F2,_,rfl,h2.make L U O T.Field.1,λH3 la ra h3=>⟨rfl,?_⟩⟩);have X:=C.trans W;refine(rM h3.mG rfl ?_);refine⟨m,rfl,?_⟩;refine Vy (d:=i.d+defOf ch m) rfl h3 λv5 H5 F5 o h5 r5=>?_;have z:=X.trans o;have hls:(if i_ m=true then[i.d+defOf ch m]else[]:List Nat).length<=1:=by split<;>simp
  refine pZ h5 (j.l.mono z) r5 (by lia) λv6 H6 F6 k h6 r6=>?_;refine(wM h6 rfl (by show 11<1000;decide) λY h7=>(?_));have u:=z.trans k;refine q ⟨y,G,la,vn,I,v6⟩ Y F6 0 u ⟨J.mono u,(r2.mono o).mono k,?_⟩ h7.ig.drop
  have e:(i.bE ch ⟨number,name,m,dflt⟩ 0).lv=i.lv++(if i_ m=true then[i.d+defOf ch m]else[]):=by
   cases m<;>simp[FI.bE,aw,i_]
  rw[e];exact r6
 refine(rM b rfl (rM b rfl ⟨m,rfl,?_⟩));cases m with
 |one=>
  refine⟨rfl,(rM b rfl ⟨rfl,?_⟩)⟩;cases ch with
  |false=>exact(fin _ _ rfl rfl)
  |true=>exact⟨_,rfl,_,_,rfl,rfl,fin _ _ rfl rfl⟩
 |opt=>exact⟨rfl,(⟨_,rfl,_,_,rfl,rfl,fin _ _ rfl rfl⟩)⟩
 |many=>exact⟨_,rfl,_,_,rfl,rfl,rfl,(⟨_,rfl,_,_,rfl,rfl,fin _ _ rfl rfl⟩)⟩
 |keyed=>exact⟨_,rfl,_,_,rfl,rfl,rfl,(⟨_,rfl,_,_,rfl,rfl,fin _ _ rfl rfl⟩)⟩
end
open Vacola (isLow isDigit nameSign goodName modeOf)
open My (jV jW ml jX gh cI dj dP)
theorem VA {p:α->Bool}{d u}(hd:∀x∈d,p x=true)(h:∀x b,u=x::b->p x=false):(d++u).takeWhile p=d/\(d++u).dropWhile p=u:=by
 induction d with
 |nil=>
  cases u with
  |nil=>exact⟨rfl,rfl⟩
  |cons x u=>
   simp_all
 |cons a d g=>
  simp_all
def p7 (i:Int):Bool:=lQ i||(nz i||decide (i=95))
theorem VB (n:Nat):p7 (n)=bQ n:=by
 unfold p7 bQ;rw[J3,CY,Bool.or_assoc];congr 2
 grind
section
theorem VC (T:Tx K mg c):gA P w K mg base "Schema" c.nr (1) ["self","record","columns"] (vi K c.nr "record" "columns"):=by
 refine T.ko 139 ["self","record","columns"] λH i nd j h=>?_;obtain⟨x,dx,a,b,F,M,rfl,h1,k⟩:=h;refine⟨_,(ah (bI (pv 0) (pv 1) rfl) (ak (bI (pv 0) (pv 2) rfl))),?_⟩;refine(wN h1 (T.nr.2 _ (.head _)) (by show 0<1000;decide) λg h2=>?_);exact(wN h2 (T.nr.2 _ (.tail _ (.head _))) (by show 1<1000;decide) λg h3=>k _ h3)
inductive K' (K)(c:Cs)(vs)(H)(Q:VK)(E:XK):Prop|mk (ca) (v) (xs) (F) (M):vs=[.ref ca,v]->xs.length<=40->af K H F ((ca,.lst xs)::M)->((xs.length=40->E (.ref c.fh) none H))->((xs.length≠40->∀H',af K H' F ((ca,.lst (xs++[v]))::M)->Q .aB H'))->K' K c vs H Q E
theorem VD (T:Tx K mg c):Fn P w K mg base "add_column" (1) ["columns","field"] (K' K c):=by
 refine T.fo 143 ["columns","field"] λH o nd u h=>?_;obtain⟨ca,v,i,F,M,rfl,y,b,k,j⟩:=h;refine⟨_,(ah (aL (aP cy (cM cE (by rfl) T.cst.len cT (ae (pv 0) ag)) (aD T.cst.Tz)) (ak (cO T.eG)) aS) (ak (ba (d9 eU gv gw f6 (pv 0) (ae (pv 1) ag))))),?_⟩;refine⟨ca,_,rfl,.inl (ax.of b.at),rfl,?_⟩;refine bG (λq=>?_) λq=>?_
 ·have g:i.length=40:=by
   grind
  exact k g
 ·have g:i.length≠40:=by
   grind
  exact⟨⟨rfl,_,ax.of b.at⟩,ca,_,_,rfl,rfl,b.at,(by rw[bq];lia),j g _ b.eh⟩
theorem VE (T:Tx K mg c):Fn P w K mg base "is_name_sign" (2) ["sign"] (vd p7):=by
 refine T.fo 147 ["sign"] λH g nd j h=>?_;obtain⟨i,rfl,k⟩:=h;refine⟨_,(ak (aC (BO (pf (J5 T) (ae (pv 0) ag)) (BO (pf (C0 T) (ae (pv 0) ag)) (rB (jg cy (pv 0) (aD T.cst.S'))))))),?_⟩;unfold p7 at k;refine⟨i,rfl,_,rfl,?_⟩;refine bG (λq=>?_) λq=>?_
 ·rw[q,YH]at k;exact k
 ·rw[q,Ot]at k;refine⟨i,rfl,_,rfl,?_⟩;refine bG (λb=>?_) λb=>?_
  ·rw[b,YH]at k;exact k
  ·rw[b,Ot]at k;refine⟨rfl,?_⟩;have e:decide (V.int i=V.int 95)=decide (i=95):=by rw[lh];simp
   rw[e];exact k
inductive La (K)(c)(vs:List V)(H)(Q)(E):Prop|mk (R) (u:aq) (F) (M):vs=[.ref R.r]->af K H F (R.cell c.Reader u::M)->R.Ok F u->lP K c bP (jV u) R F M Q E->La K c vs H Q E
theorem Lb (u:aq):p7 (sgn u)=true↔∃d b,u=d::b/\bQ d=true:=by
 cases u with
 |nil=>simp[sgn,p7,lQ,nz]
 |cons d u=>
  show p7 (d:Int)=true↔_;rw[VB];simp
inductive Lc (R:dz)(u:aq)(F)(M)(m)(σ:L2.St)(H'):Prop|mk (d u'):m=u'.length->u=d++u'->((∀x∈d,bQ x=true))->af K H' F (R.cell c.Reader u'::M)->σ=[some (.ref R.r),some (.int ((R.t.length-u.length:Nat):Int))]->Lc R u F M m σ H'
theorem VF (T:Tx K mg c):Fn P w K mg base "read_name" (3) ["reader"] (La K c):=by
 refine T.fo 146 ["reader","begin"] λH vs nd hr h=>?_;obtain⟨R,u,F,M,rfl,j,C,U,k2⟩:=h;refine⟨_,(ah (aN 1 (ay (pv 0) rfl)) (ah (aL (lE (c_ (pf (J5 T) (ae (bJ (mK T) T.Reader.1 (pv 0)) ag)))) (ak (cO T.eG)) aS) (ah (mx d_ (c_ (pf (VE T) (ae (bJ (mK T) T.Reader.1 (pv 0)) ag))) (ak (ba (bJ (rZ T) T.Reader.1 (pv 0))))) (ah (aL (aP iW (de kg (ay (pv 0) rfl) (pv 1)) (aD T.cst.Tv)) (ak (cO T.eG)) aS) (ak (aC (m9 lH (ay (pv 0) rfl) (ji (pv 1)) (ji (ay (pv 0) rfl))))))))),?_⟩;refine(rM j (km _ _) ?_);refine⟨R.r,R.dx,_,rfl,j.at,rfl,R,u,F,M,rfl,j,C,_,rfl,?_⟩
 have Y:lQ (sgn u)=true↔∃d b,u=d::b/\isLow d=true:=by
  cases u with
  |nil=>simp[sgn,lQ]
  |cons d u=>
   show lQ (d:Int)=true↔_;rw[J3];simp
 refine bG (λq=>?_) λq=>?_
 ·have L:¬lQ (sgn u)=true:=by simpa using q
  refine U ?_ _ _ (Le.refl F) j.drop;unfold jV;rw[if_neg];intro i;apply L;rw[Y];unfold ip at i;cases u with
  |nil=>simp at i
  |cons d u=>
   refine⟨d,u,rfl,?_⟩;by_cases hd:bQ d=true
   ·rw[oU,hd]at i;simp at i;exact i.1.1
   ·have hd:bQ d=false:=zW.mpr hd;rw[oU,hd]at i;simp at i
 ·have L:lQ (sgn u)=true:=by simpa using q
  obtain⟨k,u0,eu0,hd0⟩:=Y.mp L
  refine⟨Lc R u F M,
   ⟨_,[],u,rfl,rfl,λx z=>absurd z (by simp),j,rfl⟩,?_⟩
  rintro m σ H' ⟨d,b,rfl,rfl,hd,g,rfl⟩;have y:R.Ok F b:=C.sub ⟨d,rfl⟩;refine⟨R.r,R.dx,_,rfl,g.at,rfl,R,b,F,M,rfl,g,y,_,rfl,?_⟩;refine bG (λG=>⟨_,λσ' H' z=>z,?_⟩) λG=>?_
  ·obtain⟨a,o,rfl,ha⟩:=(Lb b).mp G;refine⟨R.r,R.dx,_,rfl,g.at,rfl,R.r,R.dx,R.l,_,F,M,rfl,g,λH3 h3=>?_⟩;refine⟨o.length,by simp,d++[a],o,rfl,by simp,?_,?_,rfl⟩
   ·intro x hx;rcases gm.mp hx with z|z
    ·exact hd x z
    ·rw[g7.mp z];exact ha
   ·have e:((R.t.length-(a::o).length:Nat):Int)+1=((R.t.length-o.length:Nat):Int):=by
     have:=y.drop.2;rw[bf]at this⊢
     lia
    rw[e]at h3;exact h3
  ·have W:∀x I,b=x::I->bQ x=false:=λx I e=>by
    cases q5:bQ x with
    |false=>rfl
    |true=>
     have:=(Lb b).mpr ⟨x,I,e,q5⟩;rw[this]at G;cases G
   obtain⟨tw,dw⟩:=VA hd W;have hlen0:=C.drop.2;rw[aQ]at hlen0;refine(rM g (km _ _) ⟨_,_,rfl,rfl,_,_,rfl,rfl,?_⟩)
   have e1:((R.t.length-b.length:Nat):Int)-((R.t.length-(d++b).length:Nat):Int)=(d.length:Int):=by
    rw[aQ];omega
   rw[e1]
   have hne:∃d',d=k::d':=by
    cases d with
    |nil=>
     have:=W k u0 eu0
     have h2:bQ k=true:=by
      unfold bQ;rw[hd0];rfl
     rw[this]at h2;cases h2
    |cons x d=>
     have:x=k:=by
      have:=congrArg List.head? eu0;simpa using this
     exact⟨d,by rw[this]⟩
   obtain⟨d',ed⟩:=hne
   have X:ip d=decide (d.length<=12):=by
    rw[ed];show(isLow k&&_&&_)=_;rw[hd0,<-ed,fR.mpr hd];rfl
   refine bG (λJ=>?_) λJ=>?_
   ·refine U ?_ _ _ (Le.refl F) g.drop;unfold jV;rw[tw,X,if_neg];simp at J⊢;omega
   ·refine(rM g (rS _ _) ⟨_,rfl,rM g (km _ _) ⟨_,rfl,R.l,_,rfl,ax.of (g.le _ _ y.tx),λp hp=>?_⟩⟩)
    have e2:(R.t.drop (R.t.length-(d++b).length)).take (R.t.length-b.length-(R.t.length-(d++b).length))=d:=by
     rw[C.drop.1,show R.t.length-b.length-(R.t.length-(d++b).length)=d.length by rw[aQ];omega,vX];rfl
    rw[Cu,e2];obtain⟨F2,O,h2,r2⟩:=g.jL hp d;refine k2 d b ?_ _ _ _ O h2 (y.mono O) r2;unfold jV;rw[tw,dw,X,if_pos];simp at J⊢;omega
end
def iG (fs:aJ):List g6:=fs.list.map (·.1)
theorem VG (h)(k:Kd)(r):iG (.cons h k r)=h::iG r:=rfl
theorem VH (h)(l)(n)(name):gh (h::l) n name=((decide (n<=h.number)||(name==h.name))||gh l n name):=by
 rfl
theorem VI (b:List α)(x):oh (b++[x]) (-1)=some x:=by
 unfold oh pK;rw[if_neg (by decide),if_pos (by rw[aQ,fE];lia)];show(b++[x])[(-1+((b++[x]).length:Int)).toNat]? =some x;rw[aQ,fE,show(-1+((b.length+1:Nat):Int)).toNat=b.length by lia];simp
section
inductive Ld (K)(c)(vs)(H)(Q:VK)(E:XK):Prop|mk (la) (n:Nat) (vn) (name:aq) (i) (ch) (a) (fs) (xs) (F) (M):vs=[.ref la,.int (n),vn]->Rep K F vn (bP name)->aU K F xs (bS c i ch a fs)->af K H F ((la,.lst xs)::M)->((gh (iG fs) n name=true->E (.ref c.fh) none H))->((gh (iG fs) n name=false->Q .aB H))->Ld K c vs H Q E
inductive Lf (H:Hp)(la)(n)(name)(i)(ch)(a)(fs)(na)(j)(σ:L2.St)(H'):Prop|mk (rest) (a') (z):H'=H->(bS c i ch a fs).drop j=bS c i ch a' rest->gh (iG fs) n name=gh (iG rest) n name->σ=[some (.ref la),some (.int (n)),some (.ref na),z]->Lf H la n name i ch a fs na j σ H'
theorem VJ (T:Tx K mg c):Fn P w K mg base "check_beside" (1) ["fields","number","name"] (Ld K c):=by
 refine T.fo 148 ["fields","number","name","field"] λH vs nd hr h=>?_;obtain⟨la,n,vn,name,i,ch,a,fs,J,F,M,rfl,Y,rs,g,O,k2⟩:=h;refine⟨_,(ak (gj d_ rfl (fg (pv 0)) (dF 3) (ak (aL (PW.pt (jD (aP jF (pv 1) (d8 dS (ay (pv 3) rfl) (Io Iq aY))) (kP (aP (Cb hr.units) (pv 2) (ay (pv 3) rfl))))) (ak (cO T.eG)) aS)))),?_⟩;obtain⟨na,rfl,hna⟩:=Y.nats
 refine⟨la,rfl,⟨_,ax.of g.at⟩,kR (xs:=J) (Lf H la n name i ch a fs na)
  ⟨fs,a,none,rfl,rfl,rfl,rfl⟩ ?_ ?_ ?_⟩
 ·rintro j σ U _ ⟨rest,u,z,rfl,o,b,rfl⟩;exact ax.of g.at
 ·rintro j x σ U hx ⟨rest,u,z,rfl,o,b,rfl⟩;obtain⟨hd,k,r,rfl,L,e3⟩:=vw o rs hx;rw[VG,VH]at b;refine(C7 g L λW y=>?_);have y:Rep K F W (bP (i.path++[hd.number])):=y;obtain⟨pa,rfl,hpa⟩:=y.nats;refine⟨1,rfl,pa,_,_,.int (hd.number:Int),rfl,rfl,ax.of (g.le _ _ hpa),?_,_,_,rfl,rfl,?_⟩
  ·rw[rR];exact VI _ _
  refine bG (λq=>?_) λq=>?_
  ·have I:n<=hd.number:=by
    simp at q
    lia
   refine O ?_;rw[b,decide_eq_true I];rfl
  ·have I:¬n<=hd.number:=by
    simp at q
    lia
   refine(yB g L λxn X=>?_);obtain⟨na2,rfl,hna2⟩:=X.nats;refine⟨nj name,nj hd.name,yn (ax.of (g.le _ _ hna)),yn (ax.of (g.le _ _ hna2)),shaped_ints _,shaped_ints _,?_⟩;rw[JK];rw[decide_eq_false I,Ot]at b;refine bG (λG=>?_) λG=>?_
   ·have C:name=hd.name:=by simpa using G
    refine O ?_;rw[b,C,beq_self_eq_true];rfl
   ·have C:¬name=hd.name:=by simpa using G
    refine⟨r,u+au k,some x,rfl,e3,?_,rfl⟩;rw[b,beq_eq_false_iff_ne.mpr C];rfl
 ·rintro σ U ⟨rest,u,z,rfl,o,b,rfl⟩
  have hr0:rest= .nil:=by
   refine su (i:=i) (ch:=ch) (a:=u) ?_;rw[<-o,ku (by rw[<-rs.len];exact bA _)]
  subst hr0;exact k2 b
def VL (m:jQ):D:=fL (jt m)
inductive Lg (K)(c)(vs:List V)(H)(Q)(E):Prop|mk (R) (u:aq) (g:FA) (i) (ch) (a e) (F) (M):vs=[.ref R.r,.ref g.f]->af K H F (R.cell c.Reader u::g.cell c i (ik ch) 0 a e::M)->R.Ok F u->lP K c VL (jW ch u) R F (g.cell c i (ik ch) 0 a e::M) Q E->Lg K c vs H Q E
theorem VM (T:Tx K mg c):Fn P w K mg base "read_mode" (2) ["reader","group"] (Lg K c):=by
 refine T.fo 149 ["reader","group","mode"] λH U nd W h=>?_;obtain⟨R,u,g,i,ch,a,e,F,M,rfl,C,L,y,k⟩:=h;refine⟨_,(ah (aN 2 (bJ (mK T) T.Reader.1 (pv 0))) (ah (ba (bJ (rZ T) T.Reader.1 (pv 0))) (ah (aL (aP cy (pv 2) (aD T.cst.rV)) (ak (aC (pv 2))) aS) (ah (aL (PW.pt (jD (aP cy (ay (pv 1) rfl) (aD T.cst.ow)) (kP (aP B9 (pv 2) (RH (ae (aD T.cst.SV) (ae (aD T.cst.JL) (ae (aD T.cst.uU) ag)))) rfl)))) (ak (cO T.eG)) aS) (ak (aC (pv 2))))))),?_⟩;refine⟨R.r,R.dx,_,rfl,C.at,rfl,R,u,F,_,rfl,C,L,?_⟩;refine⟨R.r,R.dx,_,rfl,C.at,rfl,R.r,R.dx,R.l,_,F,_,rfl,C,λH1 h1=>?_⟩;refine⟨rfl,?_⟩;cases u with
 |nil=>
  refine(rM h1.sw rfl ⟨rfl,?_⟩);cases ch with
  |true=>exact((y rfl _ _ (Le.refl F) h1.drop))
  |false=>
   refine⟨by show 3<=bH;rw[bq];decide,λp hp=>⟨p,_,rfl,.inr (ke.of jB),rfl,rfl,(y rfl _ _ (Le.refl F) (h1.drop.old hp))⟩⟩
 |cons x u=>
  rw[step_at L]at h1;have z:=L.sub ⟨[x],rfl⟩;show if decide (V.int ((x:Nat):Int)=V.int 33)=true then _ else _;refine bG (λq=>?_) λq=>?_
  ·have j:x=33:=by
    simp at q
    lia
   refine(k .one u (by rw[j];rfl) _ _ _ (Le.refl F) h1 z ?_);rw[j];exact .v _
  ·have j:x≠33:=by
    simp at q
    lia
   refine(rM h1.sw rfl ⟨rfl,?_⟩);cases ch with
   |true=>exact((y (by rw[jW,if_neg j,if_pos rfl]) _ _ (Le.refl F) h1.drop))
   |false=>
    refine⟨by show 3<=bH;rw[bq];decide,λp hp=>⟨p,_,rfl,.inr (ke.of jB),rfl,rfl,?_⟩⟩;have h2:=h1.old (o:= .tup [.int 63,.int 42,.int 37]) hp
    have b:jW false (x::u)=(vU x).map λm=>(m,u):=by
     rw[jW,if_neg j,if_neg dX]
    unfold vU at b;rw[if_neg j]at b;by_cases J:x=63
    ·subst J;exact(k .opt u (by rw[b];rfl) _ _ _ (Le.refl F) h2 z (.v _))
    ·rw[if_neg J]at b;by_cases I:x=42
     ·subst I;exact(k .many u (by rw[b];rfl) _ _ _ (Le.refl F) h2 z (.v _))
     ·rw[if_neg I]at b;by_cases G:x=37
      ·subst G;exact(k .keyed u (by rw[b];rfl) _ _ _ (Le.refl F) h2 z (.v _))
      ·rw[if_neg G]at b
       have O:x8 (V.int (x:Int)) [.int 63,.int 42,.int 37]=false:=by
        show(kT (.int 63) (.int (x:Int))||(kT (.int 42) (.int (x:Int))||(kT (.int 37) (.int (x:Int))||false)))=false
        have e:∀n:Nat,x≠n->kT (.int (n:Int)) (.int (x:Int))=false:=λn X=>by
         exact decide_eq_false (by lia)
        rw[show(63:Int)=((63:Nat):Int)from rfl,show(42:Int)=((42:Nat):Int)from rfl,show(37:Int)=((37:Nat):Int)from rfl,e 63 J,e 42 I,e 37 G];rfl
       show if(!x8 (V.int (x:Int)) [.int 63,.int 42,.int 37])=true then _ else _;rw[O];exact(y b _ _ (Le.refl F) h2.drop)
end
end Prg
namespace My
open Vacola
def yO (t:aq):Option (bN×aq):=match cI 98 t with
 |some r=>some (.bit,r)
 |none=>match cI 105 t with
  |some r=>(match dj 64 r with
   |some (n,s)=>if n<2 then none else some (.int n,s)
   |none=>none)
  |none=>match cI 116 t with
   |some r=>(dj 999 r).map λx=>(.text x.1,x.2)
   |none=>none
theorem VN (b:Nat)(t:aq):ml b t=match yO t with
 |none=>none
 |some x=>if b=40 then none else some x:=rfl
end My
namespace Prg
open PySem PySem.Spec PyProof.Rows L2
open Vacola (Text Leaf Lit Mode Head Fields showMode repOf defOf leavesKind leavesFields showLit fits keyOf isLow isDigit nameSign goodName modeOf)
open Vacolb (Val)
open My (iz bB bC i_ jV jW ml jX gh cI dj dP yO)
section
inductive Lh (K)(c)(vs)(H)(Q:VK)(E:XK):Prop|mk (vf) (i) (k) (F) (M):vs=[vf]->((∀ch fs,k= .group ch fs->fs≠.nil))->Rep K F vf (FD c i k)->af K H F M->Q (.bl (dM k).isSome) H->Lh K c vs H Q E
theorem VO (T:Tx K mg c):Fn P w K mg base "has_key" (2) ["field"] (Lh K c):=by
 refine T.fo 150 ["field","key"] λH I nd L h=>?_;obtain⟨J,i,k,F,M,rfl,u,rf,g,q⟩:=h;refine⟨_,(ah (aL (aP je (ay (pv 0) rfl) (aD T.cst.rT)) (ak (aC kN)) aS) (ah (aN 1 (d8 dS (ay (pv 0) rfl) aY)) (ak (aC (uy (jg cy (ay (pv 1) rfl) (aD T.cst.rV)) (rB (bJ (yI T) T.Field.1 (pv 1)))))))),?_⟩;refine(iX g rf ⟨rfl,?_⟩);cases k with
 |leaf l=>
  cases l with
  |bit=>exact q
  |int m=>exact q
  |text m=>exact q
 |group ch fs=>
  cases ch with
  |true=>exact q
  |false=>
   cases fs with
   |nil=>exact absurd rfl (u _ _ rfl)
   |cons hd k r=>
    refine(pW g rf λG rk=>ft (j:=0) g rk (d:=FD c (i.bE false hd i.a) k) (by show(bS c i false i.a (.cons hd k r))[0]? =_;rw[bS];rfl) λy o=>?_);refine(pU g o ⟨rfl,_,rfl,?_⟩);rw[show(i.bE false hd i.a).m=hd.mode from rfl,Dc];refine bG (λb=>?_) λb=>?_
    ·have b:hd.mode= .one:=by simpa using b
     refine(yE g o λa dx fs e=>?_);refine⟨_,_,k,F,M,rfl,o,g,?_⟩;cases k with
     |leaf l=>
      rw[dM,if_pos b]at q;exact q
     |group C z=>
      exact q
    ·have b:hd.mode≠.one:=by simpa using b
     have:dM (.group false (.cons hd k r))=none:=by
      cases k with
      |leaf l=>rw[dM,if_neg b]
      |group C z=>unfold dM;rfl
     rw[this]at q;exact q
def p8 (ch:Bool)(m:jQ)(k:Kd)(r:aq):Option (Lit×aq):=match ch,m,k with
 |false,.one,.leaf l=>dP l r
 |_,_,_=>none
inductive Dt (K)(c)(vs)(H)(Q:VK)(E:XK):Prop|mk (R:dz) (u:aq) (g:FA) (i) (ch) (a e) (vf) (j) (k) (F) (M):vs=[.ref R.r,.ref g.f,vf]->((∀l,k= .leaf l->iz l))->Rep K F vf (FD c j k)->af K H F (R.cell c.Reader u::g.cell c i (ik ch) 0 a e::M)->R.Ok F u->((p8 ch j.m k u=none->∀H' F',Le F F'->af K H' F' (g.cell c i (ik ch) 0 a e::M)->E (.ref c.fh) none H'))->((∀x u',p8 ch j.m k u=some (x,u')->∀H' F',Le F F'->af K H' F' (R.cell c.Reader u'::g.cell c i (ik ch) 0 a e::M)->R.Ok F' u'->Q .aB H'))->Dt K c vs H Q E
set_option tactic.hygienic true in
theorem VP (T:Tx K mg c):Fn P w K mg base "read_default" (8) ["reader","group","field"] (Dt K c):=by
 refine T.fo 151 ["reader","group","field"] λH vs nd hr h=>?_;obtain⟨R,u,g,i,ch,a,e,vf,j,k,F,M,rfl,az,rf,b,O,y,J⟩:=h;refine⟨_,(ah (aL (PW.pt (jD (aP cy (ay (pv 1) rfl) (aD T.cst.ow)) (jD (aP je (ay (pv 2) rfl) (aD T.cst.rV)) (kP (lE (c_ (bJ (yI T) T.Field.1 (pv 2)))))))) (ak (cO T.eG)) aS) (ak (ba (pf (C4 T) (ae (pv 0) (ae (pv 2) ag)))))),?_⟩;refine(rM b.sw rfl ⟨rfl,?_⟩);cases ch with
 |true=>exact((y rfl _ _ (Le.refl F) b.drop))
 |false=>
  refine(pU b rf ⟨rfl,?_⟩);have C:(!decide (V.int ((jt j.m:Nat):Int)=V.int 33))= !decide (j.m= .one):=by rw[Dc]
  have C:∀A B:Prop,(if(!decide (j.m= .one))=true then A else B)->(if(!decide (V.int ((jt j.m:Nat):Int)=V.int 33))=true then A else B):=λA B h=>by
   rw[C];exact h
  refine C _ _ ?_;by_cases o:j.m= .one
  ·rw[decide_eq_true o];refine(yE b rf λa dx fs e=>?_);refine⟨_,_,k,F,_,rfl,rf,b,?_⟩;cases k with
   |leaf l=>
    refine⟨R,u,l,_,F,_,rfl,yF (az l rfl) rf,b,O,λz=>y (by rw[o];exact z),λx G z X Y v I U L r=>J x G (by rw[o];exact z) X Y I U L⟩
   |group ch2 fs2=>
    refine(y ?_ _ _ (Le.refl F) b.drop);rw[o];rfl
  ·rw[decide_eq_false o];refine((y ?_ _ _ (Le.refl F) b.drop));unfold p8;split
   ·rename_i W;exact absurd W o
   ·rfl
inductive Li (K)(c)(vs:List V)(H)(Q:VK)(E:XK):Prop|mk (R:dz) (u:aq) (x:FA) (i) (a e) (F) (M):vs=[.ref R.r,.ref x.f]->af K H F (R.cell c.Reader u::x.cell c i 3 0 a e::M)->R.Ok F u->((yO u=none->∀H' F',Le F F'->af K H' F' M->E (.ref c.fh) none H'))->((∀l u',yO u=some (l,u')->∀H' F',Le F F'->af K H' F' (R.cell c.Reader u'::x.cell c i (sf l) (sg l) a e::M)->R.Ok F' u'->Q .aB H'))->Li K c vs H Q E
theorem VQ (T:Tx K mg c):Fn P w K mg base "read_leaf_kind" (4) ["reader","field"] (Li K c):=by
 refine T.fo 142 ["reader","field"] λH vs nd hr h=>?_;obtain⟨R,u,x,i,a,e,F,M,rfl,o,O,b,g⟩:=h;refine⟨_,(ak (aL (c_ (pm (jK T) T.Reader.1 (pv 0) (ae (aD T.cst.Ta) ag))) (ak (bI (pv 1) (aD T.cst.Cv) rfl)) (ak (aL (c_ (pm (jK T) T.Reader.1 (pv 0) (ae (aD T.cst.Tc) ag))) (ah (bI (pv 1) (aD T.cst.Cw) rfl) (ah (bI (pv 1) (pf (vg T) (ae (pv 0) (ae (aD T.cst.TC) ag))) rfl) (ak (aL (aP jf (ay (pv 1) rfl) (aD T.cst.TB)) (ak (cO T.eG)) aS)))) (ak (aL (c_ (pm (jK T) T.Reader.1 (pv 0) (ae (aD T.cst.Td) ag))) (ah (bI (pv 1) (aD T.cst.SU) rfl) (ak (bI (pv 1) (pf (vg T) (ae (pv 0) (ae (aD T.cst.TF) ag))) rfl))) (ak (cO T.eG)))))))),?_⟩;unfold yO at b g;refine⟨R.r,R.dx,_,rfl,o.at,rfl,R,u,98,F,_,rfl,o,O,λhn=>?_,λy C H1 h1 z=>?_⟩
 ·rw[My.gg.mpr hn]at b g;refine⟨R.r,R.dx,_,rfl,o.at,rfl,R,u,105,F,_,rfl,o,O,λhn2=>?_,λy C H1 h1 z=>?_⟩
  ·rw[My.gg.mpr hn2]at b g;refine⟨R.r,R.dx,_,rfl,o.at,rfl,R,u,116,F,_,rfl,o,O,λY=>?_,λy C H1 h1 z=>?_⟩
   ·rw[My.gg.mpr Y]at b g;exact((b rfl _ _ (Le.refl F) o.drop.drop))
   ·subst C;rw[My.hU]at b g;refine(wM h1.sw rfl (by show 11<1000;decide) λX h2=>?_);refine⟨R,y,999,F,_,rfl,by decide,h2.sw,z,λk W G j h3=>b (by dsimp only;rw[k];rfl) _ _ j h3.drop,λn I k W G v j h3 L r3=>?_⟩;have:=r3.val;subst this;refine(wM h3.sw rfl (by show 11<1000;decide) λU h4=>?_);exact g (.text n) I (by dsimp only;rw[k];rfl) U G j h4.sw L
  ·subst C;rw[My.hU]at b g;refine(wM h1.sw rfl (by show 11<1000;decide) λX h2=>?_);refine⟨R,y,64,F,_,rfl,by decide,h2.sw,z,λk W G j h3=>b (by dsimp only;rw[k]) _ _ j h3.drop,λn I k W G v j h3 L r3=>?_⟩;have:=r3.val;subst this;refine(wM h3.sw rfl (by show 11<1000;decide) λU h4=>?_);refine(rM h4 rfl ⟨_,_,rfl,rfl,?_⟩);refine bG (λq=>?_) λq=>?_
   ·have J:n<2:=by
     simp at q
     lia
    exact b (by dsimp only;rw[k];dsimp only;rw[if_pos J]) _ _ j h4.drop.drop
   ·have J:¬n<2:=by
     simp at q
     lia
    exact g (.int n) I (by dsimp only;rw[k];dsimp only;rw[if_neg J]) U G j h4.sw L
 ·subst C;exact(wM h1.sw rfl (by show 11<1000;decide) λX h2=>g .bit y rfl X F (Le.refl F) h2.sw z)
end
open My (hW eP mX t8 fI jd)
section
section
variable {H F:Hp}{M:List (ai×HO)}{x y z w1 v u1:ai×HO}
theorem af.Du (h:af K H F (x::y::z::w1::v::M)):af K H F (v::x::y::z::w1::M):=h.perm (jT (l₁:=[x,y,z,w1]))
theorem af.Lj (h:af K H F (x::y::z::w1::v::u1::M)):af K H F (u1::x::y::z::w1::v::M):=h.perm (jT (l₁:=[x,y,z,w1,v]))
end
abbrev qK (i:FI)(u:aq):Option (Kd×aq):=hW (λch r=>eP (i.path.length+1) ch [] i.a r) i.path.length i.a u
structure sx (i:FI)(n:Nat):Prop where
 a:i.a<=40
 n:6<=i.path.length+n
 p:i.path.length<=6
 l:i.lv.length<=i.path.length
inductive vC (K)(c)(n)(vs:List V)(H)(Q:VK)(E:XK):Prop|mk (R:dz) (u:aq) (x:FA) (i) (ca) (xs) (F) (M):vs=[.ref R.r,.ref x.f,.ref ca]->x.Ok K F i->xs.length=i.a->sx i n->af K H F (R.cell c.Reader u::x.cell c i 3 0 0 0::(x.la,.lst [])::(ca,.lst xs)::M)->R.Ok F u->((qK i u=none->∀H' F',Le F F'->af K H' F' M->E (.ref c.fh) none H'))->((∀k u',qK i u=some (k,u')->∀H' F' ys,Le F F'->af K H' F' (R.cell c.Reader u'::(ca,.lst (xs++ys))::M)->R.Ok F' u'->Rep K F' (.ref x.f) (FD c i k)->aU K F' ys (LD c i k)->Q .aB H'))->vC K c n vs H Q E
inductive yP (K)(c)(n)(vs:List V)(H)(Q:VK)(E:XK):Prop|mk (R:dz) (u:aq) (g:FA) (i) (ch) (ca) (xs) (F) (M):vs=[.ref R.r,.ref g.f,.ref ca]->g.Ok K F i->xs.length=i.a->sx i n->af K H F (R.cell c.Reader u::g.cell c i (ik ch) 0 i.a 0::(g.la,.lst [])::(ca,.lst xs)::M)->R.Ok F u->(((6<=i.path.length\/eP (i.path.length+1) ch [] i.a u=none)->∀H' F',Le F F'->af K H' F' M->E (.ref c.fh) none H'))->((¬6<=i.path.length->∀fs u',eP (i.path.length+1) ch [] i.a u=some (fs,u')->∀H' F' ks ys,Le F F'->af K H' F' (R.cell c.Reader u'::g.cell c i (ik ch) 0 i.a 0::(g.la,.lst ks)::(ca,.lst (xs++ys))::M)->R.Ok F' u'->aU K F' ks (bS c i ch i.a fs)->aU K F' ys (gD c i ch i.a fs)->Q .aB H'))->yP K c n vs H Q E
theorem af.VR {x:FA}(h:af K H F (x.cell c i (lR k) (si k) i.a (i.a+au k)::(x.la,.lst ks)::M))(o:x.Ok K F i)(r:aU K F ks (vm c i k)):pQ K H F M (.ref x.f) (FD c i k):=by
 obtain⟨u,b,h1,r1⟩:=h.sw.bM r;obtain⟨j,g,h2,r2⟩:=h1.lL (.cons (o.n.mono b) (.cons (.v _) (.cons (o.p.mono b) (.cons (.v _) (.cons (.v _) (.cons (.v _) (.cons (.v _) (.cons r1 (.cons (.v _) (.cons (.v _) (.cons (o.l.mono b) .nil)))))))))));refine⟨j,b.trans g,h2,?_⟩;rw[Kh];exact r2
abbrev Lk (K:aW)(j:Nat):TE:=IU (uK K) (dr (bg j) dJ)
theorem Ll (T:Tx K mg c)(g_read_fields:Fn P w K mg base "read_fields" (3*n+11) ["reader","group","columns"] (yP K c n)):Fn P w K mg base "read_kind" (3*n+12) ["reader","field","columns"] (vC K c n):=by
 refine T.fO 141 ["reader","field","columns"] λf bu A outer s H vs Q E nd hr h=>?_;obtain⟨R,u,x,i,ca,J,F,M,rfl,xo,Y,hi,hH,ho,X,k2⟩:=h;refine⟨_,(ah (bI (pv 1) (cM cE (by rfl) T.cst.len cT (ae (pv 2) ag)) rfl) (ah (aL (c_ (pm (jK T) T.Reader.1 (pv 0) (ae (aD T.cst.yo) ag))) (ah (bI (pv 1) (aD T.cst.rT) rfl) (ah (ba (pf g_read_fields (ae (pv 0) (ae (pv 1) (ae (pv 2) ag))))) (ak (ba (pm (oH T) T.Reader.1 (pv 0) (ae (aD T.cst.CG) ag)))))) (ak (aL (c_ (pm (jK T) T.Reader.1 (pv 0) (ae (aD T.cst.CC) ag))) (ah (bI (pv 1) (aD T.cst.ow) rfl) (ah (ba (pf g_read_fields (ae (pv 0) (ae (pv 1) (ae (pv 2) ag))))) (ak (ba (pm (oH T) T.Reader.1 (pv 0) (ae (aD T.cst.CD) ag)))))) (ah (ba (pf (VQ T) (ae (pv 0) (ae (pv 1) ag)))) (ak (ba (pf (VD T) (ae (pv 2) (ae (pv 1) ag))))))))) (ak (bI (pv 1) (cM cE (by rfl) T.cst.len cT (ae (pv 2) ag)) rfl)))),?_⟩;refine⟨ca,_,rfl,.inl (ax.of hH.mG.at),?_⟩;rw[Y];refine(wM hH.sw rfl (by show 11<1000;decide) λH1 h1=>?_);have h1:af K H1 F (x.cell c i 3 0 i.a 0::R.cell c.Reader u::(x.la,.lst [])::(ca,.lst J)::M):=h1
 have fin:∀(k:Kd) (L:aq) (G I:Hp) (O y:List V),qK i u=some (k,L)->Le F I->af K G I (R.cell c.Reader L::x.cell c i (lR k) (si k) i.a 0::(x.la,.lst O)::(ca,.lst (J++y))::M)->R.Ok I L->aU K I O (vm c i k)->y.length=au k->(∀F2,Le I F2->Rep K F2 (.ref x.f) (FD c i k)->aU K F2 y (LD c i k))->
  uH K (bg 1) (Lk K 2) "end_column" {nx:=λx G=>Q .aB G,rt:=Q} [some (.ref R.r),some (.ref x.f),some (.ref ca)] G:=by
  intro k L G I O y e l' h' ho' rk hyl hy;refine⟨ca,_,rfl,.inl (ax.of h'.mG.at),?_⟩;rw[aQ,Y,hyl];refine(wM h'.sw rfl (by show 11<1000;decide) λz h2=>?_);have h2:af K z I (x.cell c i (lR k) (si k) i.a (i.a+au k)::R.cell c.Reader L::(x.la,.lst O)::(ca,.lst (J++y))::M):=h2;obtain⟨g,b,h3,r3⟩:=h2.in1.VR (xo.mono l') rk;exact k2 k L e z g y (l'.trans b) h3 (ho'.mono b) r3 (hy g b r3)
 have grp:∀(ch:Bool) (j:aq) (z:Hp) (Dn:Ends),Dn.nx=uH K (bg 1) (Lk K 2) "end_column" {nx:=λx G=>Q .aB G,rt:=Q}->af K z F (R.cell c.Reader j::x.cell c i (ik ch) 0 i.a 0::(x.la,.lst [])::(ca,.lst J)::M)->R.Ok F j->
  qK i u=(if 6<=i.path.length then none else(eP (i.path.length+1) ch [] i.a j).bind λx=>(cI (if ch then 62 else 125) x.2).map λs=>(Vacola.Kind.group ch x.1,s))->
  kQ (mw (mB (yP K c n) [] E (dr (bg 0) (dr (bg 1) (dr (bg 2) dJ))))) (mw (rH c.Reader "expect" (yt K c.Reader c.fh) [] E (bg 0) (dr (tC (.int ((if ch then 62 else 125:Nat):Int))) dJ))) Dn [some (.ref R.r),some (.ref x.f),some (.ref ca)] z:=by
  intro ch j z Dn hDn h2 W eq;refine⟨R,j,x,i,ch,ca,J,F,M,rfl,xo,Y,hi,h2,W,λo C g b h3=>?_,λh6 fs U e2 C g O y b h3 ho3 rk ry=>?_⟩
  ·refine X ?_ _ _ b h3;rw[eq];rcases o with o|o
   ·rw[if_pos o]
   ·split
    ·rfl
    ·rw[o];rfl
  ·rw[if_neg h6,e2]at eq;refine⟨R.r,R.dx,_,rfl,h3.at,rfl,R,U,_,g,_,rfl,h3,ho3,λo=>?_,λu3 e3 H4 h4 ho4=>?_⟩
   ·refine X ?_ _ _ b h3.drop.drop.drop.drop;rw[eq];show(cI _ U).map _=none;rw[My.gg.mpr o];rfl
   ·show Dn.nx _ _;rw[hDn];refine fin (.group ch fs) u3 H4 g O y ?_ b h4 ho4 rk ?_ λF5 l5 r5=>?_
    ·rw[eq];show(cI _ U).map _=_;rw[e3,My.hU];rfl
    ·rw[ry.len,yN,au]
    ·rw[LD];exact ry.mono l5
 refine⟨R.r,R.dx,_,rfl,h1.dv,rfl,R,u,123,F,_,rfl,h1.sw,ho,λo=>?_,λj e1 z h2 W=>?_⟩
 ·refine(?_);refine⟨R.r,R.dx,_,rfl,h1.dv,rfl,R,u,60,F,_,rfl,h1.sw,ho,λhn2=>?_,λj e1 z h2 W=>?_⟩
  ·have eq:qK i u=(ml i.a u).map λx=>(Vacola.Kind.leaf x.1,x.2):=by
    unfold qK hW;rw[My.gg.mpr o,My.gg.mpr hn2]
   rw[My.VN]at eq;refine⟨R,u,x,i,i.a,0,F,_,rfl,h1.sw,ho,λe0 C g b h3=>?_,λl U e0 C g b h3 ho3=>?_⟩
   ·refine X ?_ _ _ b h3.drop.drop;rw[eq,e0];rfl
   ·rw[e0]at eq;refine⟨ca,.ref x.f,J,g,_,rfl,by rw[Y];exact hi.a,h3.mG,λh40=>?_,λh40 H4 h4=>?_⟩
    ·refine X ?_ _ _ b h3.drop.drop.drop.drop;rw[eq];show fb _ (if i.a=40 then none else _)=_;rw[if_pos (by lia)];rfl
    ·refine fin (.leaf l) U H4 g [] [.ref x.f] ?_ b (h4.perm (jT (l₁:=[_,_,_])).symm) ho3 .nil (by rw[au];rfl) λF5 l5 r5=>?_
     ·rw[eq];show fb _ (if i.a=40 then none else _)=_;rw[if_neg (by lia)];rfl
     ·rw[LD];exact .cons r5 .nil
  ·subst e1;refine(wM h2.sw rfl (by show 11<1000;decide) λC h3=>?_);refine grp true j C _ rfl h3.sw W ?_;rfl
 ·subst e1;refine(wM h2.sw rfl (by show 11<1000;decide) λC h3=>?_);refine grp false j C _ rfl h3.sw W ?_;rfl
end
section
theorem VS (l)(h)(k:Kd):iG (jd l h k)=iG l++[h]:=by
 unfold iG;rw[My.BA,dA];rfl
theorem Lm (i)(ch):∀(l) (a) (r),bS c i ch a (fI l r)=bS c i ch a l++bS c i ch (a+aG l) r
 | .nil=>λa r=>by
  rfl
 | .cons h k l=>λa r=>by
  rw[fI,bS,bS,aG,Lm i ch l,ir,vZ]
theorem Ln (i)(ch):∀(l) (a) (r),gD c i ch a (fI l r)=gD c i ch a l++gD c i ch (a+aG l) r
 | .nil=>λa r=>by
  rfl
 | .cons h k l=>λa r=>by
  rw[fI,gD,gD,aG,Ln i ch l,c9,vZ]
theorem Lo (i)(ch)(l)(a)(h)(k:Kd):bS c i ch a (jd l h k)=bS c i ch a l++[FD c (i.bE ch h (a+aG l)) k]:=by
 unfold jd;rw[Lm,bS,bS]
theorem Lp (i)(ch)(l)(a)(h)(k:Kd):gD c i ch a (jd l h k)=gD c i ch a l++LD c (i.bE ch h (a+aG l)) k:=by
 unfold jd;rw[Ln,gD,gD,eZ]
theorem sx.bE {n}{a}(o:sx i (n+1))(h5:i.path.length<=5)(b:a<=40):sx (i.bE ch h a) n:=by
 obtain⟨_,k,j,g⟩:=o;refine⟨b,?_,?_,?_⟩
 ·show 6<=(i.path++[h.number]).length+n
  grind
 ·show(i.path++[h.number]).length<=6;simp_all
 ·show(if aw h.mode=1 then i.lv++[i.d+defOf ch h.mode]else i.lv).length<=(i.path++[h.number]).length
  grind
theorem VT:decide (V.int ((jt m):Int)=V.int 37)=decide (m= .keyed):=by
 cases m<;>rfl
inductive yQ (K)(c)(n)(vs:List V)(H)(Q:VK)(E:XK):Prop|mk (R:dz) (u:aq) (g:FA) (i) (ch) (dn) (ca) (ks xs) (F) (M):vs=[.ref R.r,.ref g.f,.ref ca]->g.Ok K F i->sx i (n+1)->i.path.length<=5->aU K F ks (bS c i ch i.a dn)->ks.length<=20000->xs.length=i.a+aG dn->xs.length<=40->af K H F (R.cell c.Reader u::g.cell c i (ik ch) 0 i.a 0::(g.la,.lst ks)::(ca,.lst xs)::M)->R.Ok F u->((mX (i.path.length+1) ch (iG dn).reverse xs.length u=none->∀H' F',Le F F'->af K H' F' M->E (.ref c.fh) none H'))->((∀h k u',mX (i.path.length+1) ch (iG dn).reverse xs.length u=some (h,k,u')->∀H' F' v ys,Le F F'->af K H' F' (R.cell c.Reader u'::g.cell c i (ik ch) 0 i.a 0::(g.la,.lst (ks++[v]))::(ca,.lst (xs++ys))::M)->R.Ok F' u'->Rep K F' v (FD c (i.bE ch h xs.length) k)->aU K F' ys (LD c (i.bE ch h xs.length) k)->Q .aB H'))->yQ K c n vs H Q E
theorem VU (T:Tx K mg c)(g_read_kind:Fn P w K mg base "read_kind" (3*n+12) ["reader","field","columns"] (vC K c m)):Fn P w K mg base "read_next_field" (3*n+13) ["reader","group","columns"] (yQ K c m):=by
 refine T.fO 145 ["reader","group","columns","number","name","mode","field"] λf bu A outer s H vs Q E nd hr h=>?_;obtain⟨R,u,g,i,ch,dn,ca,X,k,F,M,rfl,og,oi,h5,rks,hkl,hxs,hx40,hH,ho,j,o⟩:=h;refine⟨_,(ah (aN 3 (pf (vg T) (ae (pv 0) (ae (aD T.cst.Tu) ag)))) (ah (aN 4 (pf (VF T) (ae (pv 0) ag))) (ah (ba (pf (VJ T) (ae (ay (pv 1) rfl) (ae (pv 3) (ae (pv 4) ag))))) (ah (aN 5 (pf (VM T) (ae (pv 0) (ae (pv 1) ag)))) (ah (aN 6 (pf (Vz T) (ae (pv 1) (ae (pv 3) (ae (pv 4) (ae (pv 5) ag)))))) (ah (ba (pf g_read_kind (ae (pv 0) (ae (pv 6) (ae (pv 2) ag))))) (ah (aL (PW.pt (xP (aP cy (pv 5) (aD T.cst.uU)) (xO (lE (c_ (pf (VO T) (ae (pv 6) ag))))))) (ak (cO T.eG)) aS) (ah (aL (c_ (pm (jK T) T.Reader.1 (pv 0) (ae (aD T.cst.S_) ag))) (ak (ba (pf (VP T) (ae (pv 0) (ae (pv 1) (ae (pv 6) ag)))))) aS) (ak (ba (d9 eU gv gw f6 (ay (pv 1) rfl) (ae (pv 6) ag)))))))))))),?_⟩;unfold mX at j o;refine⟨R,u,999,F,_,rfl,by decide,hH,ho,λe1 H1 F1 l1 h1=>j (by rw[e1]) _ _ l1 h1.drop.drop.drop,λnum u1 e1 H1 F1 v1 l1 h1 ho1 r1=>?_⟩;have:=r1.val;subst this;rw[e1]at j o;dsimp only at j o;refine⟨R,u1,F1,_,rfl,h1,ho1,λe2 H2 F2 l2 h2=>j (by rw[e2]) _ _ (l1.trans l2) h2.drop.drop.drop,λname u2 e2 H2 F2 vn l2 h2 ho2 rn=>?_⟩;rw[e2]at j o;dsimp only at j o;rw[My.QJ]at j o;have l02:=l1.trans l2;refine(rM h2.sw rfl ⟨g.la,num,vn,name,i,ch,i.a,dn,X,F2,_,rfl,rn,rks.mono l02,h2.ig,λhb=>?_,λhb=>?_⟩)
 ·exact j (by rw[if_pos hb]) _ _ l02 h2.drop.drop.drop.drop
 rw[if_neg (by rw[hb];exact dX)]at j o;refine⟨R,u2,g,i,ch,i.a,0,F2,_,rfl,h2,ho2,λe3 H3 F3 l3 h3=>j (by rw[e3]) _ _ (l02.trans l3) h3.drop.drop.drop,λmode U e3 H3 F3 v3 l3 h3 ho3 r3=>?_⟩;have:=r3.val;subst this;rw[e3]at j o;dsimp only at j o;have l03:=l02.trans l3;refine⟨g,i,ch,i.a,0,num,vn,⟨num,name,mode,none⟩,F3,_,rfl,og.mono l03,by lia,by have:=oi.l;lia,rn.mono l3,h3.sw,λx H4 F4 b l4 W h4=>?_⟩;have l04:=l03.trans l4;have W:x.Ok K F4 (i.bE ch ⟨num,name,mode,none⟩ k.length):=⟨W.n,W.p,W.l⟩;have h4:af K H4 F4 (x.cell c (i.bE ch ⟨num,name,mode,none⟩ k.length) 3 0 0 0::(x.la,.lst [])::g.cell c i (ik ch) 0 i.a 0::R.cell c.Reader U::(g.la,.lst X)::(ca,.lst k)::M):=h4;have h5':af K H4 F4 (R.cell c.Reader U::x.cell c (i.bE ch ⟨num,name,mode,none⟩ k.length) 3 0 0 0::(x.la,.lst [])::(ca,.lst k)::g.cell c i (ik ch) 0 i.a 0::(g.la,.lst X)::M):=h4.Du.mG.Lj.Du.Du.Lj
 have eqk:qK (i.bE ch ⟨num,name,mode,none⟩ k.length) U=hW (λc r=>eP (i.path.length+1+1) c [] k.length r) (i.path.length+1) k.length U:=by
  have:(i.bE ch ⟨num,name,mode,none⟩ k.length).path.length=i.path.length+1:=by
   show(i.path++[num]).length=_;rw[aQ];rfl
  unfold qK;rw[this];rfl
 refine⟨R,U,x,i.bE ch ⟨num,name,mode,none⟩ k.length,ca,k,F4,_,rfl,W,rfl,oi.bE h5 hx40,h5',ho3.mono l4,λO H6 J l6 h6=>?_,λkind u4 O H6 J ys l6 h6 ho6 rf ry=>?_⟩
 ·rw[eqk]at O;exact j (by rw[O]) _ _ (l04.trans l6) h6.drop.drop
 rw[eqk]at O;obtain⟨okl,okn,oklv⟩:=My.Hr O hx40;rw[O]at j o;dsimp only at j o;have l06:=l04.trans l6;have ekid:∀dflt,FD c (i.bE ch ⟨num,name,mode,none⟩ k.length) kind=FD c (i.bE ch ⟨num,name,mode,dflt⟩ k.length) kind:=λdflt=>rfl
 have fin:∀(dflt:Option Lit) (C:aq) (H7 F7:Hp),jX ch mode kind u4=some (dflt,C)->¬(mode= .keyed/\(dM kind).isNone=true)->Le J F7->af K H7 F7 (R.cell c.Reader C::g.cell c i (ik ch) 0 i.a 0::(g.la,.lst X)::(ca,.lst (k++ys))::M)->R.Ok F7 C->∀L:Ends,(L.nx=λ_ H'=>Q .aB H')->
  mw (pM K "list" mC (gS K (bg 1) "fields") (dr (bg 6) dJ)) L [some (.ref R.r),some (.ref g.f),some (.ref ca),some (.int (num:Int)),some vn,some (.int ((jt mode:Nat):Int)),some (.ref x.f)] H7:=by
  intro dflt C H7 F7 e5 G l7 h7 ho7 L hDn;refine(rM h7.sw rfl ⟨⟨rfl,_,ax.of h7.at2⟩,g.la,_,_,rfl,rfl,h7.at2,(by rw[bq];lia),?_⟩);rw[hDn];have Y:=h7.ig.eh (ys:=X++[.ref x.f]);exact o ⟨num,name,mode,dflt⟩ kind C (by rw[if_neg G,e5]) _ F7 (.ref x.f) ys (l06.trans l7) (Y.perm (jT (l₁:=[_,_])).symm) ho7 (rf.mono l7) (ry.mono l7)
 have rest:¬(mode= .keyed/\(dM kind).isNone=true)->∀L:Ends,(L.nx=λ_ H'=>Q .aB H')->
  kQ (m8 (tB (rH c.Reader "take" (uW K c.Reader) [] E (bg 0) (dr (tC (.int 61)) dJ))) (mw (mB (Dt K c) [] E (dr (bg 0) (dr (bg 1) (dr (bg 6) dJ))))) n4) (mw (pM K "list" mC (gS K (bg 1) "fields") (dr (bg 6) dJ))) L [some (.ref R.r),some (.ref g.f),some (.ref ca),some (.int (num:Int)),some vn,some (.int ((jt mode:Nat):Int)),some (.ref x.f)] H6:=by
  intro G L hDn;have h6':=h6.mG.mG.ig;refine⟨R.r,R.dx,_,rfl,h6'.at,rfl,R,u4,61,J,_,rfl,h6',ho6,λhn=>?_,λC e5 H7 h7 ho7=>?_⟩
  ·exact((fin none u4 H6 J (by unfold jX;rw[My.gg.mpr hn]) G (Le.refl J) h6' ho6 _ hDn))
  ·subst e5
   have ed:jX ch mode kind (61::C)=(p8 ch mode kind C).map λx=>(some x.1,x.2):=by
    unfold jX p8;rw[My.hU];dsimp only;cases ch<;>cases mode<;>cases kind<;>rfl
   refine⟨R,C,g,i,ch,i.a,0,.ref x.f,i.bE ch ⟨num,name,mode,none⟩ k.length,kind,J,_,rfl,okl,rf,h7,ho7,λI H8 F8 l8 Y=>?_,λlt u6 I H8 F8 l8 Y ho8=>?_⟩
   ·have I:p8 ch mode kind C=none:=I;refine j ?_ _ _ (l06.trans l8) Y.drop.drop.drop;rw[if_neg G,ed,I];rfl
   ·have I:p8 ch mode kind C=some (lt,u6):=I;exact fin (some lt) u6 H8 F8 (by rw[ed,I];rfl) G l8 Y ho8 _ hDn
 refine⟨rfl,?_⟩
 have e7:∀A B:Prop,(if decide (mode= .keyed)=true then A else B)->(if decide (V.int ((jt mode:Nat):Int)=V.int 37)=true then A else B):=λA B h=>by
  rw[VT];exact h
 refine e7 _ _ ?_;by_cases hm:mode= .keyed
 ·rw[decide_eq_true hm];refine⟨.ref x.f,_,kind,J,_,rfl,okn,rf,h6,?_⟩;cases G:dM kind with
  |none=>exact(j (by rw[if_pos ⟨hm,by rw[G];rfl⟩]) _ _ l06 h6.drop.drop.drop.drop)
  |some y=>exact(rest (λz=>by rw[G]at z;cases z.2) _ rfl)
 ·rw[decide_eq_false hm];exact((rest (λz=>hm z.1) _ rfl))
end
open Vacola (readSchema)
section
inductive Lq (R:dz)(u)(g:FA)(i)(ch)(ca)(xs)(F)(M)(mm)(σ:L2.St)(H'):Prop|mk (dn) (u1) (ks ys) (F'):mm=u1.length->u1.length+dn.list.length<=20000->eP (i.path.length+1) ch [] i.a u=(t8 (i.path.length+1) ch (iG dn).reverse (i.a+aG dn) u1).map (λx=>(fI dn x.1,x.2))->Le F F'->R.Ok F' u1->aU K F' ks (bS c i ch i.a dn)->aU K F' ys (gD c i ch i.a dn)->i.a+aG dn<=40->af K H' F' (R.cell c.Reader u1::g.cell c i (ik ch) 0 i.a 0::(g.la,.lst ks)::(ca,.lst (xs++ys))::M)->σ=[some (.ref R.r),some (.ref g.f),some (.ref ca)]->Lq R u g i ch ca xs F M mm σ H'
theorem Lr {spx:Sp}(hN:N=0\/(N=m+1/\spx=yQ K c m))(T:Tx K mg c)(g_read_next_field:Fn P w K mg base "read_next_field" (3*n+10) ["reader","group","columns"] (spx)):Fn P w K mg base "read_fields" (3*n+11) ["reader","group","columns"] (yP K c N):=by
 refine T.fo 144 ["reader","group","columns"] λH vs nd hr h=>?_;obtain⟨R,u,g,i,ch,ca,G,F,M,rfl,og,hxs,I,Y,ho,k1,k2⟩:=h;refine⟨_,(ah (aL (aP iW (de lG (cM cE (by rfl) T.cst.len cT (ae (ay (pv 1) rfl) ag)) aY) (aD T.cst.Tw)) (ak (cO T.eG)) aS) (ah (ba (pf g_read_next_field (ae (pv 0) (ae (pv 1) (ae (pv 2) ag))))) (ak (mx d_ (c_ (pm (jK T) T.Reader.1 (pv 0) (ae (aD T.cst.CB) ag))) (ak (ba (pf g_read_next_field (ae (pv 0) (ae (pv 1) (ae (pv 2) ag)))))))))),?_⟩;obtain⟨pa,ep,hpa⟩:=og.p.nats;refine(rM Y.sw rfl ⟨pa,_,by rw[ep],.inl (ax.of (Y.le _ _ hpa)),_,_,rfl,rfl,_,_,rfl,rfl,?_⟩);rw[gB];refine bG (λq=>?_) λq=>?_
 ·have q':6<=i.path.length:=by
   simp at q
   lia
  exact k1 (.inl q') _ _ (Le.refl F) Y.drop.drop.drop.drop
 ·have q':¬6<=i.path.length:=by
   simp at q
   lia
  have on:=I.n;rcases hN with rfl|⟨rfl,rfl⟩
  ·lia
  have k2:=k2 q'
  have step:∀(b:aJ) (o:aq),eP (i.path.length+1) ch [] i.a u=(eP (i.path.length+1) ch (iG b).reverse (i.a+aG b) o).map (λx=>(fI b x.1,x.2))->
   (mX (i.path.length+1) ch (iG b).reverse (i.a+aG b) o=none->eP (i.path.length+1) ch [] i.a u=none)/\
   (∀h k C,mX (i.path.length+1) ch (iG b).reverse (i.a+aG b) o=some (h,k,C)->eP (i.path.length+1) ch [] i.a u=(t8 (i.path.length+1) ch (iG (jd b h k)).reverse (i.a+aG (jd b h k)) C).map (λx=>(fI (jd b h k) x.1,x.2))):=by
   intro b o e;rw[My.PD _ _ (iG b).reverse]at e;refine⟨λj=>?_,λh k C j=>?_⟩
   ·rw[e,j];rfl
   ·rw[e,j];dsimp only;rw[VS,List.reverse_append,My.Bz,vZ];rw[NJ];congr 1;funext x;show(fI b (.cons h k x.1),x.2)=_;rw[My.Hm]
  have s0:=step .nil u (by
   show _=(eP _ _ [] (i.a+aG .nil) u).map _;rw[aG,XZ];cases eP (i.path.length+1) ch [] i.a u with
   |none=>rfl
   |some x=>rfl)
  have O:i.a+aG .nil=G.length:=by rw[aG,hxs];lia
  rw[O]at s0;refine⟨R,u,g,i,ch,.nil,ca,[],G,F,M,rfl,og,I,by lia,by rw[bS];exact .nil,by simp,O.symm,by have:=I.a;lia,Y,ho,λj H1 F1 J h1=>k1 (.inr (s0.1 j)) _ _ J h1,λh k C j H1 F1 v y J h1 ho1 rv ry=>?_⟩;have s1:=s0.2 h k C j;have q1:=My.Hs j (by have:=I.a;lia);have hut:=ho.drop.2;have htl:=ho.len
  refine⟨Lq R u g i ch ca G F M,
   ⟨_,jd .nil h k,C,[v],y,F1,rfl,?_,s1,J,ho1,?_,?_,?_,h1,rfl⟩,?_⟩
  ·rw[My.BA];show _+1<=_
   lia
  ·rw[Lo,O,bS];exact .cons rv .nil
  ·rw[Lp,O,gD];exact ry
  ·rw[My.Bz,<-vZ,O];exact q1.2
  ·rintro mm σ H' ⟨b,o,X,y,F',rfl,hd,e2,W,ho',U,rys,h40,h',rfl⟩;have hyl:y.length=aG b:=by rw[rys.len,yN]
   have hkl:X.length=b.list.length:=by rw[U.len,p0]
   refine⟨R.r,R.dx,_,rfl,h'.at,rfl,R,o,59,F',_,rfl,h',ho',λhn=>?_,λu3 e3 H3 h3 ho3=>?_⟩
   ·refine((k2 b o ?_ H' F' X y W h' ho' U rys));rw[e2];unfold t8;rw[My.gg.mpr hn];show some (fI b .nil,o)=_;rw[My.Hl]
   ·subst e3;refine(⟨_,λσ' H' z=>z,?_⟩);have s2:=step b u3 e2;have L:(G++y).length=i.a+aG b:=by rw[aQ,hxs,hyl]
    rw[<-L]at s2;rw[bf]at hd;refine⟨R,u3,g,i,ch,b,ca,X,G++y,F',M,rfl,og.mono W,I,by lia,U,by lia,L,by lia,h3,ho3,λj H1 F1 J h1=>k1 (.inr (s2.1 j)) _ _ (W.trans J) h1,λh k u4 j H4 F4 v ys4 l4 h4 ho4 rv ry=>?_⟩;have s3:=s2.2 h k u4 j;have q1:=My.Hs j (by lia);refine⟨u4.length,?_,jd b h k,u4,X++[v],y++ys4,F4,rfl,?_,?_,W.trans l4,ho4,?_,?_,?_,?_,rfl⟩
    ·rw[bf]
     lia
    ·rw[My.BA,aQ,fE]
     lia
    ·exact s3
    ·rw[Lo,<-L];exact(U.mono l4).snoc rv
    ·rw[Lp,<-L];exact(rys.mono l4).app ry
    ·rw[My.Bz,<-vZ,<-L];exact q1.2
    ·rw[<-c9];exact h4
inductive Ls (K)(c)(vs)(H)(Q:VK)(E:XK):Prop|mk (vt) (t:aq) (F) (M):vs=[vt]->Rep K F vt (bP t)->t.length<=20000->af K H F M->(((∀fs,sT t≠.ok fs)->∀H' F',Le F F'->af K H' F' M->E (.ref c.fh) none H'))->((∀fs,sT t= .ok fs->∀H' F' x,Le F F'->af K H' F' M->Rep K F' x (Dr c fs)->Q x H'))->Ls K c vs H Q E
theorem Lu (T:Tx K mg c):∀n,Fn P w K mg base "read_kind" (3*n+12) ["reader","field","columns"] (vC K c n)
 |0=>Ll (n:=0) T (Lr (n:=0) (N:=0) (m:=0) (spx:=λ_ _ _ _=>False) (.inl rfl) T (T.nv 145 λ_ _ _ _ h=>h))
 |n+1=>Ll (n:=n+1) T (Lr (n:=n+1) (N:=n+1) (m:=n) (spx:=yQ K c n) (.inr ⟨rfl,rfl⟩) T (VU (n:=n) (m:=n) T (Lu T n)))
theorem VV (T:Tx K mg c):Fn P w K mg base "read_kind" (30) ["reader","field","columns"] (vC K c 6):=Lu T 6
theorem VW (T:Tx K mg c):Fn P w K mg base "read_schema" (31) ["text"] (Ls K c):=by
 refine T.fo 140 ["text","reader","record","columns"] λH vs nd hr h=>?_;obtain⟨vt,t,F,M,rfl,rt,hl,J,C,k2⟩:=h;refine⟨_,(ah (aL (aP iW (cM cE (by rfl) T.cst.len cT (ae (pv 0) ag)) (aD T.cst.Tt)) (ak (cO T.eG)) aS) (ah (aN 1 (pk (CV T) (ae (pv 0) ag))) (ah (aN 2 (SG (Vx T))) (ah (aN 3 (bO ag)) (ah (aL (aP je (bJ (mK T) T.Reader.1 (pv 1)) (aD T.cst.yo)) (ak (cO T.eG)) aS) (ah (ba (pf (VV T) (ae (pv 1) (ae (pv 2) (ae (pv 3) ag))))) (ah (ba (bJ (CW T) T.Reader.1 (pv 1))) (ak (aC (pk (VC T) (ae (pv 2) (ae (pv 3) ag)))))))))))),?_⟩;obtain⟨j,rfl,Y⟩:=rt.nats;refine⟨j,_,rfl,.inl (ax.of (J.le _ _ Y)),_,_,rfl,rfl,?_⟩;rw[gB];refine bG (λq=>?_) λq=>?_
 ·refine C (λfs e=>?_) _ _ (Le.refl F) J;have:=(My.qR.mp e).1;simp at q
  lia
 have q':t.length<=2000:=by
  simp at q
  lia
 refine(λy U ny ndy ney=>?_);refine⟨y,U,j,F,M,rfl,J.make ny ndy ney T.Reader.1,λH1 h1=>⟨rfl,?_⟩⟩;let R:dz:=⟨y,U,j,t⟩;have ho:R.Ok F t:=⟨Y,⟨[],rfl⟩,hl⟩
 have h1':af K H1 F (R.cell c.Reader t::M):=by
  have e:(0:Int)=((R.t.length-t.length:Nat):Int):=by
   show(0:Int)=((t.length-t.length:Nat):Int);rw[qu];rfl
  show af K H1 F ((y,.ins c.Reader U (rf j ((R.t.length-t.length:Nat):Int)))::M);rw[<-e];exact h1
 refine⟨F,_,rfl,h1',λx H2 F2 i ox h2=>?_⟩;refine⟨bR _,λca hca=>?_⟩;have h3:=(h2.cP (xs:=[]) hca).ig.ig.mG;refine⟨R.r,R.dx,_,rfl,h3.at,rfl,R,t,F2,_,rfl,h3,ho.mono i,rfl,?_⟩;refine bG (λo=>?_) λo=>?_
 ·refine C (λfs e=>?_) _ _ i h3.drop.drop.drop.drop;obtain⟨_,r,e,_⟩:=My.qR.mp e;rw[e]at o;simp[sgn]at o
 have q2':sgn t=((123:Nat):Int):=by simpa using o
 obtain⟨r,G⟩:=uT.mp q2'
 have L:qK FI.root t=(eP 1 false [] 0 r).bind λx=>(cI 125 x.2).map λs=>(Vacola.Kind.group false x.1,s):=by
  rw[G];rfl
 refine⟨R,t,x,FI.root,ca,[],F2,M,rfl,ox,rfl,⟨by decide,by decide,by decide,by decide⟩,h3,ho.mono i,λb H4 F4 u h4=>?_,λk u' b H4 F4 ys u h4 ho4 rf ry=>?_⟩
 ·refine C (λfs e=>?_) _ _ (i.trans u) h4;obtain⟨_,r2,e,g⟩:=My.qR.mp e;rw[G]at e;cases e;rw[L,g]at b;cases b
 ·refine⟨R.r,R.dx,_,rfl,h4.at,rfl,R,u',F4,_,rfl,h4,ho4,λI=>?_,λI=>?_⟩
  ·refine C (λfs e=>?_) _ _ (i.trans u) h4.drop.drop;obtain⟨_,r2,e,g⟩:=My.qR.mp e;rw[G]at e;cases e;rw[L,g]at b;cases b;exact I rfl
  ·subst I;rw[L]at b;cases g:eP 1 false [] 0 r with
   |none=>
    rw[g]at b;cases b
   |some z=>
    obtain⟨fs,W⟩:=z;rw[g]at b;have b:(cI 125 W).map (λs=>(Vacola.Kind.group false fs,s))=some (k,[]):=b;cases O:cI 125 W with
    |none=>
     rw[O]at b;cases b
    |some u8=>
     rw[O]at b;cases b;have e9:=My.eD.mp O;subst e9;have done:=My.qR.mpr ⟨q',r,G,g⟩;obtain⟨F5,X,h5,r5⟩:=h4.drop.bM ry;refine(λy2 dy2 ny2 ndy2 ney2=>?_);refine⟨y2,dy2,_,_,F5,M,rfl,h5.make ny2 ndy2 ney2 T.nr.1,λH6 h6=>⟨rfl,?_⟩⟩;obtain⟨F7,l7,h7,r7⟩:=h6.lL (.cons (rf.mono X) (.cons r5 .nil));exact k2 fs done _ _ _ (i.trans (u.trans (X.trans l7))) h7 r7
end
open Vacolb (wholeLit)
open My (pNum j8 j9 d6 fJ lC Ent)
structure NR where
 r:ai
 dx:ai
 l:ai
 t:List Int
def vD (l:ai)(p:Int):List (Str×V):=[("numbers",.ref l),("position",.int p)]
abbrev NR.cell (c:Cs)(R:NR)(u:List Int):ai×HO:=(R.r,.ins c.gC R.dx (vD R.l ((R.t.length-u.length:Nat):Int)))
structure NR.Ok (F:Hp)(R:NR)(u:List Int):Prop where
 tx:F R.l=some (.lst (nums R.t))
 eK:∃v,R.t=v++u
 len:R.t.length<=20000
theorem NR.Ok.mono {R:NR}(h:R.Ok F u)(l:Le F G):R.Ok G u:=⟨l _ _ h.tx,h.eK,h.len⟩
theorem NR.Ok.sub {R:NR}(h:R.Ok F u)(s:∃v,u=v++u'):R.Ok F u':=by
 obtain⟨v,e⟩:=h.eK;obtain⟨b,g⟩:=s;exact⟨h.tx,⟨v++b,by rw[e,g,c9]⟩,h.len⟩
theorem NR.Ok.drop {R:NR}(h:R.Ok F u):R.t.drop (R.t.length-u.length)=u/\u.length<=R.t.length:=by
 obtain⟨v,e⟩:=h.eK;simp_all
theorem NR.Ok.get {R:NR}(h:R.Ok F u):R.t[R.t.length-u.length]? =u.head?:=by
 have e:=h.drop.1;have:(R.t.drop (R.t.length-u.length)).head?=u.head?:=by rw[e]
 rw[zY]at this;omega
theorem lT (t):(nums t).length=t.length:=bb _
theorem yR (t)(j:Nat):(nums t)[j]? =(t[j]?).map V.int:=dB
theorem Dv (s t):nums (s++t)=nums s++nums t:=dA
def yS {α:Type}(K:aW)(c:Cs)(i:α->D)(p:Option (α×List Int))(R:NR)(F:Hp)(M:List (ai×HO))(Q:VK)(E:XK):Prop:=
 (p=none->∀g b,Le F b->af K g b M->E (.ref c.kZ) none g)/\
 (∀x h,p=some (x,h)->∀g b v,Le F b->af K g b (R.cell c h::M)->R.Ok b h->Rep K b v (i x)->Q v g)
section
theorem mL (l)(p):(vD l p).lookup ("position":Str)=some (.int p):=rfl
theorem vE (l)(p):(vD l p).lookup ("numbers":Str)=some (.ref l):=rfl
theorem VX (T:Tx K mg c):gA P w K mg base "Entry" c.Entry (1) ["self","repetition","definition","literal"] (pT K c.Entry "repetition" "definition" "literal"):=by
 refine T.ko 124 ["self","repetition","definition","literal"] λH i nd j h=>?_;obtain⟨x,dx,a,b,d,F,M,rfl,h1,k⟩:=h;refine⟨_,(ah (bI (pv 0) (pv 1) rfl) (ah (bI (pv 0) (pv 2) rfl) (ak (bI (pv 0) (pv 3) rfl)))),?_⟩;refine(wN h1 (T.Entry.2 _ (by simp)) (by show 0<1000;decide) λg h2=>?_);refine(wN h2 (T.Entry.2 _ (by simp)) (by show 1<1000;decide) λg h3=>?_);exact(wN h3 (T.Entry.2 _ (by simp)) (by show 2<1000;decide) λg h4=>k _ h4)
theorem VY (T:Tx K mg c):gA P w K mg base "HandedColumn" c.lO (1) ["self","field","entries"] (vi K c.lO "field" "entries"):=by
 refine T.ko 125 ["self","field","entries"] λH i nd j h=>?_;obtain⟨x,dx,a,b,F,M,rfl,h1,k⟩:=h;refine⟨_,(ah (bI (pv 0) (pv 1) rfl) (ak (bI (pv 0) (pv 2) rfl))),?_⟩;refine(wN h1 (T.lO.2 _ (by simp)) (by show 0<1000;decide) λg h2=>?_);exact(wN h2 (T.lO.2 _ (by simp)) (by show 1<1000;decide) λg h3=>k _ h3)
inductive Lv (K)(c:Cs)(vs:List V)(H)(Q:VK)(E:XK):Prop|mk (r dx l) (F) (M):vs=[.ref r,.ref l]->af K H F ((r,.ins c.gC dx [])::M)->(∀H',af K H' F ((r,.ins c.gC dx (vD l 0))::M)->Q .aB H')->Lv K c vs H Q E
theorem VZ (T:Tx K mg c):gA P w K mg base "NumberReader" c.gC (1) ["self","numbers"] (Lv K c):=by
 refine T.ko 126 ["self","numbers"] λH g nd i h=>?_;obtain⟨r,dx,l,F,M,rfl,h1,k⟩:=h;refine⟨_,(ah (bI (pv 0) (pv 1) rfl) (ak (bI (pv 0) aY rfl))),?_⟩;refine(wN h1 (T.gC.2 _ (by simp)) (by show 0<1000;decide) λb h2=>?_);exact(wN h2 (T.gC.2 _ (by simp)) (by show 1<1000;decide) λb h3=>k _ h3)
inductive Lw (K)(c)(vs:List V)(H)(Q)(E):Prop|mk (R) (u) (F) (M):vs=[.ref R.r]->af K H F (R.cell c u::M)->R.Ok F u->yS K c fL (pNum u) R F M Q E->Lw K c vs H Q E
theorem V0 {R:NR}(h:R.Ok F (x::u)):((R.t.length-(x::u).length:Nat):Int)+1=((R.t.length-u.length:Nat):Int):=by
 have:=h.drop.2
 grind
theorem yT (T:Tx K mg c):Mt P w K mg base c.gC "take_number" (1) ["self"] (Lw K c):=by
 refine T.mo 126 1 ["self","number"] λH I nd J h=>?_;obtain⟨R,u,F,M,rfl,b,g,j,o⟩:=h;refine⟨_,(ah (aL (aP cy (ay (pv 0) rfl) (cM cE (by rfl) T.cst.len cT (ae (ay (pv 0) rfl) ag))) (ak (cO T.oF)) aS) (ah (aN 1 (d8 dS (ay (pv 0) rfl) (ay (pv 0) rfl))) (ah (aL (aP jf (pv 1) aY) (ak (cO T.oF)) aS) (ah (mz (pv 0) aY n9) (ak (aC (pv 1))))))),?_⟩;have k:=b.le _ _ g.tx;have y:=g.drop.2;refine(rM b (mL _ _) (rM b (vE _ _) ⟨R.l,_,rfl,.inl (ax.of k),rfl,?_⟩));rw[lT];cases u with
 |nil=>
  have e:decide (V.int ((R.t.length-([]:List Int).length:Nat):Int)=V.int ((R.t.length:Nat):Int))=true:=decide_eq_true (by simp);rw[e];exact(j rfl _ _ (Le.refl F) b.drop)
 |cons x u=>
  rw[bf]at y
  have e:decide (V.int ((R.t.length-(x::u).length:Nat):Int)=V.int ((R.t.length:Nat):Int))=false:=decide_eq_false (by
   intro z;simp at z
   lia)
  rw[e];refine(rM b (vE _ _) (rM b (mL _ _) ⟨R.l,_,_,.int x,rfl,rfl,ax.of k,uJ ?_,?_⟩))
  ·rw[yR,g.get];rfl
  refine⟨_,_,rfl,rfl,?_⟩;refine bG (λq=>?_) λq=>?_
  ·have i:x<0:=by simpa using q
   exact j (My.rh i) _ _ (Le.refl F) b.drop
  ·have i:¬x<0:=by simpa using q
   refine(aM b (mL _ _) (oz b (mL _ _) (by show 2<1000;decide) λG h2=>(?_)));rw[V0 g]at h2;refine o x.toNat u (My.rj i) G F _ (Le.refl F) h2 (g.sub ⟨[x],rfl⟩) ?_
   have C:V.int x=V.int ((x.toNat:Nat):Int):=by
    congr 1
    lia
   rw[C];exact .v _
inductive Lx (K)(c)(vs:List V)(H)(Q:VK)(E:XK):Prop|mk (R:NR) (u) (F) (M):vs=[.ref R.r]->af K H F (R.cell c u::M)->R.Ok F u->((u≠[]->E (.ref c.kZ) none H))->((u=[]->Q .aB H))->Lx K c vs H Q E
theorem V1 (T:Tx K mg c):Mt P w K mg base c.gC "expect_end" (1) ["self"] (Lx K c):=by
 refine T.mo 126 3 ["self"] λH y nd C h=>?_;obtain⟨R,u,F,M,rfl,b,g,j,i⟩:=h;refine⟨_,(ak (aL (aP je (ay (pv 0) rfl) (cM cE (by rfl) T.cst.len cT (ae (ay (pv 0) rfl) ag))) (ak (cO T.oF)) aS)),?_⟩;have k:=b.le _ _ g.tx;have o:=g.drop.2;refine(rM b (mL _ _) (rM b (vE _ _) ⟨R.l,_,rfl,.inl (ax.of k),rfl,?_⟩));rw[lT];refine bG (λq=>j λz=>?_) λq=>i ?_
 ·rw[z]at q;simp_all
 ·cases u with
  |nil=>rfl
  |cons x u=>
   rw[bf]at o;simp at q;omega
end
end Prg
namespace L2
open PySem PySem.Spec PyProof.Rows
theorem Dx (xs)(a b:Nat):kS xs (some (a)) (some (b))=(xs.drop a).take (b-a):=by
 unfold kS;rw[HT.uI,HT.uI];by_cases h:a<=xs.length
 ·rw[zC h];by_cases h2:b<=xs.length
  ·rw[zC h2]
  ·rw[Og (by lia),vO (by rw[o9];lia),vO (by rw[o9];lia)]
 ·rw[Og (show xs.length<=a by lia),ku (bA xs.length),ku (show xs.length<=a by lia)];simp
end L2
namespace Prg
open PySem PySem.Spec PyProof.Rows L2
open Vacola (Text Leaf Lit Mode Head Fields showMode repOf defOf leavesKind leavesFields showLit fits keyOf)
open Vacolb (Val wholeLit)
open My (iz bB bC pNum j8 j9 d6 fJ lC Ent)
section
inductive Ly (K)(c)(vs:List V)(H)(Q)(E):Prop|mk (R) (u) (F) (M):vs=[.ref R.r]->af K H F (R.cell c u::M)->R.Ok F u->yS K c bP (j8 u) R F M Q E->Ly K c vs H Q E
theorem V2 (h:l.any lC=false):nums l=bytes (l.map b_):=by
 unfold nums bytes;rw[bZ];refine eO λx b=>?_;have:=Ec.mp h x b;unfold lC at this
 grind
theorem V3 (T:Tx K mg c):Mt P w K mg base c.gC "take_bytes" (2) ["self"] (Ly K c):=by
 refine T.mo 126 2 ["self","length","taken","byte"] λH vs nd hr h=>?_;obtain⟨R,u,F,M,rfl,hH,ho,g,i⟩:=h;refine⟨_,(ah (aN 1 (bJ (yT T) T.gC.1 (pv 0))) (ah (aL (aP iW (pv 1) (de kg (cM cE (by rfl) T.cst.len cT (ae (ay (pv 0) rfl) ag)) (ay (pv 0) rfl))) (ak (cO T.oF)) aS) (ah (aN 2 (m9 lH (ay (pv 0) rfl) (ji (ay (pv 0) rfl)) (ji (de lG (ay (pv 0) rfl) (pv 1))))) (ah (gj d_ rfl (fg (pv 2)) (dF 3) (ak (aL (PW.pt (jD (aP jf (pv 3) aY) (kP (aP iW (pv 3) (aD T.cst.Ts))))) (ak (cO T.oF)) aS))) (ah (mz (pv 0) (pv 1) n9) (ak (aC (pv 2)))))))),?_⟩;unfold j8 at g i;refine⟨R.r,R.dx,_,rfl,hH.at,rfl,R,u,F,M,rfl,hH,ho,λe=>g (by rw[e]),λn m e H1 F1 v y h1 G rv=>?_⟩;have:=rv.val;subst this;rw[e]at g i;dsimp only at g i;have Y:=h1.le _ _ G.tx;have hdl:=G.drop.2;refine(rM h1 (vE _ _) ⟨R.l,_,rfl,.inl (ax.of Y),rM h1 (mL _ _) ⟨_,_,rfl,rfl,_,_,rfl,rfl,?_⟩⟩);rw[lT];refine bG (λq=>?_) λq=>?_
 ·have W:m.length<n:=by
   simp at q;omega
  exact g (by rw[if_pos W]) _ _ y h1.drop
 have W:¬m.length<n:=by
  simp at q;omega
 rw[if_neg W]at g i;refine(rM h1 (vE _ _) (rM h1 (mL _ _) ⟨_,rfl,rM h1 (mL _ _) ⟨_,_,rfl,rfl,_,rfl,R.l,_,rfl,ax.of Y,λp hp=>?_⟩⟩));have e2:((R.t.length-m.length:Nat):Int)+(n:Int)=((R.t.length-m.length+n:Nat):Int):=by lia
 rw[e2,Dx]
 have e3:((nums R.t).drop (R.t.length-m.length)).take (R.t.length-m.length+n-(R.t.length-m.length))=nums (m.take n):=by
  have e4:=G.drop.1;rw[zy];unfold nums;rw[<-qo,e4,<-lg]
 rw[e3];obtain⟨F2,o,h2,C⟩:=h1.Dg (xs:=nums (m.take n)) hp;generalize upd H1 p (.lst (nums (m.take n)))=H2 at h2⊢;refine⟨p,rfl,⟨_,ax.of (h2.le _ _ C)⟩,kR (xs:=nums (m.take n)) (λj σ I=>I=H2/\((m.take n).take j).any lC=false/\∃z,σ=[some (.ref R.r),some (.int (n:Int)),some (.ref p),z]) ⟨rfl,rfl,none,rfl⟩ ?_ ?_ ?_⟩
 ·rintro j σ I _ ⟨rfl,k,z,rfl⟩;exact ax.of (h2.le _ _ C)
 ·rintro j x σ I X ⟨rfl,k,z,rfl⟩;rw[yR,aX]at X;obtain⟨b,hb,rfl⟩:=X;have bad:lC b=true->(m.take n).any lC=true:=λq=>YI.mpr ⟨b,gI hb,q⟩;refine⟨_,_,rfl,rfl,?_⟩;refine bG (λU=>?_) λU=>?_
  ·have O:b<0:=by simpa using U
   refine g ?_ _ _ (y.trans o) h2.drop;rw[if_pos (bad (by unfold lC;rw[decide_eq_true O];rfl))]
  ·have O:¬b<0:=by simpa using U
   refine⟨_,_,rfl,rfl,?_⟩;refine bG (λL=>?_) λL=>?_
   ·have J:255<b:=by simpa using L
    refine g ?_ _ _ (y.trans o) h2.drop;rw[if_pos (bad (by unfold lC;rw[decide_eq_true J,Oe]))]
   ·have J:¬255<b:=by simpa using L
    refine⟨rfl,?_,some (.int b),rfl⟩;obtain⟨lt,eb⟩:=cK.mp hb;rw[i8 lt,YJ,k,eb];show(false||(lC b||false))=false;unfold lC;rw[decide_eq_false O,decide_eq_false J];rfl
 ·rintro σ I ⟨rfl,k,z,rfl⟩;rw[lT,iJ]at k;rw[if_neg (by rw[k];exact dX)]at i;refine(aM h2 (mL _ _) (oz h2 (mL _ _) (by show 2<1000;decide) λH3 h3=>(?_)))
  have e5:((R.t.length-m.length:Nat):Int)+(n:Int)=((R.t.length-(m.drop n).length:Nat):Int):=by
   rw[o9];omega
  rw[e5]at h3;refine i _ _ rfl H3 F2 _ (y.trans o) h3 ((G.mono o).sub ⟨m.take n,(il _ _).symm⟩) ?_;rw[V2 k]at C;exact T1 C
def sy (c:Cs):Option Lit->D
 |none=> .v .aB
 |some x=>yz c x
def oK (c:Cs)(e:Ent):D:= .ins c.Entry [("repetition",fL e.rep),("definition",fL e.defn),("literal",sy c e.val)]
inductive Lz (K)(c)(vs)(H)(Q)(E):Prop|mk (R) (u) (vf) (i) (l) (F) (M):vs=[.ref R.r,vf]->iz l->Rep K F vf (FD c i (.leaf l))->af K H F (R.cell c u::M)->R.Ok F u->yS K c (oK c) (j9 l i.d u) R F M Q E->Lz K c vs H Q E
theorem V4 (h:j8 u=some (t,r)):t.length<=u.length:=by
 unfold j8 at h;cases e:pNum u with
 |none=>rw[e]at h;cases h
 |some x=>
  split at h
  ·cases h
  ·split at h
   ·cases h
   ·have:=(My.nX e).1
    grind
theorem V5 (T:Tx K mg c):Fn P w K mg base "read_entry" (9) ["reader","field"] (Lz K c):=by
 refine T.fO 129 ["reader","field","repetition","definition","literal"] λf bu A outer s H vs Q E nd hr h=>?_;obtain⟨R,u,vf,i,l,F,M,rfl,hl,rf,hH,ho,g,k⟩:=h;refine⟨_,(ah (aN 2 (bJ (yT T) T.gC.1 (pv 0))) (ah (aN 3 (bJ (yT T) T.gC.1 (pv 0))) (ah (aN 4 m7) (ah (aL (aP cy (pv 3) (ay (pv 1) rfl)) (ak (aN 4 (pf (U0 T) (ae (bJ (V3 T) T.gC.1 (pv 0)) (ae (pv 1) ag))))) aS) (ak (aC (pk (VX T) (ae (pv 2) (ae (pv 3) (ae (pv 4) ag)))))))))),?_⟩;unfold j9 at g k;refine⟨R.r,R.dx,_,rfl,hH.at,rfl,R,u,F,M,rfl,hH,ho,λe=>g (by rw[e]),λr u1 e1 H1 F1 v1 l1 h1 ho1 r1=>?_⟩;have:=r1.val;subst this;rw[e1]at g k;dsimp only at g k;refine⟨R.r,R.dx,_,rfl,h1.at,rfl,R,u1,F1,M,rfl,h1,ho1,λe H2 G W h2=>g (by rw[e]) _ _ (l1.trans W) h2,λd I e2 H2 G v2 W h2 X r2=>?_⟩;have:=r2.val;subst this;rw[e2]at g k;dsimp only at g k;have J:=l1.trans W
 have fin:∀(x:Ent) (lv:V) (b:List Int) (C j:Hp),(if d=i.d then(match j8 I with
  |none=>none
  |some (t,b)=>some ((⟨r,d,g8 l t⟩:Ent),b))else some (⟨r,d,none⟩,I))=some (x,b)->x.rep=r->x.defn=d->Le G j->af K C j (R.cell c b::M)->R.Ok j b->Rep K j lv (sy c x.val)->∀Dn:Ends,Dn.rt=Q->
  lF (rJ c.Entry (pT K c.Entry "repetition" "definition" "literal") [] E (dr (bg 2) (dr (bg 3) (dr (bg 4) dJ)))) Dn [some (.ref R.r),some vf,some (.int (r:Int)),some (.int (d:Int)),some lv] C:=by
  intro x lv b C j ee ex1 ex2 o h3 L rl Dn hDn;refine(λy dy ny ndy ney=>?_);refine⟨y,dy,_,_,_,j,_,rfl,h3.make ny ndy ney T.Entry.1,λO h4=>⟨rfl,?_⟩⟩;obtain⟨F5,l5,h5,r5⟩:=h4.lL (.cons (.v _) (.cons (.v _) (.cons rl .nil)));rw[hDn];refine k x b ee _ _ _ (J.trans (o.trans l5)) h5 (L.mono l5) ?_;unfold oK;rw[ex1,ex2];exact r5
 refine(pV h2 (rf.mono J) ⟨rfl,?_⟩);refine bG (λq=>?_) λq=>?_
 ·have U:d=i.d:=by
   simp at q
   lia
  rw[if_pos U]at g k fin;refine⟨R.r,R.dx,_,rfl,h2.at,rfl,R,I,G,M,rfl,h2,X,λe C j o h3=>g (by rw[e]) _ _ (J.trans o) h3,λt b e3 C j v3 o h3 L r3=>?_⟩;rw[e3]at fin;have hle:=V4 e3;have hd:=X.drop.2;have hl0:=ho.len;refine⟨t,l,v3,vf,j,_,rfl,r3,by lia,yF hl (rf.mono (J.trans o)),h3,λY O F4 z h4=>?_,λx Y O F4 v4 z h4 r4=>?_⟩
  ·exact fin _ .aB b O F4 rfl rfl rfl (o.trans z) h4 (L.mono z) (by rw[Y];exact .v _) _ rfl
  ·exact fin _ v4 b O F4 rfl rfl rfl (o.trans z) h4 (L.mono z) (by rw[Y];exact r4) _ rfl
 ·have U:¬d=i.d:=by
   simp at q
   lia
  rw[if_neg U]at g k fin;exact fin _ .aB I H2 G rfl rfl rfl (Le.refl G) h2 X (.v _) _ rfl
end
section
def mM (c:Cs)(es:List Ent):D:= .lst (es.map (oK c))
inductive LA (K)(c)(vs)(H)(Q)(E):Prop|mk (R) (u) (vf) (i) (l) (F) (M):vs=[.ref R.r,vf]->iz l->Rep K F vf (FD c i (.leaf l))->af K H F (R.cell c u::M)->R.Ok F u->yS K c (mM c) ((pNum u).bind λx=>d6 l i.d x.1 x.2) R F M Q E->LA K c vs H Q E
inductive LB (R:NR)(vf)(i:FI)(l)(M)(n)(u1)(F1)(p)(mm)(σ:L2.St)(H'):Prop|mk (dn:List Ent) (u2) (j) (xs) (F'):mm=u2.length->n=dn.length+j->u2.length+2*dn.length<=20000->d6 l i.d n u1=(d6 l i.d j u2).map (λx=>(dn++x.1,x.2))->Le F1 F'->R.Ok F' u2->aU K F' xs (dn.map (oK c))->af K H' F' ((p,.lst xs)::R.cell c u2::M)->σ=[some (.ref R.r),some vf,some (.int (n)),some (.ref p)]->LB R vf i l M n u1 F1 p mm σ H'
theorem V6 (T:Tx K mg c):Fn P w K mg base "read_entries" (10) ["reader","field"] (LA K c):=by
 refine T.fo 128 ["reader","field","total","entries"] λH vs nd hr h=>?_;obtain⟨R,u,Y,i,l,F,M,rfl,hl,rf,hH,ho,k,G⟩:=h;refine⟨_,(ah (aN 2 (bJ (yT T) T.gC.1 (pv 0))) (ah (aN 3 (bO ag)) (ah (mx d_ (aP jf (cM cE (by rfl) T.cst.len cT (ae (pv 3) ag)) (pv 2)) (ak (ba (d9 eU gv gw f6 (pv 3) (ae (pf (V5 T) (ae (pv 0) (ae (pv 1) ag))) ag))))) (ak (aC (pv 3)))))),?_⟩;refine⟨R.r,R.dx,_,rfl,hH.at,rfl,R,u,F,M,rfl,hH,ho,λe=>k (by rw[e];rfl),λn g e1 H1 X v1 U h1 ho1 r1=>?_⟩;have:=r1.val;subst this;rw[e1]at k G;have k:d6 l i.d n g=none->_:=k;have G:∀x u',d6 l i.d n g=some (x,u')->_:=G;refine⟨bR _,λp hp=>?_⟩;have h2:=h1.cP (xs:=[]) hp;have hd1:=ho1.drop.2;have hln:=ho.len
 refine⟨LB R Y i l M n g X p,
  ⟨_,[],g,n,[],X,rfl,by simp,by simp;lia,by cases d6 l i.d n g<;>rfl,Le.refl X,ho1,.nil,h2,rfl⟩,?_⟩
 rintro mm σ H' ⟨o,u2,j,O,F',rfl,hn,hb,L,C,ho',rs,I,rfl⟩;have hxl:O.length=o.length:=by rw[rs.len,bb]
 refine⟨p,_,rfl,.inl (ax.of I.at),_,_,rfl,rfl,?_⟩;rw[hxl];cases j with
 |zero=>
  rw[decide_eq_false (show¬((o.length:Int)<(n:Int)) by lia)];obtain⟨W,b,h3,r3⟩:=I.bM rs;refine(G o u2 ?_ _ _ _ (U.trans (C.trans b)) h3 (ho'.mono b) r3);rw[L,d6];simp
 |succ j=>
  rw[decide_eq_true (show((o.length:Int)<(n:Int)) by lia)];refine⟨_,λσ' H' z=>z,?_⟩;rw[d6]at L;refine⟨⟨rfl,_,ax.of I.at⟩,R,u2,Y,i,l,F',_,rfl,hl,rf.mono (U.trans C),I.sw,ho',λJ H3 W b h3=>?_,λx y J H3 W v3 b h3 ho3 r3=>?_⟩
  ·refine k ?_ _ _ (U.trans (C.trans b)) h3.drop;rw[L,J];rfl
  ·have hlen:=My.Ht J;refine⟨p,_,_,rfl,rfl,h3.dv,(by rw[hxl,bq];lia),?_⟩;refine⟨y.length,by lia,o++[x],y,j,O++[v3],W,rfl,by rw[aQ,fE];lia,by rw[aQ,fE];lia,?_,C.trans b,ho3,?_,h3.sw.eh,rfl⟩
   ·rw[L,J];show fb _ ((d6 l i.d j y).map _)=_;cases d6 l i.d j y with
    |none=>rfl
    |some z=>simp
   ·rw[dA];exact(rs.mono b).snoc r3
def jG (c:Cs)(x:(FI×bN)×List Ent):D:= .ins c.lO [("field",FD c x.1.1 (.leaf x.1.2)),("entries",mM c x.2)]
def Dy (c:Cs)(b:List (FI×bN)):D:= .lst (b.map λx=>FD c x.1 (.leaf x.2))
def jM (b:List (FI×bN)):List (bN×Nat):=b.map λx=>(x.2,x.1.d)
theorem V7 (x)(fl):jM (x::fl)=(x.2,x.1.d)::jM fl:=rfl
inductive LC (K)(c)(vs)(H)(Q:VK)(E:XK):Prop|mk (vf vn) (fl) (t) (F) (M):vs=[vf,vn]->((∀x∈fl,iz x.2))->fl.length<=1000->Rep K F vf (Dy c fl)->Rep K F vn (eF t)->t.length<=20000->af K H F M->(((∀es,fJ (jM fl) t≠some (es,[]))->∀H' F',Le F F'->af K H' F' M->E (.ref c.kZ) none H'))->((∀es,fJ (jM fl) t=some (es,[])->(es.any λl=>decide (1000<l.length))=true->∀H' F',Le F F'->af K H' F' M->E (.ref c.mI) none H'))->((∀es,fJ (jM fl) t=some (es,[])->(es.any λl=>decide (1000<l.length))=false->∀H' F' v,Le F F'->af K H' F' M->Rep K F' v (.lst ((fl.zip es).map (jG c)))->Q v H'))->LC K c vs H Q E
inductive LF (fl)(t)(F)(M)(R:NR)(d)(j)(H'):Prop|mk (es:List (List Ent)) (u1) (ys) (F'):es.length=j->fJ (jM fl) t=(fJ (jM (fl.drop j)) u1).map (λx=>(es++x.1,x.2))->Le F F'->R.Ok F' u1->aU K F' ys (((fl.take j).zip es).map (jG c))->af K H' F' ((d,.lst ys)::R.cell c u1::M)->LF fl t F M R d j H'
theorem Dz (T:Tx K mg c):Fn P w K mg base "read_columns" (11) ["fields","numbers"] (LC K c):=by
 refine T.fo 127 ["fields","numbers","reader","columns","field","column"] λH vs nd hr h=>?_;obtain⟨vf,vn,g,t,F,M,rfl,az,hfl,rf,rn,htl,hH,k1,k2,k3⟩:=h;refine⟨_,(ah (aN 2 (pk (VZ T) (ae (pv 1) ag))) (ah (CS (i:=3) (own:=[("field",4)]) jj (λ_ _ _ z=>z) rfl nd rfl rfl (Cn rfl rfl rfl rfl) (fg (pv 0)) (kU (N:=["fields","numbers","reader","columns","field","column"]) (sc:=cY (top 127)) (by decide+kernel)) (λ_ _ _ _ _=>(dF 4)) (λ_ _ _ _ _=>nc) (λ_ _ _ _ _ _ pE=>(pk (VY T) (ae (pv 4) (ae (pf (V6 T) (ae (pv 2) (ae (pv 4) ag))) ag))))) (ah (ba (bJ (V1 T) T.gC.1 (pv 2))) (ah (gj d_ rfl (fg (pv 3)) (dF 5) (ak (aL (aP iW (cM cE (by rfl) T.cst.len cT (ae (ay (pv 5) rfl) ag)) (aD T.cst.Tq)) (ak (cO T.yw)) aS))) (ak (aC (pv 3))))))),?_⟩;obtain⟨na,rfl,hna⟩:=rn.nums;refine(λy dy ny ndy ney=>?_);refine⟨y,dy,na,F,M,rfl,hH.make ny ndy ney T.gC.1,λH1 h1=>⟨rfl,?_⟩⟩;let R:NR:=⟨y,dy,na,t⟩;have ho:R.Ok F t:=⟨hna,⟨[],rfl⟩,htl⟩
 have h1':af K H1 F (R.cell c t::M):=by
  have e:(0:Int)=((R.t.length-t.length:Nat):Int):=by
   show(0:Int)=((t.length-t.length:Nat):Int);rw[qu];rfl
  show af K H1 F ((y,.ins c.gC dy (vD na ((R.t.length-t.length:Nat):Int)))::M);rw[<-e];exact h1
 obtain⟨fa,xs,rfl,hfa,rs⟩:=rf.lst_inv;have X:xs.length=g.length:=by rw[rs.len,bb]
 refine⟨fa,rfl,⟨_,ax.of (h1'.le _ _ hfa)⟩,λd hd=>ki (xs:=xs) (LF g t F M R d)
  ⟨[],t,[],F,rfl,by rw[zD];cases fJ (jM g) t<;>rfl,Le.refl F,ho,.nil,h1'.cP hd⟩ ?_ ?_ ?_⟩
 ·rintro j H' _ ⟨es,G,J,F',L,o,C,ho',I,b⟩;exact ax.of (b.le _ _ (C _ _ hfa))
 ·rintro j x H' hx ⟨es,G,J,F',L,o,C,ho',I,b⟩;obtain⟨d0,hd0,rx⟩:=(rs.mono C).get' hx;rw[dB,aX]at hd0;obtain⟨fi,hfi,rfl⟩:=hd0;obtain⟨lt,efi⟩:=cK.mp hfi;have edr:g.drop j=fi::g.drop (j+1):=by rw[nP lt,efi]
  rw[edr,V7,fJ]at o;refine⟨rfl,nA ?_⟩;refine⟨R,G,x,fi.1,fi.2,F',_,rfl,az fi (gI hfi),rx,b.sw,ho',λk O F2 W h2=>?_,λu u2 k O F2 v2 W h2 ho2 r2=>?_⟩
  ·refine k1 (λes2 z=>?_) _ _ (C.trans W) h2.drop;rw[o]at z;cases e3:pNum G with
   |none=>rw[e3]at z;cases z
   |some q=>
    rw[e3]at z k;have k:d6 fi.2 fi.1.d q.1 q.2=none:=k;have z:fb _ (fk (d6 fi.2 fi.1.d q.1 q.2) _)=_:=z;rw[k]at z;cases z
  ·refine λy2 dy2 ny2 ndy2 ney2=>?_;refine⟨y2,dy2,_,_,F2,_,rfl,h2.make ny2 ndy2 ney2 T.lO.1,λH3 h3=>⟨rfl,?_⟩⟩;obtain⟨F4,l4,h4,r4⟩:=h3.lL (.cons (rx.mono W) (.cons r2 .nil));have hyl:J.length=j:=by rw[I.len,bb,qy,L,gq];lia
   refine⟨J,h4.dv,by rw[hyl,bq];lia,es++[u],u2,J++[.ref y2],F4,by rw[aQ,L];rfl,?_,C.trans (W.trans l4),ho2.mono l4,?_,h4.sw.eh⟩
   ·rw[o];cases e3:pNum G with
    |none=>rw[e3]at k;cases k
    |some q=>
     rw[e3]at k;have k:d6 fi.2 fi.1.d q.1 q.2=some (u,u2):=k;show fb _ (fk (d6 fi.2 fi.1.d q.1 q.2) _)=_;rw[k];show fb _ ((fJ (jM (g.drop (j+1))) u2).map _)=_;cases fJ (jM (g.drop (j+1))) u2 with
     |none=>rfl
     |some z=>simp
   ·have et:g.take (j+1)=g.take j++[fi]:=by rw[i8 lt,efi]
    rw[et,El (by rw[gq,L];lia),dA];exact(I.mono (W.trans l4)).snoc r4
 ·rintro H' ⟨es,G,J,F',L,o,C,ho',I,b⟩;rw[X,zX]at o
  have o:fJ (jM g) t=some (es,G):=by
   rw[o];show some (es++[],G)=_;rw[eZ]
  rw[X,iJ]at I;refine⟨R.r,R.dx,_,rfl,b.dv,rfl,R,G,F',_,rfl,b.sw,ho',λhu=>?_,λhu=>?_⟩
  ·refine k1 (λes2 z=>?_) _ _ C b.drop.drop;rw[o]at z;cases z;exact hu rfl
  subst hu;have hys:J.length=g.length:=by rw[I.len,bb,qy,L];lia
  refine⟨d,rfl,⟨_,ax.of b.at⟩,kR (xs:=J) (λj σ O=>O=H'/\((es.take j).any λl=>decide (1000<l.length))=false/\∃U z2,σ=[some (.ref fa),some (.ref na),some (.ref y),some (.ref d),U,z2]) ⟨rfl,rfl,none,none,rfl⟩ ?_ ?_ ?_⟩
  ·rintro j σ O _ ⟨rfl,Y,U,z2,rfl⟩;exact ax.of b.at
  ·rintro j x σ O hx ⟨rfl,Y,U,z2,rfl⟩;obtain⟨d0,hd0,rx⟩:=I.get' hx;rw[dB,aX]at hd0;obtain⟨⟨fi,u⟩,hfi,rfl⟩:=hd0
   have hls:es[j]? =some u:=by
    rw[zw]at hfi;exact hfi.2
   obtain⟨lt,els⟩:=cK.mp hls;refine(rF b rx (d:=mM c u) rfl λve re=>?_);obtain⟨ea,zs,rfl,hea,rzs⟩:=re.lst_inv;have hzl:zs.length=u.length:=by rw[rzs.len,bb]
   refine⟨ea,_,rfl,.inl (ax.of (b.le _ _ hea)),_,_,rfl,rfl,?_⟩;refine bG (λq=>?_) λq=>?_
   ·have q':1000<u.length:=by
     simp at q
     lia
    refine k2 es o (YI.mpr ⟨u,gI hls,by simpa using q'⟩) _ _ C b.drop.drop
   ·have q':¬1000<u.length:=by
     simp at q
     lia
    refine⟨rfl,?_,U,some x,rfl⟩;rw[i8 lt,YJ,Y,els];simp
    lia
  ·rintro σ O ⟨rfl,Y,U,z2,rfl⟩;rw[hys,<-X,X,<-L.trans X,iJ]at Y;obtain⟨F5,l5,h5,r5⟩:=b.bM I;exact(k3 es o Y _ _ _ (C.trans l5) h5.drop r5)
end
open My (fB eQ reach)
structure TA where
 t:ai
 dx:ai
 fv:V
 ev:V
 x:FI×bN
 es:List Ent
def sA (fv ev:V)(p:Int):List (Str×V):=[("field",fv),("entries",ev),("position",.int p)]
abbrev TA.cell (c:Cs)(a:TA)(u:List Ent):ai×HO:=(a.t,.ins c.gk a.dx (sA a.fv a.ev ((a.es.length-u.length:Nat):Int)))
structure TA.Ok (K:aW)(c:Cs)(F:Hp)(a:TA)(u:List Ent):Prop where
 f:Rep K F a.fv (FD c a.x.1 (.leaf a.x.2))
 e:Rep K F a.ev (mM c a.es)
 eK:∃v,a.es=v++u
 len:a.es.length<=1000
theorem TA.Ok.mono {K}{c}{a:TA}(h:a.Ok K c F u)(l:Le F G):a.Ok K c G u:=⟨h.f.mono l,h.e.mono l,h.eK,h.len⟩
theorem TA.Ok.le {K}{c}{a:TA}(h:a.Ok K c F u):u.length<=a.es.length:=by
 obtain⟨v,q⟩:=h.eK;simp_all
theorem TA.Ok.get {K}{c}{a:TA}{e}(h:a.Ok K c F (e::u)):(a.es.map (oK c))[a.es.length-(e::u).length]? =some (oK c e):=by
 obtain⟨v,q⟩:=h.eK;simp_all
section
theorem V8 (fv ev)(p):(sA fv ev p).lookup ("field":Str)=some fv:=rfl
theorem yU (fv ev)(p):(sA fv ev p).lookup ("entries":Str)=some ev:=rfl
theorem oM (fv ev)(p):(sA fv ev p).lookup ("position":Str)=some (.int p):=rfl
inductive LG (K)(c)(vs)(H)(Q:VK)(E:XK):Prop|mk (x dx) (vc) (z) (F) (M):vs=[.ref x,vc]->Rep K F vc (jG c z)->af K H F ((x,.ins c.gk dx [])::M)->(∀H' fv ev,Rep K F fv (FD c z.1.1 (.leaf z.1.2))->Rep K F ev (mM c z.2)->af K H' F ((x,.ins c.gk dx (sA fv ev 0))::M)->Q .aB H')->LG K c vs H Q E
theorem V9 (T:Tx K mg c):gA P w K mg base "Track" c.gk (1) ["self","column"] (LG K c):=by
 refine T.ko 97 ["self","column"] λH j nd u h=>?_;obtain⟨x,dx,o,z,F,M,rfl,b,h1,k⟩:=h;refine⟨_,(ah (bI (pv 0) (ay (pv 1) rfl) rfl) (ah (bI (pv 0) (ay (pv 1) rfl) rfl) (ak (bI (pv 0) aY rfl)))),?_⟩;refine(rF h1 b (d:=FD c z.1.1 (.leaf z.1.2)) rfl λfv rf=>(wN h1 (T.gk.2 _ (by simp)) (by show 0<1000;decide) λC h2=>?_));refine(rF h2 b (d:=mM c z.2) rfl λev g=>(wN h2 (T.gk.2 _ (by simp)) (by show 1<1000;decide) λy h3=>?_));exact(wN h3 (T.gk.2 _ (by simp)) (by show 2<1000;decide) λi h4=>k i fv ev rf g h4)
theorem V_ (T:Tx K mg c):gA P w K mg base "Branch" c.ij (1) ["self","field","tracks","branches"] (pT K c.ij "field" "tracks" "branches"):=by
 refine T.ko 98 ["self","field","tracks","branches"] λH i nd j h=>?_;obtain⟨x,dx,a,b,d,F,M,rfl,h1,k⟩:=h;refine⟨_,(ah (bI (pv 0) (pv 1) rfl) (ah (bI (pv 0) (pv 2) rfl) (ak (bI (pv 0) (pv 3) rfl)))),?_⟩;refine(wN h1 (T.ij.2 _ (by simp)) (by show 0<1000;decide) λg h2=>?_);refine(wN h2 (T.ij.2 _ (by simp)) (by show 1<1000;decide) λg h3=>?_);exact(wN h3 (T.ij.2 _ (by simp)) (by show 2<1000;decide) λg h4=>k _ h4)
inductive LH (K)(c)(vs:List V)(H)(Q:VK)(E:XK):Prop|mk (a:TA) (u) (F) (M):vs=[.ref a.t]->a.Ok K c F u->af K H F (a.cell c u::M)->Q (.bl (!u.isEmpty)) H->LH K c vs H Q E
theorem LI (T:Tx K mg c):Mt P w K mg base c.gk "has_more" (1) ["self"] (LH K c):=by
 refine T.mo 97 1 ["self"] λH C nd G h=>?_;obtain⟨a,u,F,M,rfl,i,g,q⟩:=h;refine⟨_,(ak (aC (jg jf (ay (pv 0) rfl) (cM cE (by rfl) T.cst.len cT (ae (ay (pv 0) rfl) ag))))),?_⟩;obtain⟨z,b,y,o,rs⟩:=i.e.lst_inv;have j:b.length=a.es.length:=by rw[rs.len,bb]
 have k:=i.le;refine(rM g (oM _ _ _) (rM g (yU _ _ _) ⟨z,b,by rw[y],.inl (ax.of (g.le _ _ o)),_,_,rfl,rfl,?_⟩))
 have e:decide (((a.es.length-u.length:Nat):Int)<(b.length:Int))= !u.isEmpty:=by
  rw[j];cases u with
  |nil=>exact decide_eq_false (by simp)
  |cons e u=>exact decide_eq_true (by rw[bf]at k⊢;omega)
 simp_all
inductive LJ (K)(c)(vs:List V)(H)(Q:VK)(E:XK):Prop|mk (a:TA) (r:Nat) (u) (F) (M):vs=[.ref a.t,.int (r)]->a.Ok K c F u->af K H F (a.cell c u::M)->Q (.bl (eQ r u)) H->LJ K c vs H Q E
theorem V' (T:Tx K mg c):Mt P w K mg base c.gk "goes_on" (2) ["self","repetition"] (LJ K c):=by
 refine T.mo 97 2 ["self","repetition"] λH k nd o h=>?_;obtain⟨a,r,u,F,M,rfl,g,b,q⟩:=h;refine⟨_,(ak (aC (uy (bJ (LI T) T.gk.1 (pv 0)) (rB (jg cy (ay (d8 dS (ay (pv 0) rfl) (ay (pv 0) rfl)) rfl) (pv 1)))))),?_⟩;refine⟨a.t,a.dx,_,rfl,b.at,rfl,a,u,F,M,rfl,g,b,_,rfl,?_⟩;cases u with
 |nil=>exact q
 |cons e u=>
  refine(rM b (yU _ _ _) (rM b (oM _ _ _) (ft b g.e g.get λy i=>?_)));refine dK b i (f:="repetition") (y:= .int (e.rep:Int)) rfl ⟨rfl,?_⟩
  have j:decide (V.int (e.rep:Int)=V.int (r:Int))=eQ r (e::u):=by
   show _=(e.rep==r)
   grind
  rw[j];omega
inductive LK (K)(c)(vs:List V)(H)(Q:VK)(E:XK):Prop|mk (a:TA) (d:Nat) (u) (F) (M):vs=[.ref a.t,.int (d)]->u≠[]->a.Ok K c F u->af K H F (a.cell c u::M)->Q (.bl (reach d u)) H->LK K c vs H Q E
theorem Wa (T:Tx K mg c):Mt P w K mg base c.gk "reaches" (1) ["self","definition"] (LK K c):=by
 refine T.mo 97 3 ["self","definition"] λH k nd o h=>?_;obtain⟨a,d,u,F,M,rfl,j,g,b,q⟩:=h;refine⟨_,(ak (aC (jg uF (ay (d8 dS (ay (pv 0) rfl) (ay (pv 0) rfl)) rfl) (pv 1)))),?_⟩;cases u with
 |nil=>exact absurd rfl j
 |cons e u=>
  refine(rM b (yU _ _ _) (rM b (oM _ _ _) (ft b g.e g.get λy i=>?_)));refine dK b i (f:="definition") (y:= .int (e.defn:Int)) rfl ⟨_,_,rfl,rfl,?_⟩
  have z:decide ((d:Int)<=(e.defn:Int))=reach d (e::u):=by
   show _=decide (d<=e.defn);simp_all
  simp_all
inductive LL (K)(c)(vs:List V)(H)(Q:VK)(E:XK):Prop|mk (a:TA) (e) (u) (F) (M):vs=[.ref a.t]->a.Ok K c F (e::u)->af K H F (a.cell c (e::u)::M)->(∀H' v,af K H' F (a.cell c u::M)->Rep K F v (sy c e.val)->Q v H')->LL K c vs H Q E
theorem DB {a:TA}(h:a.Ok K c F (e::u)):((a.es.length-(e::u).length:Nat):Int)+1=((a.es.length-u.length:Nat):Int):=by
 have:=h.le
 grind
theorem Wb (T:Tx K mg c):Mt P w K mg base c.gk "take_literal" (1) ["self"] (LL K c):=by
 refine T.mo 97 4 ["self"] λH z nd C h=>?_;obtain⟨a,e,u,F,M,rfl,b,g,q⟩:=h;refine⟨_,(ah (mz (pv 0) aY n9) (ak (aC (ay (d8 dS (ay (pv 0) rfl) (de kg (ay (pv 0) rfl) aY)) rfl)))),?_⟩;refine(aM g (oM _ _ _) (oz g (oM _ _ _) (by show 3<1000;decide) λo h2=>?_));rw[DB b]at h2;refine(rM h2 (yU _ _ _) (rM h2 (oM _ _ _) ⟨_,_,rfl,rfl,?_⟩))
 have k:V.int (((a.es.length-u.length:Nat):Int)-1)=V.int ((a.es.length-(e::u).length:Nat):Int):=by
  have:=DB b
  grind
 rw[k];exact ft h2 b.e b.get λy i=>rF h2 i (f:="literal") (d:=sy c e.val) rfl λv j=>q o v h2 j
inductive LM (K)(c:Cs)(vs)(H)(Q:VK)(E:XK):Prop|mk (v) (bs) (F) (M):vs=[v]->bs≠[]->Rep K F v (.lst (bs.map λb=> .v (.bl b)))->af K H F M->((fB bs=none->E (.ref c.gX) none H))->((∀b,fB bs=some b->Q (.bl b) H))->LM K c vs H Q E
theorem DC (T:Tx K mg c):Fn P w K mg base "agreed" (1) ["said"] (LM K c):=by
 refine T.fo 101 ["said","one"] λH vs nd hr h=>?_;obtain⟨v,bs,F,M,rfl,X,C,k,U,O⟩:=h;refine⟨_,(ah (gj d_ rfl (fg (pv 0)) (dF 1) (ak (aL (aP je (pv 1) (d8 dS (pv 0) aY)) (ak (cO T.mJ)) aS))) (ak (aC (d8 dS (pv 0) aY)))),?_⟩;cases bs with
 |nil=>exact absurd rfl X
 |cons b bs=>
  obtain⟨a,G,rfl,J,rs⟩:=C.lst_inv;refine⟨a,rfl,⟨_,ax.of (k.le _ _ J)⟩,kR (xs:=G) (λj σ o=>o=H/\((b::bs).take j).all (λx=>x==b)=true/\∃z,σ=[some (.ref a),z]) ⟨rfl,rfl,none,rfl⟩ ?_ ?_ ?_⟩
  ·rintro j σ o _ ⟨rfl,g,z,rfl⟩;exact ax.of (k.le _ _ J)
  ·rintro j x σ o W ⟨rfl,g,z,rfl⟩;obtain⟨d,hd,rd⟩:=rs.get' W;rw[dB,aX]at hd;obtain⟨L,I,rfl⟩:=hd;have:=rd.val;subst this;refine(ft (j:=0) k C (d:= .v (.bl b)) rfl λy u=>?_);have:=u.val;subst this;refine⟨rfl,?_⟩;by_cases q:L=b
   ·subst q;rw[decide_eq_true rfl];refine⟨rfl,?_,_,rfl⟩;obtain⟨lt,Y⟩:=cK.mp I;rw[i8 lt,List.all_append,g,Y];simp
   ·rw[decide_eq_false (λz=>q (by cases z;rfl))];refine(U ?_);rw[fB,if_neg];intro z;have:=fR.mp z;cases j with
    |zero=>
     simp_all
    |succ j=>
     have h2:=this L (gI (i:=j) (by simpa using I));simp_all
  ·rintro σ o ⟨rfl,g,z,rfl⟩;rw[rs.len,bb,iJ]at g;refine(ft (j:=0) k C (d:= .v (.bl b)) rfl λy u=>?_);have:=u.val;subst this;refine O b ?_;rw[fB,if_pos]
   grind
end
open My (br dE aI dH gP gO Al lD Suf fT)
mutual
def cF:FI->Kd->List (FI×bN)
 |i,.leaf l=>[(i,l)]
 |i,.group ch fs=>da i ch i.a fs
def da:FI->Bool->Nat->aJ->List (FI×bN)
 |_,_,_,.nil=>[]
 |i,ch,a,.cons h k rest=>cF (i.bE ch h a) k++da i ch (a+au k) rest
end
mutual
theorem DD (c:Cs):∀(i:FI) (k:Kd),LD c i k=(cF i k).map λx=>FD c x.1 (.leaf x.2)
 |i,.leaf l=>by
  rw[LD,cF];rfl
 |i,.group ch fs=>by
  rw[LD,cF];exact LN c i ch i.a fs
theorem LN (c:Cs):∀(i:FI) (ch:Bool) (a:Nat) (fs:aJ),gD c i ch a fs=(da i ch a fs).map λx=>FD c x.1 (.leaf x.2)
 |i,ch,a,.nil=>by
  rw[gD,da];rfl
 |i,ch,a,.cons h k rest=>by
  rw[gD,da,DD c,LN c,dA]
end
mutual
theorem DE:∀(i:FI) (k:Kd),(cF i k).map (·.1.a)=ll i.a (au k)
 |i,.leaf l=>by
  rw[cF,au];rfl
 |i,.group ch fs=>by
  rw[cF,au];exact yV i ch i.a fs
theorem yV:∀(i:FI) (ch:Bool) (a:Nat) (fs:aJ),(da i ch a fs).map (·.1.a)=ll a (aG fs)
 |i,ch,a,.nil=>by
  rw[da,aG];rfl
 |i,ch,a,.cons h k rest=>by
  rw[da,aG,dA,DE,yV];have:=YK (s:=a) (m:=au k) (n:=aG rest) (step:=1);rw[Nat.one_mul]at this;exact this
end
mutual
theorem LO:∀(i:FI) (k:Kd),∀x∈cF i k,∃s,x.1.lv=i.lv++s
 |i,.leaf l=>λx h=>by
  rw[cF]at h;rw[g7.mp h];exact⟨[],by simp⟩
 |i,.group ch fs=>λx h=>by
  rw[cF]at h;exact LP i ch i.a fs x h
theorem LP:∀(i:FI) (ch:Bool) (a:Nat) (fs:aJ),∀x∈da i ch a fs,∃s,x.1.lv=i.lv++s
 |i,ch,a,.nil=>λx h=>by
  rw[da]at h;cases h
 |i,ch,a,.cons hd k rest=>λx h=>by
  rw[da]at h;rcases gm.mp h with q|q
  ·obtain⟨s,e⟩:=LO _ k x q;have b:(i.bE ch hd a).lv=if aw hd.mode=1 then i.lv++[i.d+defOf ch hd.mode]else i.lv:=rfl;rw[e,b];split
   ·exact⟨_,c9 _ _ _⟩
   ·exact⟨_,rfl⟩
  ·exact LP i ch _ rest x q
end
structure gY (i:FI):Prop where
 l:i.lv.length=i.r
 d:aw i.m=1->i.lv[i.r-1]? =some i.d/\1<=i.r
theorem gY.bE (o:gY i)(ch)(h)(a):gY (i.bE ch h a):=by
 refine⟨?_,λq=>?_⟩
 ·show(if aw h.mode=1 then i.lv++[i.d+defOf ch h.mode]else i.lv).length=i.r+aw h.mode;rcases My.ja h.mode with q|q
  ·rw[if_neg (by lia),q,o.l];rfl
  ·rw[if_pos q,q,aQ,o.l];rfl
 ·have q:aw h.mode=1:=q;show(if aw h.mode=1 then i.lv++[i.d+defOf ch h.mode]else i.lv)[i.r+aw h.mode-1]? =some (i.d+defOf ch h.mode)/\1<=i.r+aw h.mode;rw[if_pos q,q,v8,<-o.l,NG (bA _),qu];simp_all
theorem gY.root:gY FI.root:=⟨rfl,λh=>by cases h⟩
theorem gY.leaf (o:gY i)(h:x∈cF i k)(q:aw i.m=1):x.1.lv[i.r-1]? =some i.d:=by
 obtain⟨s,e⟩:=LO i k x h;obtain⟨g,b⟩:=o.d q
 grind
def c7 (b:Nat->Bool)(L:List (FI×bN)):List (FI×bN):=L.filter λx=>b x.1.a
theorem LQ (tell)(A B):c7 tell (A++B)=c7 tell A++c7 tell B:=oZ _ _
theorem Wc (tell)(L)(h:L.map (·.1.a)=ll a n):(c7 tell L).length=My.cnt tell a n:=by
 unfold My.cnt c7;rw[<-h,sW,bb];rfl
theorem vF (tell)(i)(k):(c7 tell (cF i k)).length=My.cnt tell i.a (au k):=Wc tell _ (DE i k)
theorem Wd (tell)(a m n):My.cnt tell a (m+n)=My.cnt tell a m+My.cnt tell (a+m) n:=by
 unfold My.cnt;have:=YK (s:=a) (m:=m) (n:=n) (step:=1)
 grind
mutual
theorem yW (b:Nat->Bool):∀(k:Kd) (a:Nat),My.cnt b a (au k)≠0->aI (br b k a)=My.cnt b a (au k)
 | .leaf l=>λa h=>by
  rw[au]at h⊢;rw[br,aI]
  have:My.cnt b a 1<=1:=by
   unfold My.cnt;exact eA (ph _ _) (by simp)
  omega
 | .group ch fs=>λa h=>by
  rw[au,br,aI];exact DF b fs a
theorem DF (b:Nat->Bool):∀(fs:aJ) (a:Nat),dH (dE b fs a)=My.cnt b a (aG fs)
 | .nil=>λa=>by
  rw[dE,dH,aG];rfl
 | .cons h k rest=>λa=>by
  rw[dE,aG,Wd];by_cases q:My.cnt b a (au k)=0
  ·rw[if_pos q,dH,DF b rest,q,vP]
  ·rw[if_neg q,dH,DF b rest,yW b k a q]
end
def p_ (TL:List TA):D:= .lst (TL.map λt=> .v (.ref t.t))
mutual
def jN (c:Cs)(b:Nat->Bool):FI->Kd->List TA->D
 |i,.leaf l,TL=> .ins c.ij [("field",FD c i (.leaf l)),("tracks",p_ TL),("branches",.lst [])]
 |i,.group ch fs,TL=> .ins c.ij [("field",FD c i (.group ch fs)),("tracks",p_ TL),("branches",.lst (gF c b i ch i.a fs TL))]
def gF (c:Cs)(b:Nat->Bool):FI->Bool->Nat->aJ->List TA->List D
 |_,_,_,.nil,_=>[]
 |i,ch,a,.cons h k rest,TL=>(if My.cnt b a (au k)=0 then .v .aB else jN c b (i.bE ch h a) k (TL.take (My.cnt b a (au k))))::gF c b i ch (a+au k) rest (TL.drop (My.cnt b a (au k)))
end
def yX (c:Cs)(b:Nat->Bool)(i:FI):Kd->List TA->List D
 | .leaf _,_=>[]
 | .group ch fs,TL=>gF c b i ch i.a fs TL
theorem LR (c)(tell)(i)(k)(TL):jN c tell i k TL= .ins c.ij [("field",FD c i k),("tracks",p_ TL),("branches",.lst (yX c tell i k TL))]:=by
 cases k with
 |leaf l=>
  rfl
 |group ch fs=>
  rfl
section
variable {tell:Nat->Bool}{H F:Hp}{M:List (ai×HO)}{v:V}{i:FI}{k:Kd}{TL:List TA}{Q:VK}
theorem sC (r:Rep K F v (jN c tell i k TL)):Rep K F v (.ins c.ij [("field",FD c i k),("tracks",p_ TL),("branches",.lst (yX c tell i k TL))]):=by
 rw[<-LR];omega
theorem yY (h:af K H F M)(r:Rep K F v (jN c tell i k TL))(q:∀x,Rep K F x (FD c i k)->Q x H):gR K "field" v H Q:=rF h (sC r) rfl q
theorem yZ (h:af K H F M)(r:Rep K F v (jN c tell i k TL))(q:∀x,Rep K F x (p_ TL)->Q x H):gR K "tracks" v H Q:=rF h (sC r) rfl q
theorem DG (h:af K H F M)(r:Rep K F v (jN c tell i k TL))(q:∀x,Rep K F x (.lst (yX c tell i k TL))->Q x H):gR K "branches" v H Q:=rF h (sC r) rfl q
end
def cq (c:Cs)(TL:List TA)(b:List (List Ent)):List (ai×HO):=(TL.zip b).map λx=>x.1.cell c x.2
theorem We (c)(a)(TL)(u)(cols):cq c (a::TL) (u::cols)=a.cell c u::cq c TL cols:=rfl
theorem y4 (c)(h:A.length=x.length):cq c (A++B) (x++y)=cq c A x++cq c B y:=by
 unfold cq;rw[El h,dA]
theorem Wf (c)(n)(h:A.length=x.length):cq c A x=cq c (A.take n) (x.take n)++cq c (A.drop n) (x.drop n):=by
 rw[<-y4 c (by rw[gq,gq,h]),il,il]
structure oN (x:FI×bN)(e:Ent):Prop where
 le:e.defn<=x.1.d
 val:e.defn=x.1.d->e.val.isSome=true
 lv:1<=e.rep->∀a,x.1.lv[e.rep-1]? =some a->a<=e.defn
 good:∀y,e.val=some y->gO x.2 y
inductive eX (K)(c)(F):List TA->List (List Ent)->Prop
 |nil:eX K c F [] []
 |cons {a} {u} {TL} {cols}:a.Ok K c F u->(∀e∈u,oN a.x e)->eX K c F TL cols->eX K c F (a::TL) (u::cols)
section
variable {F G:Hp}
theorem TA.Ok.sub {a:TA}{u u':List Ent}(h:a.Ok K c F u)(s:Suf u' u):a.Ok K c F u':=by
 obtain⟨v,q⟩:=h.eK;obtain⟨w,b⟩:=s;exact⟨h.f,h.e,⟨v++w,by rw[q,b,c9]⟩,h.len⟩
theorem eX.mono (l:Le F G):∀{TL} {g},eX K c F TL g->eX K c G TL g
 |_,_,.nil=> .nil
 |_,_,.cons a b r=> .cons (a.mono l) b (r.mono l)
theorem eX.len:∀{TL} {b},eX K c F TL b->TL.length=b.length
 |_,_,.nil=>rfl
 |_,_,.cons _ _ r=>by rw[bf,bf,r.len]
theorem eX.eK:∀{TL} {h g:List (List Ent)},eX K c F TL h->Al Suf g h->eX K c F TL g
 |_,_,_,.nil,.nil=> .nil
 |_,_,_,.cons a b r,.cons s t=>by
  refine .cons (a.sub s) (λe i=>b e ?_) (r.eK t);obtain⟨v,q⟩:=s;simp_all
theorem eX.take:∀{TL} {g} (n),eX K c F TL g->eX K c F (TL.take n) (g.take n)
 |_,_,0,_=> .nil
 |_,_,_+1,.nil=> .nil
 |_,_,n+1,.cons a b r=> .cons a b (r.take n)
theorem eX.drop:∀{TL} {b} (n),eX K c F TL b->eX K c F (TL.drop n) (b.drop n)
 |_,_,0,h=>h
 |_,_,_+1,.nil=> .nil
 |_,_,n+1,.cons _ _ r=>r.drop n
theorem eX.get:∀{TL} {g} {j:Nat} {a},eX K c F TL g->TL[j]? =some a->∃u,g[j]? =some u/\a.Ok K c F u/\∀e∈u,oN a.x e
 |_,_,_,_,.nil,h=>by simp at h
 |_,_,0,_,.cons a b r,h=>by
  simp at h;subst h;exact⟨_,rfl,a,b⟩
 |_,_,j+1,_,.cons a b r,h=>by
  obtain⟨u,h1,h2⟩:=r.get (j:=j) (by simpa using h);exact⟨u,by simpa using h1,h2⟩
theorem LS:∀{l:List α} {j:Nat} {x},l[j]? =some x->∃r,l.Perm (x::r)
 |[],_,_,h=>by simp at h
 |y::l,0,x,h=>by
  simp at h;subst h;exact⟨l,.refl _⟩
 |y::l,j+1,x,h=>by
  obtain⟨r,q⟩:=LS (l:=l) (j:=j) (by simpa using h);exact⟨y::r,(q.cons y).trans (.swap x y r)⟩
theorem af.pick {j:Nat}(h:af K H F (cq c TL cols++M))(h1:TL[j]? =some a)(h2:cols[j]? =some u):∃N,af K H F (a.cell c u::N):=by
 have:(cq c TL cols++M)[j]? =some (a.cell c u):=by
  have g:=(cK.mp h1).1;have b:=(cK.mp h2).1;rw[NM (by unfold cq;rw[bb,qy];lia)];unfold cq;rw[dB,(zw (z:=(a,u))).mpr ⟨h1,h2⟩];rfl
 obtain⟨r,q⟩:=LS this;exact⟨r,h.perm q⟩
end
structure eH (K:aW)(c:Cs)(F:Hp)(tell:Nat->Bool)(i:FI)(k:Kd)(TL:List TA)(cols:List (List Ent)):Prop where
 m:TL.map (·.x)=c7 tell (cF i k)
 ok:eX K c F TL cols
 ne:My.cnt tell i.a (au k)≠0
section
variable {F G:Hp}{tell:Nat->Bool}{i:FI}{k:Kd}{TL:List TA}{cols lU:List (List Ent)}
theorem eH.mono (h:eH K c F tell i k TL cols)(l:Le F G):eH K c G tell i k TL cols:=⟨h.m,h.ok.mono l,h.ne⟩
theorem eH.eK (h:eH K c F tell i k TL cols)(s:Al Suf lU cols):eH K c F tell i k TL lU:=⟨h.m,h.ok.eK s,h.ne⟩
theorem eH.tl (h:eH K c F tell i k TL cols):TL.length=My.cnt tell i.a (au k):=by
 rw[<-vF tell i k,<-h.m,bb]
theorem eH.len (h:eH K c F tell i k TL cols):cols.length=aI (br tell k i.a):=by
 rw[yW tell k i.a h.ne,<-h.tl,h.ok.len]
theorem eH.pos (h:eH K c F tell i k TL cols):1<=aI (br tell k i.a):=by
 rw[yW tell k i.a h.ne];have:=h.ne
 lia
theorem eH.one (h:eH K c F tell i k TL cols):My.rm (λx=>My.dD (br tell k i.a) i.r i.d x) (aI (br tell k i.a)):=My.Hz _ _ _
end
open Vacola (Column columns columnsKind columnsFields)
open Vacolc (told marks marksKind marksFields)
open My (jx fH CI cm)
def nB (x:FI×bN):zr:={path:=x.1.path,leaf:=x.2,rep:=x.1.r,defn:=x.1.d}
mutual
theorem Wg:∀(i:FI) (k:Kd),i3 k i.path i.r i.d=(cF i k).map nB
 |i,.leaf l=>by
  rw[cF,i3];rfl
 |i,.group ch fs=>by
  rw[cF,i3];exact DH i ch i.a fs
theorem DH:∀(i:FI) (ch:Bool) (a:Nat) (fs:aJ),jq fs ch i.path i.r i.d=(da i ch a fs).map nB
 |i,ch,a,.nil=>by
  rw[da,jq];rfl
 |i,ch,a,.cons h k rest=>by
  rw[da,jq,dA,<-Wg,<-DH];rfl
end
mutual
theorem Wh:∀(i:FI) (k:Kd),o5 k i.d i.lv=(cF i k).map (·.1.lv)
 |i,.leaf l=>by
  rw[cF,o5];rfl
 |i,.group ch fs=>by
  rw[cF,o5];exact DI i ch i.a fs
theorem DI:∀(i:FI) (ch:Bool) (a:Nat) (fs:aJ),o6 fs ch i.d i.lv=(da i ch a fs).map (·.1.lv)
 |i,ch,a,.nil=>by
  rw[da,o6];rfl
 |i,ch,a,.cons h k rest=>by
  rw[da,o6,dA,<-Wh,<-DI];rfl
end
mutual
theorem LU:∀(i:FI) (k:Kd) (n:Nat),bB k n->∀x∈cF i k,iz x.2
 |i,.leaf l=>λn h x b=>by
  rw[cF]at b;rw[g7.mp b];unfold bB at h;exact h
 |i,.group ch fs=>λn h x b=>by
  rw[cF]at b;unfold bB at h;exact LW i ch i.a fs _ h.2.2 x b
theorem LW:∀(i:FI) (ch:Bool) (a:Nat) (fs:aJ) (n:Nat),bC fs n ch->∀x∈da i ch a fs,iz x.2
 |i,ch,a,.nil=>λn h x b=>by
  rw[da]at b;cases b
 |i,ch,a,.cons hd k rest=>λn h x b=>by
  rw[da]at b;unfold bC at h;rcases gm.mp b with q|q
  ·exact LU _ k n h.2.2.2.2.2.2.1 x q
  ·exact LW i ch _ rest n h.2.2.2.2.2.2.2 x q
end
mutual
theorem LX:∀(i:FI) (k:Kd),gY i->∀x∈cF i k,gY x.1
 |i,.leaf l=>λh x b=>by
  rw[cF]at b;rw[g7.mp b];exact h
 |i,.group ch fs=>λh x b=>by
  rw[cF]at b;exact LY i ch i.a fs h x b
theorem LY:∀(i:FI) (ch:Bool) (a:Nat) (fs:aJ),gY i->∀x∈da i ch a fs,gY x.1
 |i,ch,a,.nil=>λh x b=>by
  rw[da]at b;cases b
 |i,ch,a,.cons hd k rest=>λh x b=>by
  rw[da]at b;rcases gm.mp b with q|q
  ·exact LX _ k (h.bE ch hd a) x q
  ·exact LY i ch _ rest h x q
end
def LV (fs:aJ):List (FI×bN):=cF FI.root (.group false fs)
theorem Wi (fs):LV fs=da FI.root false 0 fs:=by
 rfl
theorem DJ (fs):(LV fs).map (·.1.a)=ll 0 (aG fs):=by
 exact yV _ _ _ _
theorem y6 (fs):(LV fs).length=aG fs:=by
 have:=congrArg f9 (DJ fs);simp_all
theorem DK (fs):di fs=(LV fs).map nB:=by
 exact DH FI.root false 0 fs
theorem Wj (fs):cm fs=(LV fs).map λx=>(nB x,x.1.lv):=by
 unfold cm nI;rw[DK,show o6 fs false 0 []=(LV fs).map (·.1.lv) by rw[Wi];exact DI FI.root false 0 fs,List.zip_map']
def eL (fs:aJ)(b:List Nat):List (FI×bN):=b.filterMap λi=>(LV fs)[i]?
theorem vG (fs)(picks):aO fs picks=(eL fs picks).map λx=>(nB x,x.1.lv):=by
 rw[My.Bk,Wj];unfold eL
 grind
theorem Wk (fs)(picks):(aO fs picks).map fH=(eL fs picks).map λx=>((x.1.r,x.1.d,x.1.lv):CI):=by
 rw[vG,bZ];rfl
theorem sD (h:jx (aG fs) picks):c7 (λi=>picks.contains i) (LV fs)=eL fs picks:=by
 unfold c7 eL;rw[My.HJ (DJ fs) h.1 λp hp=>⟨bR _,by have:=h.2 p hp;lia⟩];rfl
theorem Wl:∀x∈eL fs picks,x∈LV fs:=λx b=>by
 obtain⟨i,_,e⟩:=zu.mp b;exact gI e
theorem DL (h:jx (aG fs) picks):(eL fs picks).length=picks.length:=by
 have:=congrArg f9 (vG fs picks);rw[My.j6 h,bb]at this;simp_all
theorem LZ (fs)(picks):jM (eL fs picks)=(aO fs picks).map λx=>(x.1.leaf,x.1.defn):=by
 rw[vG,bZ];rfl
theorem Wm (h:jx (aG fs) picks)(m):eL fs (picks.take m)=(eL fs picks).take m:=by
 refine(My.xl λi b=>?_).2 m;rw[eI (by rw[y6];exact h.2 i b)];rfl
theorem Wn (fs):eL fs (fw (aG fs))=LV fs:=by
 rw[<-sD (My.Bq _)];unfold c7;rw[Ou];intro x b
 have:x.1.a∈ll 0 (aG fs):=by
  rw[<-DJ]
  grind
 simp_all
open Vacolb (keyLit)
open Vacolc (risingKeys capacity)
open My (taken hX)
section
theorem sE:∀{TL:List TA} {xs},aU K F xs (TL.map λt=> .v (.ref t.t))->xs=TL.map λt=>V.ref t.t
 |[],_,.nil=>rfl
 |n::t,_,.cons a b=>by
  rw[a.val,sE b];rfl
theorem L0 (M)(h1:TL[j]? =some a)(h:A.length=j):(cq c TL (A++u::B)++M).Perm (a.cell c u::(cq c (TL.take j) A++(cq c (TL.drop (j+1)) B++M))):=by
 obtain⟨lt,e⟩:=cK.mp h1
 have g:TL=TL.take j++a::TL.drop (j+1):=by
  rw[<-e,<-nP lt,il]
 have b:cq c TL (A++u::B)=cq c (TL.take j) A++(a.cell c u::cq c (TL.drop (j+1)) B):=by
  conv=>lhs;rw[g]
  rw[y4 c (by rw[gq];lia),We]
 rw[b,c9,ir];simp
inductive L1 (K)(c)(vs)(H)(Q:VK)(E:XK):Prop|mk (tell) (vb) (i) (k) (TL) (cols) (F) (M):vs=[vb]->Rep K F vb (jN c tell i k TL)->eX K c F TL cols->((∀x∈cols,x≠[]))->af K H F (cq c TL cols++M)->(∀x H' F',Le F F'->af K H' F' (cq c TL (cols.map ql)++M)->Rep K F' x (.lst [])->Q x H')->L1 K c vs H Q E
theorem Wo (T:Tx K mg c):Fn P w K mg base "take_gap" (1) ["branch"] (L1 K c):=by
 refine T.fo 104 ["branch","track"] λH vs nd hr h=>?_;obtain⟨tell,W,i,k,TL,C,F,M,rfl,Y,ok,hne,y,q⟩:=h;refine⟨_,(ah (gj d_ rfl (fg (ay (pv 0) rfl)) (dF 1) (ak (mz (pv 1) aY n9))) (ak (aC (bO ag)))),?_⟩;refine(yZ y Y λvt rt=>?_);obtain⟨X,U,rfl,J,rs⟩:=rt.lst_inv;have hxs:=sE rs;subst hxs;have hlen:=ok.len;refine⟨X,rfl,⟨_,ax.of (y.le _ _ J)⟩,kR (xs:=TL.map λt=>V.ref t.t) (λj σ g=>af K g F (cq c TL ((C.take j).map ql++C.drop j)++M)/\∃z,σ=[some W,z]) ⟨by simpa using y,none,rfl⟩ ?_ ?_ ?_⟩
 ·rintro j σ g _ ⟨b,z,rfl⟩;exact ax.of (b.le _ _ J)
 ·rintro j x σ g G ⟨b,z,rfl⟩;rw[dB,aX]at G;obtain⟨a,o,rfl⟩:=G;obtain⟨u,I,oa,_⟩:=ok.get o;obtain⟨lt,O⟩:=cK.mp I;cases u with
  |nil=>exact absurd rfl (hne [] (gI I))
  |cons e u=>
   rw[nP lt,O]at b;have L:((C.take j).map ql).length=j:=by rw[bb,gq];lia
   have h2:=b.perm (L0 M o L);refine(aM h2 (oM _ _ _) (oz h2 (oM _ _ _) (by show 3<1000;decide) λH3 h3=>?_));rw[DB oa]at h3;have h4:=h3.perm (L0 M o L (u:=u)).symm;refine⟨?_,_,rfl⟩;rw[i8 lt,dA,O,c9];exact h4
 ·rintro σ g ⟨b,z,rfl⟩;rw[bb,hlen,iJ,zX,eZ]at b;refine⟨bR _,λp hp=>?_⟩;obtain⟨F2,l2,h2,r2⟩:=b.sj hp .nil;exact q _ _ _ l2 h2 r2
theorem L3 (tell)(i)(ch):∀(fs) (a) (TL) (b),aU K F b (gF c tell i ch a fs TL)->b.any CT=fT (dE tell fs a)/\∀z∈b,z= .aB\/∃p dx j,z= .ref p/\F p=some (.ins c.ij dx j)
 | .nil=>λa TL b r=>by
  cases r;rw[dE,fT];simp_all
 | .cons h k rest=>λa TL b r=>by
  cases r with
  |cons r0 r=>
   obtain⟨u,o⟩:=L3 tell i ch rest _ _ _ r;rw[dE];by_cases q:My.cnt tell a (au k)=0
   ·rw[if_pos q]at r0⊢;have:=r0.val;subst this;refine⟨by rw[fT];rfl,λz g=>?_⟩;rcases cj.mp g with w|w
    ·exact .inl w
    ·exact o z w
   ·rw[if_neg q]at r0⊢;obtain⟨p,dx,j,rfl,hp,_⟩:=(sC r0).nq;refine⟨by rw[fT,zS,u];rfl,λz g=>?_⟩;rcases cj.mp g with w|w
    ·exact .inr ⟨p,dx,j,w,hp⟩
    ·exact o z w
inductive L4 (K)(c)(vs)(H)(Q:VK)(E:XK):Prop|mk (tell) (vb vv) (i) (fs) (TL) (ss) (F) (M):vs=[vb,vv]->Rep K F vb (jN c tell i (.group true fs) TL)->Rep K F vv (.lst (eW c ss))->ss.length<=1000->af K H F M->(((decide (taken ss<=1)&&(taken ss==1||fT (dE tell fs i.a)))=false->∀H' F',Le F F'->af K H' F' M->E (.ref c.gX) none H'))->(((decide (taken ss<=1)&&(taken ss==1||fT (dE tell fs i.a)))=true->∀H' F',Le F F'->af K H' F' M->Q .aB H'))->L4 K c vs H Q E
theorem Wp (T:Tx K mg c):Fn P w K mg base "check_taken" (1) ["branch","value"] (L4 K c):=by
 refine T.fo 105 ["branch","value","taken","occurrences","fewest"] λH vs nd hr h=>?_;obtain⟨J,vb,vv,i,fs,TL,b,F,M,rfl,rb,rv,hss,X,C,G⟩:=h;refine⟨_,(ah (aN 2 (cM cE (by rfl) T.cst.len cT (ae (nu (own:=[("occurrences",3)]) jj (λ_ _ _ z=>z) rfl nd (fg (pv 1)) (kU (N:=["branch","value","taken","occurrences","fewest"]) (sc:=cY (top 105)) (by decide+kernel)) (λ_ _ _ _ _=>(dF 3)) (λ_ _ _ _ _=>(Ck (aP iW (cM (Uj rfl) (by rfl) T.cst.len cT (ae (pv 3) ag)) aY))) (λ_ _ _ _ _ _ pE=>(pv 3))) ag))) (ah (aN 4 (BP (aP (Ul hr.units T.ij.1 T.T') m7 (ay (pv 0) rfl) rfl) aY aY)) (ak (aL (PW.pt (jD (aP jf (pv 2) (pv 4)) (kP (aP iW (pv 2) aY)))) (ak (cO T.mJ)) aS)))),?_⟩;obtain⟨va,I,rfl,O,rs⟩:=rv.lst_inv;have hxl:I.length=b.length:=by rw[rs.len,pY]
 refine⟨va,rfl,⟨_,ax.of (X.le _ _ O)⟩,λd hd=>ki (xs:=I) (λj k=>∃u:List V,u.length=taken (b.take j)/\af K k F ((d,.lst u)::M)) ⟨[],rfl,X.cP hd⟩ ?_ ?_ ?_⟩
 ·rintro j k _ ⟨u,y,g⟩;exact ax.of (g.le _ _ O)
 ·rintro j x k hx ⟨u,y,g⟩;obtain⟨d0,W,rx⟩:=rs.get' hx;rw[yH,aX]at W;obtain⟨o,ho,rfl⟩:=W;obtain⟨oa,zs,rfl,hoa,ros⟩:=rx.lst_inv;have hlo:zs.length=o.length:=by rw[ros.len,kq]
  obtain⟨lt,eo⟩:=cK.mp ho
  have Y:taken (b.take (j+1))=taken (b.take j)+(if o.isEmpty=true then 0 else 1):=by
   rw[i8 lt,eo];unfold taken;rw[oZ,aQ];cases o<;>rfl
  refine⟨rfl,oa,_,rfl,.inl (ax.of (g.le _ _ hoa)),_,_,rfl,rfl,?_⟩;rw[hlo];cases o with
  |nil=>
   refine⟨u,?_,g⟩;rw[Y,y];rfl
  |cons z o=>
   have q:decide ((0:Int)<((z::o).length:Int))=true:=decide_eq_true (by rw[bf];lia);rw[q]
   have hle:taken (b.take j)<=1000:=by
    unfold taken;have:=ph (λo:List Val=> !o.isEmpty) (b.take j);rw[gq]at this
    lia
   refine⟨u,g.at,by rw[y,bq];lia,u++[_],?_,g.eh⟩;rw[Y,aQ,y];rfl
 ·rintro k ⟨u,y,g⟩;rw[hxl,iJ]at y;refine⟨d,_,rfl,.inl (ax.of g.at),?_⟩;rw[y];refine(DG g.drop rb λvk rk=>?_);obtain⟨ka,L,rfl,hka,rks⟩:=rk.lst_inv;obtain⟨b1,b2⟩:=L3 J i true fs i.a TL L rks;refine⟨rfl,ka,L,rfl,ax.of (g.le _ _ hka),λz hz=>?_,?_⟩
  ·rcases b2 z hz with w|⟨p,dx,gs,w,hp⟩
   ·exact .inl w
   ·exact .inr ⟨p,dx,gs,w,g.le _ _ hp⟩
  ·rw[b1];cases U:fT (dE J fs i.a)with
   |true=>
    rw[U,Oe,YL]at C G;refine⟨_,_,rfl,rfl,?_⟩;refine⟨_,_,rfl,rfl,?_⟩;by_cases q:taken b<=1
    ·rw[decide_eq_false (show¬(1:Int)<((taken b:Nat):Int) by lia)];exact(G (decide_eq_true q) k F (Le.refl F) g.drop)
    ·rw[decide_eq_true (show(1:Int)<((taken b:Nat):Int) by lia)];exact(C (decide_eq_false q) k F (Le.refl F) g.drop)
   |false=>
    rw[U,Bool.or_false]at C G;refine⟨_,_,rfl,rfl,?_⟩;by_cases q1:taken b<1
    ·rw[decide_eq_true (show((taken b:Nat):Int)<(1:Int) by lia)];refine((C ?_ k F (Le.refl F) g.drop));rw[show taken b=0 by lia];rfl
    ·rw[decide_eq_false (show¬((taken b:Nat):Int)<(1:Int) by lia)];refine⟨_,_,rfl,rfl,?_⟩;by_cases q:taken b<=1
     ·rw[decide_eq_false (show¬(1:Int)<((taken b:Nat):Int) by lia)];refine(G ?_ k F (Le.refl F) g.drop);rw[show taken b=1 by lia];rfl
     ·rw[decide_eq_true (show(1:Int)<((taken b:Nat):Int) by lia)];refine(C ?_ k F (Le.refl F) g.drop);rw[decide_eq_false q,mU]
inductive DM (K)(c)(vs)(H)(Q:VK)(E:XK):Prop|mk (tell) (vb vo) (i) (k:Kd) (n) (h) (l) (TL) (o) (F) (M):vs=[vb,vo]->bB k n->dM k=some (h,l)->Rep K F vb (jN c tell i k TL)->Rep K F vo (.lst (cz c o))->o.length<=100000->((tell i.a=true->∀v∈o,∃x,dW v=some x/\dG l x=true))->af K H F M->((hX .keyed (gP tell k i.a) o=false->E (.ref c.gX) none H))->((hX .keyed (gP tell k i.a) o=true->Q .aB H))->DM K c vs H Q E
theorem Wq (T:Tx K mg c):Fn P w K mg base "check_keys" (3) ["branch","occurrences"] (DM K c):=by
 refine T.fo 106 ["branch","occurrences","possible"] λH vs nd hr h=>?_;obtain⟨b,vb,X,i,k,n,h,l,TL,o,F,M,rfl,az,O,J,I,L,hky,g,C,z⟩:=h;refine⟨_,(ah (aL (aP xX (d8 dS (ay (pv 0) rfl) aY) m7) (ak (aN 2 (pf (U3 T) (ae (d8 dS (ay (ay (pv 0) rfl) rfl) aY) (ae (cM cE (by rfl) T.cst.len cT (ae (pv 1) ag)) ag))))) (ak (aN 2 (pf (Kn T) (ae (pv 1) ag))))) (ak (aL (lE (c_ (pv 2))) (ak (cO T.mJ)) aS))),?_⟩;have ecap:gP b k i.a=if b i.a=true then none else some (iu l):=by unfold gP;rw[O]
 rw[ecap]at C z;obtain⟨hL,rest,rfl,hm⟩:=My.ue az O
 have hc1:My.cnt b i.a (au (.leaf l))=if b i.a=true then 1 else 0:=by
  show(([i.a]:List Nat).filter b).length=_;rw[f_];split<;>rfl
 refine(DG g J λvk rk=>ft (j:=0) g rk (d:=if My.cnt b i.a (au (.leaf l))=0 then .v .aB else jN c b (i.bE false h i.a) (.leaf l) (TL.take (My.cnt b i.a (au (.leaf l))))) (by show(gF c b i false i.a (.cons h (.leaf l) rest) TL)[0]? =_;rw[gF];rfl) λy u=>⟨rfl,?_⟩);rw[hc1]at u;by_cases G:b i.a=true
 ·rw[if_pos G]at u C z;obtain⟨p,dx,gs,rfl,hp,_⟩:=(sC u).nq;refine⟨X,o,l,F,M,rfl,I,L,hky G,g,?_⟩;cases q:risingKeys o with
  |false=>exact(C q)
  |true=>exact(z q)
 ·rw[if_neg G]at u C z;have:=u.val;subst this;obtain⟨oa,U,rfl,hoa,ros⟩:=I.lst_inv;have hlo:U.length=o.length:=by rw[ros.len,kq]
  refine(yY g J λvf rf=>pW g rf λxk rk2=>ft (j:=0) g rk2 (d:=FD c (i.bE false h i.a) (.leaf l)) (by show(bS c i false i.a (.cons h (.leaf l) rest))[0]? =_;rw[bS];rfl) λW Y=>?_);refine⟨oa,_,rfl,.inl (ax.of (g.le _ _ hoa)),?_⟩;rw[hlo];refine⟨l,o.length,W,F,M,rfl,yF hL Y,g,L,?_⟩;cases q:decide (o.length<=iu l)with
  |false=>exact(C q)
  |true=>exact(z q)
end
open My (dD eV fV eE d5 fq i_ gL)
section
theorem af.oO (h:af K H F (A++M)):af K H F M:=by
 induction A with
 |nil=>exact h
 |cons x A b=>exact b h.drop
theorem y8:∀bs:List Bool,aU K F (bs.map V.bl) (bs.map λb=> .v (.bl b))
 |[]=> .nil
 |b::bs=> .cons (.v _) (y8 bs)
theorem vj:∀{fs} {n} {ch},bC fs n ch->fs.list.length<=aG fs
 | .nil,_,_,_=>bR _
 | .cons h k rest,n,ch,w=>by
  have h1:=My.uj k n w.2.2.2.2.2.2.1;have h2:=vj w.2.2.2.2.2.2.2;rw[aG];show rest.list.length+1<=_
  lia
theorem DN (tell)(i)(ch):∀(fs) (a) (TL),(gF c tell i ch a fs TL).length=fs.list.length
 | .nil=>λa TL=>by
  rfl
 | .cons h k rest=>λa TL=>by
  rw[gF,bf,DN tell i ch rest];rfl
inductive vH (K)(c)(n)(vs)(H)(Q:VK)(E:XK):Prop|mk (tell) (vb) (i) (k:Kd) (TL) (cols) (F) (M):vs=[vb]->bB k n->gY i->au k<=1000->eH K c F tell i k TL cols->Rep K F vb (jN c tell i k TL)->((∀x∈cols,reach i.d x=true))->af K H F (cq c TL cols++M)->((dD (br tell k i.a) i.r i.d cols=none->∀H' F',Le F F'->af K H' F' M->E (.ref c.gX) none H'))->((∀v lU,dD (br tell k i.a) i.r i.d cols=some (v,lU)->∀x H' F',Le F F'->af K H' F' (cq c TL lU++M)->Rep K F' x (gE c (d5 (br tell k i.a) v))->Q x H'))->vH K c n vs H Q E
abbrev fP (b:Nat->Bool)(i:FI)(k:Kd):List (List Ent)->Option (Val×List (List Ent)):=λx=>dD (br b k i.a) i.r i.d x
inductive y9 (K)(c)(n)(vs)(H)(Q:VK)(E:XK):Prop|mk (tell) (vb) (i) (k:Kd) (TL) (cols) (F) (M):vs=[vb]->bB k n->gY i->au k<=1000->((i.m= .keyed->(dM k).isSome=true))->eH K c F tell i k TL cols->Rep K F vb (jN c tell i k TL)->((∀x∈cols,x≠[]))->af K H F (cq c TL cols++M)->((fV (fP tell i k) i.m (gP tell k i.a) i.r i.d cols=none->∀H' F',Le F F'->af K H' F' M->E (.ref c.gX) none H'))->((∀o lU,fV (fP tell i k) i.m (gP tell k i.a) i.r i.d cols=some (o,lU)->∀x H' F',Le F F'->af K H' F' (cq c TL lU++M)->Rep K F' x (.lst (cz c (o.map λv=>d5 (br tell k i.a) v)))->Q x H'))->y9 K c n vs H Q E
theorem L5 (m):i_ m=true↔aw m=1:=by cases m<;>simp[i_,aw]
theorem eH.Wr (t:eH K c F tell i k TL cols)(C:gY i)(y:aw i.m=1)(h:∀x∈cols,eQ i.r x=true):∀x∈cols,reach i.d x=true:=λx g=>by
 obtain⟨j,z⟩:=YM g;have I:=t.ok.len;have lt:j<TL.length:=by rw[I];exact(cK.mp z).1
 obtain⟨u,o,_,J⟩:=t.ok.get (eI lt);rw[z]at o;cases o;have b:=h x g;cases x with
 |nil=>cases b
 |cons e es=>
  have b:(e.rep==i.r)=true:=b;have H:e.rep=i.r:=by simpa using b
  have G:TL[j].x∈cF i k:=by
   have:TL[j].x∈c7 tell (cF i k):=by
    rw[<-t.m];exact dY (qj lt)
   exact(mR.mp this).1
  have h1:=C.leaf G y;have h2:=(C.d y).2;have:=(J e aH).lv (by lia) i.d (by rw[H];exact h1);show decide (i.d<=e.defn)=true;simp_all
theorem eH.first (t:eH K c F tell i k TL cols):gL cols<=1000/\cols≠[]:=by
 have h2:=t.tl;have h3:=t.ne;cases h:t.ok with
 |nil=>simp at h2;lia
 |cons a b r=>
  refine⟨?_,by simp⟩;have:=a.le;have:=a.len;show f9 _<=_
  grind
theorem eH.key {g H:List (List Ent)}(t:eH K c F tell i k TL g)(w:bB k n)(e:dM k=some (h,l))(j:tell i.a=true)(G:∀x∈g,reach i.d x=true)(q:dD (br tell k i.a) i.r i.d g=some (v,H)):(∃x,dW v=some x/\gO l x)/\dW (d5 (br tell k i.a) v)=dW v:=by
 refine My.QP w e j G (λx I z o C y u=>?_) q;obtain⟨_,rest,rfl,L⟩:=My.ue w e
 have M:c7 tell (cF i (.group false (.cons h (.leaf l) rest)))=(i.bE false h i.a,l)::c7 tell (da i false (i.a+au (.leaf l)) rest):=by
  rw[cF,da,cF,YN];unfold c7;rw[f_,if_pos (show tell (i.bE false h i.a).a=true from j)]
 have J:=t.m;have az:=t.ok;subst z;cases az with
 |cons a b r=>
  have:=(b o C).good y u;simp_all
theorem Ws (h:cap=none->∀v∈o,dW (g v)=dW v):hX .keyed cap (o.map g)=hX .keyed cap o:=by
 cases cap with
 |none=>exact My.Ba (h rfl)
 |some n=>
  show decide ((o.map g).length<=n)=decide (o.length<=n);simp_all
inductive L6 (tell)(vb)(i)(k)(TL)(M)(vf)(v0)(c0)(F2)(p)(mm)(σ:L2.St)(H'):Prop|mk (vs) (c1:List (List Ent)) (xs) (z) (F'):mm=gL c1->eE (fP tell i k) (eQ i.r) c0=(eE (fP tell i k) (eQ i.r) c1).map (λx=>(vs++x.1,x.2))->vs.length+gL c1<=gL c0->Al Suf c1 c0->Le F2 F'->aU K F' xs (cz c ((v0::vs).map λv=>d5 (br tell k i.a) v))->af K H' F' ((p,.lst xs)::(cq c TL c1++M))->((∀v∈v0::vs,∃cc c',eH K c F2 tell i k TL cc/\(∀x∈cc,reach i.d x=true)/\fP tell i k cc=some (v,c')))->σ=[some vb,some vf,z,some (.ref p)]->L6 tell vb i k TL M vf v0 c0 F2 p mm σ H'
theorem Wt (T:Tx K mg c)(g_take_value:Fn P w K mg base "take_value" (2*n+8) ["branch"] (vH K c n0)):Fn P w K mg base "take_occurrences" (2*n+9) ["branch"] (y9 K c n0):=by
 refine T.fO 103 ["branch","field","track","occurrences"] λf bu A outer s H o Q E nd hr h=>?_;obtain⟨g,vb,i,k,TL,G,F,M,rfl,az,fl,hlv,hkey,L,rb,hne,hH,k1,k2⟩:=h;refine⟨_,(ah (aN 1 (ay (pv 0) rfl)) (ah (aL (lE (c_ (pf (DC T) (ae (nu (own:=[("track",2)]) jj (λ_ _ _ z=>z) rfl nd (fg (ay (pv 0) rfl)) (kU (N:=["branch","field","track","occurrences"]) (sc:=cY (top 103)) (by decide+kernel)) (λ_ _ _ _ _=>(dF 2)) (λ_ _ _ _ _=>nc) (λ_ _ _ _ _ _ pE=>(pm (Wa T) T.gk.1 (pv 2) (ae (oG rfl (pv 1) rfl) ag)))) ag)))) (ak (aC (pf (Wo T) (ae (pv 0) ag)))) aS) (ah (aN 3 (bO (ae (pf g_take_value (ae (pv 0) ag)) ag))) (ah (aL (c_ (pf (yJ T) (ae (ay (pv 1) rfl) ag))) (ak (mx d_ (c_ (pf (DC T) (ae (nu (own:=[("track",2)]) jj (λ_ _ _ z=>z) rfl nd (fg (ay (pv 0) rfl)) (kU (N:=["branch","field","track","occurrences"]) (sc:=cY (top 103)) (by decide+kernel)) (λ_ _ _ _ _=>(dF 2)) (λ_ _ _ _ _=>nc) (λ_ _ _ _ _ _ pE=>(pm (V' T) T.gk.1 (pv 2) (ae (oG rfl (pv 1) rfl) ag)))) ag))) (ak (ba (d9 eU gv gw f6 (pv 3) (ae (pf g_take_value (ae (pv 0) ag)) ag)))))) aS) (ah (aL (aP cy (ay (pv 1) rfl) (aD T.cst.uU)) (ak (ba (pf (Wq T) (ae (pv 0) (ae (pv 3) ag))))) aS) (ak (aC (pv 3)))))))),?_⟩;have hlen:=L.ok.len;obtain⟨hfl,hcn⟩:=L.first;refine(yY hH rb λvf rf=>?_);refine(yZ hH rb λvt rt=>?_);obtain⟨ta,J,rfl,hta,rs⟩:=rt.lst_inv;have hxs:=sE rs;subst hxs
 have hl1:G.length<=1000:=by
  rw[<-hlen,L.tl];unfold My.cnt;have:=ph g (ll i.a (au k));rw[List.length_range']at this
  lia
 refine⟨ta,rfl,⟨_,ax.of (hH.le _ _ hta)⟩,λd hd=>ki (xs:=TL.map λt=>V.ref t.t) (λj H'=>af K H' F ((d,.lst (((G.take j).map (reach i.d)).map V.bl))::(cq c TL G++M))) (hH.cP hd) ?_ ?_ ?_⟩
 ·rintro j H' _ h';exact ax.of (h'.le _ _ hta)
 ·rintro j x H' X h';rw[dB,aX]at X;obtain⟨a,ha,rfl⟩:=X;obtain⟨u,hu,oa,_⟩:=L.ok.get ha;obtain⟨lt,eu⟩:=cK.mp hu;obtain⟨N,hN⟩:=h'.drop.pick ha hu;refine⟨rfl,nA ?_⟩;refine⟨a.t,a.dx,_,rfl,hN.at,rfl,pV h' rf ?_⟩;refine⟨a,i.d,u,F,N,rfl,hne u (gI hu),oa,hN,?_⟩;refine⟨_,h'.at,by rw[bb,bb,gq,bq];lia,?_⟩;have:=h'.eh (ys:=((G.take j).map (reach i.d)).map V.bl++[.bl (reach i.d u)]);rw[i8 lt,dA,dA,eu];exact this
 rintro H1 h1;rw[bb,hlen,iJ]at h1;obtain⟨F1,l1,h1,r1⟩:=h1.bM (y8 _);refine⟨_,G.map (reach i.d),F1,_,rfl,by simpa using hcn,r1,h1,λe=>?_,λb e=>?_⟩
 ·exact k1 (by rw[fV,e]) _ _ l1 h1.oO
 cases b with
 |false=>
  refine⟨g,vb,i,k,TL,G,F1,M,rfl,rb.mono l1,L.ok.mono l1,hne,h1,λx H2 I l2 h2 r2=>k2 [] _ (by rw[fV,e]) x H2 I (l1.trans l2) h2 r2⟩
 |true=>
  have hr0:∀x∈G,reach i.d x=true:=λx X=>My.BD e _ (dY X);refine⟨g,vb,i,k,TL,G,F1,M,rfl,az,fl,hlv,L.mono l1,rb.mono l1,hr0,h1,λe0 H2 I l2 h2=>?_,λv0 U e0 x0 H2 I l2 h2 r0=>?_⟩
  ·refine k1 ?_ _ _ (l1.trans l2) h2;rw[fV,e];dsimp only;rw[show fP g i k G=none from e0]
  have a0:Al lD U G:=L.one _ _ _ L.len hne e0;have l02:=l1.trans l2;have tk0:eH K c I g i k TL U:=(L.mono l02).eK (a0.imp λ_ _ z=>z.eK);refine⟨by show 1<=bH;rw[bq];decide,λp hp=>?_⟩;have h3:=h2.cP (xs:=[x0]) hp;generalize upd H2 p (.lst [x0])=H3 at h3⊢
  have fin:∀(o:List Val) (O:List (List Ent)) (J:List V) (z:Option V) (H4 F4:Hp),(if aw i.m=1 then eE (fP g i k) (eQ i.r) U else some ([],U))=some (o,O)->Le I F4->aU K F4 J (cz c ((v0::o).map λv=>d5 (br g k i.a) v))->o.length<=1000->af K H4 F4 ((p,.lst J)::(cq c TL O++M))->(∀v∈v0::o,∃cc c',eH K c I g i k TL cc/\(∀x∈cc,reach i.d x=true)/\fP g i k cc=some (v,c'))->
   kQ (m8 (my (iE rG (gS K (bg 1) "mode") (tC (.int 37)))) (mw (mB (DM K c) [] E (dr (bg 0) (dr (bg 3) dJ)))) n4) (lF (bg 3)) {nx:=λ_ H'=>Q .aB H',rt:=Q} [some vb,some vf,z,some (.ref p)] H4:=by
   intro o O J z H4 F4 em l4 rs4 hvl h4 hvs
   have epo:fV (fP g i k) i.m (gP g k i.a) i.r i.d G=if hX i.m (gP g k i.a) (v0::o)=true then some (v0::o,O)else none:=by
    rw[fV,e];dsimp only;rw[show fP g i k G=some (v0,U)from e0];dsimp only;rw[em]
   obtain⟨F5,l5,h5,r5⟩:=h4.bM rs4;have l25:=l4.trans l5;have l05:=l02.trans l25;refine(pU h5 (rf.mono l05) ⟨rfl,?_⟩);by_cases Y:i.m= .keyed
   ·rw[Y];have hky:=hkey Y;cases hk:dM k with
    |none=>rw[hk]at hky;cases hky
    |some hl=>
     have hk:dM k=some (hl.1,hl.2):=hk
     have hkk:g i.a=true->∀v∈v0::o,(∃x,dW v=some x/\gO hl.2 x)/\dW (d5 (br g k i.a) v)=dW v:=λht v hv=>by
      obtain⟨cc,c',t1,t2,t3⟩:=hvs v hv;exact t1.key az hk ht t2 t3
     have ek:hX .keyed (gP g k i.a) ((v0::o).map λv=>d5 (br g k i.a) v)=hX .keyed (gP g k i.a) (v0::o):=Ws λhc v hv=>by
      refine(hkk ?_ v hv).2;unfold gP at hc;rw[hk]at hc;dsimp only at hc;split at hc
      ·assumption
      ·cases hc
     refine⟨g,vb,.ref p,i,k,n0,hl.1,hl.2,TL,_,F5,_,rfl,az,hk,rb.mono l05,r5,(by rw[bb,bf];lia),λht v hv=>?_,h5,λeb=>?_,λeb=>?_⟩
     ·obtain⟨v',hv',rfl⟩:=dU.mp hv;obtain⟨⟨x,X,hg⟩,h2⟩:=hkk ht v' hv';exact⟨x,by rw[h2];exact X,hg.1⟩
     ·rw[ek]at eb;exact k1 (by rw[epo,Y,eb];rfl) _ _ l05 h5.oO
     ·rw[ek]at eb;exact(k2 (v0::o) O (by rw[epo,Y,eb];rfl) _ _ _ l05 h5 r5)
   ·have:decide (V.int ((jt i.m:Nat):Int)=V.int 37)=false:=by
     cases q:i.m with
     |one=>rfl
     |opt=>rfl
     |many=>rfl
     |keyed=>exact absurd q Y
    rw[this];refine(k2 (v0::o) O ?_ _ _ _ l05 h5 r5);rw[epo,if_pos];cases q:i.m with
    |keyed=>exact absurd q Y
    |_=>rfl
  have rf2:=rf.mono l02;have rb2:=rb.mono l02;have hta2:=l02 _ _ hta;obtain⟨hfl0,_⟩:=tk0.first;have hc0:U.length=aI (br g k i.a):=tk0.len
  have rs0:aU K I [x0] (cz c ([v0].map λv=>d5 (br g k i.a) v)):=by
   rw[cu,Oo,cz,cz];exact .cons r0 .nil
  have hv0:∀v∈[v0],∃cc c',eH K c I g i k TL cc/\(∀x∈cc,reach i.d x=true)/\fP g i k cc=some (v,c'):=λv hv=>by
   rw[g7.mp hv];exact⟨G,U,L.mono l02,hr0,e0⟩
  refine(pU h3 rf2 ⟨i.m,rfl,?_⟩);refine bG (λY=>?_) λY=>?_
  ·have hm1:aw i.m=1:=(L5 i.m).mp Y
   refine⟨L6 g vb i k TL M vf v0 U I p,
    ⟨_,[],U,[x0],none,I,rfl,by cases eE (fP g i k) (eQ i.r) U<;>rfl,by simp,Al.xy (λa=>⟨[],rfl⟩) _,Le.refl I,rs0,h3,hv0,rfl⟩,?_⟩
   rintro mm σ H' ⟨o,C,J,z,F',rfl,ep,hvl,as1,l',rs1,h',hvs,rfl⟩;have tk1:eH K c I g i k TL C:=tk0.eK as1;have hl1':C.length<=1000:=by rw[as1.len,a0.len];exact hl1
   have hlen1:=tk1.ok.len;have W:=My.HC L.pos (test:=eQ i.r) rfl L.one tk1.len;refine(yZ h' (rb2.mono l') λvt rt1=>?_);obtain⟨ta1,ys,rfl,hta1,rs2⟩:=rt1.lst_inv;have hys:=sE rs2;subst hys;refine⟨ta1,rfl,⟨_,ax.of (h'.le _ _ hta1)⟩,λd1 hd1=>ki (xs:=TL.map λt=>V.ref t.t) (λj H2=>af K H2 F' ((d1,.lst (((C.take j).map (eQ i.r)).map V.bl))::(p,.lst J)::(cq c TL C++M))) (h'.cP hd1) ?_ ?_ ?_⟩
   ·rintro j H2 _ h2;exact ax.of (h2.le _ _ hta1)
   ·rintro j x H2 X h2;rw[dB,aX]at X;obtain⟨a,ha,rfl⟩:=X;obtain⟨u,hu,oa,_⟩:=tk1.ok.get ha;obtain⟨lt,eu⟩:=cK.mp hu;obtain⟨N,hN⟩:=h2.drop.drop.pick ha hu;refine⟨rfl,nA ?_⟩;refine⟨a.t,a.dx,_,rfl,hN.at,rfl,yC h2 (rf2.mono l') ?_⟩;refine⟨a,i.r,u,F',N,rfl,oa.mono l',hN,?_⟩;refine⟨_,h2.at,by rw[bb,bb,gq,bq];lia,?_⟩;have:=h2.eh (ys:=((C.take j).map (eQ i.r)).map V.bl++[.bl (eQ i.r u)]);rw[i8 lt,dA,dA,eu];exact this
   rintro H4 h4;rw[bb,hlen1,iJ]at h4;obtain⟨F5,l5,h5,r5⟩:=h4.bM (y8 _);refine⟨_,C.map (eQ i.r),F5,_,rfl,(λz=>tk1.first.2 (sV.mp z)),r5,h5,λea=>?_,λb ea=>?_⟩
   ·rw[ea]at W;rw[W]at ep;refine k1 ?_ _ _ (l02.trans (l'.trans l5)) h5.drop.oO;rw[fV,e];dsimp only;rw[show fP g i k G=some (v0,U)from e0];dsimp only;rw[if_pos hm1,ep];rfl
   rw[ea]at W;cases b with
   |false=>
    rw[W]at ep;exact(fin o C J z _ F5 (by rw[if_pos hm1,ep];simp) (l'.trans l5) (rs1.mono l5) (by lia) h5 hvs)
   |true=>
    have hgo:∀x∈C,eQ i.r x=true:=λx X=>My.BD ea _ (dY X);have hr1:=tk1.Wr fl hm1 hgo
    have W:eE (fP g i k) (eQ i.r) C=match fP g i k C with
     |none=>none
     |some (v,c)=>(eE (fP g i k) (eQ i.r) c).map λx=>(v::x.1,x.2):=W
    refine⟨_,λσ' H' z=>z,?_⟩;have h5s:af K H4 F5 (cq c TL C++((p,.lst J)::M)):=h5.perm jT.symm;refine⟨⟨rfl,_,ax.of h5.at⟩,g,vb,i,k,TL,C,F5,_,rfl,az,fl,hlv,tk1.mono (l'.trans l5),rb2.mono (l'.trans l5),hr1,h5s,λe1 H6 F6 l6 h6=>?_,λv1 O e1 x1 H6 F6 l6 h6 r6=>?_⟩
    ·rw[show fP g i k C=none from e1]at W;rw[W]at ep;refine k1 ?_ _ _ (l02.trans (l'.trans (l5.trans l6))) h6.drop;rw[fV,e];rw[show fP g i k G=some (v0,U)from e0];dsimp only;rw[if_pos hm1,ep];rfl
    ·rw[show fP g i k C=some (v1,O)from e1]at W;have W:eE (fP g i k) (eQ i.r) C=(eE (fP g i k) (eQ i.r) O).map λx=>(v1::x.1,x.2):=W;have hne1:∀x∈C,x≠[]:=My.uk (test:=eQ i.r) rfl ea;have a1:=L.one _ _ _ tk1.len hne1 e1;have lt1:=My.xB a1 tk1.first.2;have h6p:=h6.perm jT;have hxl:J.length=o.length+1:=by rw[rs1.len,kq,bb,bf]
     refine⟨p,_,_,rfl,rfl,h6p.at,(by rw[hxl,bq];lia),?_⟩;refine⟨gL O,lt1,o++[v1],O,J++[x1],z,F6,rfl,?_,by rw[aQ,fE];lia,(a1.imp λ_ _ z=>z.eK).tr (λ_ _ _ x y=>x.tr y) as1,l'.trans (l5.trans l6),?_,h6p.eh,λv hv=>?_,rfl⟩
     ·rw[ep,W];cases eE (fP g i k) (eQ i.r) O with
      |none=>rfl
      |some z=>simp
     ·rw[<-ir,dA,yG];refine((rs1.mono (l5.trans l6)).app ?_);exact .cons r6 .nil
     ·rw[<-ir]at hv;rcases gm.mp hv with q|q
      ·exact hvs v q
      ·rw[g7.mp q];exact⟨C,O,tk1,hr1,e1⟩
  ·have hm0:¬aw i.m=1:=λz=>by
    rw[(L5 i.m).mpr z]at Y;cases Y
   exact fin [] U [x0] none _ I (by rw[if_neg hm0]) (Le.refl I) rs0 (bR _) h3 hv0
inductive L7 (m)(tell)(vb)(i)(TL)(cols:List (List Ent))(F)(M)(ch)(fs)(p)(j)(σ:L2.St)(H'):Prop|mk (rest) (aj) (TLd TLr) (cd cr:List (List Ent)) (dn fd) (ys) (z) (F'):(gF c tell i ch i.a fs TL).drop j=gF c tell i ch aj rest TLr->bC rest m ch->aG rest<=1000->TL=TLd++TLr->TLd.length=cd.length->TLr.map (·.x)=c7 tell (da i ch aj rest)->eX K c F' TLr cr->((∀x∈cr,x≠[]))->eV (dE tell fs i.a) ch i.r i.d cols=(eV (dE tell rest aj) ch i.r i.d cr).map (λx=>(dn++x.1,cd++x.2))->((∀s,fq (dE tell fs i.a) (dn++s)=fd++fq (dE tell rest aj) s))->fd.length=j->Le F F'->aU K F' ys (eW c fd)->af K H' F' ((p,.lst ys)::(cq c TLd cd++(cq c TLr cr++M)))->σ=[some vb,some (.ref p),z]->L7 m tell vb i TL cols F M ch fs p j σ H'
theorem L8 {spo:Sp}(hN:N=0\/(N=m+1/\spo=y9 K c m))(T:Tx K mg c)(g_take_occurrences:Fn P w K mg base "take_occurrences" (2*n+7) ["branch"] (spo)):Fn P w K mg base "take_value" (2*n+8) ["branch"] (vH K c N):=by
 refine T.fO 102 ["branch","value","part"] λf bu A outer s H vs Q E nd hr h=>?_;obtain⟨b,vb,i,k,TL,cols,F,M,rfl,az,fl,hlv,tk,rb,hre,hH,k1,g⟩:=h;refine⟨_,(ah (aL (c_ (bJ (yI T) T.Field.1 (ay (pv 0) rfl))) (ak (aC (bJ (Wb T) T.gk.1 (d8 dS (ay (pv 0) rfl) aY)))) aS) (ah (aN 1 (bO ag)) (ah (gj d_ rfl (fg (ay (pv 0) rfl)) (dF 2) (ak (ba (d9 eU gv gw f6 (pv 1) (ae (BP (aP xX (pv 2) m7) (bO ag) (pf g_take_occurrences (ae (pv 2) ag))) ag))))) (ah (aL (aP cy (ay (ay (pv 0) rfl) rfl) (aD T.cst.ow)) (ak (ba (pf (Wp T) (ae (pv 0) (ae (pv 1) ag))))) aS) (ak (aC (pv 1))))))),?_⟩;refine(yY hH rb λvf rf=>yE hH rf λa dx gs e=>?_);subst e;refine⟨_,i,k,F,_,rfl,rf,hH,?_⟩;cases k with
 |leaf l=>
  refine(?_);have hl:=tk.len;rw[br,aI]at hl;have hok2:=tk.ok;have hm:=tk.m;cases hok2 with
  |nil=>simp at hl
  | @cons a u TL cols oa eo r=>
   cases r with
   |cons _ _ _=>simp at hl
   |nil=>
    have hu:=hre u aH;cases u with
    |nil=>cases hu
    |cons e u=>
     have hu:i.d<=e.defn:=of_decide_eq_true hu
     have X:a.x=(i,l):=by
      have:a.x∈c7 b (cF i (.leaf l)):=by
       rw[<-hm];exact dY aH
      have:=(mR.mp this).1;rw[cF]at this;exact g7.mp this
     have heo:=eo e aH;rw[X]at heo;have hd:e.defn=i.d:=Nat.le_antisymm heo.le hu;obtain⟨y,hy⟩:=NO.mp (heo.val hd)
     have G:dD (br b (.leaf l) i.a) i.r i.d [e::u]=some (.lit y,[u]):=by
      rw[br];unfold dD;dsimp only;rw[hy];rfl
     refine(yZ hH rb λvt rt=>ft (j:=0) hH rt (d:= .v (.ref a.t)) rfl λyv ry=>?_);have:=ry.val;subst this;refine⟨a.t,a.dx,_,rfl,hH.at,rfl,a,e,u,F,M,rfl,oa,hH,λH' v U rv=>?_⟩;rw[hy]at rv;refine g _ _ G v H' F (Le.refl F) U ?_;rw[br,d5,gE];exact rv
 |group ch fs=>
  refine(?_);unfold bB at az;rcases hN with hN|⟨hN,hspo⟩
  ·have:=az.1
   lia
  subst hspo;subst hN;have hokF:bC fs m ch:=az.2.2;refine⟨bR _,λp hp=>?_⟩;have h1:=hH.cP (xs:=[]) hp;generalize upd H p (.lst [])=H1 at h1⊢;refine(DG h1 rb λvk rk=>?_);obtain⟨ka,ks,rfl,hka,rks⟩:=rk.lst_inv;have rks:aU K F ks (gF c b i ch i.a fs TL):=rks
  have hfsl:fs.list.length<=1000:=by
   rw[au]at hlv;exact eA (vj hokF) hlv
  rw[br]at k1 g
  have hne:∀x∈cols,x≠[]:=λx X z=>by
   have:=hre x X;rw[z]at this;cases this
  refine⟨ka,rfl,⟨_,ax.of (h1.le _ _ hka)⟩,kR (xs:=ks) (L7 m b vb i TL cols F M ch fs p)
   ⟨fs,i.a,[],TL,[],cols,[],[],[],none,F,rfl,hokF,by rw[au]at hlv;exact hlv,rfl,rfl,by have:=tk.m;rw[cF]at this;exact this,tk.ok,hne,by cases eV (dE b fs i.a) ch i.r i.d cols<;>rfl,λs=>rfl,rfl,Le.refl F,by rw[eW];exact .nil,h1,rfl⟩ ?_ ?_ ?_⟩
  ·rintro j σ H' _ ⟨rest,C,TLd,I,J,cr,L,Y,ys,z,F',e1,ok1,lv1,e2,e3,e4,tk1,ne1,G,ef,hfd,l',ry,U,rfl⟩;exact ax.of (U.le _ _ (l' _ _ hka))
  ·rintro j x σ H' X ⟨rest,C,TLd,I,J,cr,L,Y,ys,z,F',e1,ok1,lv1,e2,e3,e4,tk1,ne1,G,ef,hfd,l',ry,U,rfl⟩;obtain⟨d0,hd0,rx⟩:=(rks.mono l').get' X;rw[<-zY,e1]at hd0;have hyl:ys.length=j:=by rw[ry.len,pY,hfd]
   have hjl:j<ks.length:=(cK.mp X).1;have hkl:ks.length=fs.list.length:=by rw[rks.len,DN]
   cases rest with
   |nil=>
    rw[gF]at hd0;cases hd0
   |cons hd g rest=>
    rw[gF]at hd0 e1;have hd0:_=d0:=kz hd0;subst hd0
    have e1':(gF c b i ch i.a fs TL).drop (j+1)=gF c b i ch (C+au g) rest (I.drop (My.cnt b C (au g))):=by
     rw[<-YO,e1];rfl
    unfold bC at ok1;rw[aG]at lv1;rw[da,LQ]at e4;have hcl:(c7 b (cF (i.bE ch hd C) g)).length=My.cnt b C (au g):=vF b (i.bE ch hd C) g;rw[dE]at G
    have ef':∀s,fq (dE b fs i.a) (L++s)=Y++fq (if My.cnt b C (au g)=0 then .skip (dE b rest (C+au g))else .cons hd.mode (gP b g C) (br b g C) (dE b rest (C+au g))) s:=λs=>by
     have:=ef s;rw[dE]at this;exact this
    by_cases q:My.cnt b C (au g)=0
    ·rw[if_pos q]at rx;have:=rx.val;subst this;rw[q]at hcl e1';rw[iq.mp hcl,vT]at e4;rw[zD]at e1';rw[if_pos q,eV]at G;simp only[if_pos q]at ef';refine⟨⟨rfl,_,ax.of U.at⟩,?_⟩;refine⟨rfl,?_⟩;rw[decide_eq_true rfl];refine⟨bR _,λp2 hp2=>?_⟩;obtain⟨W,O,h2,r2⟩:=U.sj hp2 (ds:=[]) .nil;generalize upd H' p2 (.lst [])=H2 at h2⊢;refine⟨p,_,_,rfl,rfl,h2.at,by rw[hyl,bq];lia,?_⟩;refine⟨rest,C+au g,TLd,I,J,cr,L,Y++[[]],ys++[.ref p2],some .aB,W,e1',ok1.2.2.2.2.2.2.2,by lia,e2,e3,e4,tk1.mono O,ne1,G,λs=>?_,by rw[aQ,hfd];rfl,l'.trans O,?_,h2.eh,rfl⟩
     ·rw[ef' s,fq,c9];rfl
     ·rw[vq,eW,eW,cz];exact(ry.mono O).snoc r2
    ·rw[if_neg q]at rx;obtain⟨vp,dxp,gsp,rfl,hvp,_⟩:=(sC rx).nq;simp only[if_neg q]at ef';rw[if_neg q,eV]at G;have hbl:aI (br b g C)=My.cnt b C (au g):=yW b g C q;rw[hbl]at G
     have g1:(I.take (My.cnt b C (au g))).map (·.x)=c7 b (cF (i.bE ch hd C) g):=by
      rw[lg,e4,<-hcl,YQ]
     have g2:(I.drop (My.cnt b C (au g))).map (·.x)=c7 b (da i ch (C+au g) rest):=by
      rw[qo,e4,<-hcl,List.drop_left]
     have tkk:eH K c F' b (i.bE ch hd C) g (I.take (My.cnt b C (au g))) (cr.take (My.cnt b C (au g))):=⟨g1,tk1.take _,q⟩;have hcut:=Wf c (My.cnt b C (au g)) tk1.len
     have hp1:af K H' F' (cq c (I.take (My.cnt b C (au g))) (cr.take (My.cnt b C (au g)))++((p,.lst ys)::(cq c TLd J++(cq c (I.drop (My.cnt b C (au g))) (cr.drop (My.cnt b C (au g)))++M)))):=by
      rw[hcut,c9]at U;exact U.perm (Oq ((p,HO.lst ys)::cq c TLd J) _ _)
     have hnek:∀x∈cr.take (My.cnt b C (au g)),x≠[]:=λx X=>ne1 x (qr X);refine⟨⟨rfl,_,ax.of U.at⟩,?_⟩;refine⟨rfl,?_⟩;rw[decide_eq_false (λz=>by cases z)];refine⟨b,.ref vp,i.bE ch hd C,g,_,_,F',_,rfl,ok1.2.2.2.2.2.2.1,fl.bE ch hd C,by lia,ok1.2.2.2.2.2.1,tkk,rx,hnek,hp1,λe5 H2 W O h2=>?_,λo c1 e5 x2 H2 W O h2 r2=>?_⟩
     ·have e5:fV (λx=>dD (br b g C) (i.r+aw hd.mode) (i.d+defOf ch hd.mode) x) hd.mode (gP b g C) (i.r+aw hd.mode) (i.d+defOf ch hd.mode) (cr.take (My.cnt b C (au g)))=none:=e5;rw[e5]at G;refine k1 ?_ H2 W (l'.trans O) h2.drop.oO.oO;unfold dD;rw[G];rfl
     ·have e5:fV (λx=>dD (br b g C) (i.r+aw hd.mode) (i.d+defOf ch hd.mode) x) hd.mode (gP b g C) (i.r+aw hd.mode) (i.d+defOf ch hd.mode) (cr.take (My.cnt b C (au g)))=some (o,c1):=e5;rw[e5]at G;have ac:Al lD c1 (cr.take (My.cnt b C (au g))):=My.Hy tkk.one tkk.len hnek e5;have hc1:(I.take (My.cnt b C (au g))).length=c1.length:=by rw[ac.len];exact tkk.ok.len
      have hp2:af K H2 W ((p,.lst ys)::(cq c (TLd++I.take (My.cnt b C (au g))) (J++c1)++(cq c (I.drop (My.cnt b C (au g))) (cr.drop (My.cnt b C (au g)))++M))):=by
       rw[y4 c e3,c9];exact h2.perm (Oq _ ((p,HO.lst ys)::cq c TLd J) _)
      refine⟨p,_,_,rfl,rfl,hp2.at,by rw[hyl,bq];lia,?_⟩;refine⟨rest,C+au g,TLd++I.take (My.cnt b C (au g)),I.drop (My.cnt b C (au g)),J++c1,cr.drop (My.cnt b C (au g)),L++[o],Y++[o.map λv=>d5 (br b g C) v],ys++[x2],some (.ref vp),W,e1',ok1.2.2.2.2.2.2.2,by lia,by rw[c9,il];exact e2,by rw[aQ,aQ,e3,hc1],g2,(tk1.drop _).mono O,λx X=>ne1 x (zp X),?_,λs=>?_,by rw[aQ,hfd];rfl,l'.trans O,?_,hp2.eh,rfl⟩
      ·rw[G];dsimp only;cases eV (dE b rest (C+au g)) ch i.r i.d (cr.drop (My.cnt b C (au g)))with
       |none=>rfl
       |some z=>simp
      ·rw[c9,YN,ef' (o::s),fq,c9];rfl
      ·rw[vq,eW,eW];exact(ry.mono O).snoc r2
  ·rintro σ H' ⟨rest,C,TLd,I,J,cr,L,Y,ys,z,F',e1,ok1,lv1,e2,e3,e4,tk1,ne1,G,ef,hfd,l',ry,U,rfl⟩
   have hr0:rest= .nil:=by
    rw[ku (by rw[<-rks.len];exact bA _)]at e1;cases rest with
    |nil=>rfl
    |cons _ _ _=>
     rw[gF]at e1;cases e1
   subst hr0;rw[dE,eV]at G
   have G:eV (dE b fs i.a) ch i.r i.d cols=some (L,J):=by
    rw[G];show some (L++[],J++[])=_;rw[eZ,eZ]
   rw[da]at e4;have hTr:I=[]:=sV.mp e4;subst hTr;have hcr:cr=[]:=iq.mp (by rw[<-tk1.len];rfl);subst hcr;rw[eZ]at e2;subst e2;have ef2:=ef [];rw[eZ,dE,fq,eZ]at ef2;have hshp:=My.xA _ _ _ _ _ _ _ G
   have htk:taken Y=taken L:=by
    rw[<-ef2];exact My.BG _ _ hshp
   have hdl:Y.length<=1000:=by
    rw[hfd];rw[rks.len,DN];exact hfsl
   obtain⟨W,O,h2,r2⟩:=U.bM ry;have l02:=l'.trans O
   have ept:dD (.group ch (dE b fs i.a)) i.r i.d cols=if My.mn ch (dE b fs i.a) L=true then some (.group L,J)else none:=by
    unfold dD;rw[G]
   have fin:My.mn ch (dE b fs i.a) L=true->∀H3 F3,Le W F3->af K H3 F3 (cq c TL J++M)->Q (.ref p) H3:=λhb H3 F3 l3 h3=>by
    refine g _ J (by rw[ept,if_pos hb]) _ H3 F3 (l02.trans l3) h3 ?_;rw[d5,gE,ef2];exact r2.mono l3
   refine(yY h2 (rb.mono l02) λvf2 rf2=>iX h2 rf2 ⟨rfl,?_⟩);cases ch with
   |false=>
    refine(fin rfl _ W (Le.refl W) h2)
   |true=>
    have hbt:My.mn true (dE b fs i.a) L=(decide (taken Y<=1)&&(taken Y==1||fT (dE b fs i.a))):=by
     rw[htk];rfl
    refine⟨b,vb,.ref p,i,fs,TL,Y,W,_,rfl,rb.mono l02,r2,hdl,h2,λhb H3 F3 l3 h3=>?_,λhb H3 F3 l3 h3=>?_⟩
    ·rw[<-hbt]at hb;exact k1 (by rw[ept,if_neg (by rw[hb];decide)]) H3 F3 (l02.trans l3) h3.oO
    ·rw[<-hbt]at hb;exact(fin hb H3 F3 l3 h3)
end
open My (gN)
def inR (i:FI)(k:Kd)(t:TA):Bool:=decide (i.a<=t.x.1.a)&&decide (t.x.1.a<i.a+au k)
theorem DO (i)(k):∀x∈cF i k,i.a<=x.1.a/\x.1.a<i.a+au k:=λx b=>by
 have:x.1.a∈ll i.a (au k):=by
  rw[<-DE]
  grind
 simp_all
theorem Wu (i)(ch)(a)(fs):∀x∈da i ch a fs,a<=x.1.a/\x.1.a<a+aG fs:=λx b=>by
 have:x.1.a∈ll a (aG fs):=by
  rw[<-yV];exact dY (f:=λx:FI×bN=>x.1.a) b
 simp_all
theorem Ww {k:Kd}{A B:List TA}(y:∀t∈A,t.x.1.a<aj)(o:B.map (·.x)=c7 tell (da i ch aj (.cons h k rest))):
 (A++B).filter (inR (i.bE ch h aj) k)=B.take (My.cnt tell aj (au k))/\(B.take (My.cnt tell aj (au k))).map (·.x)=c7 tell (cF (i.bE ch h aj) k)/\(B.drop (My.cnt tell aj (au k))).map (·.x)=c7 tell (da i ch (aj+au k) rest):=by
 rw[da,LQ]at o;have u:(c7 tell (cF (i.bE ch h aj) k)).length=My.cnt tell aj (au k):=vF tell (i.bE ch h aj) k
 have j:(B.take (My.cnt tell aj (au k))).map (·.x)=c7 tell (cF (i.bE ch h aj) k):=by
  simp_all
 have g:(B.drop (My.cnt tell aj (au k))).map (·.x)=c7 tell (da i ch (aj+au k) rest):=by
  simp_all
 refine⟨?_,j,g⟩
 have f1:A.filter (inR (i.bE ch h aj) k)=[]:=o7.mpr λt b=>by
  show¬(decide (aj<=_)&&_)=true
  grind
 have f2:(B.take (My.cnt tell aj (au k))).filter (inR (i.bE ch h aj) k)=B.take (My.cnt tell aj (au k)):=Ou.mpr λt b=>by
  have:t.x∈c7 tell (cF (i.bE ch h aj) k):=by
   rw[<-j];exact dY b
  have:=DO _ k t.x (mR.mp this).1;unfold inR;simp_all
 have C:(B.drop (My.cnt tell aj (au k))).filter (inR (i.bE ch h aj) k)=[]:=o7.mpr λt b=>by
  have:t.x∈c7 tell (da i ch (aj+au k) rest):=by
   rw[<-g];exact dY b
  have:=Wu _ _ _ _ t.x (mR.mp this).1;unfold inR;rw[dZ];intro z;have:=of_decide_eq_true z.2;have:t.x.1.a<aj+au k:=this
  lia
 conv=>lhs;rw[<-il (My.cnt tell aj (au k)) B]
 grind
section
def k6 (K:aW)(c:Cs)(F:Hp)(M:List (ai×HO))(TL:List TA):Prop:=∀t∈TL,∃u,t.cell c u∈M/\t.Ok K c F u
theorem k6.mono (h:k6 K c F M TL)(l:Le F G):k6 K c G M TL:=λt b=>by
 obtain⟨u,h1,h2⟩:=h t b;exact⟨u,h1,h2.mono l⟩
theorem k6.cons {F}{M}{TL}(h:k6 K c F M TL)(x):k6 K c F (x::M) TL:=λt b=>by
 obtain⟨u,h1,h2⟩:=h t b;exact⟨u,aR _ h1,h2⟩
theorem k6.sub (h:k6 K c F M TL)(s:∀t∈TL',t∈TL):k6 K c F M TL':=λt b=>h t (s t b)
theorem af.mem (h:af K H F M)(b:x∈M):∃N,af K H F (x::N):=by
 obtain⟨A,B,rfl⟩:=List.append_of_mem b;exact⟨_,h.perm jT⟩
inductive sF (K)(c)(n)(vs)(H)(Q:VK)(E:XK):Prop|mk (tell) (vf vt) (i) (k:Kd) (TL) (F) (M):vs=[vf,vt]->bB k n->au k<=1000->TL.length<=1000->Rep K F vf (FD c i k)->Rep K F vt (p_ TL)->(TL.filter (inR i k)).map (·.x)=c7 tell (cF i k)->k6 K c F M TL->af K H F M->(∀x H' F',Le F F'->af K H' F' M->Rep K F' x (if My.cnt tell i.a (au k)=0 then .v .aB else jN c tell i k (TL.filter (inR i k)))->Q x H')->sF K c n vs H Q E
theorem DP:∀TL:List TA,aU K F (TL.map λt=>V.ref t.t) (TL.map λt=> .v (.ref t.t))
 |[]=> .nil
 |t::TL=> .cons (.v _) (DP TL)
inductive L9 (m)(tell)(i)(M)(F2)(TW)(ch)(fs)(d3)(j)(H'):Prop|mk (rest) (aj) (A B) (pre) (ys) (F'):(bS c i ch i.a fs).drop j=bS c i ch aj rest->bC rest m ch->aG rest<=1000->TW=A++B->((∀t∈A,t.x.1.a<aj))->B.map (·.x)=c7 tell (da i ch aj rest)->gF c tell i ch i.a fs TW=pre++gF c tell i ch aj rest B->pre.length=j->aU K F' ys pre->Le F2 F'->af K H' F' ((d3,.lst ys)::M)->L9 m tell i M F2 TW ch fs d3 j H'
theorem L_ {spo:Sp}(hN:N=0\/(N=m+1/\spo=sF K c m))(T:Tx K mg c)(g_grow_branch:Fn P w K mg base "grow_branch" (2*n+4) ["field","tracks"] (spo)):Fn P w K mg base "grow_branch" (2*n+6) ["field","tracks"] (sF K c N):=by
 refine T.fO 99 ["field","tracks","within","track","part"] λf bu A outer s H vs Q E nd hr h=>?_;obtain⟨I,vf,vt,i,k,TL,F,M,rfl,az,hlv,hTL,rf,rt,hx,tin,hH,q⟩:=h;refine⟨_,(ah (aN 2 (nu (own:=[("track",3)]) jj (λ_ _ _ z=>z) rfl nd (fg (pv 1)) (kU (N:=["field","tracks","within","track","part"]) (sc:=cY (top 99)) (by decide+kernel)) (λ_ _ _ _ _=>(dF 3)) (λ_ _ _ _ _=>(Ck (IC jF jf (oG rfl (pv 0) rfl) (oG rfl (oG rfl (pv 3) rfl) rfl) (oG rfl (pv 0) rfl)))) (λ_ _ _ _ _ _ pE=>(pv 3)))) (ah (aL (aP cy (cM cE (by rfl) T.cst.len cT (ae (pv 2) ag)) aY) (ak (aC m7)) aS) (ak (aC (pk (V_ T) (ae (pv 0) (ae (pv 2) (ae (nu (own:=[("part",4)]) jj (λ_ _ _ z=>z) rfl nd (fg (ay (pv 0) rfl)) (kU (N:=["field","tracks","within","track","part"]) (sc:=cY (top 99)) (by decide+kernel)) (λ_ _ _ _ _=>(dF 4)) (λ_ _ _ _ _=>nc) (λ_ _ _ _ _ _ pE=>(pf g_grow_branch (ae (pv 4) (ae (pv 2) ag))))) ag)))))))),?_⟩;obtain⟨ta,xs,rfl,hta,rs⟩:=rt.lst_inv;have hxs:=sE rs;subst hxs;have hlw:(TL.filter (inR i k)).length=My.cnt I i.a (au k):=by rw[<-vF I i k,<-hx,bb]
 refine⟨ta,rfl,⟨_,ax.of (hH.le _ _ hta)⟩,λd hd=>ki (xs:=TL.map λt=>V.ref t.t) (λj o=>af K o F ((d,.lst (((TL.take j).filter (inR i k)).map λt=>V.ref t.t))::M)) (hH.cP hd) ?_ ?_ ?_⟩
 ·rintro j o _ g;exact ax.of (g.le _ _ hta)
 ·rintro j x o hxj g;rw[dB,aX]at hxj;obtain⟨t,ht,rfl⟩:=hxj;obtain⟨lt,et⟩:=cK.mp ht;obtain⟨u,hu,ot⟩:=tin t (gI ht);obtain⟨N,hN2⟩:=g.drop.mem hu
  have ef:(TL.take (j+1)).filter (inR i k)=(TL.take j).filter (inR i k)++(if inR i k t=true then[t]else[]):=by
   rw[i8 lt,oZ,et,f_,NF]
  refine⟨rfl,yD g rf (rM hN2 (V8 _ _ _) (yD g ot.f ⟨_,_,rfl,rfl,_,rfl,?_⟩))⟩
  have fin:∀b:Bool,b=inR i k t->if b=true then bg 3 [some vf,some (.ref ta),none,some (.ref t.t),none] o (λy H4=>∃acc,H4 d=some (.lst acc)/\acc.length<bH/\af K (upd H4 d (.lst (acc++[y]))) F ((d,.lst (((TL.take (j+1)).filter (inR i k)).map λt=>V.ref t.t))::M))else af K o F ((d,.lst (((TL.take (j+1)).filter (inR i k)).map λt=>V.ref t.t))::M):=by
   intro b hb;rw[ef,<-hb];cases b with
   |true=>
    refine⟨_,g.at,?_,?_⟩
    ·rw[bb,bq];have:=ph (inR i k) (TL.take j);rw[gq]at this
     lia
    ·rw[if_pos rfl,dA];exact g.eh
   |false=>
    rw[if_neg (by decide),if_neg (by decide),eZ];exact g
  unfold inR at fin;by_cases q1:i.a<=t.x.1.a
  ·rw[decide_eq_true (show(i.a:Int)<=(t.x.1.a:Int) by lia)];refine(Ki g rf ⟨_,_,rfl,rfl,?_⟩);refine fin _ ?_;rw[decide_eq_true q1,wm,lh];simp
   lia
  ·rw[decide_eq_false (show¬(i.a:Int)<=(t.x.1.a:Int) by lia)];rw[if_neg dX];refine fin false ?_;rw[decide_eq_false q1,mU]
 ·rintro H1 h1;rw[bb,iJ]at h1;refine⟨d,_,rfl,.inl (ax.of h1.at),rfl,?_⟩;rw[bb,hlw];by_cases q0:My.cnt I i.a (au k)=0
  ·rw[decide_eq_true (by rw[q0];rfl)];refine(q .aB H1 F (Le.refl F) h1.drop ?_);rw[if_pos q0];exact .v _
  rw[decide_eq_false (λz=>q0 (by injection z with z;lia))];obtain⟨G,l2,h2,r2⟩:=h1.bM (DP _);have r2:Rep K G (.ref d) (p_ (TL.filter (inR i k))):=r2;have hTW:(TL.filter (inR i k)).length<=1000:=eA (ph _ _) hTL;have tin2:k6 K c G M (TL.filter (inR i k)):=(tin.mono l2).sub λt ht=>(mR.mp ht).1;generalize TL.filter (inR i k)=TW at*;refine(pW h2 (rf.mono l2) λxk rk=>?_);obtain⟨ka,ks,rfl,hka,W⟩:=rk.lst_inv
  have fin:∀(C:List V) (O:ai) (L F3:Hp),Le G F3->aU K F3 C (yX c I i k TW)->af K L F3 ((O,.lst C)::M)->∀y J,L y=none->L J=none->J≠y->∀X:XK,pT K c.ij "field" "tracks" "branches" [.ref y,vf,.ref d,.ref O] (upd (upd L J (.own y)) y (.ins c.ij J [])) (λv o=>v= .aB/\Q (.ref y) o) X:=by
   intro C O L F3 l3 ry h3 y J ny ndy ney _;obtain⟨F4,l4,h4,r4⟩:=h3.bM ry;refine⟨y,J,_,_,_,F4,_,rfl,h4.make ny ndy ney T.ij.1,λH5 h5=>⟨rfl,?_⟩⟩;have l24:=l3.trans l4;obtain⟨F6,l6,h6,r6⟩:=h5.lL (.cons (rf.mono (l2.trans l24)) (.cons (r2.mono l24) (.cons r4 .nil)));refine q _ _ F6 (l2.trans (l24.trans l6)) h6 ?_;rw[if_neg q0,LR];exact r6
  cases k with
  |leaf l=>
   have W:aU K G ks []:=W;cases W;refine⟨ka,rfl,⟨_,ax.of (h2.le _ _ hka)⟩,λO hd3=>ki (xs:=[]) (λj o=>af K o G ((O,.lst [])::M)) (h2.cP hd3) ?_ ?_ ?_⟩
   ·rintro j o _ g;exact ax.of (g.le _ _ hka)
   ·rintro j x o hx;simp at hx
   ·rintro L h3;exact λy J ny ndy ney=>fin [] O L G (Le.refl G) .nil h3 y J ny ndy ney _
  |group ch fs=>
   unfold bB at az;rcases hN with hN|⟨hN,hspo⟩
   ·have:=az.1
    lia
   subst hspo;subst hN;have hokF:=az.2.2;have W:aU K G ks (bS c i ch i.a fs):=W
   have hkl:ks.length<=1000:=by
    rw[W.len,p0];exact eA (vj hokF) hlv
   refine⟨ka,rfl,⟨_,ax.of (h2.le _ _ hka)⟩,λO hd3=>ki (xs:=ks) (L9 m I i M G TW ch fs O)
    ⟨fs,i.a,[],TW,[],[],G,rfl,hokF,hlv,rfl,(λt ht=>by cases ht),hx,rfl,rfl,.nil,Le.refl G,h2.cP hd3⟩ ?_ ?_ ?_⟩
   ·rintro j o _ ⟨rest,U,A,B,pre,C,F',e1,ok1,lv1,e2,hA,hB,e3,hpre,ry,Y,g⟩;exact ax.of (g.le _ _ (Y _ _ hka))
   ·rintro j x o hxj ⟨rest,U,A,B,pre,C,F',e1,ok1,lv1,e2,hA,hB,e3,hpre,ry,Y,g⟩;obtain⟨d0,hd0,rx⟩:=(W.mono Y).get' hxj;rw[<-zY,e1]at hd0;have hjl:=(cK.mp hxj).1;cases rest with
    |nil=>
     cases hd0
    |cons hd k2 rest=>
     obtain⟨f1,f2,f3⟩:=Ww hA hB;have hd0:=kz hd0;subst hd0;rw[aG]at lv1
     have e1':(bS c i ch i.a fs).drop (j+1)=bS c i ch (U+au k2) rest:=by
      rw[<-YO,e1];rfl
     refine⟨rfl,nA ?_⟩;refine⟨I,x,.ref d,i.bE ch hd U,k2,TW,F',_,rfl,ok1.2.2.2.2.2.2.1,by lia,hTW,rx,r2.mono Y,by rw[e2,f1];exact f2,(tin2.mono Y).cons _,g,λy L F3 l3 h3 r3=>?_⟩;rw[e2,f1]at r3;have hyl:C.length=j:=by rw[ry.len,hpre]
     refine⟨C,h3.at,by rw[hyl,bq];lia,rest,U+au k2,A++B.take (My.cnt I U (au k2)),B.drop (My.cnt I U (au k2)),pre++[_],C++[y],F3,e1',ok1.2.2.2.2.2.2.2,by lia,by rw[c9,il];exact e2,λt ht=>?_,f3,by rw[e3,c9];rfl,by rw[aQ,hpre];rfl,(ry.mono l3).snoc r3,Y.trans l3,h3.eh⟩;rcases gm.mp ht with z|z
     ·have:=hA t z
      lia
     ·have:t.x∈c7 I (cF (i.bE ch hd U) k2):=by
       rw[<-f2];exact dY z
      exact(DO _ k2 t.x (mR.mp this).1).2
   ·rintro L ⟨rest,U,A,B,pre,C,F',e1,ok1,lv1,e2,hA,hB,e3,hpre,ry,Y,g⟩
    have hr0:rest= .nil:=by
     refine su (i:=i) (ch:=ch) (a:=U) ?_;rw[<-e1,ku (by rw[<-W.len];exact bA _)]
    subst hr0;rw[gF,eZ]at e3;exact λy J ny ndy ney=>fin C O L F' Y (by show aU K F' C (gF c I i ch i.a fs TW);rw[e3];exact ry) g y J ny ndy ney _
end
open My (iP)
section
inductive Ma (K)(c)(vs)(H)(Q:VK)(E:XK):Prop|mk (tell) (vr vc) (fs) (zs) (F) (M):vs=[vr,vc]->iP fs->Rep K F vr (FD c FI.root (.group false fs))->Rep K F vc (.lst (zs.map (jG c)))->zs.map (·.1)=c7 tell (LV fs)->zs≠[]->((∀z∈zs,z.2.length<=1000/\∀e∈z.2,oN z.1 e))->af K H F M->((gN (br tell (.group false fs) 0) (zs.map (·.2))=none->∀H' F',Le F F'->af K H' F' M->E (.ref c.gX) none H'))->((∀vs c',gN (br tell (.group false fs) 0) (zs.map (·.2))=some (vs,c')->∀x H' F',Le F F'->af K H' F' M->Rep K F' x (.lst (cz c (vs.map λv=>d5 (br tell (.group false fs) 0) v)))->Q x H'))->Ma K c vs H Q E
theorem Wx (TL)(cols)(t)(u)(M)(h:TL.length=cols.length):(t.cell c u::(cq c TL cols++M)).Perm (cq c (TL++[t]) (cols++[u])++M):=by
 rw[y4 c h,c9];exact jT.symm
theorem eX.snoc:∀{TL} {g} {t} {u},eX K c F TL g->t.Ok K c F u->(∀e∈u,oN t.x e)->eX K c F (TL++[t]) (g++[u])
 |_,_,_,_,.nil,a,b=> .cons a b .nil
 |_,_,_,_,.cons x y r,a,b=> .cons x y (r.snoc a b)
theorem Mb:∀{TL} {g},eX K c F TL g->k6 K c F (cq c TL g++M) TL
 |_,_,.nil,t,b=>by cases b
 |_,_,.cons (a:=a) (u:=u) x y r,t,b=>by
  rcases cj.mp b with q|q
  ·rw[q];exact⟨u,aH,x⟩
  ·obtain⟨v,h1,h2⟩:=Mb (M:=M) r t q;exact⟨v,aR _ h1,h2⟩
theorem Mc (T:Tx K mg c):∀n,Fn P w K mg base "take_value" (2*n+8) ["branch"] (vH K c n)
 |0=>L8 (n:=0) (N:=0) (m:=0) (spo:=λ_ _ _ _=>False) (.inl rfl) T (T.nv 103 λ_ _ _ _ h=>h)
 |n+1=>L8 (n:=n+1) (N:=n+1) (m:=n) (spo:=y9 K c n) (.inr ⟨rfl,rfl⟩) T (Wt (n:=n) (n0:=n) T (Mc T n))
theorem Wy (T:Tx K mg c):Fn P w K mg base "take_value" (20) ["branch"] (vH K c 6):=Mc T 6
theorem Md (T:Tx K mg c):∀n,Fn P w K mg base "grow_branch" (2*n+6) ["field","tracks"] (sF K c n)
 |0=>L_ (n:=0) (N:=0) (m:=0) (spo:=λ_ _ _ _=>False) (.inl rfl) T (T.nv 99 λ_ _ _ _ h=>h)
 |n+1=>L_ (n:=n+1) (N:=n+1) (m:=n) (spo:=sF K c n) (.inr ⟨rfl,rfl⟩) T (Md T n)
theorem Wz (T:Tx K mg c):Fn P w K mg base "grow_branch" (18) ["field","tracks"] (sF K c 6):=Md T 6
inductive Me (zs:List ((FI×bN)×List Ent))(F)(M)(d)(j)(H'):Prop|mk (TL) (F'):Le F F'->TL.map (λt=>(t.x,t.es))=zs.take j->eX K c F' TL (TL.map (·.es))->af K H' F' ((d,.lst (TL.map λt=>V.ref t.t))::(cq c TL (TL.map (·.es))++M))->Me zs F M d j H'
inductive Mf (tell)(vr)(fs)(zs:List ((FI×bN)×List Ent))(M)(ca d)(TL)(vb)(F3)(p)(one:List (List Ent)->Option (Val×List (List Ent)))(tst:List Ent->Bool)(mm)(σ:L2.St)(H'):Prop|mk (vs) (c1:List (List Ent)) (ys) (z6) (F'):mm=gL c1->eE one tst (zs.map (·.2))=(eE one tst c1).map (λx=>(vs++x.1,x.2))->vs.length+gL c1<=gL (zs.map (·.2))->Al Suf c1 (zs.map (·.2))->Le F3 F'->aU K F' ys (cz c (vs.map λv=>d5 (br tell (.group false fs) 0) v))->af K H' F' ((p,.lst ys)::(cq c TL c1++M))->σ=[some vr,some (.ref ca),some (.ref d),none,some vb,some (.ref p),z6]->Mf tell vr fs zs M ca d TL vb F3 p one tst mm σ H'
theorem Mg (T:Tx K mg c):Fn P w K mg base "assemble_rows" (21) ["record","columns"] (Ma K c):=by
 refine T.fo 100 ["record","columns","tracks","column","branch","values","track"] λH X nd hr h=>?_;obtain⟨o,vr,vc,fs,G,F,M,rfl,so,rr,rc,hz,hzn,hzo,hH,k1,k2⟩:=h;refine⟨_,(ah (CS (i:=2) (own:=[("column",3)]) jj (λ_ _ _ z=>z) rfl nd rfl rfl (Cn rfl rfl rfl rfl) (fg (pv 1)) (kU (N:=["record","columns","tracks","column","branch","values","track"]) (sc:=cY (top 100)) (by decide+kernel)) (λ_ _ _ _ _=>(dF 3)) (λ_ _ _ _ _=>nc) (λ_ _ _ _ _ _ pE=>(pk (V9 T) (ae (pv 3) ag)))) (ah (aN 4 (pf (Wz T) (ae (pv 0) (ae (pv 2) ag)))) (ah (aN 5 (bO ag)) (ah (mx d_ (c_ (pf (DC T) (ae (nu (own:=[("track",6)]) jj (λ_ _ _ z=>z) rfl nd (fg (pv 2)) (kU (N:=["record","columns","tracks","column","branch","values","track"]) (sc:=cY (top 100)) (by decide+kernel)) (λ_ _ _ _ _=>(dF 6)) (λ_ _ _ _ _=>nc) (λ_ _ _ _ _ _ pE=>(bJ (LI T) T.gk.1 (pv 6)))) ag))) (ak (ba (d9 eU gv gw f6 (pv 5) (ae (pf (Wy T) (ae (pv 4) ag)) ag))))) (ak (aC (pv 5))))))),?_⟩
 have h6:bB (.group false fs) 6:=by
  unfold bB;exact⟨by decide,so.ne,so.ok⟩
 have hzl:G.length<=40:=by
  have:=congrArg f9 hz;rw[bb]at this;have h2:=ph (λx:FI×bN=>o x.1.a) (LV fs);rw[y6]at h2;have h3:=so.lv;unfold c7 at this
  lia
 obtain⟨ca,xs,rfl,hca,rs⟩:=rc.lst_inv;have hxl:xs.length=G.length:=by rw[rs.len,bb]
 refine⟨ca,rfl,⟨_,ax.of (hH.le _ _ hca)⟩,λd hd=>ki (xs:=xs) (Me G F M d)
  ⟨[],F,Le.refl F,rfl,.nil,hH.cP hd⟩ ?_ ?_ ?_⟩
 ·rintro j H' _ ⟨TL,U,I,C,tl,h'⟩;exact ax.of (h'.le _ _ (I _ _ hca))
 ·rintro j x H' hx ⟨TL,U,I,C,tl,h'⟩;obtain⟨d0,hd0,rx⟩:=(rs.mono I).get' hx;rw[dB,aX]at hd0;obtain⟨z,hzj,rfl⟩:=hd0;obtain⟨lt,ez⟩:=cK.mp hzj;obtain⟨z1,z2⟩:=hzo z (gI hzj);refine⟨rfl,nA ?_⟩;refine(λy dy ny ndy ney=>⟨y,dy,x,z,U,_,rfl,rx,h'.make ny ndy ney T.gk.1,λH2 fv ev rfv rev h2=>⟨rfl,?_⟩⟩)
  have hTl:TL.length=j:=by
   have:=congrArg f9 C;rw[bb,gq]at this
   lia
  have h2:af K H2 U ((⟨y,dy,fv,ev,z.1,z.2⟩:TA).cell c z.2::(d,.lst (TL.map λt=>V.ref t.t))::(cq c TL (TL.map (·.es))++M)):=by
   show af K H2 U ((y,.ins c.gk dy (sA fv ev ((z.2.length-z.2.length:Nat):Int)))::_);rw[qu];exact h2
  refine⟨_,h2.dv,by rw[bb,hTl,bq];lia,TL++[⟨y,dy,fv,ev,z.1,z.2⟩],U,I,?_,?_,?_⟩
  ·rw[dA,C,i8 lt,ez];rfl
  ·rw[dA];exact tl.snoc ⟨rfv,rev,⟨[],rfl⟩,z1⟩ z2
  ·have:=h2.sw.eh (ys:=(TL.map λt=>V.ref t.t)++[V.ref y]);rw[dA,dA];exact this.perm ((Wx TL (TL.map (·.es)) _ _ M (by rw[bb])).cons _)
 ·rintro H1 ⟨TL,F1,l1,C,tl,h1⟩;rw[hxl,iJ]at C
  have ex:TL.map (·.x)=c7 o (LV fs):=by
   rw[<-hz,<-C,bZ];rfl
  have ee:TL.map (·.es)=G.map (·.2):=by
   rw[<-C,bZ];rfl
  rw[ee]at tl h1;obtain⟨F2,l2,h2,r2⟩:=h1.bM (DP TL)
  have hTl:TL.length=G.length:=by
   have:=congrArg f9 C;rw[bb]at this;exact this
  have hall:TL.filter (inR FI.root (.group false fs))=TL:=Ou.mpr λt ht=>by
   have:t.x∈c7 o (LV fs):=by
    rw[<-ex];exact dY ht
   have:=DO FI.root (.group false fs) t.x (mR.mp this).1;unfold inR;rw[decide_eq_true this.1,decide_eq_true this.2];rfl
  have hlv:au (.group false fs)<=1000:=by
   rw[au];have:=so.lv
   lia
  have hcn:My.cnt o 0 (au (.group false fs))≠0:=by
   have:=vF o FI.root (.group false fs);have h0:FI.root.a=0:=rfl;rw[h0]at this;rw[<-this];have:=congrArg f9 ex;rw[bb]at this;unfold LV at this;rw[<-this,hTl];exact λz=>hzn (iq.mp z)
  refine⟨o,vr,.ref d,FI.root,.group false fs,TL,F2,_,rfl,h6,hlv,by lia,rr.mono (l1.trans l2),r2,by rw[hall];exact ex,Mb (tl.mono l2),h2,λvb H3 F3 l3 h3 rb=>?_⟩;have rb:Rep K F3 vb (if My.cnt o 0 (au (.group false fs))=0 then .v .aB else jN c o FI.root (.group false fs) (TL.filter (inR FI.root (.group false fs)))):=rb;rw[if_neg hcn,hall]at rb;refine⟨bR _,λp hp=>?_⟩;have h4:=h3.cP (xs:=[]) hp;generalize upd H3 p (.lst [])=H4 at h4⊢;have tk0:eH K c F3 o FI.root (.group false fs) TL (G.map (·.2)):=⟨ex,(tl.mono l2).mono l3,hcn⟩
  obtain⟨hd1,hd2,hd3⟩:∃xs2,F2 d=some (.lst xs2)/\xs2=TL.map λt=>V.ref t.t:=by
   obtain⟨d',xs2,e2,h2',rs2⟩:=r2.lst_inv;cases e2;exact⟨xs2,h2',sE rs2⟩
  subst hd3;have hF3:F3 d=some (.lst (TL.map λt=>V.ref t.t)):=l3 _ _ hd2;have l03:=l1.trans (l2.trans l3);let one:=fP o FI.root (.group false fs);let k:List Ent->Bool:=λl=> !l.isEmpty;have hrw:gN (br o (.group false fs) 0) (G.map (·.2))=eE one k (G.map (·.2)):=rfl;rw[hrw]at k1 k2;obtain⟨hfl0,hcn0⟩:=tk0.first
  refine⟨Mf o vr fs G M ca d TL vb F3 p one k,
   ⟨_,[],G.map (·.2),[],none,F3,rfl,by cases eE one k (G.map (·.2))<;>rfl,by simp,Al.xy (λa=>⟨[],rfl⟩) _,Le.refl F3,by rw[Oo,cz];exact .nil,h4,rfl⟩,?_⟩
  rintro mm σ H' ⟨X,g,ys,z6,U,rfl,O,hvl,as1,I,rs1,h',rfl⟩;have L:eH K c U o FI.root (.group false fs) TL g:=(tk0.mono I).eK as1;have hlen1:=L.ok.len;have hl1:g.length<=1000:=by rw[<-hlen1,hTl];lia
  have J:=My.HC L.pos (test:=k) rfl L.one L.len;have hdF:=I _ _ hF3;refine⟨d,rfl,⟨_,ax.of (h'.le _ _ hdF)⟩,λd1 hd1=>ki (xs:=TL.map λt=>V.ref t.t) (λj H2=>af K H2 U ((d1,.lst (((g.take j).map k).map V.bl))::(p,.lst ys)::(cq c TL g++M))) (h'.cP hd1) ?_ ?_ ?_⟩
  ·rintro j H2 _ h2;exact ax.of (h2.le _ _ hdF)
  ·rintro j x H2 hx h2;rw[dB,aX]at hx;obtain⟨a,ha,rfl⟩:=hx;obtain⟨u,hu,oa,_⟩:=L.ok.get ha;obtain⟨lt,eu⟩:=cK.mp hu;obtain⟨N,hN⟩:=h2.drop.drop.pick ha hu;refine⟨rfl,nA ?_⟩;refine⟨a.t,a.dx,_,rfl,hN.at,rfl,a,u,U,N,rfl,oa,hN,?_⟩;refine⟨_,h2.at,by rw[bb,bb,gq,bq];lia,?_⟩;have:=h2.eh (ys:=((g.take j).map k).map V.bl++[.bl (!u.isEmpty)]);rw[i8 lt,dA,dA,eu];exact this
  rintro H5 h5;rw[bb,hlen1,iJ]at h5;obtain⟨F5,W,h5,r5⟩:=h5.bM (y8 _);refine⟨_,g.map k,F5,_,rfl,(λz=>L.first.2 (sV.mp z)),r5,h5,λea=>?_,λb ea=>?_⟩
  ·rw[ea]at J;rw[show eE one k g=none from J]at O;exact k1 O _ _ (l03.trans (I.trans W)) h5.drop.oO
  rw[ea]at J;cases b with
  |false=>
   rw[show eE one k g=some ([],g)from J]at O
   have O:eE one k (G.map (·.2))=some (X,g):=by
    rw[O];show some (X++[],g)=_;rw[eZ]
   obtain⟨F6,Y,h6,r6⟩:=h5.bM (rs1.mono W);exact(k2 X g O _ _ F6 (l03.trans (I.trans (W.trans Y))) h6.oO r6)
  |true=>
   have hne1:∀x∈g,x≠[]:=My.uk (test:=k) rfl ea
   have hr1:∀x∈g,reach FI.root.d x=true:=λx hx=>by
    have:=hne1 x hx;cases x with
    |nil=>exact absurd rfl this
    |cons e es=>exact(decide_eq_true (bR e.defn):decide (0<=e.defn)=true)
   have J:eE one k g=match one g with
    |none=>none
    |some (v,c)=>(eE one k c).map λx=>(v::x.1,x.2):=J
   refine⟨_,λσ' H' z=>z,?_⟩;have h5s:=h5.perm jT.symm;refine⟨⟨rfl,_,ax.of h5.at⟩,o,vb,FI.root,.group false fs,TL,g,F5,_,rfl,h6,gY.root,hlv,L.mono W,rb.mono (I.trans W),hr1,h5s,λC H6 F6 Y h6=>?_,λv1 c2 C x1 H6 F6 Y h6 r6=>?_⟩
   ·rw[show one g=none from C]at J;rw[show eE one k g=none from J]at O;exact k1 O _ _ (l03.trans (I.trans (W.trans Y))) h6.drop
   ·rw[show one g=some (v1,c2)from C]at J;have J:eE one k g=(eE one k c2).map λx=>(v1::x.1,x.2):=J;have a1:=L.one _ _ _ L.len hne1 C;have lt1:=My.xB a1 L.first.2;have h6p:=h6.perm jT;have hyl:ys.length=X.length:=by rw[rs1.len,kq,bb]
    refine⟨p,_,_,rfl,rfl,h6p.at,(by rw[hyl,bq];lia),?_⟩;refine⟨gL c2,lt1,X++[v1],c2,ys++[x1],z6,F6,rfl,?_,by rw[aQ,fE];lia,(a1.imp λ_ _ z=>z.eK).tr (λ_ _ _ x y=>x.tr y) as1,I.trans (W.trans Y),?_,h6p.eh,rfl⟩
    ·rw[O,J];cases eE one k c2 with
     |none=>rfl
     |some z=>simp
    ·rw[dA,yG];refine((rs1.mono (W.trans Y)).app ?_);exact .cons r6 .nil
end
open My (jA ia dq)
section
theorem DQ (T:Tx K mg c):gA P w K mg base "Fault" c.Fault (1) ["self","kind","column_place","entry_place"] (pT K c.Fault "kind" "column_place" "entry_place"):=by
 refine T.ko 114 ["self","kind","column_place","entry_place"] λH i nd j h=>?_;obtain⟨x,dx,a,b,d,F,M,rfl,h1,k⟩:=h;refine⟨_,(ah (bI (pv 0) (pv 1) rfl) (ah (bI (pv 0) (pv 2) rfl) (ak (bI (pv 0) (pv 3) rfl)))),?_⟩;refine(wN h1 (T.Fault.2 _ (by simp)) (by show 0<1000;decide) λg h2=>?_);refine(wN h2 (T.Fault.2 _ (by simp)) (by show 1<1000;decide) λg h3=>?_);exact(wN h3 (T.Fault.2 _ (by simp)) (by show 2<1000;decide) λg h4=>k _ h4)
inductive Mh (K)(c)(vs)(H)(Q:VK)(E:XK):Prop|mk (vc) (z) (F) (M):vs=[vc]->z.2.length<=1000->Rep K F vc (jG c z)->af K H F M->(∀H' F',Le F F'->af K H' F' M->Q (.int ((z.2.filter λe=>e.rep==0).length:Nat)) H')->Mh K c vs H Q E
theorem WA (T:Tx K mg c):Mt P w K mg base c.lO "count_beginnings" (1) ["self"] (Mh K c):=by
 refine T.mo 125 1 ["self","entry"] λH vs nd hr h=>?_;obtain⟨vc,z,F,M,rfl,hz,L,u,q⟩:=h;refine⟨_,(ak (aC (cM cE (by rfl) T.cst.len cT (ae (nu (own:=[("entry",1)]) jj (λ_ _ _ z=>z) rfl nd (fg (ay (pv 0) rfl)) (kU (N:=["self","entry"]) (sc:=cY (inClass (top 125) 1)) (by decide+kernel)) (λ_ _ _ _ _=>(dF 1)) (λ_ _ _ _ _=>(Ck (aP cy (oG rfl (pv 1) rfl) aY))) (λ_ _ _ _ _ _ pE=>(pv 1))) ag)))),?_⟩;refine(rF u L (d:=mM c z.2) rfl λve J=>?_);obtain⟨ea,o,rfl,C,rs⟩:=J.lst_inv;have U:o.length=z.2.length:=by rw[rs.len,bb]
 refine⟨ea,rfl,⟨_,ax.of (u.le _ _ C)⟩,λd hd=>ki (xs:=o) (λj k=>∃g:List V,g.length=((z.2.take j).filter λe=>e.rep==0).length/\af K k F ((d,.lst g)::M)) ⟨[],rfl,u.cP hd⟩ ?_ ?_ ?_⟩
 ·rintro j k _ ⟨g,i,b⟩;exact ax.of (b.le _ _ C)
 ·rintro j x k W ⟨g,i,b⟩;obtain⟨d0,G,I⟩:=rs.get' W;rw[dB,aX]at G;obtain⟨e,Y,rfl⟩:=G;obtain⟨lt,ee⟩:=cK.mp Y
  have et:((z.2.take (j+1)).filter λe=>e.rep==0).length=((z.2.take j).filter λe=>e.rep==0).length+(if(e.rep==0)=true then 1 else 0):=by
   rw[i8 lt,oZ,aQ,ee,f_,NF];split<;>rfl
  have X:=ph (λe:Ent=>e.rep==0) (z.2.take j);rw[gq]at X;refine⟨rfl,dK b I (f:="repetition") (y:= .int (e.rep:Int)) rfl ⟨rfl,?_⟩⟩;refine bG (λO=>?_) λO=>?_
  ·refine⟨g,b.at,by rw[i,bq];lia,g++[_],?_,b.eh⟩;simp_all
  ·refine⟨g,?_,b⟩;simp_all
 ·rintro k ⟨g,i,b⟩;rw[U,iJ]at i;refine⟨d,_,rfl,.inl (ax.of b.at),?_⟩;rw[i];exact q k F (Le.refl F) b.drop
def sG (es:List Ent):Nat->Option Nat
 |0=>none
 |j+1=>(es[j]?).map (·.defn)
def qb (x:FI):CI:=(x.r,x.d,x.lv)
inductive Mi (K)(c)(vs)(H)(Q:VK)(E:XK):Prop|mk (vf ve) (i) (l) (es) (j:Nat) (e) (F) (M):vs=[vf,ve,.int (j)]->gY i->Rep K F vf (FD c i (.leaf l))->Rep K F ve (mM c es)->es[j]? =some e->af K H F M->Q (.int ((jA (qb i) (sG es j) e:Nat):Int)) H->Mi K c vs H Q E
theorem WB (x)(r:Rep K F v (sy c x)):decide (v= .aB)=x.isNone:=by
 cases x with
 |none=>
  have:=r.val;subst this;rfl
 |some y=>
  cases v with
  |aB=>cases y<;>(obtain⟨_,_,_,e,_⟩:=r.nq;cases e)
  |_=>rfl
theorem WC (T:Tx K mg c):Fn P w K mg base "entry_fault_kind" (1) ["field","entries","place"] (Mi K c):=by
 refine T.fO 118 ["field","entries","place","entry","needed"] λf bu A outer s H vs Q E nd hr h=>?_;obtain⟨U,W,i,l,es,j,e,F,M,rfl,fl,rf,I,O,g,q⟩:=h;refine⟨_,(ah (aN 3 (d8 dS (pv 1) (pv 2))) (ah (aL (PW.pt (jD (aP iW (ay (pv 3) rfl) (ay (pv 0) rfl)) (kP (aP iW (ay (pv 3) rfl) (ay (pv 0) rfl))))) (ak (aC (aD T.cst.Ti))) aS) (ah (aL (PW.pt (xP (aP cy (ay (pv 3) rfl) (ay (pv 0) rfl)) (xO (aP xX (ay (pv 3) rfl) m7)))) (ak (aC (aD T.cst.Tj))) aS) (ah (aL (aP cy (ay (pv 3) rfl) aY) (ak (aC (aD T.cst.oy))) aS) (ah (aL (aP cy (pv 2) aY) (ak (aC (aD T.cst.Tn))) aS) (ah (aN 4 (d8 dS (ay (pv 0) rfl) (de kg (ay (pv 3) rfl) aY))) (ah (aL (PW.pt (jD (aP jf (ay (pv 3) rfl) (pv 4)) (kP (aP jf (ay (d8 dS (pv 1) (de kg (pv 2) aY)) rfl) (pv 4))))) (ak (aC (aD T.cst.To))) aS) (ak (aC (aD T.cst.oy)))))))))),?_⟩;refine(ft g I (j:=j) (d:=oK c e) (by rw[dB,O];rfl) λX r3=>?_);unfold jA at q
 have q:Q (.int (((if i.r<e.rep\/i.d<e.defn then 1 else if e.defn=i.d/\e.val=none then 2 else if e.rep=0 then 0 else match sG es j with
  |none=>3
  |some b=>if e.defn<(i.lv[e.rep-1]?).getD 0\/b<(i.lv[e.rep-1]?).getD 0 then 4 else 0:Nat):Nat):Int)) H:=q
 refine(dK g r3 (f:="repetition") (y:= .int (e.rep:Int)) rfl (yC g rf ⟨_,_,rfl,rfl,?_⟩));refine bG (λu=>?_) λu=>?_
 ·have u:(i.r:Int)<(e.rep:Int):=by simpa using u
  rw[if_pos (.inl (by lia))]at q;exact q
 have u:¬(i.r:Int)<(e.rep:Int):=by simpa using u
 refine(dK g r3 (f:="definition") (y:= .int (e.defn:Int)) rfl (pV g rf ⟨_,_,rfl,rfl,?_⟩));refine bG (λo=>?_) λo=>?_
 ·have o:(i.d:Int)<(e.defn:Int):=by simpa using o
  rw[if_pos (.inr (by lia))]at q;exact q
 have o:¬(i.d:Int)<(e.defn:Int):=by simpa using o
 rw[if_neg (by lia)]at q
 have rest:¬(e.defn=i.d/\e.val=none)->kQ (m8 (my (iE rG (gS K (bg 3) "repetition") (tC (V.int 0)))) (lF (tC (V.int 0))) n4) (kQ (m8 (my (iE rG (bg 2) (tC (V.int 0)))) (lF (tC (V.int 3))) n4) (kQ (xS (iE (pL K) (gS K (bg 0) "repeating_levels") (iE (jE λi j=>V.int (i-j)) (gS K (bg 3) "repetition") (tC (V.int 1)))) (pF 4)) (kQ (m8 (HY (my (iE (jE λi j=>V.bl (decide (i<j))) (gS K (bg 3) "definition") (bg 4))) (my (iE (jE λi j=>V.bl (decide (i<j))) (gS K (iE (pL K) (bg 1) (iE (jE λi j=>V.int (i-j)) (bg 2) (tC (V.int 1)))) "definition") (bg 4)))) (lF (tC (V.int 4))) n4) (lF (tC (V.int 0)))))) {nx:=λ_ H'=>Q .aB H',rt:=Q} [some U,some W,some (.int (j:Int)),some X,none] H:=by
  intro hn;rw[if_neg hn]at q;refine(dK g r3 (f:="repetition") (y:= .int (e.rep:Int)) rfl ⟨rfl,?_⟩);by_cases z0:e.rep=0
  ·rw[if_pos z0]at q;rw[decide_eq_true (by rw[z0];rfl)];exact q
  rw[if_neg z0]at q;rw[decide_eq_false (λz=>z0 (by injection z with z;lia))];refine⟨rfl,?_⟩;cases j with
  |zero=>exact q
  |succ j=>
   rw[decide_eq_false (λz=>by injection z with z;lia)]
   have L:e.rep-1<i.lv.length:=by
    have:=fl.l
    lia
   obtain⟨jl,_⟩:=cK.mp O;have hp:es[j]? =some (es[j]'(by lia)):=eI _
   have eg:(i.lv[e.rep-1]?).getD 0=i.lv[e.rep-1]:=by
    rw[eI L];rfl
   have eb:sG es (j+1)=some (es[j]'(by lia)).defn:=by
    show(es[j]?).map (·.defn)=_;rw[hp];rfl
   rw[eb]at q;dsimp only at q;rw[eg]at q;refine(U8 g rf λvl G=>(dK g r3 (f:="repetition") (y:= .int (e.rep:Int)) rfl ⟨_,_,rfl,rfl,?_⟩));rw[show((e.rep:Int)-1)=((e.rep-1:Nat):Int) by lia];refine ft (j:=e.rep-1) g G (d:= .v (.int ((i.lv[e.rep-1]:Nat):Int))) (by rw[dB,eI L];rfl) λy ry=>?_;have:=ry.val;subst this;refine(dK g r3 (f:="definition") (y:= .int (e.defn:Int)) rfl ⟨_,_,rfl,rfl,?_⟩);refine bG (λw=>?_) λw=>?_
   ·have w:(e.defn:Int)<((i.lv[e.rep-1]:Nat):Int):=by simpa using w
    rw[if_pos (.inl (by lia))]at q;exact q
   have w:¬(e.defn:Int)<((i.lv[e.rep-1]:Nat):Int):=by simpa using w
   refine⟨_,_,rfl,rfl,?_⟩;rw[show(((j+1:Nat):Int)-1)=((j:Nat):Int) by lia];refine ft (j:=j) g I (d:=oK c (es[j]'(by lia))) (by rw[dB,hp];rfl) λy2 Y=>?_;refine dK g Y (f:="definition") (y:= .int ((es[j]'(by lia)).defn:Int)) rfl ⟨_,_,rfl,rfl,?_⟩;refine bG (λk=>?_) λk=>?_
   ·have k:((es[j]'(by lia)).defn:Int)<((i.lv[e.rep-1]:Nat):Int):=by simpa using k
    rw[if_pos (.inr (by lia))]at q;exact q
   ·have k:¬((es[j]'(by lia)).defn:Int)<((i.lv[e.rep-1]:Nat):Int):=by simpa using k
    rw[if_neg (by lia)]at q;exact q
 refine(dK g r3 (f:="definition") (y:= .int (e.defn:Int)) rfl (pV g rf ⟨rfl,?_⟩));by_cases C:e.defn=i.d
 ·rw[decide_eq_true (by rw[C])];refine(rF g r3 (f:="literal") (d:=sy c e.val) rfl λvl G=>⟨rfl,?_⟩);rw[WB _ G];cases J:e.val with
  |none=>
   rw[if_pos ⟨C,J⟩]at q;exact q
  |some y=>
   refine(rest λz=>?_);rw[J]at z;cases z.2
 ·rw[decide_eq_false (λz=>C (by injection z with z;lia))];exact(rest λz=>C z.1)
end
section
def vI (c:Cs)(f:Nat×Nat×Nat):D:= .ins c.Fault [("kind",fL f.1),("column_place",fL f.2.1),("entry_place",fL f.2.2)]
def eS (z:(FI×bN)×List Ent):CI×List Ent:=(qb z.1.1,z.2)
inductive Mj (K)(c)(vs)(H)(Q:VK)(E:XK):Prop|mk (vc) (zs:List ((FI×bN)×List Ent)) (F) (M):vs=[vc]->Rep K F vc (.lst (zs.map (jG c)))->((∀z∈zs,gY z.1.1/\z.2.length<=1000))->zs.length<=1000->af K H F M->(∀x H' F',Le F F'->af K H' F' M->Rep K F' x (vI c ((dq 0 (zs.map eS)).getD (0,0,0)))->Q x H')->Mj K c vs H Q E
theorem Ml (T:Tx K mg c):Fn P w K mg base "first_entry_fault" (3) ["columns"] (Mj K c):=by
 refine T.fO 117 ["columns","column_place","column","entry_place","kind"] λf bu A outer s H vs Q E nd hr h=>?_;obtain⟨vc,u,F,M,rfl,rc,hz,hzl,hH,q⟩:=h;refine⟨_,(ah (gj d_ rfl (Co rfl T.cst.enumerate (ae (pv 0) ag)) (uB rfl (rC (dF 1) (rC (dF 2) BR))) (ak (gj d_ rfl (BS rfl T.cst.range (ae (cM cE (by rfl) T.cst.len cT (ae (ay (pv 2) rfl) ag)) ag)) (dF 3) (ah (aN 4 (pf (WC T) (ae (ay (pv 2) rfl) (ae (ay (pv 2) rfl) (ae (pv 3) ag))))) (ak (aL (aP je (pv 4) (aD T.cst.oy)) (ak (aC (pk (DQ T) (ae (pv 4) (ae (pv 1) (ae (pv 3) ag)))))) aS)))))) (ak (aC (pk (DQ T) (ae (aD T.cst.oy) (ae aY (ae aY ag))))))),?_⟩;obtain⟨ca,X,rfl,hca,rs⟩:=rc.lst_inv;have hxl:X.length=u.length:=by rw[rs.len,bb]
 have mkF:∀(kd cp ep:Nat) (H1:Hp),af K H1 F M->(dq 0 (u.map eS)).getD (0,0,0)=(kd,cp,ep)->∀y g,H1 y=none->H1 g=none->g≠y->pT K c.Fault "kind" "column_place" "entry_place" [.ref y,.int (kd:Int),.int (cp:Int),.int (ep:Int)] (upd (upd H1 g (.own y)) y (.ins c.Fault g [])) (λv I=>v= .aB/\Q (.ref y) I) E:=by
  intro kd cp ep H1 h1 b y g J O L;refine⟨y,g,_,_,_,F,M,rfl,h1.make J O L T.Fault.1,λH4 h4=>⟨rfl,?_⟩⟩;obtain⟨F6,l6,h6,r6⟩:=h4.lL (gs:=[("kind",fL kd),("column_place",fL cp),("entry_place",fL ep)]) (.cons (.v _) (.cons (.v _) (.cons (.v _) .nil)));refine q _ _ F6 l6 h6 ?_;rw[b];exact r6
 refine⟨ca,X,rfl,ax.of (hH.le _ _ hca),Vh (xs:=X) (λj σ I=>af K I F M/\dq 0 (u.map eS)=dq j ((u.drop j).map eS)/\∃z1 z2 G C,σ=[some (.ref ca),z1,z2,G,C]) ⟨hH,by rw[zD],none,none,none,none,rfl⟩ ?_ ?_ ?_⟩
 ·rintro j σ I _ ⟨U,_⟩;exact ax.of (U.le _ _ hca)
 ·rintro j x σ I hx ⟨U,b,z1,z2,G,C,rfl⟩ T0 hT0;refine Dl U hT0 λH2 h2=>?_;obtain⟨d0,hd0,rx⟩:=rs.get' hx;rw[dB,aX]at hd0;obtain⟨z,hzj,rfl⟩:=hd0;obtain⟨lt,ez⟩:=cK.mp hzj;have edr:u.drop j=z::u.drop (j+1):=by rw[nP lt,ez]
  rw[edr,cu,dq]at b
  have b:dq 0 (u.map eS)=(match ia (qb z.1.1) none 0 z.2 with
   |some (k,i)=>some (k,j,i)
   |none=>dq (j+1) ((u.drop (j+1)).map eS)):=b
  obtain⟨fl,hz2⟩:=hz z (gI hzj);refine(rF h2 rx (f:="entries") (d:=mM c z.2) rfl λve re=>?_);obtain⟨ea,W,rfl,hea,rys⟩:=re.lst_inv;have hyl:W.length=z.2.length:=by rw[rys.len,bb]
  refine⟨ea,W,rfl,.inl (ax.of (h2.le _ _ hea)),((W.length:Nat):Int),rfl,by lia,by lia,rE (lo:=0) (n:=(((W.length:Nat):Int)).toNat) (λe σ H3=>af K H3 F M/\ia (qb z.1.1) none 0 z.2=ia (qb z.1.1) (sG z.2 e) e (z.2.drop e)/\∃G C,σ=[some (.ref ca),some (.int (j:Int)),some x,G,C]) ⟨h2,rfl,G,C,rfl⟩ ?_ ?_⟩
  ·rintro e σ H3 he ⟨h3,o,G,C,rfl⟩;have hel:e<z.2.length:=by omega
   have hee:=eI hel;have ede:=nP hel;rw[ede,ia]at o;rw[show(0:Int)+(e:Int)=(e:Int) by lia];refine(rF h3 rx (f:="field") (d:=FD c z.1.1 (.leaf z.1.2)) rfl λvf rf=>(rF h3 rx (f:="entries") (d:=mM c z.2) rfl λve2 re2=>⟨vf,ve2,z.1.1,z.1.2,z.2,e,z.2[e],F,M,rfl,fl,rf,re2,hee,h3,?_⟩));refine⟨rfl,?_⟩;by_cases Y:jA (qb z.1.1) (sG z.2 e) z.2[e]=0
   ·rw[if_pos Y]at o;rw[decide_eq_true (by rw[Y];rfl)];refine⟨h3,?_,_,_,rfl⟩;rw[o]
    have:sG z.2 (e+1)=some z.2[e].defn:=by
     show(z.2[e]?).map (·.defn)=_;rw[hee];rfl
    rw[this]
   ·rw[if_neg Y]at o;rw[o]at b;rw[decide_eq_false (λz=>Y (by injection z with z;lia))];refine(λy g J O L=>mkF _ j e H3 h3 ?_ y g J O L);rw[b];rfl
  ·rintro σ H3 ⟨h3,o,G,C,rfl⟩
   have o:ia (qb z.1.1) none 0 z.2=none:=by
    rw[o,ku (by omega)];rfl
   refine⟨h3,?_,_,_,_,_,rfl⟩;rw[b];rw[o]
 ·rintro σ I ⟨U,b,z1,z2,G,C,rfl⟩;rw[hxl,zX]at b;refine λy g J O L=>mkF 0 0 0 I U ?_ y g J O L;rw[b];rfl
inductive Mm (K)(c)(vs)(H)(Q:VK)(E:XK):Prop|mk (tell) (vr vc) (fs) (zs) (F) (M):vs=[vr,vc]->iP fs->Rep K F vr (FD c FI.root (.group false fs))->Rep K F vc (.lst (zs.map (jG c)))->zs.map (·.1)=c7 tell (LV fs)->zs≠[]->((∀z∈zs,z.2.length<=1000/\∀e∈z.2,∀y,e.val=some y->My.gO z.1.2 y))->af K H F M->((dq 0 (zs.map eS)≠none->∀H' F',Le F F'->af K H' F' M->E (.ref c.gX) none H'))->((dq 0 (zs.map eS)=none->gN (br tell (.group false fs) 0) (zs.map (·.2))=none->∀H' F',Le F F'->af K H' F' M->E (.ref c.gX) none H'))->((dq 0 (zs.map eS)=none->∀vs c',gN (br tell (.group false fs) 0) (zs.map (·.2))=some (vs,c')->∀x H' F',Le F F'->af K H' F' M->Rep K F' x (.lst (cz c (vs.map λv=>d5 (br tell (.group false fs) 0) v)))->Q x H'))->Mm K c vs H Q E
theorem Mn {g:List ((FI×bN)×List Ent)}(h:dq 0 (g.map eS)=none)(k:∀z∈g,∀e∈z.2,∀y,e.val=some y->My.gO z.1.2 y):∀z∈g,∀e∈z.2,oN z.1 e:=λz i e j=>by
 have h1:=My.QT h (eS z) (dY i);obtain⟨b,h2⟩:=My.HF h1 e j;obtain⟨_,h4,h5,h6⟩:=My.QS h2;exact⟨h4,h5,h6,k z i e j⟩
theorem Mo {b:List ((FI×bN)×List Ent)}(h:b.map (·.1)=c7 tell (LV fs)):(∀z∈b,gY z.1.1)/\b.length<=aG fs:=by
 refine⟨λz g=>?_,?_⟩
 ·have:z.1∈c7 tell (LV fs):=by
   rw[<-h];exact dY g
  exact LX FI.root (.group false fs) gY.root z.1 (mR.mp this).1
 ·have:=congrArg f9 h;rw[bb]at this;have h2:=ph (λx:FI×bN=>tell x.1.a) (LV fs);rw[y6]at h2;unfold c7 at this
  lia
theorem DR {g:List ((FI×bN)×List Ent)}:((dq 0 (g.map eS)).getD (0,0,0)).1=0↔dq 0 (g.map eS)=none:=by
 have go:∀(b:List (CI×List Ent)) (j:Nat),((dq j b).getD (0,0,0)).1=0↔dq j b=none:=by
  intro b;induction b with
  |nil=>exact λj=>⟨λ_=>rfl,λ_=>rfl⟩
  |cons x b h=>
   intro j;rw[dq];cases e:ia x.1 none 0 x.2 with
   |none=>exact h (j+1)
   |some y=>
    have:=My.HG (show ia x.1 none 0 x.2=some (y.1,y.2)from e);simp_all
 exact go _ 0
theorem Mp (T:Tx K mg c):Fn P w K mg base "faultless_rows" (22) ["record","columns"] (Mm K c):=by
 refine T.fo 116 ["record","columns"] λH G nd hr h=>?_;obtain⟨X,W,I,fs,g,F,M,rfl,J,Y,L,b,hzn,k,hH,k1,k2,k3⟩:=h;refine⟨_,(ah (aL (aP je (ay (pf (Ml T) (ae (pv 1) ag)) rfl) (aD T.cst.oy)) (ak (cO T.mJ)) aS) (ak (aC (pf (Mg T) (ae (pv 0) (ae (pv 1) ag)))))),?_⟩;obtain⟨hfi,hzl⟩:=Mo b;have hlv:=J.lv;refine⟨I,g,F,M,rfl,L,λz b=>⟨hfi z b,(k z b).1⟩,by lia,hH,λx H2 U i h2 r2=>?_⟩;refine dK h2 r2 (f:="kind") (y:= .int ((((dq 0 (g.map eS)).getD (0,0,0)).1:Nat):Int)) rfl ⟨rfl,?_⟩;cases e:dq 0 (g.map eS)with
 |some f=>
  have O:((dq 0 (g.map eS)).getD (0,0,0)).1≠0:=λz=>by
   rw[DR.mp z]at e;cases e
  rw[e]at O;rw[decide_eq_false (λz=>O (by injection z with z;lia))];exact(k1 (by rw[e];exact λz=>by cases z) H2 U i h2)
 |none=>
  refine⟨X,W,I,fs,g,U,M,rfl,J,Y.mono i,L.mono i,b,hzn,λz b=>⟨(k z b).1,Mn e (λz b=>(k z b).2) z b⟩,h2,λo u C j h3=>k2 e o u C (i.trans j) h3,λG c' o x u C j h3 r3=>k3 e G c' o x u C (i.trans j) h3 r3⟩
end
end Prg
namespace L2
open PySem PySem.Spec PyProof.Rows
theorem WD (xs)(b:Nat):kS xs none (some (b))=xs.take b:=by
 have e:HT.gT xs.length 0 none=0:=rfl;unfold kS;rw[e,HT.uI,NC,zD];simp_all
end L2
namespace Prg
open PySem PySem.Spec PyProof.Rows L2
open Vacola (Text Leaf Lit Mode Head Fields showMode repOf defOf leavesKind leavesFields showLit fits keyOf)
open Vacolb (Val wholeLit keyLit)
open My (iz bB bC Ent CI jA ia dq iP br gN d5 jx)
section
inductive Mq (K)(c)(vs)(H)(Q:VK)(E:XK):Prop|mk (tell) (vr vc) (fs) (zs) (F) (M):vs=[vr,vc]->iP fs->Rep K F vr (FD c FI.root (.group false fs))->Rep K F vc (.lst (zs.map (jG c)))->zs.map (·.1)=c7 tell (LV fs)->zs≠[]->((∀z∈zs,z.2.length<=1000/\∀e∈z.2,oN z.1 e))->af K H F M->(∀H' F',Le F F'->af K H' F' M->Q (.bl (gN (br tell (.group false fs) 0) (zs.map (·.2))).isSome) H')->Mq K c vs H Q E
theorem Mr (T:Tx K mg c):Fn P w K mg base "has_rows" (22) ["record","columns"] (Mq K c):=by
 refine T.fo 119 ["record","columns"] λH u nd hr h=>?_;obtain⟨o,y,C,fs,k,F,M,rfl,G,I,J,U,O,L,W,q⟩:=h;refine⟨_,(ah (uS rfl rfl (λ_ _ _ PASS=>(ak (ba (pf (Mg T) (ae (pv 0) (ae (pv 1) ag)))))) (mE rfl T.mJ.glob T.mJ.exc (λ_=>(ak (aC kN))) Ct)) (ak (aC kN))),?_⟩;refine⟨λx _ g=>x= .ref c.gX/\∃b,Le F b/\af K g b M/\gN (br o (.group false fs) 0) (k.map (·.2))=none,?_,?_⟩
 ·rintro x d g ⟨rfl,b,i,j,e⟩;refine⟨_,rfl,T.mJ.exc,λX=>⟨λ_=>?_,λz=>absurd rfl z⟩⟩;have:=q g b i j;rw[e]at this;exact this
 ·refine⟨o,y,C,fs,k,F,M,rfl,G,I,J,U,O,L,W,λe g b i j=>⟨rfl,b,i,j,e⟩,λu c' e x g b i j Y=>?_⟩;have:=q g b i j;rw[e]at this;exact this
def iY (fs:aJ)(g:List Nat)(b:List ((FI×bN)×List Ent))(m:Nat):Option (List Val×List (List Ent)):=gN (br (λi=>(g.take m).contains i) (.group false fs) 0) ((b.map (·.2)).take m)
theorem WE {b:List ((FI×bN)×List Ent)}(g:jx (aG fs) picks)(h:b.map (·.1)=eL fs picks)(m):(b.take m).map (·.1)=c7 (λi=>(picks.take m).contains i) (LV fs):=by
 rw[sD (g.take m),Wm g,<-h,lg]
inductive Ms (K)(c)(vs)(H)(Q:VK)(E:XK):Prop|mk (vr vc) (fs) (picks) (zs) (j) (F) (M):vs=[vr,vc]->iP fs->Rep K F vr (FD c FI.root (.group false fs))->Rep K F vc (.lst (zs.map (jG c)))->jx (aG fs) picks->zs.map (·.1)=eL fs picks->((∀z∈zs,z.2.length<=1000/\∀e∈z.2,oN z.1 e))->j<zs.length->((∀i,i<j->(iY fs picks zs (i+1)).isSome=true))->iY fs picks zs (j+1)=none->af K H F M->(∀H' F',Le F F'->af K H' F' M->Q (.int (j)) H')->Ms K c vs H Q E
inductive Mu (vr)(j:Nat)(F)(M)(ca)(mm)(σ:L2.St)(H'):Prop|mk (p) (F'):mm=j-p->p<=j->Le F F'->af K H' F' M->σ=[some vr,some (.ref ca),some (.int (p))]->Mu vr j F M ca mm σ H'
theorem WG (T:Tx K mg c):Fn P w K mg base "first_without_rows" (23) ["record","columns"] (Ms K c):=by
 refine T.fo 120 ["record","columns","place"] λH vs nd hr h=>?_;obtain⟨u,vc,fs,y,b,j,F,M,rfl,O,U,W,hrs,o,hzo,hj,hi,hn,hH,q⟩:=h;refine⟨_,(ah (aN 2 aY) (ah (mx d_ (c_ (pf (Mr T) (ae (pv 0) (ae (m9 lH (pv 1) B3 (ji (de lG (pv 2) aY))) ag)))) (ak (uC 2 aY uD))) (ak (aC (pv 2))))),?_⟩;obtain⟨ca,L,rfl,hca,rs⟩:=W.lst_inv;refine⟨Mu u j F M ca,⟨_,0,F,rfl,bR _,Le.refl F,hH,rfl⟩,?_⟩;rintro mm σ H' ⟨p,F',rfl,hp,k,G,rfl⟩;refine⟨_,_,rfl,rfl,_,rfl,ca,L,rfl,ax.of (G.le _ _ (k _ _ hca)),λY hp2=>?_⟩;have I:((p:Int)+1)=((p+1:Nat):Int):=by lia
 rw[I,WD];obtain⟨F2,l2,h2,r2⟩:=G.sj hp2 ((rs.mono k).take (p+1));rw[<-lg]at r2;have g:=k.trans l2;refine⟨_,u,.ref Y,fs,b.take (p+1),F2,M,rfl,O,U.mono g,r2,WE hrs o (p+1),?_,λz o=>hzo z (qr o),h2,λH3 J C h3=>?_⟩
 ·intro z;simp_all
 have er:gN (br (λi=>(y.take (p+1)).contains i) (.group false fs) 0) ((b.take (p+1)).map (·.2))=iY fs y b (p+1):=by
  unfold iY;rw[lg]
 rw[er];by_cases X:p=j
 ·subst X;rw[hn];exact(q H3 J (g.trans C) h3)
 ·rw[hi p (by lia)];refine⟨_,λσ' H' z=>z,?_⟩;refine⟨_,rfl,_,_,rfl,rfl,?_⟩;exact⟨j-(p+1),by lia,p+1,J,rfl,by lia,g.trans C,h3,by rw[<-I];rfl⟩
inductive Mv (K)(c)(vs)(H)(Q:VK)(E:XK):Prop|mk (vr vc) (fs) (picks) (zs) (F) (M):vs=[vr,vc]->iP fs->Rep K F vr (FD c FI.root (.group false fs))->Rep K F vc (.lst (zs.map (jG c)))->jx (aG fs) picks->zs.map (·.1)=eL fs picks->zs≠[]->((∀z∈zs,z.2.length<=1000/\∀e∈z.2,∀y,e.val=some y->My.gO z.1.2 y))->af K H F M->((dq 0 (zs.map eS)=none->gN (br (λi=>picks.contains i) (.group false fs) 0) (zs.map (·.2))=none->∃j,j<zs.length/\(∀i,i<j->(iY fs picks zs (i+1)).isSome=true)/\iY fs picks zs (j+1)=none))->((∀f,dq 0 (zs.map eS)=some f->∀x H' F',Le F F'->af K H' F' M->Rep K F' x (vI c f)->Q x H'))->((dq 0 (zs.map eS)=none->(gN (br (λi=>picks.contains i) (.group false fs) 0) (zs.map (·.2))).isSome=true->∀x H' F',Le F F'->af K H' F' M->Rep K F' x (vI c (0,0,0))->Q x H'))->((dq 0 (zs.map eS)=none->gN (br (λi=>picks.contains i) (.group false fs) 0) (zs.map (·.2))=none->∀j,j<zs.length->(∀i,i<j->(iY fs picks zs (i+1)).isSome=true)->iY fs picks zs (j+1)=none->∀x H' F',Le F F'->af K H' F' M->Rep K F' x (vI c (5,j,0))->Q x H'))->Mv K c vs H Q E
theorem WH (T:Tx K mg c):Fn P w K mg base "first_fault" (25) ["record","columns"] (Mv K c):=by
 refine T.fo 115 ["record","columns","fault"] λH vs nd hr h=>?_;obtain⟨O,C,fs,u,g,F,M,rfl,G,U,I,hrs,b,hzn,J,hH,kj,k1,k2,k3⟩:=h;refine⟨_,(ah (aN 2 (pf (Ml T) (ae (pv 1) ag))) (ah (aL (PW.pt (jD (aP je (ay (pv 2) rfl) (aD T.cst.oy)) (kP (c_ (pf (Mr T) (ae (pv 0) (ae (pv 1) ag))))))) (ak (aC (pv 2))) aS) (ak (aC (pk (DQ T) (ae (aD T.cst.Tp) (ae (pf (WG T) (ae (pv 0) (ae (pv 1) ag))) (ae aY ag)))))))),?_⟩;have hz2:g.map (·.1)=c7 (λi=>u.contains i) (LV fs):=by rw[sD hrs];exact b
 obtain⟨hfi,hzl⟩:=Mo hz2;have hlv:=G.lv;refine⟨C,g,F,M,rfl,I,λz b=>⟨hfi z b,(J z b).1⟩,by lia,hH,λx H2 F2 k h2 r2=>?_⟩;refine(dK h2 r2 (f:="kind") (y:= .int ((((dq 0 (g.map eS)).getD (0,0,0)).1:Nat):Int)) rfl ⟨rfl,?_⟩);cases e:dq 0 (g.map eS)with
 |some f=>
  have h0:((dq 0 (g.map eS)).getD (0,0,0)).1≠0:=λz=>by
   rw[DR.mp z]at e;cases e
  rw[e]at h0 r2;rw[decide_eq_false (λz=>h0 (by injection z with z;lia))];exact(k1 f e x H2 F2 k h2 r2)
 |none=>
  rw[e]at r2;have ho:∀z∈g,z.2.length<=1000/\∀e∈z.2,oN z.1 e:=λz b=>⟨(J z b).1,Mn e (λz b=>(J z b).2) z b⟩;refine⟨λi=>u.contains i,O,C,fs,g,F2,M,rfl,G,U.mono k,I.mono k,hz2,hzn,ho,h2,λH3 F3 o h3=>(?_)⟩;cases L:gN (br (λi=>u.contains i) (.group false fs) 0) (g.map (·.2))with
  |some y=>
   refine(k2 e ?_ x H3 F3 (k.trans o) h3 (r2.mono o));rw[L];rfl
  |none=>
   obtain⟨j,Y,X,W⟩:=kj e L;refine⟨O,C,fs,u,g,j,F3,M,rfl,G,U.mono (k.trans o),I.mono (k.trans o),hrs,b,ho,Y,X,W,h3,λH4 F4 l4 h4=>?_⟩;refine λy dy ny ndy ney=>⟨y,dy,_,_,_,F4,M,rfl,h4.make ny ndy ney T.Fault.1,λH5 h5=>⟨rfl,?_⟩⟩;obtain⟨F6,l6,h6,r6⟩:=h5.lL (gs:=[("kind",fL 5),("column_place",fL j),("entry_place",fL 0)]) (.cons (.v _) (.cons (.v _) (.cons (.v _) .nil)));exact k3 e L j Y X W _ _ F6 (k.trans (o.trans (l4.trans l6))) h6 r6
end
open Vacola (Column columns readSchema)
open Vacolb (showRow readRow at?)
open Vacolc (Call Answer shredRow stepHeld)
open VacolcNeutral (encode)
open My (iy)
structure DA where
 dk:ai
 dx:ai
 ka:ai
def DS (b:V)(ka:ai):List (Str×V):=[("schema",b),("kept",.ref ka)]
abbrev DA.cell (c:Cs)(a:DA)(b:V):ai×HO:=(a.dk,.ins c.bW a.dx (DS b a.ka))
abbrev cZ (c:Cs)(a:DA)(b:V)(xs:List V)(M:List (ai×HO)):List (ai×HO):=a.cell c b::(a.ka,.lst xs)::M
def sH (c:Cs)(fs:aJ)(v:Val):D:= .ins c.Row [("text",bP (g5 fs v)),("entries",.lst ((c8 fs v).map (lS c)))]
structure vJ (fs:aJ)(v:Val):Prop where
 of:iy (.group false fs) v
 len:(g5 fs v).length<=1000000
structure fj (K:aW)(c:Cs)(F:Hp)(s:zZ)(sv:V)(xs:List V):Prop where
 no:s.schema=none->sv= .aB/\s.rows=[]/\xs=[]
 sc:∀fs,s.schema=some fs->iP fs/\Rep K F sv (Dr c fs)/\aU K F xs (s.rows.map (sH c fs))/\∀v∈s.rows,vJ fs v
 ln:s.rows.length<=100
def gZ (c:Cs)(C:ai)(n:Int):Prop:=(C=c.fh/\n= -1)\/(C=c.gX/\n= -1)\/(C=c.jm/\n= -2)\/(C=c.lM/\n= -3)\/(C=c.lN/\n= -4)\/(C=c.mH/\n= -5)\/(C=c.mI/\n= -6)\/(C=c.kZ/\n= -7)
structure Done (K:aW)(c:Cs)(s:zZ)(k:Call)(a:DA)(sv:V)(xs:List V)(F:Hp)(M:List (ai×HO))(Q:VK)(E:XK):Prop where
 no:∀n C,(cv s k).2= .refused n->gZ c C n->∀H' F',Le F F'->af K H' F' (cZ c a sv xs M)->E (.ref C) none H'
 yes:(∀n,(cv s k).2≠.refused n)->∀x H' F' ka sv' xs',Le F F'->af K H' F' (cZ c ⟨a.dk,a.dx,ka⟩ sv' xs' M)->fj K c F' (cv s k).1 sv' xs'->Rep K F' x (eF (iM (cv s k).2))->Q x H'
section
theorem vK (sv)(ka):(DS sv ka).lookup ("schema":Str)=some sv:=rfl
theorem jn (sv)(ka):(DS sv ka).lookup ("kept":Str)=some (.ref ka):=rfl
theorem fj.mono (h:fj K c F s sv xs)(l:Le F G):fj K c G s sv xs:=
 ⟨h.no,λfs e=>let⟨a,b,d,e⟩:=h.sc fs e;⟨a,b.mono l,d.mono l,e⟩,h.ln⟩
theorem fj.len (h:fj K c F s sv xs):xs.length=s.rows.length:=by
 cases e:s.schema with
 |none=>
  obtain⟨_,h2,h3⟩:=h.no e;simp_all
 |some fs=>
  obtain⟨_,_,r,_⟩:=h.sc fs e;rw[r.len,bb]
theorem Mw (T:Tx K mg c):gA P w K mg base "Row" c.Row (1) ["self","text","entries"] (vi K c.Row "text" "entries"):=by
 refine T.ko 165 ["self","text","entries"] λH i nd j h=>?_;obtain⟨x,dx,a,b,F,M,rfl,h1,k⟩:=h;refine⟨_,(ah (bI (pv 0) (pv 1) rfl) (ak (bI (pv 0) (pv 2) rfl))),?_⟩;refine(wN h1 (T.Row.2 _ (by simp)) (by show 0<1000;decide) λg h2=>?_);exact(wN h2 (T.Row.2 _ (by simp)) (by show 1<1000;decide) λg h3=>k _ h3)
inductive Mx (K)(c)(vs:List V)(H)(Q:VK)(E:XK):Prop|mk (x dx) (F) (M):vs=[.ref x]->af K H F ((x,.ins c.bW dx [])::M)->(∀H' ka,af K H' F (cZ c ⟨x,dx,ka⟩ .aB [] M)->Q .aB H')->Mx K c vs H Q E
theorem WI (T:Tx K mg c):gA P w K mg base "Desk" c.bW (1) ["self"] (Mx K c):=by
 refine T.ko 166 ["self"] λH g nd i h=>?_;obtain⟨x,dx,F,M,rfl,h1,k⟩:=h;refine⟨_,(ah (bI (pv 0) m7 rfl) (ak (bI (pv 0) (bO ag) rfl))),?_⟩;refine(wN h1 (T.bW.2 _ (by simp)) (by show 0<1000;decide) λj h2=>?_);refine⟨bR _,λp hp=>?_⟩;have h3:=h2.cP (xs:=[]) hp;exact(wN h3.sw (T.bW.2 _ (by simp)) (by show 1<1000;decide) λb h4=>k b p h4)
inductive Mz (K)(c)(vs:List V)(H)(Q:VK)(E:XK):Prop|mk (a) (sv) (xs) (s) (F) (M):vs=[.ref a.dk]->fj K c F s sv xs->af K H F (cZ c a sv xs M)->((s.schema=none->E (.ref c.jm) none H))->((∀fs,s.schema=some fs->Q sv H))->Mz K c vs H Q E
theorem sI (T:Tx K mg c):Mt P w K mg base c.bW "known_schema" (1) ["self"] (Mz K c):=by
 refine T.mo 166 2 ["self"] λH k nd u h=>?_;obtain⟨a,o,j,s,F,M,rfl,st,b,i,g⟩:=h;refine⟨_,(ah (aL (aP xX (ay (pv 0) rfl) m7) (ak (cO T.yu)) aS) (ak (aC (ay (pv 0) rfl)))),?_⟩;refine(rM b (vK _ _) ⟨rfl,?_⟩);cases e:s.schema with
 |none=>
  obtain⟨h1,_⟩:=st.no e;subst h1;exact(i e)
 |some fs=>
  obtain⟨_,r,_⟩:=st.sc fs e;obtain⟨p,dx,y,rfl,_⟩:=r.nq;exact(rM b (vK _ _) (g fs e))
theorem Done.none (d:Done K c s k a sv xs F M Q E)(e:s.schema=none)(b:∀t,k≠.schema t)(h:af K H F (cZ c a sv xs M)):E (.ref c.jm) none H:=by
 refine d.no (-2) _ ?_ (.inr (.inr (.inl ⟨rfl,rfl⟩))) H F (Le.refl F) h;cases k with
 |schema t=>exact absurd rfl (b t)
 |_=>
  unfold cv;rw[e]
theorem lV (e:s.schema=some fs)(b:∀t,k≠.schema t):cv s k=stepHeld s fs k:=by
 cases k with
 |schema t=>exact absurd rfl (b t)
 |_=>
  unfold cv;rw[e]
theorem nD (h:af K H F M)(hp:H p=none):pQ K (upd H p (.lst [.int n])) F M (.ref p) (eF [n]):=by
 obtain⟨g,l,b,r⟩:=(h.cP (xs:=nums [n]) hp).bM (pR [n]);exact⟨g,l,b,r⟩
inductive MA (K)(c)(vs:List V)(H)(Q)(E):Prop|mk (a) (sv) (xs) (s) (F) (M):vs=[.ref a.dk]->fj K c F s sv xs->af K H F (cZ c a sv xs M)->Done K c s .rows a sv xs F M Q E->MA K c vs H Q E
theorem WJ (T:Tx K mg c):Mt P w K mg base c.bW "count_rows" (2) ["self"] (MA K c):=by
 refine T.mo 166 4 ["self"] λH y nd C h=>?_;obtain⟨a,i,g,s,F,M,rfl,st,b,o⟩:=h;refine⟨_,(ah (ba (bJ (sI T) T.bW.1 (pv 0))) (ak (aC (bO (ae (cM cE (by rfl) T.cst.len cT (ae (ay (pv 0) rfl) ag)) ag))))),?_⟩;refine⟨a.dk,a.dx,_,rfl,b.at,rfl,a,i,g,s,F,M,rfl,st,b,λe=>o.none e (λt z=>by cases z) b,λfs e=>?_⟩;refine(rM b (jn _ _) ⟨a.ka,g,rfl,.inl (ax.of b.dv),?_⟩);refine⟨by show 1<=bH;rw[bq];decide,λp hp=>?_⟩;have es:=lV (k:= .rows) e (λt z=>by cases z);obtain⟨u,j,h2,r2⟩:=nD (n:=((g.length:Nat):Int)) b hp;refine o.yes (λn z=>by rw[es]at z;cases z) _ _ u a.ka i g j h2 (by rw[es];exact st.mono j) ?_;rw[es];show Rep K u _ (eF [((s.rows.length:Nat):Int)]);rw[<-st.len];omega
end
section
inductive MB (K)(c)(vs)(H)(Q)(E):Prop|mk (a) (sv vt) (xs) (s) (t:aq) (F) (M):vs=[.ref a.dk,vt]->Rep K F vt (bP t)->t.length<=20000->fj K c F s sv xs->af K H F (cZ c a sv xs M)->Done K c s (.schema t) a sv xs F M Q E->MB K c vs H Q E
theorem WK (T:Tx K mg c):Mt P w K mg base c.bW "replace_schema" (32) ["self","text"] (MB K c):=by
 refine T.mo 166 1 ["self","text"] λH W nd hr h=>?_;obtain⟨a,X,j,i,s,t,F,M,rfl,rt,y,st,I,g⟩:=h;refine⟨_,(ah (bI (pv 0) (pf (VW T) (ae (pv 1) ag)) rfl) (ah (bI (pv 0) (bO ag) rfl) (ak (aC (bO (ae aY ag)))))),?_⟩;refine⟨j,t,F,_,rfl,rt,y,I,λG L U o J=>?_,λfs e H2 F2 x k h2 r2=>?_⟩
 ·refine g.no (-1) _ ?_ (.inl ⟨rfl,rfl⟩) L U o J;unfold cv;dsimp only;cases q:sT t with
  |ok fs=>exact absurd q (G fs)
  |error _=>rfl
 have es:cv s (.schema t)=({schema:=some fs,rows:=[]},.number 0):=by
  unfold cv;simp_all
 refine(wM h2 (vK _ _) (by show 2<1000;decide) λH3 h3=>?_);refine⟨bR _,λp hp=>?_⟩;have h4:=h3.cP (xs:=[]) hp;refine(wM h4.sw (jn _ _) (by show 2<1000;decide) λH5 h5=>?_);refine⟨by show 1<=bH;rw[bq];decide,λY C=>?_⟩;obtain⟨O,b,h6,r6⟩:=nD (n:=0) h5 C
 refine g.yes (λn z=>by rw[es]at z;cases z) _ _ O p x [] (k.trans b) h6.ig.drop (by
  rw[es];refine⟨(λz=>by cases z),(λdC z=>?_),bR _⟩;cases z;exact⟨My.PJ e,r2.mono b,.nil,(λv u=>by cases u)⟩) ?_
 rw[es];exact r6
theorem k7 (h:iP fs):bB (.group false fs) 6:=by
 exact⟨by decide,h.ne,h.ok⟩
theorem WL (h:iP fs)(e:nG fs t= .ok v):vJ fs v/\g5 fs v=t/\t.length<=4000:=by
 have h1:=(My.tR h.wf).mp e;have h2:=My.Pc e;exact⟨⟨My.Pf e,by rw[h2];lia⟩,h2,h1.1⟩
inductive MC (K)(c)(vs)(H)(Q)(E):Prop|mk (a) (sv vt) (xs) (s) (t:aq) (F) (M):vs=[.ref a.dk,vt]->Rep K F vt (bP t)->t.length<=20000->fj K c F s sv xs->af K H F (cZ c a sv xs M)->Done K c s (.put t) a sv xs F M Q E->MC K c vs H Q E
theorem WM (T:Tx K mg c):Mt P w K mg base c.bW "put_row" (33) ["self","text"] (MC K c):=by
 refine T.mo 166 3 ["self","text","schema","value"] λH vs nd hr h=>?_;obtain⟨a,G,vt,b,s,t,F,M,rfl,rt,ht,st,i,C⟩:=h;refine⟨_,(ah (aN 2 (bJ (sI T) T.bW.1 (pv 0))) (ah (aN 3 (pf (Vg T) (ae (ay (pv 2) rfl) (ae (pv 1) ag)))) (ah (aL (aP cy (cM cE (by rfl) T.cst.len cT (ae (ay (pv 0) rfl) ag)) (aD T.cst.JO)) (ak (cO T.uY)) aS) (ah (ba (d9 eU gv gw f6 (ay (pv 0) rfl) (ae (pk (Mw T) (ae (pv 1) (ae (pf (K6 T) (ae (pv 2) (ae (pv 3) ag))) ag))) ag))) (ak (aC (bO (ae (de kg (cM cE (by rfl) T.cst.len cT (ae (ay (pv 0) rfl) ag)) aY) ag)))))))),?_⟩;refine⟨a.dk,a.dx,_,rfl,i.at,rfl,a,G,b,s,F,M,rfl,st,i,λe=>C.none e (λt z=>by cases z) i,λfs e=>?_⟩;obtain⟨g,I,rrs,hrows⟩:=st.sc fs e;have es:=lV (k:= .put t) e (λt z=>by cases z)
 have es:cv s (.put t)=(match nG fs t with
  | .error _=>(s,.refused (-1))
  | .ok v=>if Ov<=s.rows.length then(s,.refused (-5))else({s with rows:=s.rows++[v]},.number s.rows.length)):=es
 refine(rF i I (d:=FD c FI.root (.group false fs)) rfl λvr rr=>⟨vr,vt,fs,t,F,_,rfl,(k7 g),rr,rt,ht,i,λhn H' F' l' h'=>?_,λv ev H2 X Y u h2 r2=>?_⟩)
 ·refine C.no (-1) _ ?_ (.inl ⟨rfl,rfl⟩) H' F' l' h';rw[es];cases q:nG fs t with
  |ok v=>exact absurd q (hn v)
  |error _=>rfl
 rw[ev]at es;obtain⟨J,U,h4000⟩:=WL g ev;refine(rM h2 (jn _ _) ⟨a.ka,b,rfl,.inl (ax.of h2.dv),rfl,?_⟩);have hln:=st.ln;have hxl:=st.len;refine bG (λq=>?_) λq=>?_
 ·have q:b.length=100:=by
   have:((b.length:Nat):Int)=100:=by simpa using q
   lia
  refine C.no (-5) _ ?_ (by unfold gZ;simp) H2 X u h2;rw[es];show(if 100<=s.rows.length then _ else _:zZ×Answer).2=_;rw[if_pos (by lia)]
 have q:b.length≠100:=λz=>by
  rw[z]at q;exact absurd q (by decide)
 have es:cv s (.put t)=({s with rows:=s.rows++[v]},.number s.rows.length):=by
  rw[es];show(if 100<=s.rows.length then _ else _:zZ×Answer)=_;rw[if_neg (by lia)]
 have hlv:=g.lv;refine(rM h2 (jn _ _) ⟨⟨rfl,_,ax.of h2.dv⟩,G,Y,fs,v,X,_,rfl,k7 g,by lia,J.of.wv,I.mono u,r2,h2,λj=>?_,λx3 H3 F3 O h3 r3=>?_⟩)
 ·have:=My.Hj (.group false fs) 0 0 0 v j J.of.wv;have e4:Vacolb.showVal (.group false fs) v=g5 fs v:=rfl;rw[e4,U]at this;exact eA this (by lia)
 refine λy dy ny ndy ney=>⟨y,dy,_,_,F3,_,rfl,h3.make ny ndy ney T.Row.1,λH4 h4=>⟨rfl,?_⟩⟩;obtain⟨F5,l5,h5,r5⟩:=h4.lL (gs:=[("text",bP t),("entries",.lst ((c8 fs v).map (lS c)))]) (.cons (rt.mono (u.trans O)) (.cons r3 .nil));have L:=u.trans (O.trans l5);refine⟨a.ka,_,_,rfl,rfl,h5.dv,by rw[bq];lia,?_⟩;have h6:=(h5.sw.eh (ys:=b++[.ref y])).sw;refine(rM h6 (jn _ _) ⟨a.ka,_,rfl,.inl (ax.of h6.dv),_,_,rfl,rfl,?_⟩);refine⟨by show 1<=bH;rw[bq];decide,λp hp=>?_⟩;obtain⟨W,o,h7,r7⟩:=nD (n:=(((b++[V.ref y]).length:Nat):Int)-1) h6 hp
 refine C.yes (λn z=>by rw[es]at z;cases z) _ _ W a.ka G (b++[.ref y]) (L.trans o) h7 (by
  rw[es];refine⟨(λz=>by rw[e]at z;cases z),(λdC z=>?_),?_⟩
  ·have z:s.schema=some dC:=z;rw[e]at z;cases z;refine⟨g,I.mono (L.trans o),?_,λv' hv'=>?_⟩
   ·rw[dA];refine(rrs.mono (L.trans o)).snoc ?_;unfold sH;rw[U];exact r5.mono o
   ·rcases gm.mp hv' with w|w
    ·exact hrows v' w
    ·rw[g7.mp w];exact J
  ·show(s.rows++[v]).length<=100;rw[aQ,fE]
   lia) ?_
 rw[es];show Rep K W _ (eF [((s.rows.length:Nat):Int)])
 have e8:(((b++[V.ref y]).length:Nat):Int)-1=((s.rows.length:Nat):Int):=by
  rw[aQ,fE]
  lia
 rw[<-e8];exact r7
end
section
theorem vL (t):bP t=eF (t.map Int.ofNat):=by
 unfold bP eF;rw[bZ];rfl
theorem DT (h:af K H F M)(k:Rep K F x (eF s))(j:Rep K F y (eF t))(C:s.length+t.length<=16000000)(q:∀v i g,Le F g->af K i g M->Rep K g v (eF (s++t))->Q v i):rL x y H Q:=by
 obtain⟨a,rfl,u⟩:=k.nums;obtain⟨b,rfl,o⟩:=j.nums;refine⟨a,b,_,_,rfl,rfl,h.le _ _ u,h.le _ _ o,by rw[lT,lT,bq];lia,λp hp=>?_⟩;rw[<-Dv];obtain⟨g,l,z,r⟩:=(h.cP (xs:=nums (s++t)) hp).bM (pR (s++t));exact q _ _ _ l z r
theorem MD {b:List V}(g:0<=n)(h:b[n.toNat]? =some y):oh b n=some y:=by
 have e:n=((n.toNat:Nat):Int):=by lia
 rw[e];exact uJ h
inductive ME (K)(c)(vs:List V)(H)(Q:VK)(E:XK):Prop|mk (a) (sv) (xs) (s) (n) (F) (M):vs=[.ref a.dk,.int n]->fj K c F s sv xs->af K H F (cZ c a sv xs M)->((s.schema=none->E (.ref c.jm) none H))->((∀fs,s.schema=some fs->at? s.rows n=none->E (.ref c.lM) none H))->((∀fs v,s.schema=some fs->at? s.rows n=some v->Q .aB H))->ME K c vs H Q E
theorem MF (T:Tx K mg c):Mt P w K mg base c.bW "check_row" (2) ["self","number"] (ME K c):=by
 refine T.mo 166 5 ["self","number"] λH y nd C h=>?_;obtain⟨a,k,g,s,n,F,M,rfl,st,i,u,j,o⟩:=h;refine⟨_,(ah (ba (bJ (sI T) T.bW.1 (pv 0))) (ak (aL (PW.pt (jD (aP jf (pv 1) aY) (kP (aP uF (pv 1) (cM cE (by rfl) T.cst.len cT (ae (ay (pv 0) rfl) ag)))))) (ak (cO T.uX)) aS))),?_⟩;refine⟨a.dk,a.dx,_,rfl,i.at,rfl,a,k,g,s,F,M,rfl,st,i,u,λfs e=>?_⟩;have z:=st.len;refine⟨_,_,rfl,rfl,?_⟩;refine bG (λq=>?_) λq=>?_
 ·have q:n<0:=by simpa using q
  exact(j fs e (by unfold at?;rw[if_pos q]))
 have q:¬n<0:=by simpa using q
 refine(rM i (jn _ _) ⟨a.ka,g,rfl,.inl (ax.of i.dv),_,_,rfl,rfl,?_⟩);refine bG (λb=>?_) λb=>?_
 ·have b:(g.length:Int)<=n:=by simpa using b
  refine j fs e ?_;unfold at?;rw[if_neg q,YR (by omega)]
 ·have b:¬(g.length:Int)<=n:=by simpa using b
  have lt:n.toNat<s.rows.length:=by omega
  refine o fs (s.rows[n.toNat]) e ?_;unfold at?;rw[if_neg q,eI lt]
inductive MG (K)(c)(vs:List V)(H)(Q)(E):Prop|mk (a) (sv) (xs) (s) (n) (F) (M):vs=[.ref a.dk,.int n]->fj K c F s sv xs->af K H F (cZ c a sv xs M)->Done K c s (.show n) a sv xs F M Q E->MG K c vs H Q E
set_option tactic.hygienic true in
theorem WN (T:Tx K mg c):Mt P w K mg base c.bW "show_row" (3) ["self","number"] (MG K c):=by
 refine T.mo 166 6 ["self","number","text"] λH vs nd hr h=>?_;obtain⟨a,C,g,s,n,F,M,rfl,st,b,o⟩:=h;refine⟨_,(ah (ba (pm (MF T) T.bW.1 (pv 0) (ae (pv 1) ag))) (ah (aN 2 (ay (d8 dS (ay (pv 0) rfl) (pv 1)) rfl)) (ak (aC (de lI (bO (ae (cM cE (by rfl) T.cst.len cT (ae (pv 2) ag)) ag)) (pv 2)))))),?_⟩;refine⟨a.dk,a.dx,_,rfl,b.at,rfl,a,C,g,s,n,F,M,rfl,st,b,λe=>o.none e (λt z=>by cases z) b,λfs e q=>?_,λfs v e q=>?_⟩
 all_goals
  have es:cv s (.show n)=(s,match at? s.rows n with
   |none=> .refused (-3)
   |some v=> .bytes (g5 fs v)):=lV (k:= .show n) e (λt z=>by cases z)
  rw[q]at es
 ·exact o.no (-3) _ (by rw[es]) (by unfold gZ;simp) H F (Le.refl F) b
 obtain⟨so,rsch,L,X⟩:=st.sc fs e;unfold at? at q;split at q
 ·cases q
 rename_i hn;obtain⟨y,U,I⟩:=L.get (i:=n.toNat) (d:=sH c fs v) (by rw[dB,q];rfl);refine(rM b (jn _ _) ⟨a.ka,g,n,y,rfl,rfl,ax.of b.dv,MD (by lia) U,?_⟩);refine rF b I (d:=bP (g5 fs v)) rfl λvt rt=>?_;obtain⟨u,rfl,W⟩:=rt.nats;have O:=X v (gI q);have hlen:=O.len;refine⟨u,_,rfl,.inl (ax.of (b.le _ _ W)),?_⟩;rw[gB];refine⟨by show 1<=bH;rw[bq];decide,λp hp=>?_⟩;obtain⟨F2,j,h2,r2⟩:=nD (n:=(((g5 fs v).length:Nat):Int)) b hp
 have J:Rep K F2 (.ref u) (eF ((g5 fs v).map Int.ofNat)):=by
  rw[<-vL];exact rt.mono j
 refine DT h2 r2 J (by rw[bb];simp;lia) λx Y F3 G h3 r3=>?_;refine o.yes (λm z=>by rw[es]at z;cases z) x Y F3 a.ka C g (j.trans G) h3 (by rw[es];exact st.mono (j.trans G)) ?_;rw[es];exact r3
end
mutual
theorem MH:∀(i:FI) (k:Kd) (n:Nat),bB k n->∀x∈cF i k,x.1.path.length<=i.path.length+n
 |i,.leaf l=>λn h x b=>by
  rw[cF]at b;rw[g7.mp b];exact nH _ _
 |i,.group ch fs=>λn h x b=>by
  rw[cF]at b;unfold bB at h;have:=MI i ch i.a fs _ h.2.2 x b;have:=h.1;omega
theorem MI:∀(i:FI) (ch:Bool) (a:Nat) (fs:aJ) (n:Nat),bC fs n ch->∀x∈da i ch a fs,x.1.path.length<=i.path.length+n+1
 |i,ch,a,.nil=>λn h x b=>by
  rw[da]at b;cases b
 |i,ch,a,.cons hd k rest=>λn h x b=>by
  rw[da]at b;unfold bC at h;rcases gm.mp b with q|q
  ·have:=MH _ k n h.2.2.2.2.2.2.1 x q
   have e:(i.bE ch hd a).path.length=i.path.length+1:=by
    show(i.path++[hd.number]).length=_;rw[aQ];rfl
   omega
  ·exact MI i ch _ rest n h.2.2.2.2.2.2.2 x q
end
section
theorem y_ (fs)(n):at? (di fs) n=(at? (LV fs) n).map nB:=by
 unfold at?;split
 ·rfl
 ·rw[DK,dB]
inductive MJ (K)(c)(vs:List V)(H)(Q:VK)(E:XK):Prop|mk (a) (sv) (xs) (s) (n) (F) (M):vs=[.ref a.dk,.int n]->fj K c F s sv xs->af K H F (cZ c a sv xs M)->((s.schema=none->E (.ref c.jm) none H))->((∀fs,s.schema=some fs->at? (LV fs) n=none->E (.ref c.lN) none H))->((∀fs x,s.schema=some fs->at? (LV fs) n=some x->∀y,Rep K F y (FD c x.1 (.leaf x.2))->Q y H))->MJ K c vs H Q E
theorem DU (T:Tx K mg c):Mt P w K mg base c.bW "known_column" (2) ["self","number"] (MJ K c):=by
 refine T.mo 166 7 ["self","number","columns"] λH W nd hr h=>?_;obtain⟨a,G,C,s,n,F,M,rfl,st,j,O,o,L⟩:=h;refine⟨_,(ah (aN 2 (ay (bJ (sI T) T.bW.1 (pv 0)) rfl)) (ah (aL (PW.pt (jD (aP jf (pv 1) aY) (kP (aP uF (pv 1) (cM cE (by rfl) T.cst.len cT (ae (pv 2) ag)))))) (ak (cO T.rY)) aS) (ak (aC (d8 dS (pv 2) (pv 1)))))),?_⟩;refine⟨a.dk,a.dx,_,rfl,j.at,rfl,a,G,C,s,F,M,rfl,st,j,O,λfs e=>?_⟩;obtain⟨Y,J,rrs,hrows⟩:=st.sc fs e;refine rF j J (f:="columns") (d:= .lst (LD c FI.root (.group false fs))) rfl λX k=>?_;rw[DD]at k;obtain⟨ca,b,rfl,u,rs⟩:=k.lst_inv;have hyl:b.length=(LV fs).length:=by rw[rs.len,bb];rfl
 refine⟨_,_,rfl,rfl,?_⟩;refine bG (λq=>?_) λq=>?_
 ·have q:n<0:=by simpa using q
  exact o fs e (by unfold at?;rw[if_pos q])
 have q:¬n<0:=by simpa using q
 refine⟨ca,b,rfl,.inl (ax.of (j.le _ _ u)),_,_,rfl,rfl,?_⟩;refine bG (λg=>?_) λg=>?_
 ·have g:(b.length:Int)<=n:=by simpa using g
  refine o fs e ?_;unfold at?;rw[if_neg q,YR (by omega)]
 ·have g:¬(b.length:Int)<=n:=by simpa using g
  have lt:n.toNat<(LV fs).length:=by omega
  have z:=eI lt
  obtain⟨y,U,I⟩:=rs.get (i:=n.toNat) (d:=FD c ((LV fs)[n.toNat]).1 (.leaf ((LV fs)[n.toNat]).2)) (by
   rw[dB];show((LV fs)[n.toNat]?).map _=_;rw[z];rfl)
  refine⟨ca,b,n,y,rfl,rfl,ax.of (j.le _ _ u),MD (by lia) U,?_⟩;refine L fs _ e ?_ y I;unfold at?;rw[if_neg q,z]
inductive MK (K)(c)(vs:List V)(H)(Q)(E):Prop|mk (a) (sv) (xs) (s) (n) (F) (M):vs=[.ref a.dk,.int n]->fj K c F s sv xs->af K H F (cZ c a sv xs M)->Done K c s (.column n) a sv xs F M Q E->MK K c vs H Q E
theorem WO (l):YS l=[sf l,(sg l)]:=by
 cases l<;>rfl
theorem WQ (T:Tx K mg c):Mt P w K mg base c.bW "tell_column" (3) ["self","number"] (MK K c):=by
 refine T.mo 166 8 ["self","number","field"] λH vs nd hr h=>?_;obtain⟨a,u,i,s,n,F,M,rfl,st,b,o⟩:=h;refine⟨_,(ah (aN 2 (pm (DU T) T.bW.1 (pv 0) (ae (pv 1) ag))) (ak (aC (de lI (bO (ae (ay (pv 2) rfl) (ae (ay (pv 2) rfl) (ae (ay (pv 2) rfl) (ae (ay (pv 2) rfl) (ae (cM cE (by rfl) T.cst.len cT (ae (ay (pv 2) rfl) ag)) ag)))))) (ay (pv 2) rfl))))),?_⟩;refine⟨a.dk,a.dx,_,rfl,b.at,rfl,a,u,i,s,n,F,M,rfl,st,b,λe=>o.none e (λt z=>by cases z) b,λfs e q=>?_,λfs x e q y g=>?_⟩
 all_goals
  have es:cv s (.column n)=(s,match at? (di fs) n with
   |none=> .refused (-4)
   |some x=> .column x):=lV (k:= .column n) e (λt z=>by cases z)
  rw[y_,q]at es
 ·exact o.no (-4) _ (by rw[es];rfl) (by unfold gZ;simp) H F (Le.refl F) b
 obtain⟨J,rsch,rrs,hrows⟩:=st.sc fs e
 have X:x∈LV fs:=by
  unfold at? at q;split at q
  ·cases q
  ·exact gI q
 have hpl:x.1.path.length<=6:=by
  have:=MH FI.root (.group false fs) 6 (k7 J) x X;have h0:FI.root.path.length=0:=rfl
  lia
 refine(iX b g (U7 b g (yC b g (pV b g (C7 b g λvp U=>?_)))));obtain⟨W,rfl,Y⟩:=U.nats;refine⟨W,_,rfl,.inl (ax.of (b.le _ _ Y)),?_⟩;rw[gB];refine⟨by show 5<=bH;rw[bq];decide,λp hp=>?_⟩;obtain⟨F2,j,h2,r2⟩:=(b.cP (xs:=nums [sf x.2,(sg x.2:Int),(x.1.r:Int),(x.1.d:Int),((x.1.path.length:Nat):Int)]) hp).bM (pR _);refine(C7 h2 (g.mono j) λI O=>?_)
 have L:Rep K F2 I (eF (x.1.path.map Int.ofNat)):=by
  rw[<-vL];exact O
 refine DT h2 r2 L (by rw[bb];simp;lia) λv H3 G C h3 r3=>?_;refine o.yes (λm z=>by rw[es]at z;cases z) v H3 G a.ka u i (j.trans C) h3 (by rw[es];exact st.mono (j.trans C)) ?_;rw[es];show Rep K G v (eF (YS x.2++([(x.1.r:Int),(x.1.d:Int),((x.1.path.length:Nat):Int)]++x.1.path.map Int.ofNat)));rw[WO];exact r3
end
open Vacolc (shredRows entriesOf)
section
theorem ML (l):l.flatMap EO=(My.numsOf l).map Int.ofNat:=by
 unfold My.numsOf;rw[YT];congr 1;funext e;unfold EO My.qY;cases e.val with
 |none=>rfl
 |some v=>rfl
theorem WR (h:af K H F ((tx,.lst (bytes t))::M))(i:Rep K F x (bP s))(k:t.length+s.length<=16000000)(q:∀g,af K g F ((tx,.lst (bytes (t++s)))::M)->Q .aB g):oo (.ref tx) [x] H Q:=by
 obtain⟨b,rfl,j⟩:=i.nats;refine⟨tx,b,_,_,rfl,rfl,h.at,h.le _ _ j,by rw[gB,gB,bq];lia,?_⟩;rw[<-rR];exact q _ h.eh
theorem WS (h:af K H F ((tx,.lst (bytes t))::M))(i:Rep K F x (bP s))(j:t.length+s.length<=16000000)(q:∀b,af K b F ((tx,.lst (bytes (t++s)))::M)->Q .aB b):dJ σ H λg k=>oo (.ref tx) (x::g) k Q:=WR h i j q
inductive MM (K)(c)(vs:List V)(H)(Q)(E):Prop|mk (a) (sv) (xs) (s) (cn f n) (F) (M):vs=[.ref a.dk,.int cn,.int f,.int n]->fj K c F s sv xs->af K H F (cZ c a sv xs M)->(iM (cv s (.entries cn f n)).2).length<=10000000->Done K c s (.entries cn f n) a sv xs F M Q E->MM K c vs H Q E
theorem WU (T:Tx K mg c):Mt P w K mg base c.bW "tell_entries" (3) ["self","column","first","count"] (MM K c):=by
 refine T.mO 166 9 ["self","column","first","count","total","numbers","row"] λf bu A outer s H vs Q E nd hr h=>?_;obtain⟨a,sv,o,s,i,f,n,F,M,rfl,st,G,X,Y⟩:=h;refine⟨_,(ah (ba (pm (DU T) T.bW.1 (pv 0) (ae (pv 1) ag))) (ah (aL (PW.pt (jD (aP jf (pv 2) aY) (jD (aP jf (pv 3) aY) (kP (aP iW (de lG (pv 2) (pv 3)) (cM cE (by rfl) T.cst.len cT (ae (ay (pv 0) rfl) ag))))))) (ak (cO T.uX)) aS) (ah (aN 4 aY) (ah (aN 5 (bO ag)) (ah (gj d_ rfl (fg (m9 lH (ay (pv 0) rfl) (ji (pv 2)) (ji (de lG (pv 2) (pv 3))))) (dF 6) (ah (uC 4 (ay (d8 dS (ay (pv 6) rfl) (pv 1)) rfl) uD) (ak (ba (d9 eU wu wx rK (pv 5) (ae (ay (d8 dS (ay (pv 6) rfl) (pv 1)) rfl) ag)))))) (ak (aC (de lI (bO (ae (pv 4) ag)) (pv 5))))))))),?_⟩;refine⟨a.dk,a.dx,_,rfl,G.at,rfl,a,sv,o,s,i,F,M,rfl,st,G,λe=>Y.none e (λt z=>by cases z) G,λfs e q=>?_,λfs x e q y ry=>?_⟩
 all_goals
  have es:cv s (.entries i f n)=(s,z5 s fs i f n):=lV (k:= .entries i f n) e (λt z=>by cases z);have I:=y_ fs i;rw[q]at I
 ·refine Y.no (-4) _ ?_ (by unfold gZ;simp) H F (Le.refl F) G;rw[es];show z5 s fs i f n=_;unfold z5;unfold at? at I;by_cases W:i<0
  ·rw[if_pos W]
  ·rw[if_neg W]at I⊢;rw[I];rfl
 have W:¬i<0:=λz=>by
  unfold at? at q;rw[if_pos z]at q;cases q
 have hcx:(di fs)[i.toNat]? =some (nB x):=by
  unfold at? at I;rw[if_neg W]at I;exact I
 have es2:z5 s fs i f n=if f<0\/n<0\/(s.rows.length:Int)<f+n then .refused (-3)else .entries (nB x) (((qk fs ((s.rows.drop f.toNat).take n.toNat))[i.toNat]?).getD []):=by
  unfold z5;rw[if_neg W,hcx]
 rw[es2]at es;obtain⟨so,rsch,rrs,hrows⟩:=st.sc fs e;have hxl:=st.len;have hln:=st.ln
 have bad:(f<0\/n<0\/(s.rows.length:Int)<f+n)->E (.ref c.lM) none H:=λz=>by
  rw[if_pos z]at es;exact Y.no (-3) _ (by rw[es]) (by unfold gZ;simp) H F (Le.refl F) G
 refine⟨_,_,rfl,rfl,?_⟩;refine bG (λL=>?_) λL=>?_
 ·have L:f<0:=by simpa using L
  exact bad (.inl L)
 have L:¬f<0:=by simpa using L
 refine⟨_,_,rfl,rfl,?_⟩;refine bG (λJ=>?_) λJ=>?_
 ·have J:n<0:=by simpa using J
  exact bad (.inr (.inl J))
 have J:¬n<0:=by simpa using J
 refine⟨_,_,rfl,rfl,rM G (jn _ _) ⟨a.ka,o,rfl,.inl (ax.of G.dv),_,_,rfl,rfl,?_⟩⟩;refine bG (λU=>?_) λU=>?_
 ·have U:(o.length:Int)<f+n:=by simpa using U
  exact bad (.inr (.inr (by lia)))
 have U:¬(o.length:Int)<f+n:=by simpa using U
 rw[if_neg (by lia)]at es;obtain⟨b,rfl⟩:∃m:Nat,i=(m:Int):=⟨i.toNat,by lia⟩;obtain⟨C,rfl⟩:∃m:Nat,f=(m:Int):=⟨f.toNat,by lia⟩;obtain⟨u,rfl⟩:∃m:Nat,n=(m:Int):=⟨n.toNat,by lia⟩;rw[Ow]at es hcx;rw[Ow,Ow]at es;have hcl:b<(di fs).length:=(cK.mp hcx).1;have hsel:∀v∈(s.rows.drop C).take u,vJ fs v:=λv O=>hrows v (zp (qr O));rw[My.Pd (λv O=>(hsel v O).of) hcl]at es;rw[es]at X
 have rsel:aU K F ((o.drop C).take u) (((s.rows.drop C).take u).map (sH c fs)):=by
  have:=(rrs.drop C).take u;rw[<-qo,<-lg]at this;exact this
 generalize(s.rows.drop C).take u=sel at*;generalize hys:(o.drop C).take u=ys at*
 have X:((My.numsOf (sel.flatMap λv=>((c8 fs v)[b]?).getD [])).length:Nat)+1<=10000000:=by
  have e9:iM (.entries (nB x) (sel.flatMap λv=>((c8 fs v)[b]?).getD []))=(((sel.flatMap λv=>((c8 fs v)[b]?).getD []).length:Nat):Int)::(sel.flatMap λv=>((c8 fs v)[b]?).getD []).flatMap EO:=rfl;rw[e9,ML,bf,bb]at X;exact X
 have hyl:ys.length=sel.length:=by rw[rsel.len,bb]
 refine⟨bR _,λp hp=>?_⟩;have h1:=G.cP (xs:=[]) hp;generalize upd H p (.lst [])=H1 at h1⊢;refine(rM h1.sw (jn _ _) ⟨_,rfl,_,_,rfl,rfl,_,rfl,a.ka,o,rfl,ax.of h1.at2,λp2 hp2=>?_⟩);have e4:((C:Int)+(u:Int))=((C+u:Nat):Int):=by lia
 rw[e4,Dx,zy,hys];obtain⟨F2,l2,h2,r2⟩:=h1.sj hp2 rsel;generalize upd H1 p2 (.lst ys)=H2 at h2⊢;obtain⟨p3,ys3,e5,hp3,rs3⟩:=r2.lst_inv;cases e5;have hys3:ys3.length=sel.length:=by rw[rs3.len,bb]
 refine⟨p2,rfl,⟨_,ax.of (h2.le _ _ hp3)⟩,kR (xs:=ys3) (λj σ H'=>af K H' F2 ((p,.lst (bytes (My.numsOf ((sel.take j).flatMap λv=>((c8 fs v)[b]?).getD []))))::cZ c a sv o M)/\∃z,σ=[some (.ref a.dk),some (.int (b:Int)),some (.int (C:Int)),some (.int (u:Int)),some (.int ((((sel.take j).flatMap λv=>((c8 fs v)[b]?).getD []).length:Nat):Int)),some (.ref p),z]) ⟨h2,none,rfl⟩ ?_ ?_ ?_⟩
 ·rintro j σ H' _ ⟨g,z,rfl⟩;exact ax.of (g.le _ _ hp3)
 ·rintro j x1 σ H' hx1 ⟨g,z,rfl⟩;obtain⟨d0,hd0,rx⟩:=rs3.get' hx1;rw[dB,aX]at hd0;obtain⟨v,O,rfl⟩:=hd0;obtain⟨lt,ev⟩:=cK.mp O;have hro:=hsel v (gI O);have hsl:=My.Aj hro.of;have hcv:(c8 fs v)[b]? =some ((c8 fs v)[b]'(by lia)):=eI _
  have etk:(sel.take (j+1)).flatMap (λv=>((c8 fs v)[b]?).getD [])=(sel.take j).flatMap (λv=>((c8 fs v)[b]?).getD [])++(c8 fs v)[b]'(by lia):=by
   rw[i8 lt,zB,ev,qi,YU,eZ,hcv];rfl
  have hb:(My.numsOf ((sel.take (j+1)).flatMap λv=>((c8 fs v)[b]?).getD [])).length<=10000000:=by
   have e8:sel.flatMap (λv=>((c8 fs v)[b]?).getD [])=(sel.take (j+1)).flatMap (λv=>((c8 fs v)[b]?).getD [])++(sel.drop (j+1)).flatMap (λv=>((c8 fs v)[b]?).getD []):=by
    rw[<-zB,il]
   rw[e8,My.m4,aQ]at X
   lia
  rw[etk,My.m4,aQ]at hb
  have rg:((c8 fs v).map (lS c))[b]? =some (lS c ((c8 fs v)[b]'(by lia))):=by
   rw[dB,hcv];rfl
  refine⟨_,rfl,rF g rx (f:="entries") (d:= .lst ((c8 fs v).map (lS c))) rfl λve re=>(ft (j:=b) g re rg λy1 ry1=>dK g ry1 (f:="total") (y:= .int ((((c8 fs v)[b]'(by lia)).length:Nat):Int)) rfl ⟨_,_,rfl,rfl,?_⟩)⟩;refine⟨⟨rfl,_,ax.of g.at⟩,rF g rx (f:="entries") (d:= .lst ((c8 fs v).map (lS c))) rfl λve2 re2=>(ft (j:=b) g re2 rg λy2 ry2=>rF g ry2 (f:="numbers") (d:=bP (My.numsOf ((c8 fs v)[b]'(by lia)))) rfl λvn rn=>?_)⟩;refine WS g rn (by lia) λH3 h3=>⟨?_,some x1,?_⟩
  ·rw[etk,My.m4];exact h3
  ·rw[etk,aQ];rfl
 ·rintro σ H' ⟨g,z,rfl⟩;rw[hys3,iJ]at g⊢;obtain⟨F4,l4,h4,r4⟩:=g.bM (oA _);refine⟨by show 1<=bH;rw[bq];decide,λp5 hp5=>?_⟩;obtain⟨F5,l5,h5,r5⟩:=nD (n:=(((sel.flatMap λv=>((c8 fs v)[b]?).getD []).length:Nat):Int)) h4 hp5
  have r6:Rep K F5 (.ref p) (eF ((My.numsOf (sel.flatMap λv=>((c8 fs v)[b]?).getD [])).map Int.ofNat)):=by
   rw[<-vL];exact r4.mono l5
  have l05:=l2.trans (l4.trans l5);refine DT h5 r5 r6 (by rw[bb];simp;lia) λv7 H7 F7 l7 h7 r7=>?_;refine Y.yes (λm z=>by rw[es]at z;cases z) v7 H7 F7 a.ka sv o (l05.trans l7) h7 (by rw[es];exact st.mono (l05.trans l7)) ?_;rw[es];show Rep K F7 v7 (eF ((((sel.flatMap λv=>((c8 fs v)[b]?).getD []).length:Nat):Int)::(sel.flatMap λv=>((c8 fs v)[b]?).getD []).flatMap EO));rw[ML];exact r7
end
open Vacolc (Raw goodPicks takeColumns told judge handed assemble)
open My (mv bD fY fJ fH)
theorem za (fs)(l:List Int):l.filterMap (λi=>(di fs)[i.toNat]?)=(aO fs (l.map b_)).map (·.1):=by
 rw[vG,bZ];unfold eL;rw[List.filterMap_map,NI,DK];refine My.pz λi _=>?_;rw[dB];rfl
theorem WV (g)(b):((g.map (·.1)).zip b).map (λx=>x.2.map (fY x.1.leaf))=bD g b:=by
 induction g generalizing b with
 |nil=>rfl
 |cons t g h=>
  cases b with
  |nil=>rfl
  |cons r b=>exact congrArg _ (h b)
section
variable {fs:aJ}{l t:List Int}{aA:List (List Raw)}
theorem DV (h:fS (l.filterMap λi=>(di fs)[i.toNat]?) t=none):∀es,fJ (jM (eL fs (l.map b_))) t≠some (es,[]):=λes z=>by
 have e:=My.BC (l.filterMap λi=>(di fs)[i.toNat]?) t;rw[h]at e;rw[LZ]at z;rw[za,bZ]at e;have z:fJ ((aO fs (l.map b_)).map ((λc=>(c.leaf,c.defn))∘λx=>x.1)) t=some (es,[]):=z;simp_all
theorem sJ (h:fS (l.filterMap λi=>(di fs)[i.toNat]?) t=some aA):fJ (jM (eL fs (l.map b_))) t=some (bD (aO fs (l.map b_)) aA,[]):=by
 have e:=My.BC (l.filterMap λi=>(di fs)[i.toNat]?) t;rw[h,za,bZ]at e;rw[LZ]
 have e:(fJ ((aO fs (l.map b_)).map λx=>(x.1.leaf,x.1.defn)) t).bind (λx=>if x.2=[]then some x.1 else none)=some (bD (aO fs (l.map b_)) aA):=by
  rw[<-WV];exact e
 obtain⟨⟨es,r⟩,g,b⟩:=iI.mp e;simp_all
theorem zb (b)(aA)(h:aA.length=b.length):((bD b aA).any λl=>decide (1000<l.length))=aA.any λc=>decide (ER<c.length):=by
 induction b generalizing aA with
 |nil=>
  cases aA with
  |nil=>rfl
  |cons r aA=>cases h
 |cons x b g=>
  cases aA with
  |nil=>cases h
  |cons r aA=>
   have:=g aA (by simpa using h);show(decide (1000<(r.map _).length)||_)=(decide (1000<r.length)||_);rw[bb];exact congrArg _ this
theorem DW (b:iP fs)(u:i5 fs l=true)(h:fS (l.filterMap λi=>(di fs)[i.toNat]?) t=some aA):mv fs (l.map b_) aA:=by
 obtain⟨g,o,_⟩:=My.HU u;have j:=My.Hv h;rw[za,bb,My.j6 g]at j;refine⟨b.ok,b.ne,g,λz=>o (sV.mp z),j,λx k=>?_⟩;rw[za]at h
 have:=My.HI h (x.1.1,x.2) (by
  rw[YV];exact dU.mpr ⟨x,k,rfl⟩)
 omega
end
abbrev eY (fs:aJ)(b:List Nat)(g:List (List Raw)):List ((FI×bN)×List Ent):=(eL fs b).zip (bD (aO fs b) g)
section
variable {fs:aJ}{picks:List Nat}{aA:List (List Raw)}(h:mv fs picks aA)
include h
theorem MN:(eL fs picks).length=(bD (aO fs picks) aA).length:=by
 rw[DL h.rs,My.xq (by rw[My.j6 h.rs];exact h.ln),My.j6 h.rs]
theorem vM:(eY fs picks aA).map (·.1)=eL fs picks:=XM (sZ (MN h))
theorem zc:(eY fs picks aA).map (·.2)=bD (aO fs picks) aA:=XN (sZ (MN h).symm)
theorem MO:(eY fs picks aA).map eS=((aO fs picks).map fH).zip (bD (aO fs picks) aA):=by
 rw[Wk,YV];rfl
theorem zd:eY fs picks aA≠[]:=λz=>by
 have:=congrArg f9 (vM h);rw[z,DL h.rs]at this;exact h.ne (iq.mp this.symm)
theorem DX:∀z∈eY fs picks aA,∀e∈z.2,∀y,e.val=some y->My.gO z.1.2 y:=by
 intro z b e o y u;have b:z∈(eL fs picks).zip (bD (aO fs picks) aA):=b;unfold bD at b;rw[vG]at b;obtain⟨j,k⟩:=YM b;rw[zw]at k;obtain⟨h1,h2⟩:=k;rw[dB,aX]at h2;obtain⟨x,i,C⟩:=h2;rw[zw,dB,h1]at i;obtain⟨g,F⟩:=i;have g:=kz g;rw[<-C,My.QW]at o;obtain⟨r,G,rfl⟩:=dU.mp o;have:=My.QV y u;rw[<-g]at this;exact this
theorem DY (g:(aA.any λc=>decide (ER<c.length))=false):∀z∈eY fs picks aA,z.2.length<=1000:=λz b=>by
 rw[<-zb (aO fs picks) aA (by rw[My.j6 h.rs];exact h.ln)]at g
 have i:z.2∈bD (aO fs picks) aA:=by
  rw[<-zc h];exact dY b
 simp_all
theorem WW (g:My.dO fs picks aA)(m)(b:1<=m):(iY fs picks (eY fs picks aA) m).map (·.1)=assemble fs (picks.take m) ((bD (aO fs picks) aA).take m):=by
 unfold iY;rw[zc h];exact g.Q5 b
end
open Vacolb (goodColumns)
open Vacolc (rises)
section
inductive MP (K)(c)(vs)(H)(Q:VK)(E:XK):Prop|mk (a) (sv vn) (xs) (s) (l) (F) (M):vs=[.ref a.dk,vn]->Rep K F vn (eF l)->l.length<=1000->fj K c F s sv xs->af K H F (cZ c a sv xs M)->((s.schema=none->E (.ref c.jm) none H))->((∀fs,s.schema=some fs->i5 fs l=false->∀H' F',Le F F'->af K H' F' (cZ c a sv xs M)->E (.ref c.lN) none H'))->((∀fs,s.schema=some fs->i5 fs l=true->∀x H' F',Le F F'->af K H' F' (cZ c a sv xs M)->Rep K F' x (Dy c (eL fs (l.map b_)))->Q x H'))->MP K c vs H Q E
theorem WX {j:Nat}(h:l[j]? =some n)(b:at? (LV fs) n=none):i5 fs l=false:=by
 have:zH fs l=false:=by
  unfold zH;rw[Bool.and_eq_false_iff];right;rw[List.all_eq_false];refine⟨n,gI h,?_⟩;rw[y_,b];simp
 unfold i5;simp_all
theorem WY (i:l≠[])(b:qC l=true)(h:∀n∈l,(at? (LV fs) n).isSome=true):i5 fs l=true:=by
 unfold i5 zH;rw[b,YL,dZ];refine⟨?_,fR.mpr λn g=>?_⟩
 ·cases l with
  |nil=>exact absurd rfl i
  |cons _ _=>rfl
 ·rw[y_];have:=h n g;cases e:at? (LV fs) n with
  |none=>rw[e]at this;cases this
  |some x=>rfl
inductive MQ (a)(sv)(xs)(l:List Int)(F)(M)(fs)(d)(j)(H2):Prop|mk (ys) (F2):Le F F2->((∀n∈l.take j,(at? (LV fs) n).isSome=true))->aU K F2 ys ((eL fs ((l.take j).map b_)).map λx=>FD c x.1 (.leaf x.2))->ys.length=j->af K H2 F2 ((d,.lst ys)::cZ c a sv xs M)->MQ a sv xs l F M fs d j H2
theorem MR (T:Tx K mg c):Mt P w K mg base c.bW "known_columns" (4) ["self","numbers"] (MP K c):=by
 refine T.mo 166 10 ["self","numbers","place","number"] λH vs nd hr h=>?_;obtain⟨a,L,vn,C,s,l,F,M,rfl,rn,hl,st,g,k1,k2,k3⟩:=h;refine⟨_,(ah (ba (bJ (sI T) T.bW.1 (pv 0))) (ah (aL (aP cy (cM cE (by rfl) T.cst.len cT (ae (pv 1) ag)) aY) (ak (cO T.rY)) aS) (ah (gj d_ rfl (BU rfl T.cst.range (ae aY (ae (cM cE (by rfl) T.cst.len cT (ae (pv 1) ag)) ag))) (dF 2) (ak (aL (aP jF (d8 dS (pv 1) (pv 2)) (d8 dS (pv 1) (de kg (pv 2) aY))) (ak (cO T.rY)) aS))) (ak (aC (nu (own:=[("number",3)]) jj (λ_ _ _ z=>z) rfl nd (fg (pv 1)) (kU (N:=["self","numbers","place","number"]) (sc:=cY (inClass (top 166) 10)) (by decide+kernel)) (λ_ _ _ _ _=>(dF 3)) (λ_ _ _ _ _=>nc) (λ_ _ _ _ _ _ pE=>(pm (DU T) T.bW.1 (pv 0) (ae (pv 3) ag))))))))),?_⟩;refine⟨a.dk,a.dx,_,rfl,g.at,rfl,a,L,C,s,F,M,rfl,st,g,k1,λfs e=>?_⟩;obtain⟨so,rsch,rrs,hrows⟩:=st.sc fs e;obtain⟨O,rfl,Y⟩:=rn.nums;have G:(nums l).length=l.length:=lT l;refine⟨O,_,rfl,.inl (ax.of (g.le _ _ Y)),rfl,?_⟩;rw[G];refine bG (λq=>?_) λq=>?_
 ·have q:l=[]:=by
   have:((l.length:Nat):Int)=0:=by simpa using q
   exact iq.mp (by lia)
  refine k2 fs e ?_ H F (Le.refl F) g;rw[q];rfl
 have q:l≠[]:=λz=>by
  rw[z]at q;exact absurd q (by decide)
 have hl0:1<=l.length:=zk.mpr q;refine⟨O,_,rfl,.inl (ax.of (g.le _ _ Y)),1,_,rfl,⟨by decide,by decide,by rw[G];lia,by rw[G];lia⟩,rE (lo:=1) (λi σ W=>W=H/\(∀j x y,j<i->l[j]? =some x->l[j+1]? =some y->x<y)/\∃z,σ=[some (.ref a.dk),some (.ref O),z,none]) ⟨rfl,(λj x y U=>absurd U (k_ _)),none,rfl⟩ ?_ ?_⟩
 ·rintro i σ W hi ⟨rfl,U,z,rfl⟩;rw[G]at hi;have h1:i<l.length:=by lia
  have h2:i+1<l.length:=by lia
  have e1:l[i]? =some l[i]:=eI _;have e2:l[i+1]? =some l[i+1]:=eI _;have ei:(1:Int)+(i:Int)=((i+1:Nat):Int):=by lia
  show(m8 _ _ _) _ [some (.ref a.dk),some (.ref O),some (.int (1+(i:Int))),none] W;rw[ei];refine(ft (j:=i+1) g rn (d:= .v (.int l[i+1])) (by rw[dB,e2];rfl) λy ry=>?_);have:=ry.val;subst this;refine⟨_,_,rfl,rfl,?_⟩
  have ei3:V.int (((i+1:Nat):Int)-1)=V.int ((i:Nat):Int):=by
   congr 1
   lia
  rw[ei3];refine ft (j:=i) g rn (d:= .v (.int l[i])) (by rw[dB,e1];rfl) λy2 ry2=>?_;have:=ry2.val;subst this;refine⟨_,_,rfl,rfl,?_⟩;refine bG (λw=>?_) λw=>?_
  ·have w:l[i+1]<=l[i]:=by simpa using w
   refine k2 fs e ?_ W F (Le.refl F) g
   have:qC l=false:=by
    cases q3:qC l with
    |false=>rfl
    |true=>
     have:=My.xF.mp q3 i _ _ e1 e2
     lia
   unfold i5;rw[this,Ym]
  ·have w:¬l[i+1]<=l[i]:=by simpa using w
   refine⟨rfl,λj x y hj2 k b=>?_,_,rfl⟩;by_cases hji:j=i
   ·subst hji;rw[e1]at k;rw[e2]at b;cases k;cases b
    lia
   ·exact U j x y (by lia) k b
 ·rintro σ W ⟨rfl,U,z,rfl⟩
  have hris:=My.xF.mpr λj x y k b=>by
   have:=(cK.mp b).1;refine U j x y ?_ k b;rw[G]
   lia
  refine⟨O,rfl,⟨_,ax.of (g.le _ _ Y)⟩,λd hd=>ki (xs:=nums l) (MQ a L C l F M fs d)
   ⟨[],F,Le.refl F,(λn hn=>by cases hn),.nil,rfl,g.cP hd⟩ ?_ ?_ ?_⟩
  ·rintro j H2 _ ⟨J,I,u,b,rs,X,h2⟩;exact ax.of (h2.le _ _ (u _ _ Y))
  ·rintro j x H2 k ⟨J,I,u,b,rs,X,h2⟩;rw[yR,aX]at k;obtain⟨n,hn,rfl⟩:=k;obtain⟨lt,en⟩:=cK.mp hn;refine⟨rfl,nA ?_⟩;have h2p:af K H2 I (cZ c a L C ((d,.lst J)::M)):=h2.perm (jT (l₁:=[a.cell c L,(a.ka,.lst C)])).symm;refine⟨a.dk,a.dx,_,rfl,h2.dv,rfl,a,L,C,s,n,I,_,rfl,st.mono u,h2p,λz=>(by rw[e]at z;cases z),λdC e' o=>?_,λdC x2 e' o y ry=>?_⟩
   all_goals
    rw[e]at e';cases e'
   ·exact k2 fs e (WX hn o) H2 I u h2.drop
   ·refine⟨J,h2.at,by rw[X,bq];lia,J++[y],I,u,λm hm=>?_,?_,by rw[aQ,X];rfl,h2.eh⟩
    ·rw[i8 lt,en]at hm;rcases gm.mp hm with w|w
     ·exact b m w
     ·rw[g7.mp w,o];rfl
    ·have e5:eL fs ((l.take (j+1)).map b_)=eL fs ((l.take j).map b_)++[x2]:=by
      rw[i8 lt,en,dA];unfold eL;rw[List.filterMap_append];unfold at? at o;split at o
      ·cases o
      ·show _++List.filterMap _ [n.toNat]=_;rw[o8,o];rfl
     rw[e5,dA];exact rs.snoc ry
  ·rintro H2 ⟨J,I,u,b,rs,X,h2⟩;rw[G,iJ]at b rs;obtain⟨F3,l3,h3,r3⟩:=h2.bM rs;exact k3 fs e (WY q hris b) _ _ F3 (u.trans l3) h3 r3
end
open My (dO)
section
variable {fs:aJ}{picks:List Nat}{aA:List (List Raw)}(h:mv fs picks aA)
include h
theorem qc (b:dq 0 ((eY fs picks aA).map eS)=none):dO fs picks aA:=by
 rw[MO h]at b;exact h.Q4 b
theorem DZ (b:dq 0 ((eY fs picks aA).map eS)=some f):nJ fs picks aA= .error f:=by
 rw[MO h]at b;exact h.bad b
theorem qd (b:dO fs picks aA):(gN (br (λi=>picks.contains i) (.group false fs) 0) ((eY fs picks aA).map (·.2))).map (·.1)=assemble fs picks (bD (aO fs picks) aA):=by
 rw[zc h];exact b.rows
theorem WZ:(eY fs picks aA).length=picks.length:=by
 have:=congrArg f9 (vM h);rw[bb,DL h.rs]at this;omega
theorem ze (g:dO fs picks aA)(m)(b:1<=m):(iY fs picks (eY fs picks aA) m).isSome=(assemble fs (picks.take m) ((bD (aO fs picks) aA).take m)).isSome:=by
 rw[<-WW h g m b,Option.isSome_map]
theorem W0 (b:dO fs picks aA)(g:assemble fs picks (bD (aO fs picks) aA)=none):∃j,j<(eY fs picks aA).length/\(∀i,i<j->(iY fs picks (eY fs picks aA) (i+1)).isSome=true)/\iY fs picks (eY fs picks aA) (j+1)=none:=by
 obtain⟨j,h1,h2,h3,_⟩:=b.xr g;refine⟨j,by rw[WZ h];exact h1,λi k=>?_,?_⟩
 ·rw[ze h b _ (by lia)];exact h2 i k
 ·have:=ze h b (j+1) (by lia);rw[h3]at this;cases e:iY fs picks (eY fs picks aA) (j+1)with
  |none=>rfl
  |some x=>rw[e]at this;cases this
theorem W1 (g:dO fs picks aA)(k:assemble fs picks (bD (aO fs picks) aA)=none)(u:∀i,i<j->(iY fs picks (eY fs picks aA) (i+1)).isSome=true)(o:iY fs picks (eY fs picks aA) (j+1)=none):nJ fs picks aA= .error (5,j,0):=by
 obtain⟨b,h1,h2,h3,h4⟩:=g.xr k
 have e:j=b:=by
  rcases Nat.lt_trichotomy j b with q|q|q
  ·have:=h2 j q;rw[<-ze h g _ (by lia),o]at this;simp_all
  ·exact q
  ·have:=u b q;rw[ze h g _ (by lia),h3]at this;simp_all
 simp_all
theorem W2 (k:dO fs picks aA)(j:assemble fs picks (bD (aO fs picks) aA)=some vs):∃z g,eY fs picks aA=z::g/\(z.2.filter λe=>e.rep==0).length=vs.length:=by
 obtain⟨r,rs,u,o⟩:=k.count j;have b:=zc h;cases q:eY fs picks aA with
 |nil=>exact absurd q (zd h)
 |cons z g=>
  refine⟨z,g,rfl,?_⟩;rw[q,cu,u]at b;cases i:aO fs picks with
  |nil=>
   rw[i]at b;cases b
  |cons t y=>
   rw[i]at b;have b:z.2::g.map (·.2)=r.map (fY t.1.leaf)::_:=b;injection b with h1 _
   rw[h1,<-o,sW,bb];rfl
end
section
variable {fs:aJ}{l t:List Int}{aA:List (List Raw)}
theorem MS (h:i5 fs l=false):handed fs l t= .error (-4):=by
 unfold handed;rw[if_pos h]
theorem D0 (h:i5 fs l=true)(h2:fS (l.filterMap λi=>(di fs)[i.toNat]?) t=none):handed fs l t= .error (-7):=by
 unfold handed;simp_all
theorem D1 (h:i5 fs l=true)(h2:fS (l.filterMap λi=>(di fs)[i.toNat]?) t=some aA)(h3:(aA.any λc=>decide (ER<c.length))=true):handed fs l t= .error (-6):=by
 unfold handed;simp_all
theorem D2 (h:i5 fs l=true)(h2:fS (l.filterMap λi=>(di fs)[i.toNat]?) t=some aA)(h3:(aA.any λc=>decide (ER<c.length))=false):handed fs l t= .ok (nJ fs (l.map b_) aA):=by
 unfold handed;simp_all
end
section
theorem D3 (b:iP fs)(picks):∀x∈eL fs picks,iz x.2:=λx g=>LU FI.root (.group false fs) 6 (k7 b) x (Wl x g)
theorem D4 (b:iP fs)(h:i5 fs l=true):(eL fs (l.map b_)).length<=1000:=by
 obtain⟨g,_,_⟩:=My.HU h;have:=congrArg f9 (sD g);rw[<-this];have h2:=ph (λx:FI×bN=>(l.map b_).contains x.1.a) (LV fs);rw[y6]at h2;have h3:=b.lv;exact eA h2 (by lia)
inductive MT (K)(c)(vs)(H)(Q)(E):Prop|mk (a) (sv vn ve) (xs) (s) (l t) (F) (M):vs=[.ref a.dk,vn,ve]->Rep K F vn (eF l)->l.length<=1000->Rep K F ve (eF t)->t.length<=20000->fj K c F s sv xs->af K H F (cZ c a sv xs M)->Done K c s (.check l t) a sv xs F M Q E->MT K c vs H Q E
theorem MU {D}(h:af K H F M)(r:Rep K F x (vI c f))(b:f.1≠0)(q:∀p,H p=none->D.rt (.ref p) (upd H p (.lst [.int (f.1:Int),.int (f.2.1:Int),.int (f.2.2:Int)]))):
 kQ (m8 (my (iE rG (gS K (bg 4) "kind") (tC (V.int 0)))) tt n4) (lF (pI (dr (gS K (bg 4) "kind") (dr (gS K (bg 4) "column_place") (dr (gS K (bg 4) "entry_place") dJ))))) D [some v0,some v1,some v2,some v3,some x] H:=by
 refine(dK h r (f:="kind") (y:= .int (f.1:Int)) rfl ⟨rfl,?_⟩);rw[decide_eq_false (λz=>b (by injection z with z;lia))];refine(dK h r (f:="kind") (y:= .int (f.1:Int)) rfl (dK h r (f:="column_place") (y:= .int (f.2.1:Int)) rfl (dK h r (f:="entry_place") (y:= .int (f.2.2:Int)) rfl ⟨by show 3<=bH;rw[bq];decide,q⟩)))
theorem W3 (T:Tx K mg c):Mt P w K mg base c.bW "tell_fault" (26) ["self","numbers","entries"] (MT K c):=by
 refine T.mo 166 11 ["self","numbers","entries","columns","fault"] λH vs nd hr h=>?_;obtain⟨a,sv,vn,ve,G,s,l,t,F,M,rfl,rn,hl,re,ht,st,hH,L⟩:=h;refine⟨_,(ah (aN 3 (pf (Dz T) (ae (pm (MR T) T.bW.1 (pv 0) (ae (pv 1) ag)) (ae (pv 2) ag)))) (ah (aN 4 (pf (WH T) (ae (ay (ay (pv 0) rfl) rfl) (ae (pv 3) ag)))) (ah (aL (aP cy (ay (pv 4) rfl) (aD T.cst.oy)) (ak (aC (bO (ae (aD T.cst.oy) (ae (bJ (WA T) T.lO.1 (d8 dS (pv 3) aY)) (ae aY ag)))))) aS) (ak (aC (bO (ae (ay (pv 4) rfl) (ae (ay (pv 4) rfl) (ae (ay (pv 4) rfl) ag))))))))),?_⟩
 have es:∀fs,s.schema=some fs->cv s (.check l t)=(s,match handed fs l t with
  | .error n=> .refused n
  | .ok (.error f)=> .three f.1 f.2.1 f.2.2
  | .ok (.ok vs)=> .three 0 vs.length 0):=λfs e=>lV (k:= .check l t) e (λt z=>by cases z)
 refine⟨a.dk,a.dx,_,rfl,hH.at,rfl,a,sv,vn,G,s,l,F,M,rfl,rn,hl,st,hH,λe=>L.none e (λt z=>by cases z) hH,λfs e J H1 F1 U h1=>?_,λfs e J x H1 F1 U h1 r1=>?_⟩
 ·exact L.no (-4) _ (by rw[es fs e,MS J]) (by unfold gZ;simp) H1 F1 U h1
 obtain⟨so,rsch,rrs,hrows⟩:=st.sc fs e;have es:=es fs e;refine⟨x,ve,_,t,F1,_,rfl,D3 so _,D4 so J,r1,re.mono U,ht,h1,λhno H2 F2 X h2=>?_,λes2 e2 Y H2 F2 X h2=>?_,λes2 e2 Y H2 F2 v2 X h2 r2=>?_⟩
 ·cases C:fS (l.filterMap λi=>(di fs)[i.toNat]?) t with
  |none=>exact L.no (-7) _ (by rw[es,D0 J C]) (by unfold gZ;simp) H2 F2 (U.trans X) h2
  |some O=>exact absurd (sJ C) (hno _)
 all_goals
  cases C:fS (l.filterMap λi=>(di fs)[i.toNat]?) t with
  |none=>exact absurd e2 (DV C _)
  |some O=>?_
  have e3:=sJ C;rw[e2]at e3;cases e3;have b:=DW so J C;have ha:=zb (aO fs (l.map b_)) O (by rw[My.j6 b.rs];exact b.ln);rw[ha]at Y
 ·exact L.no (-6) _ (by rw[es,D1 J C Y]) (by unfold gZ;simp) H2 F2 (U.trans X) h2
 rw[D2 J C Y]at es;have W:=U.trans X;refine(rM h2 (vK _ _) (rF h2 (rsch.mono W) (f:="record") (d:=FD c FI.root (.group false fs)) rfl λvr rr=>?_));have hz1:=DY b Y;have hz2:=DX b;refine⟨vr,v2,fs,_,eY fs (l.map b_) O,F2,_,rfl,so,rr,r2,b.rs,vM b,zd b,λz hz=>⟨hz1 z hz,hz2 z hz⟩,h2,λg hp=>?_,λf g x3 H3 F3 u h3 r3=>?_,λg hp x3 H3 F3 u h3 r3=>?_,λg hp j j1 j2 j3 x3 H3 F3 u h3 r3=>?_⟩
 ·have o:=qc b g;refine W0 b o ?_;rw[<-qd b o,hp];rfl
 ·exact MU h3 r3 (λz=>by
   rw[DR.mp (by rw[g];exact z)]at g
   cases g) λp hp=>by
    rw[DZ b g]at es;obtain⟨F4,I,h4,r4⟩:=(h3.cP (xs:=nums [(f.1:Int),(f.2.1:Int),(f.2.2:Int)]) hp).bM (pR _);refine L.yes (λm z=>by rw[es]at z;cases z) _ _ F4 a.ka sv G (W.trans (u.trans I)) h4 (by rw[es];exact st.mono (W.trans (u.trans I))) ?_;rw[es];exact r4
 ·have o:=qc b g;have hro:=qd b o;cases ep:gN (br (λi=>(l.map b_).contains i) (.group false fs) 0) ((eY fs (l.map b_) O).map (·.2))with
  |none=>rw[ep]at hp;cases hp
  |some y=>
   rw[ep]at hro;have hv:=hro.symm;rw[o.judge_ok hv]at es;obtain⟨z,zs,ez,ec⟩:=W2 b o hv;refine(dK h3 r3 (f:="kind") (y:= .int 0) rfl ⟨rfl,?_⟩);refine(ft (j:=0) h3 (r2.mono u) (d:=jG c z) (by show((eY fs (l.map b_) O).map (jG c))[0]? =_;rw[ez];rfl) λy1 ry1=>?_);obtain⟨ya,ydx,yfs,rfl,hya,_,_,ryf⟩:=ry1.nq;have hzl:=hz1 z (by rw[ez];exact aH);refine⟨ya,ydx,yfs,rfl,h3.le _ _ hya,ryf.none rfl,.ref ya,z,F3,_,rfl,hzl,ry1,h3,λH4 F4 I h4=>?_⟩;rw[ec];refine⟨by show 3<=bH;rw[bq];decide,λp hp=>?_⟩;obtain⟨F5,l5,h5,r5⟩:=(h4.cP (xs:=nums [0,((y.1.length:Nat):Int),0]) hp).bM (pR _);have l05:=W.trans (u.trans (I.trans l5));refine L.yes (λm z=>by rw[es]at z;cases z) _ _ F5 a.ka sv G l05 h5 (by rw[es];exact st.mono l05) ?_;rw[es];exact r5
 ·have o:=qc b g
  have hv:assemble fs (l.map b_) (bD (aO fs (l.map b_)) O)=none:=by
   rw[<-qd b o,hp];rfl
  rw[W1 b o hv j2 j3]at es
  exact MU h3 r3 (λz=>by cases z) λp hp=>by
   obtain⟨F4,I,h4,r4⟩:=(h3.cP (xs:=nums [5,(j:Int),0]) hp).bM (pR _);refine L.yes (λm z=>by rw[es]at z;cases z) _ _ F4 a.ka sv G (W.trans (u.trans I)) h4 (by rw[es];exact st.mono (W.trans (u.trans I))) ?_;rw[es];exact r4
end
open Vacola (shape)
open Vacolb (showVal pathsOf)
open My (Wv)
section
variable {fs:aJ}{picks:List Nat}{aA:List (List Raw)}
theorem W4 (b:dO fs picks aA):YW (bT fs picks) (.group false fs) []=some (.group false (jr fs picks)):=by
 have g:¬My.nk (bT fs picks) (.group false fs) []=0:=by
  rw[My.kK,b.cnt.1];have:=b.cnt.2
  lia
 have h1:=My.ub (.group false fs) (kept:=bT fs picks) [];have e:Vacola.keepFields (bT fs picks) fs []=jr fs picks:=rfl;unfold YW at h1⊢;rw[e]at h1⊢;cases q:jr fs picks with
 |nil=>
  simp_all
 |cons h k r=>rfl
theorem W5 (h:mv fs picks aA)(k:dO fs picks aA)(o:iP fs)(b:assemble fs picks (bD (aO fs picks) aA)=some vs):
 (∀v∈vs,Wv (.group false fs) (d5 (br (λi=>picks.contains i) (.group false fs) 0) v)/\cS (.group false fs) (d5 (br (λi=>picks.contains i) (.group false fs) 0) v)=g5 (jr fs picks) v)/\
 (vs.map λv=>(g5 (jr fs picks) v).length+16).sum<=60*My.cx (bD (aO fs picks) aA):=by
 obtain⟨g,_⟩:=k.vals b;have j:=W4 k;rw[My.Bh k.ok];refine⟨λv b=>⟨My.G9 _ _ v (g v b).1,My.GS _ _ _ v j (g v b).1⟩,?_⟩;have u:=My.bB.nm (k7 o);have:=(My.HR (My.G2 _ 6 [] _ u j) (λv b=>My.HS _ _ _ v j (g v b).1 (g v b).2) (My.HQ b)).1;exact this
theorem W6 (u:dO fs (fw (aG fs)) aA)(g:iP fs)(b:assemble fs (fw (aG fs)) (bD (aO fs (fw (aG fs))) aA)=some vs):
 (∀v∈vs,iy (.group false fs) v/\d5 (br (λi=>(fw (aG fs)).contains i) (.group false fs) 0) v=v)/\
 (vs.map λv=>(g5 fs v).length+16).sum<=60*My.cx (bD (aO fs (fw (aG fs))) aA)/\(vs.map λv=>My.cx (c8 fs v)).sum=My.cx (bD (aO fs (fw (aG fs))) aA):=by
 obtain⟨h,_⟩:=u.vals b;rw[My.Bh u.ok];have C:=My.GZ g.ok
 have o:=λx y=>by
  exact C x y
 have j:=λv b=>My.GW _ 6 _ v (k7 g) o (h v b).1 (h v b).2;refine⟨λv b=>⟨j v b,My.GU _ 6 _ v (k7 g) o (h v b).1⟩,?_⟩;have z:=My.bB.nm (k7 g);have k:=My.HQ b;rw[My.Qt g.ok]at k;exact My.HR z j k
end
section
inductive MV (K)(c)(vs)(H)(Q)(E):Prop|mk (a) (sv vn ve) (xs) (s) (l t) (F) (M):vs=[.ref a.dk,vn,ve]->Rep K F vn (eF l)->l.length<=1000->Rep K F ve (eF t)->t.length<=15000->fj K c F s sv xs->af K H F (cZ c a sv xs M)->Done K c s (.assemble l t) a sv xs F M Q E->MV K c vs H Q E
theorem MW (f:Val->aq):∀b:List Val,(b.flatMap λv=>(f v).length::f v).length<=(b.map λv=>(f v).length+16).sum
 |[]=>bA _
 |v::b=>by
  rw[qi,aQ,cu,iv,bf];have:=MW f b
  lia
theorem W7 (f)(b:List Val):(b.map f).flatMap YX=(b.flatMap λv=>(f v).length::f v).map Int.ofNat:=by
 rw[Nr,YT];rfl
inductive MX (a)(sv vn ve)(xs)(M)(v2 vr)(vs:List Val)(F3)(tx:Val->aq)(va p)(j)(σ:L2.St)(H'):Prop|mk (F') (z7 z8):Le F3 F'->af K H' F' ((p,.lst (bytes (vs.length::(vs.take j).flatMap λv=>(tx v).length::tx v)))::cZ c a sv xs M)->σ=[some (.ref a.dk),some vn,some ve,some v2,some vr,some (.ref va),some (.ref p),z7,z8]->MX a sv vn ve xs M v2 vr vs F3 tx va p j σ H'
theorem W8 (T:Tx K mg c):Mt P w K mg base c.bW "assemble_texts" (26) ["self","numbers","entries"] (MV K c):=by
 refine T.mo 166 12 ["self","numbers","entries","columns","record","values","told","value","text"] λH b nd hr h=>?_;obtain⟨a,sv,vn,ve,xs,s,l,t,F,M,rfl,rn,hl,re,ht,st,hH,J⟩:=h;refine⟨_,(ah (aN 3 (pf (Dz T) (ae (pm (MR T) T.bW.1 (pv 0) (ae (pv 1) ag)) (ae (pv 2) ag)))) (ah (aN 4 (ay (ay (pv 0) rfl) rfl)) (ah (aN 5 (pf (Mp T) (ae (pv 4) (ae (pv 3) ag)))) (ah (aN 6 (bO (ae (cM cE (by rfl) T.cst.len cT (ae (pv 5) ag)) ag))) (ah (gj d_ rfl (fg (pv 5)) (dF 7) (ah (aN 8 (pf (KD T) (ae (pv 4) (ae (pv 7) ag)))) (ah (ba (d9 eU gv gw f6 (pv 6) (ae (cM cE (by rfl) T.cst.len cT (ae (pv 8) ag)) ag))) (ak (ba (d9 eU wu wx rK (pv 6) (ae (pv 8) ag))))))) (ak (aC (pv 6)))))))),?_⟩
 have es:∀fs,s.schema=some fs->cv s (.assemble l t)=(s,match handed fs l t with
  | .error n=> .refused n
  | .ok (.error _)=> .refused (-1)
  | .ok (.ok b)=> .texts (b.map (g5 (jr fs (l.map b_))))):=λfs e=>lV (k:= .assemble l t) e (λt z=>by cases z)
 refine⟨a.dk,a.dx,_,rfl,hH.at,rfl,a,sv,vn,xs,s,l,F,M,rfl,rn,hl,st,hH,λe=>J.none e (λt z=>by cases z) hH,λfs e I H1 F1 U h1=>?_,λfs e I x H1 F1 U h1 r1=>?_⟩
 ·exact J.no (-4) _ (by rw[es fs e,MS I]) (by unfold gZ;simp) H1 F1 U h1
 obtain⟨L,rsch,rrs,hrows⟩:=st.sc fs e;have es:=es fs e;refine⟨x,ve,_,t,F1,_,rfl,D3 L _,D4 L I,r1,re.mono U,by lia,h1,λhno H2 F2 l2 h2=>?_,λes2 e2 hany H2 F2 l2 h2=>?_,λes2 e2 hany H2 F2 v2 l2 h2 r2=>?_⟩
 ·cases o:fS (l.filterMap λi=>(di fs)[i.toNat]?) t with
  |none=>exact J.no (-7) _ (by rw[es,D0 I o]) (by unfold gZ;simp) H2 F2 (U.trans l2) h2
  |some C=>exact absurd (sJ o) (hno _)
 all_goals
  cases o:fS (l.filterMap λi=>(di fs)[i.toNat]?) t with
  |none=>exact absurd e2 (DV o _)
  |some C=>?_
  have e3:=sJ o;rw[e2]at e3;cases e3;have g:=DW L I o;have ha:=zb (aO fs (l.map b_)) C (by rw[My.j6 g.rs];exact g.ln);rw[ha]at hany
 ·exact J.no (-6) _ (by rw[es,D1 I o hany]) (by unfold gZ;simp) H2 F2 (U.trans l2) h2
 rw[D2 I o hany]at es;have l02:=U.trans l2;have hnum:=My.xD e2;have hz1:=DY g hany;have hz2:=DX g;refine(rM h2 (vK _ _) (rF h2 (rsch.mono l02) (f:="record") (d:=FD c FI.root (.group false fs)) rfl λvr rr=>?_));refine⟨λi=>(l.map b_).contains i,vr,v2,fs,eY fs (l.map b_) C,F2,_,rfl,L,rr,r2,(by rw[sD g.rs];exact vM g),zd g,λz hz=>⟨hz1 z hz,hz2 z hz⟩,h2,λhw Y u O h3=>?_,λhw hp Y u O h3=>?_,λhw b c' hp x3 Y u O h3 r3=>?_⟩
 ·cases q:dq 0 ((eY fs (l.map b_) C).map eS)with
  |none=>exact absurd q hw
  |some f=>exact J.no (-1) _ (by rw[es,DZ g q]) (.inr (.inl ⟨rfl,rfl⟩)) Y u (l02.trans O) h3
 ·have W:=qc g hw
  have hv:assemble fs (l.map b_) (bD (aO fs (l.map b_)) C)=none:=by
   rw[<-qd g W,hp];rfl
  obtain⟨j,_,_,_,hj⟩:=W.xr hv;exact J.no (-1) _ (by rw[es,hj]) (.inr (.inl ⟨rfl,rfl⟩)) Y u (l02.trans O) h3
 have W:=qc g hw
 have hv:assemble fs (l.map b_) (bD (aO fs (l.map b_)) C)=some b:=by
  rw[<-qd g W,hp];rfl
 rw[W.judge_ok hv]at es;have es:cv s (.assemble l t)=(s,.texts (b.map (g5 (jr fs (l.map b_))))):=es;obtain⟨t1,t2⟩:=W5 g W L hv;have hsum:=MW (g5 (jr fs (l.map b_))) b
 have hnum:My.cx (bD (aO fs (l.map b_)) C)<=15000:=by
  have:=My.xD e2
  lia
 have hbig:(b.flatMap λv=>(g5 (jr fs (l.map b_)) v).length::g5 (jr fs (l.map b_)) v).length<=900000:=by lia
 generalize g5 (jr fs (l.map b_))=tx at*;generalize br (λi=>(l.map b_).contains i) (.group false fs) 0=bk at*;obtain⟨va,ys,rfl,hva,rys⟩:=r3.lst_inv;have hyl:ys.length=b.length:=by rw[rys.len,kq,bb]
 refine⟨va,_,rfl,.inl (ax.of (h3.le _ _ hva)),?_⟩;rw[hyl];refine⟨by show 1<=bH;rw[bq];decide,λp hp=>?_⟩;have h4:af K (upd Y p (.lst [.int ((b.length:Nat):Int)])) u ((p,.lst (bytes [b.length]))::cZ c a sv xs M):=h3.cP hp;generalize upd Y p (.lst [.int ((b.length:Nat):Int)])=H4 at h4⊢;refine⟨va,rfl,⟨_,ax.of (h4.le _ _ hva)⟩,kR (xs:=ys) (MX a sv vn ve xs M v2 vr b u tx va p) ⟨u,none,none,Le.refl u,h4,rfl⟩ ?_ ?_ ?_⟩
 ·rintro j σ H' _ ⟨F',z7,z8,G,X,rfl⟩;exact ax.of (X.le _ _ (G _ _ hva))
 ·rintro j x σ H' hx ⟨F',z7,z8,G,X,rfl⟩;obtain⟨d0,hd0,rx⟩:=(rys.mono G).get' hx;rw[pX,dB,NJ,aX]at hd0;obtain⟨v,hvj,rfl⟩:=hd0;obtain⟨lt,ev⟩:=cK.mp hvj;obtain⟨w1,w2⟩:=t1 v (gI hvj)
  have etk:(b.take (j+1)).flatMap (λv=>(tx v).length::tx v)=(b.take j).flatMap (λv=>(tx v).length::tx v)++((tx v).length::tx v):=by
   rw[i8 lt,zB,ev,qi,YU,eZ]
  have hb:((b.take (j+1)).flatMap λv=>(tx v).length::tx v).length<=900000:=by
   have e8:b.flatMap (λv=>(tx v).length::tx v)=(b.take (j+1)).flatMap (λv=>(tx v).length::tx v)++(b.drop (j+1)).flatMap (λv=>(tx v).length::tx v):=by
    rw[<-zB,il]
   rw[e8,aQ]at hbig
   lia
  rw[etk,aQ,bf]at hb;refine⟨vr,x,FI.root,.group false fs,d5 bk v,F',_,rfl,k7 L,w1,rr.mono (O.trans G),rx,X,(by rw[w2];lia),λy H5 F5 l5 h5 ry=>?_⟩;rw[w2]at ry;obtain⟨ya,rfl,hya⟩:=ry.nats;refine⟨⟨rfl,_,ax.of h5.at⟩,ya,_,rfl,.inl (ax.of (h5.le _ _ hya)),?_⟩;rw[gB];refine KJ (n:=(tx v).length) rfl h5 (by rw[bf];lia) λH6 h6=>?_;refine⟨⟨rfl,_,ax.of h6.at⟩,?_⟩;refine Ky (λ_ q=>q) h6 ry (by simp only[aQ,bf,List.length_nil];lia) λH7 h7=>?_;refine⟨F5,some x,some (.ref ya),G.trans l5,?_,rfl⟩;rw[etk];have e9:(b.length::(b.take j).flatMap λv=>(tx v).length::tx v)++[(tx v).length]++tx v=b.length::((b.take j).flatMap (λv=>(tx v).length::tx v)++((tx v).length::tx v)):=by simp
  rw[<-e9];exact h7
 ·rintro σ H' ⟨F',z7,z8,G,X,rfl⟩;rw[hyl,iJ]at X;obtain⟨F8,l8,h8,r8⟩:=X.bM (oA _);have l08:=l02.trans (O.trans (G.trans l8));refine(J.yes (λm z=>by rw[es]at z;cases z) _ _ F8 a.ka sv xs l08 h8 (by rw[es];exact st.mono l08) ?_);rw[es];show Rep K F8 _ (eF ((((b.map tx).length:Nat):Int)::(b.map tx).flatMap YX));rw[W7,bb];have r9:Rep K F8 (.ref p) (bP (b.length::b.flatMap λv=>(tx v).length::tx v)):=r8;rw[vL]at r9;exact r9
end
open Vacolc (allPicks takes)
section
inductive MY (K)(c)(vs)(H)(Q:VK)(E:XK):Prop|mk (a) (sv ve) (b) (xs bx) (s) (t) (F) (M):vs=[.ref a.dk,.ref b,ve]->(b,HO.lst bx)∈cZ c a sv xs M->bx.length<=100->Rep K F ve (eF t)->t.length<=15000->fj K c F s sv xs->af K H F (cZ c a sv xs M)->((s.schema=none->E (.ref c.jm) none H))->((∀fs,s.schema=some fs->∀n C,handed fs (fF fs) t= .error n->gZ c C n->∀H' F',Le F F'->af K H' F' (cZ c a sv xs M)->E (.ref C) none H'))->((∀fs,s.schema=some fs->∀f,handed fs (fF fs) t= .ok (.error f)->∀H' F',Le F F'->af K H' F' (cZ c a sv xs M)->E (.ref c.gX) none H'))->((∀fs,s.schema=some fs->∀vs,handed fs (fF fs) t= .ok (.ok vs)->100<bx.length+vs.length->∀H' F',Le F F'->af K H' F' (cZ c a sv xs M)->E (.ref c.mH) none H'))->((∀fs,s.schema=some fs->∀vs,handed fs (fF fs) t= .ok (.ok vs)->¬100<bx.length+vs.length->∀p ys H' F',Le F F'->af K H' F' ((p,.lst (bx++ys))::cZ c a sv xs M)->aU K F' ys (vs.map (sH c fs))->(∀v∈vs,vJ fs v)->Q (.ref p) H'))->MY K c vs H Q E
inductive MZ (a)(sv)(xs)(M)(fs)(vs:List Val)(F3)(d)(j)(H'):Prop|mk (zs) (F'):Le F3 F'->aU K F' zs ((vs.take j).map (sH c fs))->zs.length=j->af K H' F' ((d,.lst zs)::cZ c a sv xs M)->MZ a sv xs M fs vs F3 d j H'
theorem M0 (T:Tx K mg c):Mt P w K mg base c.bW "joined_rows" (26) ["self","before","entries"] (MY K c):=by
 refine T.mo 166 15 ["self","before","entries","schema","values","value"] λH u nd hr h=>?_;obtain⟨a,sv,ve,b,xs,bx,s,t,F,M,rfl,hbm,hbl,re,ht,st,hH,k0,k1,k2,k3,J⟩:=h;refine⟨_,(ah (aN 3 (bJ (sI T) T.bW.1 (pv 0))) (ah (aN 4 (pf (Mp T) (ae (ay (pv 3) rfl) (ae (pf (Dz T) (ae (ay (pv 3) rfl) (ae (pv 2) ag))) ag)))) (ah (aL (aP iW (de lG (cM cE (by rfl) T.cst.len cT (ae (pv 1) ag)) (cM cE (by rfl) T.cst.len cT (ae (pv 4) ag))) (aD T.cst.JO)) (ak (cO T.uY)) aS) (ak (aC (de lI (pv 1) (nu (own:=[("value",5)]) jj (λ_ _ _ z=>z) rfl nd (fg (pv 4)) (kU (N:=["self","before","entries","schema","values","value"]) (sc:=cY (inClass (top 166) 15)) (by decide+kernel)) (λ_ _ _ _ _=>(dF 5)) (λ_ _ _ _ _=>nc) (λ_ _ _ _ _ _ pE=>(pk (Mw T) (ae (pf (KD T) (ae (oG rfl (pv 3) rfl) (ae (pv 5) ag))) (ae (pf (K6 T) (ae (pv 3) (ae (pv 5) ag))) ag))))))))))),?_⟩;refine⟨a.dk,a.dx,_,rfl,hH.at,rfl,a,sv,xs,s,F,M,rfl,st,hH,k0,λfs e=>?_⟩;obtain⟨C,rsch,rrs,hrows⟩:=st.sc fs e;have k1:=k1 fs e;have k2:=k2 fs e;have k3:=k3 fs e;have J:=J fs e;have hlv:=C.lv
 have hl1:1<=aG fs:=by
  have:=My.uj (.group false fs) 6 (k7 C);rw[au]at this;exact this
 obtain⟨hg,hpk⟩:=My.BJ hl1;refine(rF hH rsch (f:="record") (d:=FD c FI.root (.group false fs)) rfl λvr rr=>(rF hH rsch (f:="columns") (d:= .lst (LD c FI.root (.group false fs))) rfl λvc rc=>?_))
 have rc:Rep K F vc (Dy c (eL fs ((fF fs).map b_))):=by
  rw[hpk,Wn];rw[DD]at rc;exact rc
 refine⟨vc,ve,_,t,F,_,rfl,D3 C _,D4 C hg,rc,re,by lia,hH,λhno H2 F2 G h2=>?_,λes2 e2 hany H2 F2 G h2=>?_,λes2 e2 hany H2 F2 v2 G h2 r2=>?_⟩
 ·cases U:fS ((fF fs).filterMap λi=>(di fs)[i.toNat]?) t with
  |none=>exact k1 (-7) _ (D0 hg U) (by unfold gZ;simp) H2 F2 G h2
  |some X=>exact absurd (sJ U) (hno _)
 all_goals
  cases U:fS ((fF fs).filterMap λi=>(di fs)[i.toNat]?) t with
  |none=>exact absurd e2 (DV U _)
  |some X=>?_
  have e3:=sJ U;rw[e2]at e3;cases e3;have o:=DW C hg U;have ha:=zb (aO fs ((fF fs).map b_)) X (by rw[My.j6 o.rs];exact o.ln);rw[ha]at hany
 ·exact k1 (-6) _ (D1 hg U hany) (by unfold gZ;simp) H2 F2 G h2
 have ho:=D2 hg U hany;rw[ho]at k2 k3 J
 have hnum:My.cx (bD (aO fs ((fF fs).map b_)) X)<=15000:=by
  have:=My.xD e2
  lia
 have hz1:=DY o hany;have hz2:=DX o;refine⟨λi=>((fF fs).map b_).contains i,vr,v2,fs,eY fs ((fF fs).map b_) X,F2,_,rfl,C,rr.mono G,r2,(by rw[sD o.rs];exact vM o),zd o,λz hz=>⟨hz1 z hz,hz2 z hz⟩,h2,λhw H3 W l3 h3=>?_,λhw hp H3 W l3 h3=>?_,λhw u c' hp x3 H3 W l3 h3 r3=>?_⟩
 ·cases q:dq 0 ((eY fs ((fF fs).map b_) X).map eS)with
  |none=>exact absurd q hw
  |some f=>exact k2 f (by rw[DZ o q]) H3 W (G.trans l3) h3
 ·have L:=qc o hw
  have k:assemble fs ((fF fs).map b_) (bD (aO fs ((fF fs).map b_)) X)=none:=by
   rw[<-qd o L,hp];rfl
  obtain⟨j,_,_,_,hj⟩:=L.xr k;exact k2 _ (by rw[hj]) H3 W (G.trans l3) h3
 have L:=qc o hw
 have k:assemble fs ((fF fs).map b_) (bD (aO fs ((fF fs).map b_)) X)=some u:=by
  rw[<-qd o L,hp];rfl
 have k3:=k3 u (by rw[L.judge_ok k]);have J:=J u (by rw[L.judge_ok k]);rw[hpk]at L k hnum r3;obtain⟨t1,t2,t3⟩:=W6 L C k
 have hid:u.map (λv=>d5 (br (λi=>(fw (aG fs)).contains i) (.group false fs) 0) v)=u:=by
  rw[eO (g:=id) λv k=>(t1 v k).2,Ep]
 rw[hid]at r3
 have hro:∀v∈u,vJ fs v/\My.cx (c8 fs v)<=15000:=λv k=>by
  refine⟨⟨(t1 v k).1,?_⟩,?_⟩
  ·have:=My.xE (dY (f:=λv=>(g5 fs v).length+16) k)
   lia
  ·have:=My.xE (dY (f:=λv=>My.cx (c8 fs v)) k)
   lia
 have l03:=G.trans l3;obtain⟨va,ys,rfl,hva,rys⟩:=r3.lst_inv;have hyl:ys.length=u.length:=by rw[rys.len,kq]
 obtain⟨N3,h3b⟩:=h3.mem hbm;refine⟨b,bx,rfl,.inl (ax.of h3b.at),va,ys,rfl,.inl (ax.of (h3.le _ _ hva)),_,_,rfl,rfl,_,_,rfl,rfl,?_⟩;rw[hyl];refine bG (λq=>?_) λq=>?_
 ·have q:(100:Int)<(bx.length:Int)+(u.length:Int):=by simpa using q
  exact k3 (by lia) H3 W l03 h3
 have q:¬(100:Int)<(bx.length:Int)+(u.length:Int):=by simpa using q
 have J:=J (by lia);refine⟨va,rfl,⟨_,ax.of (h3.le _ _ hva)⟩,λd hd=>ki (xs:=ys) (MZ a sv xs M fs u W d) ⟨[],W,Le.refl W,.nil,rfl,h3.cP hd⟩ ?_ ?_ ?_⟩
 ·rintro j H' _ ⟨Y,F',I,rz,hzl,O⟩;exact ax.of (O.le _ _ (I _ _ hva))
 ·rintro j x H' hx ⟨Y,F',I,rz,hzl,O⟩;obtain⟨d0,hd0,rx⟩:=(rys.mono I).get' hx;rw[pX,aX]at hd0;obtain⟨v,hvj,rfl⟩:=hd0;obtain⟨lt,ev⟩:=cK.mp hvj;obtain⟨ro,hcn⟩:=hro v (gI hvj);have hln:=ro.len;refine⟨rfl,nA ?_⟩;refine(rF O (rsch.mono (l03.trans I)) (f:="record") (d:=FD c FI.root (.group false fs)) rfl λvr2 rr2=>⟨vr2,x,FI.root,.group false fs,v,F',_,rfl,k7 C,ro.of.wv,rr2,rx,O,hln,λy H5 F5 l5 h5 ry=>?_⟩);refine⟨sv,x,fs,v,F5,_,rfl,k7 C,by lia,ro.of.wv,rsch.mono (l03.trans (I.trans l5)),rx.mono l5,h5,λj=>eA My.Q2 (by lia),λy2 H6 F6 l6 h6 ry2=>?_⟩;refine λy3 dy3 ny3 ndy3 ney3=>⟨y3,dy3,_,_,F6,_,rfl,h6.make ny3 ndy3 ney3 T.Row.1,λH7 h7=>⟨rfl,?_⟩⟩;obtain⟨F8,l8,h8,r8⟩:=h7.lL (gs:=[("text",bP (g5 fs v)),("entries",.lst ((c8 fs v).map (lS c)))]) (.cons (ry.mono l6) (.cons ry2 .nil));have l58:=l5.trans (l6.trans l8);refine⟨Y,h8.at,by rw[hzl,bq];lia,Y++[.ref y3],F8,I.trans l58,?_,by rw[aQ,hzl];rfl,h8.eh⟩;rw[i8 lt,dA,ev];exact(rz.mono l58).snoc r8
 ·rintro H' ⟨Y,F',I,rz,hzl,O⟩;rw[hyl,iJ]at rz;obtain⟨N4,h4b⟩:=O.drop.mem hbm;refine⟨b,d,bx,Y,rfl,rfl,h4b.at,O.at,by rw[hzl,bq];lia,λp hp=>?_⟩;exact J p Y _ F' (l03.trans I) (O.drop.cP hp) rz λv k=>(hro v k).1
end
section
theorem M1 (h:handed fs (fF fs) t= .error n):lu s fs bM t=(s,.refused n):=by
 unfold lu;rw[h]
theorem M2 (h:handed fs (fF fs) t= .ok (.error f)):lu s fs bM t=(s,.refused (-1)):=by
 unfold lu;rw[h]
theorem M3 (h:handed fs (fF fs) t= .ok (.ok vs))(q:100<bM.length+vs.length):lu s fs bM t=(s,.refused (-5)):=by
 unfold lu;rw[h];dsimp only;rw[if_pos (show Ov<bM.length+vs.length from q)]
theorem M4 (h:handed fs (fF fs) t= .ok (.ok vs))(q:¬100<bM.length+vs.length):lu s fs bM t=({s with rows:=bM++vs},.number (bM.length+vs.length)):=by
 unfold lu;rw[h];dsimp only;rw[if_neg (show¬Ov<bM.length+vs.length from q)]
inductive M5 (K)(c)(vs)(H)(Q)(E):Prop|mk (a) (sv ve) (xs) (s) (t) (F) (M):vs=[.ref a.dk,ve]->Rep K F ve (eF t)->t.length<=15000->fj K c F s sv xs->af K H F (cZ c a sv xs M)->Done K c s (.load t) a sv xs F M Q E->M5 K c vs H Q E
theorem W9 (T:Tx K mg c):Mt P w K mg base c.bW "load_rows" (27) ["self","entries"] (M5 K c):=by
 refine T.mo 166 13 ["self","entries"] λH b nd hr h=>?_;obtain⟨a,J,ve,I,s,t,F,M,rfl,re,ht,st,Y,o⟩:=h;refine⟨_,(ah (bI (pv 0) (pm (M0 T) T.bW.1 (pv 0) (ae (bO ag) (ae (pv 1) ag))) rfl) (ak (aC (bO (ae (cM cE (by rfl) T.cst.len cT (ae (ay (pv 0) rfl) ag)) ag))))),?_⟩;have es:∀fs,s.schema=some fs->cv s (.load t)=lu s fs [] t:=λfs e=>lV (k:= .load t) e (λt z=>by cases z);refine⟨a.dk,a.dx,_,rfl,Y.at,rfl,bR _,λp hp=>?_⟩;have h1:af K (upd H p (.lst [])) F (cZ c a J I ((p,.lst [])::M)):=(Y.cP (xs:=[]) hp).perm (jT (l₁:=[a.cell c J,(a.ka,.lst I)])).symm;refine⟨a,J,ve,p,I,[],s,t,F,_,rfl,aR _ (aR _ aH),bR _,re,ht,st,h1,λe=>o.none e (λt z=>by cases z) h1.ig.drop,λfs e n C g hC u y i j=>?_,λfs e f g u y i j=>?_,λfs e b g L u y i j=>?_,λfs e b g L W G H2 F2 X h2 U hro=>?_⟩
 ·exact o.no n C (by rw[es fs e,M1 g]) hC u y i j.ig.drop
 ·exact o.no (-1) _ (by rw[es fs e,M2 g]) (.inr (.inl ⟨rfl,rfl⟩)) u y i j.ig.drop
 ·exact o.no (-5) _ (by rw[es fs e,M3 g L]) (by unfold gZ;simp) u y i j.ig.drop
 have es:cv s (.load t)=({s with rows:=[]++b},.number (([]:List Val).length+b.length)):=by
  rw[es fs e];exact M4 g L
 obtain⟨so,rsch,rrs,hrows⟩:=st.sc fs e;have hyl:G.length=b.length:=by rw[U.len,bb]
 refine(wM h2.sw (jn _ _) (by show 2<1000;decide) λH3 h3=>?_);refine(rM h3 (jn _ _) ⟨W,G,rfl,.inl (ax.of h3.dv),?_⟩);refine⟨by show 1<=bH;rw[bq];decide,λp4 hp4=>?_⟩;obtain⟨F4,O,h4,r4⟩:=nD (n:=((G.length:Nat):Int)) h3.ig.drop.ig.drop hp4
 refine o.yes (λn z=>by rw[es]at z;cases z) _ _ F4 W J G (X.trans O) h4 (by
  rw[es];refine⟨(λz=>by rw[show s.schema=none from z]at e;cases e),(λdC z=>?_),?_⟩
  ·have z:s.schema=some dC:=z;rw[e]at z;cases z;exact⟨so,rsch.mono (X.trans O),U.mono O,hro⟩
  ·have:¬100<([]:List V).length+b.length:=L;rw[vT];simp at this;omega) ?_
 rw[es];show Rep K F4 _ (eF [(((([]:List Val).length+b.length:Nat)):Int)]);simp_all
inductive M6 (K)(c)(vs)(H)(Q)(E):Prop|mk (a) (sv ve) (xs) (s) (t) (F) (M):vs=[.ref a.dk,ve]->Rep K F ve (eF t)->t.length<=15000->fj K c F s sv xs->af K H F (cZ c a sv xs M)->Done K c s (.add t) a sv xs F M Q E->M6 K c vs H Q E
theorem W_ (T:Tx K mg c):Mt P w K mg base c.bW "add_rows" (27) ["self","entries"] (M6 K c):=by
 refine T.mo 166 14 ["self","entries"] λH g nd hr h=>?_;obtain⟨a,O,ve,b,s,t,F,M,rfl,re,ht,st,L,y⟩:=h;refine⟨_,(ah (bI (pv 0) (pm (M0 T) T.bW.1 (pv 0) (ae (ay (pv 0) rfl) (ae (pv 1) ag))) rfl) (ak (aC (bO (ae (cM cE (by rfl) T.cst.len cT (ae (ay (pv 0) rfl) ag)) ag))))),?_⟩;have es:∀fs,s.schema=some fs->cv s (.add t)=lu s fs s.rows t:=λfs e=>lV (k:= .add t) e (λt z=>by cases z);have hxl:=st.len;have hln:=st.ln;refine⟨a.dk,a.dx,_,rfl,L.at,rfl,rM L (jn _ _) ?_⟩;refine⟨a,O,ve,a.ka,b,b,s,t,F,_,rfl,aR _ aH,by lia,re,ht,st,L,λe=>y.none e (λt z=>by cases z) L,λfs e n C i hC G I o u=>?_,λfs e f i G I o u=>?_,λfs e g i hq G I o u=>?_,λfs e g i hq U j H2 F2 W h2 X hro=>?_⟩
 ·exact y.no n C (by rw[es fs e,M1 i]) hC G I o u
 ·exact y.no (-1) _ (by rw[es fs e,M2 i]) (.inr (.inl ⟨rfl,rfl⟩)) G I o u
 ·exact y.no (-5) _ (by rw[es fs e,M3 i (by lia)]) (by unfold gZ;simp) G I o u
 have es:cv s (.add t)=({s with rows:=s.rows++g},.number (s.rows.length+g.length)):=by
  rw[es fs e];exact M4 i (by lia)
 obtain⟨so,rsch,rrs,hrows⟩:=st.sc fs e;have hyl:j.length=g.length:=by rw[X.len,bb]
 refine(wM h2.sw (jn _ _) (by show 2<1000;decide) λH3 h3=>?_);have h3:af K H3 F2 (cZ c ⟨a.dk,a.dx,U⟩ O (b++j) ((a.ka,.lst b)::M)):=h3;refine(rM h3 (jn _ _) ⟨U,b++j,rfl,.inl (ax.of h3.dv),?_⟩);refine⟨by show 1<=bH;rw[bq];decide,λp4 hp4=>?_⟩;obtain⟨Y,J,h4,r4⟩:=nD (n:=(((b++j).length:Nat):Int)) h3.ig.drop hp4
 refine y.yes (λn z=>by rw[es]at z;cases z) _ _ Y U O (b++j) (W.trans J) h4 (by
  rw[es];refine⟨(λz=>by rw[show s.schema=none from z]at e;cases e),(λdC z=>?_),?_⟩
  ·have z:s.schema=some dC:=z;rw[e]at z;cases z;refine⟨so,rsch.mono (W.trans J),?_,λv hv=>?_⟩
   ·rw[dA];exact(rrs.mono (W.trans J)).app (X.mono J)
   grind
  ·show(s.rows++g).length<=100;rw[aQ]
   lia) ?_
 rw[es];show Rep K Y _ (eF [((s.rows.length+g.length:Nat):Int)]);simp_all
theorem M7 (f:α->β):∀(l:List α) (n),(l.map f).eraseIdx n=(l.eraseIdx n).map f
 |[],_=>rfl
 |_::_,0=>rfl
 |x::l,n+1=>by
  show f x::(l.map f).eraseIdx n=f x::(l.eraseIdx n).map f;rw[M7 f l n]
inductive M8 (K)(c)(vs:List V)(H)(Q)(E):Prop|mk (a) (sv) (xs) (s) (n) (F) (M):vs=[.ref a.dk,.int n]->fj K c F s sv xs->af K H F (cZ c a sv xs M)->Done K c s (.drop n) a sv xs F M Q E->M8 K c vs H Q E
set_option tactic.hygienic true in
theorem W' (T:Tx K mg c):Mt P w K mg base c.bW "drop_row" (3) ["self","number"] (M8 K c):=by
 refine T.mo 166 16 ["self","number"] λH W nd X h=>?_;obtain⟨a,o,g,s,n,F,M,rfl,st,b,j⟩:=h;refine⟨_,(ah (ba (pm (MF T) T.bW.1 (pv 0) (ae (pv 1) ag))) (ah (ba (d9 eU PySem.F.slot_list_pop PySem.F.type_list_pop R7 (ay (pv 0) rfl) (ae (pv 1) ag))) (ak (aC (bO (ae aY ag)))))),?_⟩;refine⟨a.dk,a.dx,_,rfl,b.at,rfl,a,o,g,s,n,F,M,rfl,st,b,λe=>j.none e (λt z=>by cases z) b,λfs e q=>?_,λfs v e q=>?_⟩
 all_goals
  have es:cv s (.drop n)=(match at? s.rows n with
   |none=>(s,.refused (-3))
   |some _=>({s with rows:=s.rows.eraseIdx n.toNat},.number 0)):=lV (k:= .drop n) e (λt z=>by cases z)
  rw[q]at es
 ·exact j.no (-3) _ (by rw[es]) (by unfold gZ;simp) H F (Le.refl F) b
 have es:cv s (.drop n)=({s with rows:=s.rows.eraseIdx n.toNat},.number 0):=es;obtain⟨u,y,C,J⟩:=st.sc fs e;have G:=st.len;have L:=st.ln;unfold at? at q;split at q
 ·cases q
 rename_i Y
 have lt:n.toNat<g.length:=by
  rw[G]
  grind
 refine(rM b (jn _ _) ⟨⟨rfl,_,ax.of b.dv⟩,a.ka,g,n,n.toNat,g[n.toNat],rfl,rfl,b.dv,by lia,by lia,Zw (by lia) (by lia),eI lt,?_⟩);have h2:=(b.sw.eh (ys:=g.eraseIdx n.toNat)).sw;refine⟨by show 1<=bH;rw[bq];decide,λp hp=>?_⟩;obtain⟨U,i,h3,r3⟩:=nD (n:=0) h2 hp
 refine j.yes (λn z=>by rw[es]at z;cases z) _ _ U a.ka o (g.eraseIdx n.toNat) i h3 (by
  rw[es];refine⟨(λz=>by rw[show s.schema=none from z]at e;cases e),(λO z=>?_),?_⟩
  ·have z:s.schema=some O:=z;rw[e]at z;cases z;refine⟨u,y.mono i,?_,λv I=>J v (List.mem_of_mem_eraseIdx I)⟩;have:=(C.mono i).erase n.toNat;rw[M7]at this
   lia
  ·show(s.rows.eraseIdx n.toNat).length<=100;exact eA (List.length_eraseIdx_le _ _) L) ?_
 rw[es];exact r3
end
open VacolcNeutral (callOf)
open My (Dec nY uo)
structure CR where
 r:ai
 dx:ai
 ca:ai
 t:List Int
def vN (ca:ai)(p:Int):List (Str×V):=[("calls",.ref ca),("position",.int p)]
abbrev CR.cell (c:Cs)(R:CR)(u:List Int):ai×HO:=(R.r,.ins c.el R.dx (vN R.ca ((R.t.length-u.length:Nat):Int)))
structure CR.Ok (K:aW)(F:Hp)(R:CR)(u:List Int):Prop where
 tx:∀G,Le F G->ax K G R.ca (nums R.t)
 eK:∃v,R.t=v++u
theorem CR.Ok.mono {K}{R:CR}(h:R.Ok K F u)(l:Le F G):R.Ok K G u:=⟨λJ b=>h.tx J (l.trans b),h.eK⟩
theorem CR.Ok.drop {K}{R:CR}(h:R.Ok K F u):R.t.drop (R.t.length-u.length)=u/\u.length<=R.t.length:=by
 obtain⟨v,e⟩:=h.eK;simp_all
theorem CR.Ok.tl {K}{R:CR}(h:R.Ok K F (v++u)):R.Ok K F u:=by
 obtain⟨w,e⟩:=h.eK;exact⟨h.tx,w++v,by rw[e,c9]⟩
section
theorem D5 (ca)(p):(vN ca p).lookup ("calls":Str)=some (.ref ca):=rfl
theorem oP (ca)(p):(vN ca p).lookup ("position":Str)=some (.int p):=rfl
inductive M9 (K)(c:Cs)(vs:List V)(H)(Q:VK)(E:XK):Prop|mk (r dx l) (F) (M):vs=[.ref r,.ref l]->af K H F ((r,.ins c.el dx [])::M)->(∀H',af K H' F ((r,.ins c.el dx (vN l 0))::M)->Q .aB H')->M9 K c vs H Q E
theorem Xa (T:Tx K mg c):gA P w K mg base "CallReader" c.el (1) ["self","calls"] (M9 K c):=by
 refine T.ko 167 ["self","calls"] λH g nd i h=>?_;obtain⟨r,dx,l,F,M,rfl,h1,k⟩:=h;refine⟨_,(ah (bI (pv 0) (pv 1) rfl) (ak (bI (pv 0) aY rfl))),?_⟩;refine(wN h1 (T.el.2 _ (by simp)) (by show 0<1000;decide) λb h2=>?_);exact(wN h2 (T.el.2 _ (by simp)) (by show 1<1000;decide) λb h3=>k _ h3)
inductive M_ (K)(c)(vs:List V)(H)(Q:VK)(E:XK):Prop|mk (R:CR) (u) (F) (M):vs=[.ref R.r]->R.Ok K F u->af K H F (R.cell c u::M)->Q (.bl (!u.isEmpty)) H->M_ K c vs H Q E
theorem Xb (T:Tx K mg c):Mt P w K mg base c.el "has_more" (1) ["self"] (M_ K c):=by
 refine T.mo 167 1 ["self"] λH j nd k h=>?_;obtain⟨R,u,F,M,rfl,g,b,q⟩:=h;refine⟨_,(ak (aC (jg jf (ay (pv 0) rfl) (cM cE (by rfl) T.cst.len cT (ae (ay (pv 0) rfl) ag))))),?_⟩;have i:=g.drop.2;refine(rM b (oP _ _) (rM b (D5 _ _) ⟨R.ca,_,rfl,.inl (g.tx _ b.le),_,_,rfl,rfl,?_⟩))
 have e:decide (((R.t.length-u.length:Nat):Int)<(((nums R.t).length:Nat):Int))= !u.isEmpty:=by
  rw[lT];cases u with
  |nil=>exact decide_eq_false (by simp)
  |cons e u=>exact decide_eq_true (by rw[bf]at i⊢;omega)
 simp_all
inductive M' (K)(c)(vs:List V)(H)(Q:VK)(E:XK):Prop|mk (R:CR) (x) (u) (F) (M):vs=[.ref R.r]->R.Ok K F (x::u)->af K H F (R.cell c (x::u)::M)->(∀H',af K H' F (R.cell c u::M)->Q (.int x) H')->M' K c vs H Q E
theorem oQ (T:Tx K mg c):Mt P w K mg base c.el "take_number" (1) ["self"] (M' K c):=by
 refine T.mo 167 2 ["self","number"] λH o nd y h=>?_;obtain⟨R,x,u,F,M,rfl,g,b,q⟩:=h;refine⟨_,(ah (aN 1 (d8 dS (ay (pv 0) rfl) (ay (pv 0) rfl))) (ah (mz (pv 0) aY n9) (ak (aC (pv 1))))),?_⟩;obtain⟨hd,j⟩:=g.drop
 have i:(nums R.t)[R.t.length-(x::u).length]? =some (.int x):=by
  rw[yR,<-zY,hd];rfl
 refine(rM b (D5 _ _) (rM b (oP _ _) ⟨R.ca,_,_,_,rfl,rfl,g.tx _ b.le,uJ i,?_⟩));refine(aM b (oP _ _) (oz b (oP _ _) (by show 2<1000;decide) λk h2=>?_));rw[bf]at j;rw[show((R.t.length-(x::u).length:Nat):Int)+1=((R.t.length-u.length:Nat):Int) by rw[bf];lia]at h2;exact(q k h2)
inductive Na (K)(c)(vs:List V)(H)(Q:VK)(E:XK):Prop|mk (R:CR) (x u) (F) (M):vs=[.ref R.r]->R.Ok K F ((x.length:Int)::(x++u))->af K H F (R.cell c ((x.length:Int)::(x++u))::M)->(∀v H' F',Le F F'->af K H' F' (R.cell c u::M)->Rep K F' v (eF x)->Q v H')->Na K c vs H Q E
theorem oR (T:Tx K mg c):Mt P w K mg base c.el "take_list" (2) ["self"] (Na K c):=by
 refine T.mo 167 3 ["self","length","numbers"] λH G nd I h=>?_;obtain⟨R,x,u,F,M,rfl,g,i,q⟩:=h;refine⟨_,(ah (aN 1 (bJ (oQ T) T.el.1 (pv 0))) (ah (aN 2 (m9 lH (ay (pv 0) rfl) (ji (ay (pv 0) rfl)) (ji (de lG (ay (pv 0) rfl) (pv 1))))) (ah (mz (pv 0) (pv 1) n9) (ak (aC (pv 2)))))),?_⟩;refine⟨R.r,R.dx,_,rfl,i.at,rfl,R,_,_,F,M,rfl,g,i,λH1 h1=>?_⟩;have b:R.Ok K F (x++u):=CR.Ok.tl (v:=[(x.length:Int)]) g;obtain⟨hd,k⟩:=b.drop;refine(rM h1 (D5 _ _) (rM h1 (oP _ _) ⟨_,rfl,rM h1 (oP _ _) ⟨_,_,rfl,rfl,_,rfl,R.ca,_,rfl,b.tx _ h1.le,λp hp=>?_⟩⟩));have y:((R.t.length-(x++u).length:Nat):Int)+(x.length:Int)=((R.t.length-(x++u).length+x.length:Nat):Int):=by lia
 rw[y,Dx]
 have o:((nums R.t).drop (R.t.length-(x++u).length)).take (R.t.length-(x++u).length+x.length-(R.t.length-(x++u).length))=nums x:=by
  rw[zy];unfold nums;rw[<-qo,hd,<-lg,YQ]
 rw[o];obtain⟨C,j,h2,r2⟩:=h1.sj hp (pR (F:=F) x);refine(aM h2 (oP _ _) (oz h2 (oP _ _) (by show 2<1000;decide) λz h3=>?_));rw[aQ]at k;rw[show((R.t.length-(x++u).length:Nat):Int)+(x.length:Int)=((R.t.length-u.length:Nat):Int) by rw[aQ];lia]at h3;exact(q _ z C j h3 r2)
end
section
inductive Nb (K)(c)(vs:List V)(H)(Q)(E):Prop|mk (a) (sv) (xs) (s) (R:CR) (u t) (cl) (k) (F) (M):vs=[.ref a.dk,.ref R.r]->Dec u cl t->uo cl->callOf cl=some k->fj K c F s sv xs->R.Ok K F u->af K H F (cZ c a sv xs (R.cell c u::M))->(iM (cv s k).2).length<=10000000->Done K c s k a sv xs F (R.cell c t::M) Q E->Nb K c vs H Q E
theorem Xc (h:af K H F (x::y::z::M)):af K H F (z::x::y::M):=h.ig
theorem lW (h:af K H F (z::x::y::M)):af K H F (x::y::z::M):=h.perm (jT (l₁:=[x,y])).symm
theorem Nc (h:∀b∈x,0<=b/\b<=255)(r:Rep K F v (eF x)):Rep K F v (bP (pj x)):=by
 rw[vL]
 have e:(pj x).map Int.ofNat=x:=by
  unfold pj;rw[bZ];refine(eO λb g=>?_).trans (Ep _)
  grind
 simp_all
theorem Done.le (d:Done K c s k a sv xs F M Q E)(l:Le F G):Done K c s k a sv xs G M Q E:=
 ⟨λn C h1 h2 h i b g=>d.no n C h1 h2 h i (l.trans b) g,λh1 x h i ka o j b g st r=>d.yes h1 x h i ka o j (l.trans b) g st r⟩
theorem Xd (T:Tx K mg c):Fn P w K mg base "carry_out" (34) ["desk","reader"] (Nb K c):=by
 refine T.fo 168 ["desk","reader","call","column","first","count","columns"] λH vs nd hr h=>?_;obtain⟨a,I,G,s,R,u,t,cl,k,F,M,rfl,dc,o,z,st,g,hH,hlen,J⟩:=h;refine⟨_,(ah (aN 2 (bJ (oQ T) T.el.1 (pv 1))) (ah (aL (aP cy (pv 2) (aD T.cst.TH)) (ak (aC (pm (WK T) T.bW.1 (pv 0) (ae (bJ (oR T) T.el.1 (pv 1)) ag)))) aS) (ah (aL (aP cy (pv 2) (aD T.cst.TJ)) (ak (aC (pm (WM T) T.bW.1 (pv 0) (ae (bJ (oR T) T.el.1 (pv 1)) ag)))) aS) (ah (aL (aP cy (pv 2) (aD T.cst.TK)) (ak (aC (bJ (WJ T) T.bW.1 (pv 0)))) aS) (ah (aL (aP cy (pv 2) (aD T.cst.TM)) (ak (aC (pm (WN T) T.bW.1 (pv 0) (ae (bJ (oQ T) T.el.1 (pv 1)) ag)))) aS) (ah (aL (aP cy (pv 2) (aD T.cst.TN)) (ak (aC (pm (WQ T) T.bW.1 (pv 0) (ae (bJ (oQ T) T.el.1 (pv 1)) ag)))) aS) (ah (aL (aP cy (pv 2) (aD T.cst.TQ)) (ah (aN 3 (bJ (oQ T) T.el.1 (pv 1))) (ah (aN 4 (bJ (oQ T) T.el.1 (pv 1))) (ah (aN 5 (bJ (oQ T) T.el.1 (pv 1))) (ak (aC (pm (WU T) T.bW.1 (pv 0) (ae (pv 3) (ae (pv 4) (ae (pv 5) ag))))))))) aS) (ah (aL (aP cy (pv 2) (aD T.cst.TR)) (ah (aN 6 (bJ (oR T) T.el.1 (pv 1))) (ak (aC (pm (W3 T) T.bW.1 (pv 0) (ae (pv 6) (ae (bJ (oR T) T.el.1 (pv 1)) ag)))))) aS) (ah (aL (aP cy (pv 2) (aD T.cst.TU)) (ah (aN 6 (bJ (oR T) T.el.1 (pv 1))) (ak (aC (pm (W8 T) T.bW.1 (pv 0) (ae (pv 6) (ae (bJ (oR T) T.el.1 (pv 1)) ag)))))) aS) (ah (aL (aP cy (pv 2) (aD T.cst.TV)) (ak (aC (pm (W9 T) T.bW.1 (pv 0) (ae (bJ (oR T) T.el.1 (pv 1)) ag)))) aS) (ah (aL (aP cy (pv 2) (aD T.cst.TX)) (ak (aC (pm (W_ T) T.bW.1 (pv 0) (ae (bJ (oR T) T.el.1 (pv 1)) ag)))) aS) (ah (aL (aP cy (pv 2) (aD T.cst.TY)) (ak (aC (pm (W' T) T.bW.1 (pv 0) (ae (bJ (oQ T) T.el.1 (pv 1)) ag)))) aS) (ak (cO T.T_)))))))))))))),?_⟩;have i:=Xc hH;cases dc with
 |schema x t=>
  obtain⟨hxl,Y,hb⟩:=My.xC (show lp [(0,255,0,5000)] [x]=true from o);have z:(if Et x=true then some (Call.schema (pj x))else none)=some k:=z;rw[if_pos Y]at z;cases z;refine⟨R.r,R.dx,_,rfl,i.at,rfl,R,_,_,F,_,rfl,g,i,λH1 h1=>?_⟩;have b:R.Ok K F _:=CR.Ok.tl (v:=[(0:Int)]) g;refine⟨rfl,?_⟩;refine⟨a.dk,a.dx,_,rfl,h1.dv,rfl,R.r,R.dx,_,rfl,h1.at,rfl,R,x,t,F,_,rfl,b,h1,λv L C j h2 r2=>?_⟩;refine⟨a,I,v,G,s,pj x,C,_,rfl,Nc hb r2,?_,st.mono j,lW h2,J.le j⟩;unfold pj;rw[bb]
  lia
 |put x t=>
  obtain⟨hxl,Y,hb⟩:=My.xC (show lp [(0,255,0,5000)] [x]=true from o);have z:(if Et x=true then some (Call.put (pj x))else none)=some k:=z;rw[if_pos Y]at z;cases z;refine⟨R.r,R.dx,_,rfl,i.at,rfl,R,_,_,F,_,rfl,g,i,λH1 h1=>?_⟩;have b:R.Ok K F _:=CR.Ok.tl (v:=[(1:Int)]) g;refine⟨rfl,?_⟩;refine⟨rfl,?_⟩;refine⟨a.dk,a.dx,_,rfl,h1.dv,rfl,R.r,R.dx,_,rfl,h1.at,rfl,R,x,t,F,_,rfl,b,h1,λv L C j h2 r2=>?_⟩;refine⟨a,I,v,G,s,pj x,C,_,rfl,Nc hb r2,?_,st.mono j,lW h2,J.le j⟩;unfold pj;rw[bb]
  lia
 |rows t=>
  cases z;refine⟨R.r,R.dx,_,rfl,i.at,rfl,R,_,_,F,_,rfl,g,i,λH1 h1=>?_⟩;have b:R.Ok K F _:=CR.Ok.tl (v:=[(2:Int)]) g;refine⟨rfl,?_⟩;refine⟨rfl,?_⟩;refine⟨rfl,?_⟩;exact⟨a.dk,a.dx,_,rfl,h1.dv,rfl,a,I,G,s,F,_,rfl,st,lW h1,J⟩
 |BH n t=>
  cases z;refine⟨R.r,R.dx,_,rfl,i.at,rfl,R,_,_,F,_,rfl,g,i,λH1 h1=>?_⟩;have b:R.Ok K F _:=CR.Ok.tl (v:=[(3:Int)]) g;refine⟨rfl,?_⟩;refine⟨rfl,?_⟩;refine⟨rfl,?_⟩;refine⟨rfl,?_⟩;refine⟨a.dk,a.dx,_,rfl,h1.dv,rfl,R.r,R.dx,_,rfl,h1.at,rfl,R,n,t,F,_,rfl,b,h1,λL h2=>?_⟩;exact⟨a,I,G,s,n,F,_,rfl,st,lW h2,J⟩
 |column n t=>
  cases z;refine⟨R.r,R.dx,_,rfl,i.at,rfl,R,_,_,F,_,rfl,g,i,λH1 h1=>?_⟩;have b:R.Ok K F _:=CR.Ok.tl (v:=[(4:Int)]) g;refine⟨rfl,?_⟩;refine⟨rfl,?_⟩;refine⟨rfl,?_⟩;refine⟨rfl,?_⟩;refine⟨rfl,?_⟩;refine⟨a.dk,a.dx,_,rfl,h1.dv,rfl,R.r,R.dx,_,rfl,h1.at,rfl,R,n,t,F,_,rfl,b,h1,λL h2=>?_⟩;exact⟨a,I,G,s,n,F,_,rfl,st,lW h2,J⟩
 |entries x1 x2 x3 t=>
  cases z;refine⟨R.r,R.dx,_,rfl,i.at,rfl,R,_,_,F,_,rfl,g,i,λH1 h1=>?_⟩;have b:R.Ok K F _:=CR.Ok.tl (v:=[(5:Int)]) g;refine⟨rfl,?_⟩;refine⟨rfl,?_⟩;refine⟨rfl,?_⟩;refine⟨rfl,?_⟩;refine⟨rfl,?_⟩;refine⟨rfl,?_⟩;refine⟨R.r,R.dx,_,rfl,h1.at,rfl,R,_,_,F,_,rfl,b,h1,λL h2=>?_⟩;have U:R.Ok K F _:=CR.Ok.tl (v:=[x1]) b;refine⟨R.r,R.dx,_,rfl,h2.at,rfl,R,_,_,F,_,rfl,U,h2,λH3 h3=>?_⟩;have ro3:R.Ok K F _:=CR.Ok.tl (v:=[x2]) U;refine⟨R.r,R.dx,_,rfl,h3.at,rfl,R,_,_,F,_,rfl,ro3,h3,λH4 h4=>?_⟩;exact⟨a.dk,a.dx,_,rfl,h4.dv,rfl,a,I,G,s,x1,x2,x3,F,_,rfl,st,lW h4,hlen,J⟩
 |check x y t=>
  cases z;have o:lp [(-1000000000000000000,1000000000000000000,0,100),(-1000000000000000000,1000000000000000000,0,15000)] [x,y]=true:=o;obtain⟨W,_,o⟩:=My.rq o;obtain⟨c2,_,_⟩:=My.rq o;refine⟨R.r,R.dx,_,rfl,i.at,rfl,R,_,_,F,_,rfl,g,i,λH1 h1=>?_⟩;have b:R.Ok K F _:=CR.Ok.tl (v:=[(6:Int)]) g;refine⟨rfl,?_⟩;refine⟨rfl,?_⟩;refine⟨rfl,?_⟩;refine⟨rfl,?_⟩;refine⟨rfl,?_⟩;refine⟨rfl,?_⟩;refine⟨rfl,?_⟩;refine⟨R.r,R.dx,_,rfl,h1.at,rfl,R,x,_,F,_,rfl,b,h1,λv L C j h2 r2=>?_⟩;have U:R.Ok K C _:=(CR.Ok.tl (v:=(x.length:Int)::x) b).mono j;refine⟨a.dk,a.dx,_,rfl,h2.dv,rfl,R.r,R.dx,_,rfl,h2.at,rfl,R,y,t,C,_,rfl,U,h2,λX H3 F3 O h3 r3=>?_⟩;exact⟨a,I,v,X,G,s,x,y,F3,_,rfl,r2.mono O,by lia,r3,by lia,st.mono (j.trans O),lW h3,J.le (j.trans O)⟩
 |assemble x y t=>
  cases z;have o:lp [(-1000000000000000000,1000000000000000000,0,100),(-1000000000000000000,1000000000000000000,0,15000)] [x,y]=true:=o;obtain⟨W,_,o⟩:=My.rq o;obtain⟨c2,_,_⟩:=My.rq o;refine⟨R.r,R.dx,_,rfl,i.at,rfl,R,_,_,F,_,rfl,g,i,λH1 h1=>?_⟩;have b:R.Ok K F _:=CR.Ok.tl (v:=[(7:Int)]) g;refine⟨rfl,?_⟩;refine⟨rfl,?_⟩;refine⟨rfl,?_⟩;refine⟨rfl,?_⟩;refine⟨rfl,?_⟩;refine⟨rfl,?_⟩;refine⟨rfl,?_⟩;refine⟨rfl,?_⟩;refine⟨R.r,R.dx,_,rfl,h1.at,rfl,R,x,_,F,_,rfl,b,h1,λv L C j h2 r2=>?_⟩;have U:R.Ok K C _:=(CR.Ok.tl (v:=(x.length:Int)::x) b).mono j;refine⟨a.dk,a.dx,_,rfl,h2.dv,rfl,R.r,R.dx,_,rfl,h2.at,rfl,R,y,t,C,_,rfl,U,h2,λX H3 F3 O h3 r3=>?_⟩;exact⟨a,I,v,X,G,s,x,y,F3,_,rfl,r2.mono O,by lia,r3,by lia,st.mono (j.trans O),lW h3,J.le (j.trans O)⟩
 |load x t=>
  cases z;have o:lp [(-1000000000000000000,1000000000000000000,0,15000)] [x]=true:=o;obtain⟨W,_,_⟩:=My.rq o;refine⟨R.r,R.dx,_,rfl,i.at,rfl,R,_,_,F,_,rfl,g,i,λH1 h1=>?_⟩;have b:R.Ok K F _:=CR.Ok.tl (v:=[(8:Int)]) g;refine⟨rfl,?_⟩;refine⟨rfl,?_⟩;refine⟨rfl,?_⟩;refine⟨rfl,?_⟩;refine⟨rfl,?_⟩;refine⟨rfl,?_⟩;refine⟨rfl,?_⟩;refine⟨rfl,?_⟩;refine⟨rfl,?_⟩;refine⟨a.dk,a.dx,_,rfl,h1.dv,rfl,R.r,R.dx,_,rfl,h1.at,rfl,R,x,t,F,_,rfl,b,h1,λv L C j h2 r2=>?_⟩;exact⟨a,I,v,G,s,x,C,_,rfl,r2,W,st.mono j,lW h2,J.le j⟩
 |add x t=>
  cases z;have o:lp [(-1000000000000000000,1000000000000000000,0,15000)] [x]=true:=o;obtain⟨W,_,_⟩:=My.rq o;refine⟨R.r,R.dx,_,rfl,i.at,rfl,R,_,_,F,_,rfl,g,i,λH1 h1=>?_⟩;have b:R.Ok K F _:=CR.Ok.tl (v:=[(9:Int)]) g;refine⟨rfl,?_⟩;refine⟨rfl,?_⟩;refine⟨rfl,?_⟩;refine⟨rfl,?_⟩;refine⟨rfl,?_⟩;refine⟨rfl,?_⟩;refine⟨rfl,?_⟩;refine⟨rfl,?_⟩;refine⟨rfl,?_⟩;refine⟨rfl,?_⟩;refine⟨a.dk,a.dx,_,rfl,h1.dv,rfl,R.r,R.dx,_,rfl,h1.at,rfl,R,x,t,F,_,rfl,b,h1,λv L C j h2 r2=>?_⟩;exact⟨a,I,v,G,s,x,C,_,rfl,r2,W,st.mono j,lW h2,J.le j⟩
 |drop n t=>
  cases z;refine⟨R.r,R.dx,_,rfl,i.at,rfl,R,_,_,F,_,rfl,g,i,λH1 h1=>?_⟩;have b:R.Ok K F _:=CR.Ok.tl (v:=[(10:Int)]) g;refine⟨rfl,?_⟩;refine⟨rfl,?_⟩;refine⟨rfl,?_⟩;refine⟨rfl,?_⟩;refine⟨rfl,?_⟩;refine⟨rfl,?_⟩;refine⟨rfl,?_⟩;refine⟨rfl,?_⟩;refine⟨rfl,?_⟩;refine⟨rfl,?_⟩;refine⟨rfl,?_⟩;refine⟨a.dk,a.dx,_,rfl,h1.dv,rfl,R.r,R.dx,_,rfl,h1.at,rfl,R,n,t,F,_,rfl,b,h1,λL h2=>?_⟩;exact⟨a,I,G,s,n,F,_,rfl,st,lW h2,J⟩
end
theorem Nd (h:(lu s fs bM l).2= .refused n):(lu s fs bM l).1=s:=by
 unfold lu at h⊢;cases q:handed fs (fF fs) l with
 |error m=>rfl
 |ok r=>
  cases r with
  |error f=>rfl
  |ok b=>
   grind
theorem Xe (h:(cv s k).2= .refused n):(cv s k).1=s:=by
 by_cases b:∃t,k= .schema t
 ·obtain⟨t,rfl⟩:=b;unfold cv at h⊢;dsimp only at h⊢;cases q:sT t with
  |ok fs=>rw[q]at h;cases h
  |error _=>rfl
 ·have b:∀t,k≠.schema t:=λt z=>b ⟨t,z⟩;cases e:s.schema with
  |none=>
   cases k with
   |schema t=>exact absurd rfl (b t)
   |_=>
    unfold cv;rw[e]
  |some fs=>
   rw[lV e b]at h⊢;cases k with
   |schema t=>exact absurd rfl (b t)
   |put t=>
    unfold stepHeld at h⊢;dsimp only at h⊢;cases q:nG fs t with
    |error _=>rfl
    |ok v=>
     grind
   |load l=>exact Nd h
   |add l=>exact Nd h
   |drop m=>
    unfold stepHeld at h⊢;dsimp only at h⊢;cases q:at? s.rows m with
    |none=>rfl
    |some v=>rw[q]at h;cases h
   |rows=>rfl
   |«show» m=>rfl
   |column m=>rfl
   |entries _ _ _=>rfl
   |check _ _=>rfl
   |assemble _ _=>rfl
section
inductive Nf (K)(c)(vs:List V)(H)(Q:VK)(E:XK):Prop|mk (a) (sv) (xs) (s) (R:CR) (u t) (cl) (k) (F) (M):vs=[.ref a.dk,.ref R.r]->Dec u cl t->uo cl->callOf cl=some k->fj K c F s sv xs->R.Ok K F u->af K H F (cZ c a sv xs (R.cell c u::M))->(iM (cv s k).2).length<=10000000->(∀x H' F' ka sv' xs',Le F F'->af K H' F' (cZ c ⟨a.dk,a.dx,ka⟩ sv' xs' (R.cell c t::M))->fj K c F' (cv s k).1 sv' xs'->Rep K F' x (eF (iM (cv s k).2))->Q x H')->Nf K c vs H Q E
theorem Xf (dst:u9 c)(T:Tx K mg c):Fn P w K mg base "answer_next" (35) ["desk","reader"] (Nf K c):=by
 refine T.fO 169 ["desk","reader"] λf bu A outer s H vs Q E nd hr h=>?_;obtain⟨a,I,G,s,R,u,t,cl,k,F,M,rfl,dc,ck,ek,st,X,hH,hlen,q⟩:=h;refine⟨_,(ak (uS rfl rfl (λ_ _ _ PASS=>(ak (aC (pf (Xd T) (ae (pv 0) (ae (pv 1) ag)))))) (mE rfl T.eG.glob T.eG.exc (λ_=>(ak (aC (bO (ae (aD T.cst.SW) ag))))) (mE rfl T.mJ.glob T.mJ.exc (λ_=>(ak (aC (bO (ae (aD T.cst.SX) ag))))) (mE rfl T.yu.glob T.yu.exc (λ_=>(ak (aC (bO (ae (aD T.cst.SY) ag))))) (mE rfl T.uX.glob T.uX.exc (λ_=>(ak (aC (bO (ae (aD T.cst.S0) ag))))) (mE rfl T.rY.glob T.rY.exc (λ_=>(ak (aC (bO (ae (aD T.cst.S2) ag))))) (mE rfl T.uY.glob T.uY.exc (λ_=>(ak (aC (bO (ae (aD T.cst.S3) ag))))) (mE rfl T.yw.glob T.yw.exc (λ_=>(ak (aC (bO (ae (aD T.cst.S4) ag))))) (mE rfl T.oF.glob T.oF.exc (λ_=>(ak (aC (bO (ae (aD T.cst.S5) ag))))) Ct)))))))))),?_⟩;refine⟨λx _ g=>∃n C i,x= .ref C/\(cv s k).2= .refused n/\gZ c C n/\Le F i/\af K g i (cZ c a I G (R.cell c t::M)),?_,?_⟩
 ·rintro x d g ⟨n,C,i,rfl,y,J,j,o⟩
  have fin:∀p,g p=none->Q (.ref p) (upd g p (.lst [.int n])):=λp hp=>by
   obtain⟨F2,L,h2,r2⟩:=nD (n:=n) o hp;refine q _ _ F2 a.ka I G (j.trans L) h2 (by rw[Xe y];exact st.mono (j.trans L)) ?_;rw[y];exact r2
  rcases J with⟨rfl,rfl⟩|⟨rfl,rfl⟩|⟨rfl,rfl⟩|⟨rfl,rfl⟩|⟨rfl,rfl⟩|⟨rfl,rfl⟩|⟨rfl,rfl⟩|⟨rfl,rfl⟩
  ·exact⟨_,rfl,T.eG.exc,λb=>⟨λ_=>⟨by show 1<=bH;rw[bq];decide,fin⟩,λz=>absurd rfl z⟩⟩
  ·exact⟨_,rfl,T.mJ.exc,λb=>⟨λz=>absurd z dst.Um,λ_=>⟨λ_=>⟨by show 1<=bH;rw[bq];decide,fin⟩,λz=>absurd rfl z⟩⟩⟩
  ·exact⟨_,rfl,T.yu.exc,λb=>⟨λz=>absurd z dst.Uo,λ_=>⟨λz=>absurd z dst.Up,λ_=>⟨λ_=>⟨by show 1<=bH;rw[bq];decide,fin⟩,λz=>absurd rfl z⟩⟩⟩⟩
  ·exact⟨_,rfl,T.uX.exc,λb=>⟨λz=>absurd z dst.Uq,λ_=>⟨λz=>absurd z dst.Ur,λ_=>⟨λz=>absurd z dst.Us,λ_=>⟨λ_=>⟨by show 1<=bH;rw[bq];decide,fin⟩,λz=>absurd rfl z⟩⟩⟩⟩⟩
  ·exact⟨_,rfl,T.rY.exc,λb=>⟨λz=>absurd z dst.Ut,λ_=>⟨λz=>absurd z dst.Uu,λ_=>⟨λz=>absurd z dst.Uv,λ_=>⟨λz=>absurd z dst.Uw,λ_=>⟨λ_=>⟨by show 1<=bH;rw[bq];decide,fin⟩,λz=>absurd rfl z⟩⟩⟩⟩⟩⟩
  ·exact⟨_,rfl,T.uY.exc,λb=>⟨λz=>absurd z dst.Ux,λ_=>⟨λz=>absurd z dst.Uy,λ_=>⟨λz=>absurd z dst.Uz,λ_=>⟨λz=>absurd z dst.UA,λ_=>⟨λz=>absurd z dst.UB,λ_=>⟨λ_=>⟨by show 1<=bH;rw[bq];decide,fin⟩,λz=>absurd rfl z⟩⟩⟩⟩⟩⟩⟩
  ·exact⟨_,rfl,T.yw.exc,λb=>⟨λz=>absurd z dst.UC,λ_=>⟨λz=>absurd z dst.UD,λ_=>⟨λz=>absurd z dst.UE,λ_=>⟨λz=>absurd z dst.UG,λ_=>⟨λz=>absurd z dst.UH,λ_=>⟨λz=>absurd z dst.UI,λ_=>⟨λ_=>⟨by show 1<=bH;rw[bq];decide,fin⟩,λz=>absurd rfl z⟩⟩⟩⟩⟩⟩⟩⟩
  ·exact⟨_,rfl,T.oF.exc,λb=>⟨λz=>absurd z dst.UJ,λ_=>⟨λz=>absurd z dst.UK,λ_=>⟨λz=>absurd z dst.UL,λ_=>⟨λz=>absurd z dst.UM,λ_=>⟨λz=>absurd z dst.UN,λ_=>⟨λz=>absurd z dst.UO,λ_=>⟨λz=>absurd z dst.UP,λ_=>⟨λ_=>⟨by show 1<=bH;rw[bq];decide,fin⟩,λz=>absurd rfl z⟩⟩⟩⟩⟩⟩⟩⟩⟩
 ·refine⟨a,I,G,s,R,u,t,cl,k,F,M,rfl,dc,ck,ek,st,X,hH,hlen,⟨λn C y J g i j o=>⟨n,C,i,rfl,y,J,j,o⟩,λhy x g i ka U O j o W Y=>q x g i ka U O j o W Y⟩⟩
end
section
def only(H:Hp)(ca:ai):Hp:=λb=>if b=ca then H ca else none
theorem Xg (H)(ca):Le (only H ca) H:=λb o e=>by
 unfold only at e;simp_all
theorem Xh (H)(ca):af K H (only H ca) []:=⟨Xg H ca,(λx b=>by cases b),.nil⟩
theorem Xi (h:ax K H ca xs):∀G,Le (only H ca) G->ax K G ca xs:=λG l=>by
 have go:=λo e=>l ca o (by unfold only;rw[if_pos rfl];exact e);rcases h with(h|⟨o,h⟩)|h
 ·exact .inl (.inl (go _ h))
 ·exact .inl (.inr ⟨o,go _ h⟩)
 ·exact .inr h
theorem Xj (d:Dec u cl t)(g:uo cl):∃k,callOf cl=some k:=by
 cases d with
 |schema x t=>
  obtain⟨_,b,_⟩:=My.xC (show lp [(0,255,0,5000)] [x]=true from g);exact⟨_,if_pos b⟩
 |put x t=>
  obtain⟨_,b,_⟩:=My.xC (show lp [(0,255,0,5000)] [x]=true from g);exact⟨_,if_pos b⟩
 |_=>exact⟨_,rfl⟩
theorem Xk (d:Dec u cl t):∃w,u=w++t:=by
 cases d with
 |schema x t=>exact⟨0::(x.length:Int)::x,rfl⟩
 |put x t=>exact⟨1::(x.length:Int)::x,rfl⟩
 |rows t=>exact⟨[2],rfl⟩
 |BH n t=>exact⟨[3,n],rfl⟩
 |column n t=>exact⟨[4,n],rfl⟩
 |entries a b d t=>exact⟨[5,a,b,d],rfl⟩
 |check x y t=>exact⟨6::(x.length:Int)::(x++(y.length:Int)::y),by simp⟩
 |assemble x y t=>exact⟨7::(x.length:Int)::(x++(y.length:Int)::y),by simp⟩
 |load x t=>exact⟨8::(x.length:Int)::x,rfl⟩
 |add x t=>exact⟨9::(x.length:Int)::x,rfl⟩
 |drop n t=>exact⟨[10,n],rfl⟩
inductive Ng (H)(ca)(l)(y dy y2)(R:CR)(p)(mm)(σ:L2.St)(H'):Prop|mk (u) (cs) (s:zZ) (ka) (sv) (xs) (acc) (z) (F'):mm=u.length->nY u cs->((∀c∈cs,uo c))->acc++zF (zG v_ s cs)=zE l->Le (only H ca) F'->fj K c F' s sv xs->R.Ok K F' u->af K H' F' ((p,.lst (nums acc))::cZ c ⟨y,dy,ka⟩ sv xs [R.cell c u])->σ=[some (.ref ca),some (.ref y),some (.ref y2),some (.ref p),z]->Ng H ca l y dy y2 R p mm σ H'
theorem Xl (dst:u9 c)(F_:mD K "answers" "answers" ym f fd)(T:Tx K mg c):gz P w K mg base (dg P w) (37) f fd ["calls"] (pS K):=by
 refine F_.yk JF (λvs H Q E h=>?_) λbu A outer s H vs Q E hr h=>?_
 ·obtain⟨_,_,rfl,_⟩:=h;rfl
 ·obtain⟨ca,l,rfl,hS,hask,q⟩:=h;have nd:=JF.nd;refine⟨_,(ah (aN 1 (Jw (WI T))) (ah (aN 2 (pk (Xa T) (ae (pv 0) ag))) (ah (aN 3 (bO ag)) (ah (mx d_ (c_ (bJ (Xb T) T.el.1 (pv 2))) (ah (aN 4 (pf (Xf dst T) (ae (pv 1) (ae (pv 2) ag)))) (ah (ba (d9 eU gv gw f6 (pv 3) (ae (cM cE (by rfl) T.cst.len cT (ae (pv 4) ag)) ag))) (ak (ba (d9 eU wu wx rK (pv 3) (ae (pv 4) ag))))))) (ak (aC (pv 3))))))),?_⟩;obtain⟨cs0,j,_,F,ean,htot⟩:=My.QY hask;have h0:=Xh H ca;refine λy b ny ndy ney=>⟨y,b,only H ca,[],rfl,h0.make ny ndy ney T.bW.1,λH1 ka h1=>⟨rfl,?_⟩⟩;refine(λi I ny2 ndy2 ney2=>⟨i,I,ca,only H ca,_,rfl,h1.make ny2 ndy2 ney2 T.el.1,λH2 h2=>⟨rfl,?_⟩⟩);let R:CR:=⟨i,I,ca,l⟩
  have h2:af K H2 (only H ca) (R.cell c l::cZ c ⟨y,b,ka⟩ .aB [] []):=by
   show af K H2 (only H ca) ((i,.ins c.el I (vN ca ((l.length-l.length:Nat):Int)))::_);rw[qu];exact h2
  refine⟨bR _,λp hp=>?_⟩;have h3:=(h2.perm (jT (l₁:=[(⟨y,b,ka⟩:DA).cell c .aB,(ka,.lst [])])).symm).cP (xs:=[]) hp
  refine⟨Ng H ca l y b i R p,
   ⟨_,l,cs0,Vacolc.start,ka,.aB,[],[],none,only H ca,rfl,j,F,ean.symm,Le.refl _,⟨λ_=>⟨rfl,rfl,rfl⟩,(λfs z=>by cases z),bR _⟩,⟨Xi hS,[],rfl⟩,h3,rfl⟩,?_⟩
  rintro mm σ L ⟨u,J,s,ka,O,C,g,z,F',rfl,j,F,G,l',st,U,X,rfl⟩;have hR:=X.mG;refine⟨i,I,_,rfl,hR.at,rfl,R,u,F',_,rfl,U,hR,?_⟩;cases j with
  |nil=>
   refine(q L p ?_);rw[<-G];show L p=some (.lst (nums (g++[])));rw[eZ];exact X.at
  | @cons u t cl J o j=>
   have hu:(!u.isEmpty)=true:=by
    have:=o.len;cases u with
    |nil=>exact absurd this (k_ _)
    |cons _ _=>rfl
   rw[hu];have hck1:=F cl aH;obtain⟨k,ek⟩:=Xj o hck1
   have estep:v_ s cl=((cv s k).1,iM (cv s k).2):=by
    unfold v_;rw[ek]
   have epl:zF (zG v_ s (cl::J))=(((iM (cv s k).2).length:Int)::iM (cv s k).2)++zF (zG v_ (cv s k).1 J):=by
    unfold zF;rw[zG,qi,estep]
   rw[epl]at G;have hlen:=congrArg f9 G;rw[aQ,aQ,bf]at hlen;have hcar:af K L F' (cZ c ⟨y,b,ka⟩ O C (R.cell c u::[(p,.lst (nums g))])):=X.perm (jT (l₁:=[(⟨y,b,ka⟩:DA).cell c O,(ka,.lst C),R.cell c u])).symm;refine⟨_,λσ' L z=>z,?_⟩;refine⟨⟨y,b,ka⟩,O,C,s,R,u,t,cl,k,F',_,rfl,o,hck1,ek,st,U,hcar,by lia,λx H4 F4 ka4 sv4 xs4 l4 h4 st4 r4=>?_⟩;obtain⟨Y,rfl,haa⟩:=r4.nums;have W:=h4.mG;refine⟨⟨rfl,_,ax.of W.at⟩,Y,_,rfl,.inl (ax.of (h4.le _ _ haa)),?_⟩;rw[lT];refine⟨p,_,_,rfl,rfl,W.at,by rw[lT,bq];lia,?_⟩;have h5:=W.eh (ys:=nums (g++[((iM (cv s k).2).length:Int)]));rw[Dv]at h5;refine⟨⟨rfl,_,ax.of h5.at⟩,p,Y,_,_,rfl,rfl,h5.at,h5.le _ _ haa,by rw[bq];simp only[lT,aQ,fE];lia,?_⟩;refine⟨t.length,o.len,t,J,(cv s k).1,ka4,sv4,xs4,g++(((iM (cv s k).2).length:Int)::iM (cv s k).2),some (.ref Y),F4,rfl,j,λc' hc'=>F c' (aR _ hc'),by rw[c9];exact G,l'.trans l4,st4,?_,?_,rfl⟩
   ·have ro4:=U.mono l4;obtain⟨v,ev⟩:=ro4.eK;obtain⟨M,ew⟩:∃M,u=M++t:=Xk o;exact⟨ro4.tx,v++M,by rw[ev,ew,c9]⟩
   ·have h6:=h5.eh (ys:=nums (g++(((iM (cv s k).2).length:Int)::iM (cv s k).2)))
    have e6:nums (g++(((iM (cv s k).2).length:Int)::iM (cv s k).2))=(nums g++[V.int ((iM (cv s k).2).length:Int)])++nums (iM (cv s k).2):=by
     rw[Dv,c9];rfl
    rw[e6]at h6⊢;exact h6
end
section
theorem Xm {K:c6->aW}(C:d.params.defaults=[])(J:∀(w) (h),YP w h->(K w.params).In h)
 (F:∀(w) (mg) (i) (h),YP w h->(K w.params).In h->h.Ns jP mg->mg d.name=some (.ref i)->
   ∃g:lX,(∀(s) (b),b.length=(["calls"]:List Str).length->wc s g ⟨b,[]⟩ ((["calls"]:List Str).zip b))/\∀base:bz,(K w.params).In base->base.Ns jP mg->gz lY.prog w (K w.params) mg base (dg lY.prog w) 37 i g ["calls"] (pS (K w.params))):
 Yq q loose XP YP lY d [] (λf j=>Nn f j):=by
 refine L2.SD (k:=37) (K:=K) (CX:=λw=>dg lY.prog w) (sp:=λw=>pS (K w.params)) Hd.h4 C rfl ⟨rfl,by decide,by decide⟩ J F (λw H L a P O G o=>?_) λw H s e M z=>?_
 ·cases o with
  |cons h1 h2=>
   cases h2;cases h1 with
   |lst u I=>
    have e:=L2.Jk a.1 _ I;subst e;exact⟨_,a.1,rfl,u,G,λT p hp=> .lst (L2.ax.of hp) (L2.Jj _)⟩
 ·obtain⟨_,_,_,_,_,_,_,_,y⟩:=z;exact y
end
end Prg
namespace Hd
open PySem PySem.W PySem.Calls PyProof.Rows L2 Prg
set_option tactic.hygienic true in
theorem Nh {b:Bool}{s:aV}{G:Prop}(h:nQ b s=true)(k:∀n bs k i d t sc g bi sa p,s= .ClassDef n bs k i d t sc g bi sa p->b=bs.isEmpty->G):G:=by
 cases s<;>first|exact k _ _ _ _ _ _ _ _ _ _ _ rfl (by rename_i bs _ _ _ _ _ _ _ _ _;cases b<;>cases bs<;>first|rfl|cases h)|(clear k;cases b<;>cases h)
theorem D6 {s:aV}{G:Prop}(h:g_ s=true)(k:∀n y b u o j sc i g p,s= .FunctionDef n y b u o j sc i g p->G):G:=by
 cases s<;>first|exact k _ _ _ _ _ _ _ _ _ _ rfl|(clear k;cases h)
theorem Ni {α:Type}{f g:aV->Z->α}:∀{l:List aV} {z:Z},tK f l z=tK g l z->∀{i:Nat} {s:aV},l[i]? =some s->f s (fin (l.take i) z)=g s (fin (l.take i) z)
 |[],_,_,_,_,e=>by cases e
 |s::l,z,h,0,_,e=>by cases e;exact(d4 h).1
 |s::l,z,h,i+1,t,e=>Ni (l:=l) (z:=nx s z) (d4 h).2 e
def qf (i:Nat):Z:=fin (B.take i) z0
theorem Xn:B=pw.main.body:=by kernel_rfl
theorem Xo:B.length=171:=by kernel_rfl
theorem Xp {i:Nat}(h:i<171):B[i]? =some (top i):=by
 rw[<-Xo]at h;unfold top;rw[show Nm.main.body=B from Xn.symm,List.getD_eq_getElem?_getD,eI h];rfl
theorem fact (w:bw){i:Nat}(h:lr i 171=true)(u o k j g b:ao):EX (Kf bo B w.params) [u,o,k,j,g,b] (top i) (qf i)=EY [u,o,k,j,g,b] (top i) (qf i):=Ni (O9 w u o k j g b) (Xp (qL h))
theorem Xq:∀{b:List ao},b.length<=6->[b.getD 0 .none,b.getD 1 .none,b.getD 2 .none,b.getD 3 .none,b.getD 4 .none,b.getD 5 .none].take b.length=b
 |[],_=>rfl
 |[_],_=>rfl
 |[_,_],_=>rfl
 |[_,_,_],_=>rfl
 |[_,_,_,_],_=>rfl
 |[_,_,_,_,_],_=>rfl
 |[_,_,_,_,_,_],_=>rfl
 |_::_::_::_::_::_::_::_,h=>by simp at h
structure Fa (K:Frag)(r:Option (Option ao))(q:Str)(s:aV)(f:ai)(fd:lX):Prop where
 at_:r=some (some (.ref f))
 fn:isFn K (.ref f)=true
 fu:mD K (cU s) q s f fd
 bi:∀us:List ao,us.length=(iN (jI s)).length->bindArgs fd ⟨us,[]⟩=pure ((iN (jI s)).zip us)
theorem Nj {K:Frag}{r:Option (Option ao)}{nm q:Str}{m:ao}{f:Nat}{i:qg}{b:List aV}{J I H G F:_}{sc:fD}{p:Pos}(h:∀C z y u o k,Ad K [C,z,y,u,o,k] r nm q m f i b sc=Ae [C,z,y,u,o,k] nm q m f i b sc):
 Fa K r q (.FunctionDef nm i b J I H sc G F p) f (Ac nm q m f i b sc):=by
 obtain⟨a,e⟩:=g9 (h .none .none .none .none .none .none);obtain⟨l,e⟩:=g9 e;obtain⟨c,_⟩:=g9 e;rw[dZ,dZ,dZ]at c;obtain⟨⟨⟨P,O⟩,M⟩,L⟩:=c;refine⟨a,M,Sj l P O,λg j=>?_⟩;have j:g.length=(iN i).length:=j;have e:=(g9 (g9 (g9 (h (g.getD 0 .none) (g.getD 1 .none) (g.getD 2 .none) (g.getD 3 .none) (g.getD 4 .none) (g.getD 5 .none))).2).2).2;rw[<-j,Xq (by rw[j];exact qL L)]at e;exact e
section
variable {w:bw}{h:bz}{mg:Str->Option ao}(X:(Kf bo B w.params).In h)(G:h.Ns jP mg)
include X G
theorem Nk (i:Nat)(b:(lr i 171&&g_ (top i))=true):∃f H,Fa (Kf bo B w.params) (nsIn (Kf bo B w.params) 3 (cU (top i))) (cU (top i)) (top i) f H/\mg (cU (top i))=some (.ref f):=by
 rw[dZ]at b;have F:=fact w b.1;have b:=b.2;generalize top i=s at*;generalize qf i=z at*;obtain⟨a,t,m,k⟩:=z;refine D6 b λ_ _ _ _ _ _ _ _ _ _ z=>?_;subst z;exact⟨_,_,Nj λC y u o j g=>(d4 (g9 (F C y u o j g)).1).1,mg_of X G (g9 (d4 (g9 (F .none .none .none .none .none .none)).1).1).1⟩
theorem Xr (i:Nat)(b:(lr i 171&&g_ (top i))=true:=by decide+kernel):yl (Kf bo B w.params) mg (cU (top i)) (top i) (iN (jI (top i))):=by
 obtain⟨f,g,F,e⟩:=Nk X G i b;exact⟨f,g,F.fu,e,.all F.bi⟩
end
theorem D7 {K:Frag}{c:Str}{C:Nat}{m:ao}:∀{l:List aV} {a:Nat},(∀u o k i g b,wA K [u,o,k,i,g,b] c C m a l=wB [u,o,k,i,g,b] c C m a l)->∀j,((l.take j).all g_&&g_ (l.getD j (.Pass ⟨0,0,0,0⟩)))=true->
 ∃f y,Fa K (vQ K (.ref C) (cU (l.getD j (.Pass ⟨0,0,0,0⟩)))) (dot c (cU (l.getD j (.Pass ⟨0,0,0,0⟩)))) (l.getD j (.Pass ⟨0,0,0,0⟩)) f y
 |[],_,_,j,h=>by cases j<;>cases h
 |s::l,a,H,0,h=>by
  have h:g_ s=true:=h;show∃f y,Fa K (vQ K (.ref C) (cU s)) (dot c (cU s)) s f y;refine D6 h λ_ _ _ _ _ _ _ _ _ _ z=>?_;subst z;exact⟨_,_,Nj λu o k i g b=>(d4 (H u o k i g b)).1⟩
 |s::l,a,H,j+1,h=>by
  have h:(g_ s&&(l.take j).all g_&&g_ (l.getD j (.Pass ⟨0,0,0,0⟩)))=true:=h;rw[YY,dZ]at h;obtain⟨h1,h2⟩:=h;refine D6 h1 λ_ _ _ _ _ _ _ _ _ _ z=>?_;subst z;exact D7 (l:=l) (λu o k i g b=>(d4 (H u o k i g b)).2) j h2
def dh (i:Nat):ai:=(qf i).1+9+gb (kI (top i))
theorem map_none {α β:Type}{f:α->Option (Option β)}:∀{l:List α},l.map f=l.map (λ_=>some none)->∀x∈l,f x=some none
 |_::_,h,_,.head _=>(d4 h).1
 |_::_,h,x,.tail _ b=>map_none (d4 h).2 x b
section
variable {w:bw}{h:bz}{mg:Str->Option ao}(X:(Kf bo B w.params).In h)(G:h.Ns jP mg)
include X G
theorem D8 (i:Nat)(g:(lr i 171&&nQ true (top i))=true):mg (cU (top i))=some (.ref (dh i))/\gy (Kf bo B w.params) (dh i)/\(∀f∈EZ (top i),jH (Kf bo B w.params) (dh i) f)/\makesIn (Kf bo B w.params) (dh i)=true/\keepIn (Kf bo B w.params) (.ref (dh i))=true/\
 ∃m a,∀H C y u o j,wA (Kf bo B w.params) [H,C,y,u,o,j] (cU (top i)) (dh i) m a (kI (top i))=wB [H,C,y,u,o,j] (cU (top i)) (dh i) m a (kI (top i)):=by
 rw[dZ]at g;have F:=fact w g.1;have g:=g.2;unfold dh;generalize top i=s at*;generalize qf i=z at*;obtain⟨a,t,m,k⟩:=z;refine Nh g λnm bs _ b _ _ _ _ _ sa _ z q=>?_;subst z;cases bs with
 |cons _ _=>cases q
 |nil=>
  obtain⟨_,e⟩:=g9 (F .none .none .none .none .none .none);obtain⟨e,c⟩:=g9 e;have c:=(g9 c).1;obtain⟨J,e⟩:=d4 e;obtain⟨I,e⟩:=d4 e;rw[dZ,dZ,dZ,dZ]at c;obtain⟨⟨⟨⟨T,P⟩,O⟩,M⟩,L⟩:=c;exact⟨mg_of X G J,⟨T,P,O,I⟩,map_none e,M,L,m,_,λH C y u o j=>(g9 (F H C y u o j)).1⟩
theorem jO (i:Nat)(ns:List Str)(g:(lr i 171&&nQ true (top i))=true:=by decide+kernel)(b:ns.all (λx=>(EZ (top i)).contains x)=true:=by decide+kernel):Cl (Kf bo B w.params) (dh i) ns:=by
 obtain⟨_,c,n,_⟩:=D8 X G i g;exact⟨c,λf j=>n f (zt.mp (fR.mp b f j))⟩
theorem Xs (i j:Nat)(g:(lr i 171&&nQ true (top i))=true:=by decide+kernel)(b:(((kI (top i)).take j).all g_&&g_ ((kI (top i)).getD j (.Pass ⟨0,0,0,0⟩)))=true:=by decide+kernel):
 mF (Kf bo B w.params) (dh i) (cU (inClass (top i) j)) (dot (cU (top i)) (cU (inClass (top i) j))) (inClass (top i) j) (iN (jI (inClass (top i) j))):=by
 obtain⟨_,_,_,_,_,m,a,H⟩:=D8 X G i g;obtain⟨f,k,F⟩:=D7 H j b;rw[show inClass (top i) j=(kI (top i)).getD j (.Pass ⟨0,0,0,0⟩)from by cases top i<;>rfl];exact⟨f,k,F.fu,⟨F.at_,F.fn,F.fu.kp⟩,.all F.bi⟩
theorem Xu (i:Nat)(u:(lr i 171&&nQ true (top i))=true:=by decide+kernel)(b:(g_ (inClass (top i) 0)&&cU (inClass (top i) 0)==("__init__":Str))=true:=by decide+kernel):
 rP (Kf bo B w.params) mg (cU (top i)) (dh i) (dot (cU (top i)) (cU (inClass (top i) 0))) (inClass (top i) 0) (iN (jI (inClass (top i) 0))):=by
 obtain⟨g,_,_,k,l,m,a,H⟩:=D8 X G i u;rw[show inClass (top i) 0=(kI (top i)).getD 0 (.Pass ⟨0,0,0,0⟩)from by cases top i<;>rfl]at b⊢;rw[dZ]at b;obtain⟨f,y,F⟩:=D7 H 0 b.1;have e:=eq_of_beq b.2;have o:=F.fu;have j:=F.at_;rw[e]at o j;rw[e];exact⟨f,y,o,⟨k,j,F.fn,l⟩,g,.all F.bi⟩
theorem nE (i:Nat)(g:(lr i 171&&nQ false (top i))=true:=by decide+kernel):GX (Kf bo B w.params) mg (cU (top i)) (dh i):=by
 rw[dZ]at g;have F:=fact w g.1 .none .none .none .none .none .none;have g:=g.2;unfold dh;generalize top i=s at*;generalize qf i=z at*;obtain⟨a,t,m,k⟩:=z;refine Nh g λnm bs _ b _ _ _ _ _ sa _ z q=>?_;subst z;cases bs with
 |nil=>cases q
 |cons _ _=>
  obtain⟨e,c⟩:=g9 (g9 F).2;obtain⟨c,l⟩:=g9 c;exact⟨mg_of X G (d4 e).1,c,nm,nm,_,_,_,_,_,_,_,_,_,_,_,_,_,l⟩
def Xv:aV->Int
 | .Assign _ v _=>num v
 |_=>0
def isA:aV->Bool
 | .Assign [.Name _ _] (.Constant (.int _) _ _) _=>true
 | .Assign [.Name _ _] (.UnaryOp _ (.Constant (.int _) _ _) _) _=>true
 |_=>false
theorem be (i:Nat)(b:(lr i 171&&isA (top i))=true:=by decide+kernel):GI mg (cU (top i)) (Xv (top i)):=by
 rw[dZ]at b;have F:=fact w b.1 .none .none .none .none .none .none;have b:=b.2;generalize top i=s at*;generalize qf i=z at*;obtain⟨a,t,m,k⟩:=z;unfold isA at b;split at b
 ·exact⟨_,mg_of X G (d4 (g9 (g9 F).2).1).1⟩
 ·exact⟨_,mg_of X G (d4 (g9 (g9 F).2).1).1⟩
 ·cases b
end
def FX (o:c6->Obj)(l:List aV)(w:bw)(a:ai):List (Option (Option ao)):=[nsIn (Kf o l w.params) 3 "len",nsIn (Kf o l w.params) 3 "range",nsIn (Kf o l w.params) 3 "zip",nsIn (Kf o l w.params) 3 "enumerate",nsIn (Kf o l w.params) 3 "reversed",vQ (Kf o l w.params) (.ref a) "__eq__"]
def cc:Cs:=⟨dh 1,dh 16,dh 29,dh 30,dh 31,dh 32,dh 33,dh 34,dh 35,dh 36,dh 37,dh 40,dh 69,dh 97,dh 98,dh 114,dh 124,dh 125,dh 126,dh 139,dh 165,dh 166,dh 167⟩
theorem sL (w:bw):FX bo B w (dh 98)=[some none,some none,some none,some none,some none,some (some (.builtin "object.__eq__"))]:=by kernel_rfl
theorem Xw:∀i∈[1,16,40,69,97,98,114,124,125,126,139,165,166,167],oE cc i=dh i:=by
 repeat refine List.forall_mem_cons.mpr ⟨rfl,?_⟩
 exact λ_ h=>nomatch h
theorem cA (i j:Nat)(h:rX i j=true):oE cc i=dh i/\(lr i 171&&nQ true (top i))=true/\(((kI (top i)).take j).all g_&&g_ ((kI (top i)).getD j (.Pass ⟨0,0,0,0⟩)))=true:=by
 rw[rX,dZ,YY,dZ]at h;exact⟨Xw i (zt.mp h.1.1),h.1.2,h.2⟩
section
variable {w:bw}{h:bz}{mg:Str->Option ao}(X:(Kf bo B w.params).In h)(G:h.Ns jP mg)
include X G
theorem tx:Tx (Kf bo B w.params) mg cc:=⟨⟨be X G 7,be X G 8,be X G 9,be X G 10,be X G 11,be X G 12,be X G 13,be X G 14,be X G 15,be X G 21,be X G 22,be X G 23,be X G 24,be X G 25,be X G 26,be X G 27,be X G 28,be X G 39,be X G 42,be X G 43,be X G 44,be X G 45,be X G 46,be X G 47,be X G 48,be X G 49,be X G 50,be X G 51,be X G 52,be X G 53,be X G 54,be X G 55,be X G 56,be X G 57,be X G 58,be X G 59,be X G 60,be X G 61,be X G 62,be X G 63,be X G 64,be X G 84,be X G 108,be X G 109,be X G 110,be X G 111,be X G 112,be X G 113,be X G 122,be X G 123,be X G 131,be X G 132,be X G 133,be X G 134,be X G 135,be X G 136,be X G 137,be X G 138,be X G 153,be X G 154,be X G 155,be X G 156,be X G 157,be X G 158,be X G 159,be X G 160,be X G 161,be X G 162,be X G 163,be X G 164,z_ X G (d4 (sL w)).1,z_ X G (d4 (d4 (sL w)).2).1,z_ X G (d4 (d4 (d4 (sL w)).2).2).1,z_ X G (d4 (d4 (d4 (d4 (sL w)).2).2).2).1,z_ X G (d4 (d4 (d4 (d4 (d4 (sL w)).2).2).2).2).1⟩,jO X G 1 _,jO X G 16 _,nE X G 29,nE X G 30,nE X G 31,nE X G 32,nE X G 33,nE X G 34,nE X G 35,nE X G 36,nE X G 37,jO X G 40 _,jO X G 69 _,jO X G 97 _,jO X G 98 _,jO X G 114 _,jO X G 124 _,jO X G 125 _,jO X G 126 _,jO X G 139 _,jO X G 165 _,jO X G 166 _,jO X G 167 _,(d4 (d4 (d4 (d4 (d4 (d4 (sL w)).2).2).2).2).2).1,λi b=>Xr X G i b,λi j h=>(cA i j h).1▸Xs X G i j (cA i j h).2.1 (cA i j h).2.2,λi h=>by
 rw[dZ]at h;rw[(cA i 0 h.1).1];exact Xu X G i (cA i 0 h.1).2.1 (by rw[dZ];exact⟨by rw[show inClass (top i) 0=(kI (top i)).getD 0 (.Pass ⟨0,0,0,0⟩)from by cases top i<;>rfl];exact(cA i 0 h.1).2.2,h.2⟩)⟩
end
theorem dst:u9 cc:=by constructor<;>decide+kernel
theorem Xx {w:bw}{h:bz}{mg:Str->Option ao}{j:ai}(X:(Kf bo B w.params).In h)(G:h.Ns jP mg)(i:mg "answers"=some (.ref j)):
 ∃g:lX,(∀(s:aF) (b:List ao),b.length=(["calls"]:List Str).length->wc s g ⟨b,[]⟩ ((["calls"]:List Str).zip b))/\∀base:bz,(Kf bo B w.params).In base->base.Ns jP mg->gz u_ w (Kf bo B w.params) mg base (dg u_ w) 37 j g ["calls"] (pS (Kf bo B w.params)):=by
 obtain⟨f,g,F,e⟩:=Nk X G 170 (by decide+kernel);have e:mg "answers"=some (.ref f):=e;rw[e]at i;cases i;exact⟨g,λs b k=> .of_eq (F.bi b k),λbase _ _=>BJ (λT dst f g F=>Xl dst F T) ⟨w,mg,base,cc⟩ (tx X G) dst _ _ F.fu⟩
end Hd
theorem PySem.Challenge.cw_shredcolumns_s01_answers_holds : PySem.Challenge.rw_shredcolumns_s01_answers.Holds :=
 Hd.holds (Prg.Xm (K:=Hd.Kf Hd.bo Hd.B) (by kernel_rfl) (λ_ _ Y=>Y) λ_ _ _ _ Y _ G e=>Hd.Xx Y G e)
end
